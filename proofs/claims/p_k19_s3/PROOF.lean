import PyProof.Rows.All
import Wide.All
import OpenK.AllK
import Wide.FinOn
import HandS.ForMost
import HandS.Exc
import HandS.TryMany
import HandS.Walk
import KE.GoesMore
import PyProof.Draws
import HandS.ForExc
import HandS.ExcInit
import HandS.ExcField
import HandS.IsInst
import HandS.EndBits
import HandS.Style
import HandS.WordsExc
import HandS.SortKw
import KE.DataMinMax
import HandS.ExcValue
import HandS.ExcIs
import HandS.MakeKw
import KE.KExcMore
import KE.KExcIs
import PyProof.ReprRoads
import HandS.ExcBuiltin
import HandS.Conv
import PySem.Challenge.RW_nestfile_k19_elements_that_are_no_bytes
set_option Elab.async false
set_option linter.all false
set_option maxRecDepth 100000
set_option maxHeartbeats 2000000
/-! try with several clauses, each with a name or without. -/
namespace QT
open PySem PySem.Spec PyProof.Rows L2
/-- a suite whose clause keeps the exception under slot i -/
def tsAs (i : Nat) (ts : Addr → Value → Option Addr → TS) : Addr → Value → Option Addr → TS := fun a cls d D σ H =>
  ts a cls d { nx := fun σq Hq => D.nx (σq.set i none) Hq, rt := D.rt, bk := fun σq Hq => D.bk (σq.set i none) Hq, ct := fun σq Hq => D.ct (σq.set i none) Hq } (σ.set i (some (.ref a))) H
inductive Clauses (X : Cx) : List ExceptHandler → List (Value × (Addr → Value → Option Addr → TS)) → Prop
  | done : Clauses X [] []
  | bare {x : Str} {c : Value} {ts : Addr → Value → Option Addr → TS} {b : Stmt} {bs : List Stmt} {p q : Pos} {hs : List ExceptHandler} {l : List (Value × (Addr → Value → Option Addr → TS))} (names : Names X x c)
      (su : ∀ (a : Addr) (oe : Obj) (cls : Value) (d : Option Addr) (pn : List (Addr × Obj)), Zc cls d oe → (∃ vs, oe.data = .fields vs) → PSs (X.suite a ((a, oe) :: pn)) (b :: bs) (ts a cls d)) (rest : Clauses X hs l) :
      Clauses X (.ExceptHandler (some (.Name x p)) none (b :: bs) q :: hs) ((c, ts) :: l)
  | named {x n : Str} {i : Nat} {c : Value} {ts : Addr → Value → Option Addr → TS} {b : Stmt} {bs : List Stmt} {p q : Pos} {hs : List ExceptHandler} {l : List (Value × (Addr → Value → Option Addr → TS))} (names : Names X x c)
      (hN : X.N.Nodup) (hi : X.N[i]? = some n) (hl : X.env.kindOf n = some .local)
      (su : ∀ (a : Addr) (oe : Obj) (cls : Value) (d : Option Addr) (pn : List (Addr × Obj)), Zc cls d oe → (∃ vs, oe.data = .fields vs) → PSs (X.suite a ((a, oe) :: pn)) (b :: bs) (ts a cls d)) (rest : Clauses X hs l) :
      Clauses X (.ExceptHandler (some (.Name x p)) (some n) (b :: bs) q :: hs) ((c, tsAs i ts) :: l)
section
variable {X : Cx} {body : List Stmt} {h0 : ExceptHandler} {hs : List ExceptHandler} {l : List (Value × (Addr → Value → Option Addr → TS))} {pos : Pos} {tb : WX → TS} {Wout : WX}
theorem ps_tryN (st : X.stack = X.env :: X.outer) (hf : X.env.frame = some X.env.locals) (tk : Takes X Wout)
    (hb : ∀ (W : WX) (pn : List (Addr × Obj)) (xe : Value → Shared → Prop), Takes (X.tr pn xe) W → PassesOwn (model X.prog X.w) X.A X.env xe → PSs (X.tr pn xe) body (tb W))
    (cl : Clauses X (h0 :: hs) l) : PS X (.Try body (h0 :: hs) [] [] pos) (fun D σ H => tb (wMany X.K Wout D l) D σ H) := by
  refine ⟨fun pins s σ H D I0 reading => ?_⟩
  have hok := I0.ok
  have frames : X.A.frames = some (X.env :: X.outer) := by rw [hok.frames, st]
  refine wpAny_Try_except ?_
  refine wpAny_mono ((hb (wMany X.K Wout D l) (X.pn ++ pins) (fun e s₁ => wpAny (model X.prog X.w) X.A (noteFrame e X.env) (fun _ s₂ => wpAny (model X.prog X.w) X.A (setFlight e none) (fun _ s₃ =>
    wpAny (model X.prog X.w) X.A (handleBy e X.env (h0 :: hs)) (SP X pins D) X.xe s₃) X.xe s₂) X.xe s₁) (fun u t caught => ?_) PassesOwn.looking).run [] s σ H D (I0.toTry _) reading) (fun f s1 through => ?_) (fun e s1 he => he)
  · obtain ⟨a, B, sI, pinsQ, σq, Hq, cls, d, rfl, I1, fresh, grown, sky, na, hos, agree, wish⟩ := caught
    have I2 : Inv X pins σq Hq sI := I1.ofTry hok
    have sky2 : Sky B (X.env :: X.outer) a (Zc cls d) X.env.locals t.heap := by rw [← st]; exact sky
    show wpAny (model X.prog X.w) X.A (noteFrame (.ref a) X.env) _ _ _
    refine Sky.land Zc.steady frames hf sky2 fun g3 flight grown3 => ?_
    have I3 : Inv X pins σq Hq { t with heap := g3 } := I2.landed fresh flight.1 (grown.trans grown3) hos agree
    obtain ⟨o3, fs3, at3, zc3, data3⟩ := flight.there
    have off : ∀ {h : Heap} {o : Obj} {vs : Array Value}, h.FunFrames B (X.env :: X.outer) → h.get? a = some o → o.data = .fields vs → a ∉ frs (X.env :: X.outer) := fun {h o vs} ff at_ dd mem => by
      obtain ⟨_, oo, at', nf⟩ := ff.mem mem
      rw [at_] at at'
      cases at'
      exact nf _ dd
    have offA := off flight.2.2.1 at3 data3
    have offL : a ≠ X.env.locals := fun z => offA (List.mem_filterMap.mpr ⟨X.env, List.mem_cons_self, by rw [hf, z]⟩)
    have offF : a ∉ X.fs := fun mem => by
      obtain ⟨en, hen, q⟩ := List.mem_filterMap.mp mem
      exact offA (List.mem_filterMap.mpr ⟨en, List.mem_cons_of_mem _ hen, q⟩)
    have IS := I3.suite at3 data3 na offL offF
    have tested : ∀ {x : Str} {c : Value} {np : Pos} {Q : Value → Shared → Prop} {E : Value → Shared → Prop}, Names X x c → Q c { t with heap := g3 } → wpAny (model X.prog X.w) (X.A.mark (some (.ref a))) (eval (.Name x np) X.env) Q E { t with heap := g3 } := fun {x c np Q E} nm q => by
      obtain ⟨hg, hdbg, hm | ⟨hm, hv, hnn⟩⟩ := nm
      · exact ld_glob (X := X.suite a ((a, o3) :: (X.pn ++ pins))) IS hg hm q hdbg
      · exact ld_blt (X := X.suite a ((a, o3) :: (X.pn ++ pins))) IS hg hm hv q hnn hdbg
    have typed : PySem.W.Looks (model X.prog X.w) g3 (typeOf (.ref a)) cls := fun A Q E s k q => wpAny_typeOf_ref (k _ _ at3) (by rw [zc3.1]; exact q)
    have walk : ∀ {hs' : List ExceptHandler} {l' : List (Value × (Addr → Value → Option Addr → TS))}, Clauses X hs' l' → wMany X.K Wout D l' cls d σq Hq →
        wpAny (model X.prog X.w) X.A (handleBy (.ref a) X.env hs') (SP X pins D) X.xe { t with heap := g3 } := by
      intro hs' l' hk
      induction hk with
      | done =>
        intro w
        refine wpAny_handleBy_nil ?_
        obtain ⟨_, _, _, oe, vs, T, oT, ts', he, hz, hd, h1, hr⟩ := id flight
        unfold PySem.passOn
        refine wpAny_bind (wpAny_field he hd h1 ?_)
        rw [if_neg (show ¬ ((Value.ref T == Value.none) = true) from by simp)]
        have onward : wpAny (model X.prog X.w) X.A (setFlight (.ref a) X.env.frame) (fun _ s4 => wpAny (model X.prog X.w) X.A (throw (.ref a) : Sem Flow) (SP X pins D) X.xe s4) X.xe { t with heap := g3 } := by
          rw [hf]
          refine HandSPX.setFlight_upZ flight fun g4 hg4 grown4 => wpAny_throw (tk _ _ ?_)
          exact ⟨a, B, sI, pins, σq, Hq, cls, d, rfl, I2, fresh, (grown.trans grown3).trans grown4, .inr (.inr (by rw [st]; exact hg4)), na, hos, agree, w⟩
        first
          | exact wpAny_bind (wpAny_pure (wpAny_bind onward))
          | exact wpAny_bind onward
      | @bare x c ts b bs p q hs2 l2 names su rest ih =>
        intro w
        obtain ⟨hit, hx, yes, no⟩ := w
        refine wpAny_handleBy_cons (codeAny_handlers_test ?_) (by intro z; cases z)
        refine tested names ((PySem.W.exm_one (M := model X.prog X.w) (I3.kIn) typed hx).here ?_)
        cases hit with
        | true =>
          refine codeAny_handlers_suite ?_
          refine HandSPX.lands_againZ flight fun g4 flight4 grown4 => ?_
          have I4 : Inv X pins σq Hq { t with heap := g4 } := I2.landed fresh flight4.1 ((grown.trans grown3).trans grown4) hos agree
          obtain ⟨o4, fs4, at4, zc4, data4⟩ := flight4.there
          refine wpAny_mono ((su a o4 cls d (X.pn ++ pins) zc4 ⟨_, data4⟩).run [] _ _ Hq _ (I4.suite at4 data4 na offL offF) (yes rfl a na)) (fun f s6 hsp => ?_) (fun _ _ z => False.elim z)
          cases f with
          | ret u =>
            obtain ⟨v6, σ6, H6, S6, r6, q6⟩ := hsp
            exact ⟨_, _, _, S6.unsuite hok, r6, q6⟩
          | next | brk | cont =>
            obtain ⟨σ6, H6, S6, q6⟩ := hsp
            exact ⟨_, _, S6.unsuite hok, q6⟩
        | false =>
          show wpAny _ X.A (handleBy (.ref a) X.env hs2) _ _ _
          exact ih (no rfl)
      | @named x n i c ts b bs p q hs2 l2 names hN hi hl su rest ih =>
        intro w
        obtain ⟨hit, hx, yes, no⟩ := w
        refine wpAny_handleBy_cons (codeAny_handlers_test ?_) (by intro z; cases z)
        refine tested names ((PySem.W.exm_one (M := model X.prog X.w) (I3.kIn) typed hx).here ?_)
        cases hit with
        | true =>
          refine codeAny_handlers_suite_as ?_
          refine HandSPX.lands_againZ flight fun g4 flight4 grown4 => ?_
          have I4 : Inv X pins σq Hq { t with heap := g4 } := I2.landed fresh flight4.1 ((grown.trans grown3).trans grown4) hos agree
          obtain ⟨o4, fs4, at4, zc4, data4⟩ := flight4.there
          refine store_ok (X := X.suite a ((a, o4) :: (X.pn ++ pins))) (v := .ref a) (I4.suite at4 data4 na offL offF) hN hi (.inl hl) rfl (fun s5 S5 => ?_) (.inr hl)
          refine wpAny_mono ((su a o4 cls d (X.pn ++ pins) zc4 ⟨_, data4⟩).run [] s5 _ Hq _ S5 (yes rfl a na)) (fun f s6 hsp => ?_) (fun _ _ z => False.elim z)
          have gone : ∀ {σ6 : L2.St} {H6 : Hp} {R : Shared → Prop}, Inv (X.suite a ((a, o4) :: (X.pn ++ pins))) [] σ6 H6 s6 → (∀ s7, Inv X pins (σ6.set i none) H6 s7 → R s7) →
              wpAny (model X.prog X.w) X.A (do bindName X.env n .none; unbindBehindTheSuite X.env n q) (fun _ s7 => R s7) X.xe s6 := fun {σ6 H6 R} S6 hq => gone_ok (S6.unsuite hok) hN hi hl hq
          cases f with
          | ret u =>
            obtain ⟨v6, σ6, H6, S6, r6, q6⟩ := hsp
            exact gone S6 fun s7 J7 => ⟨_, _, _, J7, r6, q6⟩
          | next | brk | cont =>
            obtain ⟨σ6, H6, S6, q6⟩ := hsp
            exact gone S6 fun s7 J7 => ⟨_, _, J7, q6⟩
        | false =>
          show wpAny _ X.A (handleBy (.ref a) X.env hs2) _ _ _
          exact ih (no rfl)
    exact walk cl wish
  · cases f with
    | ret u =>
      obtain ⟨v, σq, Hq, I1, r, q⟩ := through
      exact ⟨v, σq, Hq, I1.ofTry hok, r, q⟩
    | next =>
      obtain ⟨σq, Hq, I1, q⟩ := through
      exact wpAny_execs_nil ⟨σq, Hq, I1.ofTry hok, q⟩
    | brk | cont =>
      obtain ⟨σq, Hq, I1, q⟩ := through
      exact ⟨σq, Hq, I1.ofTry hok, q⟩
end
end QT

/-! list + list where either may be the script. -/
namespace QT
open PySem PySem.Spec PySem.P PyProof PyProof.Rows L2
theorem meets_cat (l b : Addr) (xs ys : Array Value) (n m : Nat) (sl sb : Array (Option Value)) (hc : xs.size + ys.size ≤ sizeLine) :
    Meets (Builtin.«list.__add__» ⟨[.ref l, .ref b], []⟩) (fun _ R s => s.heap.get? l = some (⟨.type "list", none, .seq xs n, sl⟩ : Obj) ∧ s.heap.get? b = some (⟨.type "list", none, .seq ys m, sb⟩ : Obj) ∧
      R (.ok (.ret (Value.ref s.heap.objs.size))) { s with heap := s.heap.push { cls := Value.type "list", data := Data.seq (xs ++ ys) } }) :=
  .of_wp fun prog w A R s h => by
    obtain ⟨hp, g, d, tk, os⟩ := s
    obtain ⟨hl, hb, h⟩ := h
    have g1 := PySem.AutoSeq1.idx_int
    have g2 := PySem.AutoSeq1.sub_tuple_tuple
    have g3 := PySem.AutoSeq1.sub_list_list
    have g4 := PySem.AutoSeq1.sub_tuple_list
    have g5 := PySem.AutoSeq1.sub_list_tuple
    wp_walk using PySem.AutoSeq1.wpAny_loadPart' hl, PySem.AutoSeq1.wpAny_loadPart' hb
    exact ⟨_, rfl, h⟩

/-- what an Inv says of a list that may be read -/
theorem list_at {X : Cx} {pins : List (Addr × Obj)} {σ : L2.St} {H : Hp} {s : Shared} {a : Addr} {xs : List V} (I : Inv X pins σ H s) (h : SqL X.K H a xs) :
    ∃ (its : List Value) (n : Nat) (sl : Array (Option Value)), Vals xs its ∧ s.heap.get? a = some (⟨.type "list", none, .seq its.toArray n, sl⟩ : Obj) := by
  obtain ⟨its, r, ⟨o, n, e, hc, hd, hs⟩, _⟩ := I.list h
  obtain ⟨c, d, dt, sl⟩ := o
  cases hc
  cases hd
  cases hs
  exact ⟨its, n, sl, r, e⟩
def rCatS (K : PySem.W.Frag) : R2 := fun x y H Q => ∃ a b xs ys, x = .ref a ∧ y = .ref b ∧ SqL K H a xs ∧ SqL K H b ys ∧ xs.length + ys.length ≤ sizeLine ∧
  ∀ p, H p = none → Q (.ref p) (upd H p (.lst (xs ++ ys)))
theorem op_catS {X : Cx} : OpR X (binaryOp .Add) (rCatS X.K) := by
  intro pins s σ H x y v u Q I rx ry h
  obtain ⟨a, b, xs, ys, rfl, rfl, ha, hb, hz, q⟩ := h
  cases rx
  cases ry
  obtain ⟨is, n, sl, ra, ea⟩ := list_at I ha
  obtain ⟨js, m, sb, rb, eb⟩ := list_at I hb
  have la := Paired.length ra
  have lb := Paired.length rb
  refine concat_meets ⟨_, ea, rfl⟩ ⟨_, eb, rfl⟩ noFill_list_add seq_list_add F.slot_list_add F.entry_list_add (F.args_list_add_2 _ _) (meets_cat a b is.toArray js.toArray n m sl sb (by rw [List.size_toArray, List.size_toArray]; omega)) ⟨ea, eb, ?_⟩
  have e2 : is.toArray ++ js.toArray = (is ++ js).toArray := by simp
  rw [e2]
  exact ⟨.ref _, _, I.lnew (t' := s.toks) (ra.append rb) (by rw [List.length_append]; omega), rfl, q _ I.fresh⟩
end QT

set_option maxHeartbeats 4000000
/-! for a, b in enumerate(t), t a tuple; and of either kind. -/
namespace QT
open PySem PySem.Spec PyProof.Rows L2
/-- enumerate's own making over a tuple -/
theorem meets_enumT (l : Addr) (items : Array Value) :
    Meets (Builtin.«enumerate.__new__» ⟨[.type "enumerate", .ref l], []⟩) (fun _ R s => s.heap.IsTuple l items ∧
      R (.ok (.ret (.ref (s.heap.push { cls := .type "tuple_iterator", data := .fields #[.ref l, .int 0 0] }).objs.size)))
        { s with heap := (s.heap.push { cls := .type "tuple_iterator", data := .fields #[.ref l, .int 0 0] }).push { cls := .type "enumerate", data := .fields #[.none, .bool false, .ref s.heap.objs.size, rawInt 0, .none, .none] } }) :=
  .of_wp fun prog w A R s h => by
    obtain ⟨hp, g, d, tk, os⟩ := s
    obtain ⟨hl, h⟩ := h
    have kind := sub_enumerate
    wp_walk
    refine wpAny_stack_any fun st => wpAny_pure ?_
    split
    · rename_i c _ _ _ _ _
      cases (c == Value.type "enumerate")
      · wp_walk using wpAny_pyIter_tuple hl
        exact ⟨_, rfl, h⟩
      · wp_walk using wpAny_pyIter_tuple hl
        exact ⟨_, rfl, h⟩
    · wp_walk using wpAny_pyIter_tuple hl
      exact ⟨_, rfl, h⟩
section
variable {prog : Program} {w : World} {A : Around} {E : Value → Shared → Prop} {s : Shared}
theorem call_enumT {l : Addr} {items : Array Value} {Q : Value → Shared → Prop} (hL : s.heap.IsTuple l items)
    (h : ∀ g, IsEnum g (s.heap.objs.size + 1) s.heap.objs.size 0 .none → g.IsTupleIter s.heap.objs.size l 0 → g.objs.size = s.heap.objs.size + 2 →
      (∀ b o, s.heap.get? b = some o → g.get? b = some o) → Q (.ref (s.heap.objs.size + 1)) { s with heap := g }) :
    wpAny (model prog w) A (call (.type "enumerate") [.ref l]) Q E s := by
  refine callType_new F.called_enumerate (by decide) (F.typeCall_enumerate_1 _) (F.newCall_enumerate_1 _) (fun obj => F.args_object_init_2 obj _) F.entry_enumerate_new (meets_enumT l items) ⟨hL, ?_⟩
  have big : (s.heap.push { cls := .type "tuple_iterator", data := .fields #[.ref l, .int 0 0] }).objs.size = s.heap.objs.size + 1 := Heap.size_push ..
  show _ ∧ _
  rw [big]
  have made : IsEnum ((s.heap.push { cls := .type "tuple_iterator", data := .fields #[.ref l, .int 0 0] }).push
      { cls := .type "enumerate", data := .fields #[.none, .bool false, .ref s.heap.objs.size, rawInt 0, .none, .none] }) (s.heap.objs.size + 1) s.heap.objs.size 0 .none := by
    have there := Heap.get?_push_size (s.heap.push { cls := .type "tuple_iterator", data := .fields #[.ref l, .int 0 0] })
      (o := { cls := .type "enumerate", data := .fields #[.none, .bool false, .ref s.heap.objs.size, rawInt 0, .none, .none] }) rfl
    rw [big] at there
    exact there
  exact ⟨⟨_, made, rfl⟩, h _ made ⟨_, Heap.get?_push_of_some _ (Heap.get?_push_size _ rfl), rfl, rfl⟩ (by rw [Heap.size_push, big]) fun b o x => Heap.get?_push_of_some _ (Heap.get?_push_of_some _ x)⟩
end
/-- the tuple at a as it stands, each item in a new pair -/
def IteT (K : PySem.W.Frag) (a : Addr) : It :=
  ⟨fun i H => ∃ (xs : List V) (x : V), SqT K H a xs ∧ xs[i]? = some x, fun i H v Hn => ∃ T x, v = .ref T ∧ H T = none ∧ Hn = upd H T (.tup [.int (i : Nat), x]) ∧ ∀ xs, SqT K H a xs → xs[i]? = some x, fun i H => ∃ xs : List V, SqT K H a xs ∧ xs.length ≤ i⟩
theorem isTuple_of {h : Heap} {a : Addr} {its : Array Value} (p : IsTup h a its) : h.IsTuple a its := p
theorem turn_enumT {P : Program} {w : World} {K : PySem.W.Frag} {elts : List Expr} {kk : Nat} {tpos : Pos} (a e it : Addr) :
    Turn P w K (.Tuple elts kk tpos) (IteT K a) [e, it] e (fun i h => (∃ old, IsEnum h e it ((i : Nat) : Int) old) ∧ h.IsTupleIter it a i ∧ e ≠ it) where
  mem := by simp
  obj := fun i h st b hb => by
    obtain ⟨⟨old, he⟩, ⟨o, ho, hc, hd⟩, _⟩ := st
    rcases (show b = e ∨ b = it by simpa using hb) with z | z
    · rw [z]
      exact ⟨_, he, fun v q => nomatch q⟩
    · rw [z]
      exact ⟨o, ho, fun v q => by rw [hd] at q; cases q⟩
  keep := fun i h h' st k => let ⟨⟨old, he⟩, ⟨o, ho, r⟩, hne⟩ := st; ⟨⟨old, k e (by simp) _ he⟩, ⟨o, k it (by simp) _ ho, r⟩, hne⟩
  item := by
    intro X hP hw hK hc i pins s σ H E I hf st hg
    subst hP hw hK
    obtain ⟨⟨old, he⟩, hit, hne⟩ := st
    obtain ⟨xs, x, hq, hx⟩ := hg
    obtain ⟨its, rv, p, hz⟩ := I.tuple hq
    obtain ⟨u, hu, ru⟩ := rv.get hx
    have sizeE : e < s.heap.objs.size := Heap.lt_size he
    have sizeI : it < s.heap.objs.size := by
      obtain ⟨_, q, _⟩ := hit
      exact Heap.lt_size q
    have T0 : s.heap.IsTuple a its.toArray := isTuple_of p
    have nat : a ≠ it := fun z => by
      obtain ⟨o1, e1, c1, _⟩ := hit
      obtain ⟨o2, e2, c2, _⟩ := T0
      rw [z, e1] at e2
      cases e2
      rw [c1] at c2
      exact absurd (Value.type.inj c2) (by decide)
    have nae : e ∉ [it, a] := by
      intro z
      rcases (show e = it ∨ e = a by simpa using z) with z | z
      · exact hne z
      · obtain ⟨o2, e2, c2, _⟩ := T0
        rw [← z, he] at e2
        cases e2
        exact absurd (Value.type.inj c2) (by decide)
    have lt : i < its.toArray.size := by
      have z := (List.getElem?_eq_some_iff.mp hu).1
      simpa using z
    refine wpAny_pyNext_enum_itemD (Draws.tuple (A := X.A.in1) (I.ok.hd hc) it a nat its.toArray) he ⟨hit, T0⟩ lt hne nae fun y g tk hy out st1 hT hsz hk => ?_
    have ey : y = u := by
      have z : its[i]? = some y := by simpa using hy
      rw [hu] at z
      exact (Option.some.inj z).symm
    subst ey
    refine ⟨_, rfl, wpAny_letOwnedTupleGo_enum (s := { s with heap := g, toks := tk + 1 }) out fun g2 he2 sb => ?_⟩
    have hT2 : g2.get? s.heap.objs.size = some { cls := .type "tuple", data := .seq #[.int i tk, y] } := (sb.2 _ (Nat.ne_of_gt sizeE)).trans hT
    have new : ObjOk X.prog X.w (upd H s.heap.objs.size (.tup [.int (i : Nat), x])) g2 s.heap.objs.size (.tup [.int (i : Nat), x]) :=
      ⟨by show 2 ≤ sizeLine; decide, [.int i tk, y], .cons ⟨_, rfl⟩ (.cons ru .nil), ⟨_, hT2, rfl, _, rfl⟩⟩
    have kept : ∀ b ob, b ∉ [e, it] → s.heap.get? b = some ob → g2.get? b = some ob := fun b ob hb q => (sb.2 b (fun z => hb (by simp [z]))).trans (hk b ob (fun z => hb (by simp [z])) (fun z => hb (by simp [z])) q)
    have I1 : Inv X pins σ (upd H s.heap.objs.size (.tup [.int (i : Nat), x])) { s with heap := g2, toks := tk + 1 } := I.turnedNew (ch := [e, it]) kept hf (Nat.le_refl _) new
    refine ⟨.ref s.heap.objs.size, _, I1, rfl, ⟨_, x, rfl, I.hok.fresh (Nat.le_refl _), rfl, fun ys hy2 => by rw [I.tuple_inj hy2 hq]; exact hx⟩, ⟨⟨y, ?_⟩, ?_, hne⟩, fun b hb => ?_⟩
    · have e1 : ((i + 1 : Nat) : Int) = (i : Int) + 1 := by omega
      rw [e1]
      exact he2
    · obtain ⟨⟨o, ho, r⟩, _⟩ := st1
      exact ⟨o, (sb.2 it (Ne.symm hne)).trans ho, r⟩
    · have hb2 : b < s.heap.objs.size := by
        rcases (show b = e ∨ b = it by simpa using hb) with z | z
        · rw [z]; exact sizeE
        · rw [z]; exact sizeI
      rw [upd_ne (Nat.ne_of_lt hb2)]
      exact (hf b hb).1
  done := by
    intro X hP hw hK hc i pins s σ H E I hf st hg
    subst hP hw hK
    obtain ⟨⟨old, he⟩, hit, hne⟩ := st
    obtain ⟨xs, hq, hx⟩ := hg
    obtain ⟨its, rv, p, hz⟩ := I.tuple hq
    obtain ⟨f0, f1, f2, f3, f4, f5⟩ := hf it (by simp)
    have T0 : s.heap.IsTuple a its.toArray := isTuple_of p
    have nat : a ≠ it := fun z => by
      obtain ⟨o1, e1, c1, _⟩ := hit
      obtain ⟨o2, e2, c2, _⟩ := T0
      rw [z, e1] at e2
      cases e2
      rw [c1] at c2
      exact absurd (Value.type.inj c2) (by decide)
    have hl := rv.length
    have none_ : its.toArray[i]? = none := by simp; omega
    have fin : ∀ g, Heap.ExtBut it s.heap g → (none : Option Value) = none ∧ Inv X pins σ H { s with heap := g } := fun g eb => ⟨rfl, I.turned (t' := s.toks) (fun b o hb q => eb b o hb q) f0 f1 f3 f4 f5⟩
    -- the end is met at any place behind the last
    have hT : s.TypeIs (.ref e) "enumerate" := ⟨_, he, rfl⟩
    unfold pyNext
    refine wpAny_bind (wpAny_attempt (wpAny_callSpecial?_slot (name := Str.ofString "__next__") hT F.slot_enumerate_next (wpAny_call_entry F.slot_enumerate_next hT F.entry_enumerate_next ?_ (F.args_enumerate_next_1 _))))
    show wpAny _ _ (field (.ref e) 2 >>= _) _ _ _
    refine wpAny_bind (wpAny_field he rfl (x := .ref it) rfl ?_)
    refine wpAny_bind (wpAny_nextOf_tuple_end (I.ok.hd hc) hit T0 none_ fun g x eb hx2 => ?_)
    obtain ⟨o, ho, hcl⟩ := hx2
    refine wpAny_bind (wpAny_isInstance (T := "StopIteration") (b := true) ⟨o, ho, hcl⟩ isSubtype_stop ?_)
    exact wpAny_pure (fin g eb)
  self := fun A i s Q E st h => let ⟨⟨_, he⟩, _⟩ := st; wpAny_pyIter_enum he h
/-- enumerate over a list or a tuple -/
def iEnumS (K : PySem.W.Frag) (ta : TA) : TI := fun σ H R => ta σ H fun vs H1 => ∃ a, vs = [.ref a] ∧ ((∃ xs, SqL K H1 a xs ∧ R (Ite K a) H1) ∨ ∃ xs, SqT K H1 a xs ∧ R (IteT K a) H1)
theorem pi_enumS {X : Cx} {e : Expr} {ta : TA} {p pos tpos : Pos} {elts : List Expr} {kk : Nat} (hg : Gl X "enumerate") (hm : X.mg "enumerate" = none) (ha : PA X [e] ta) (hs : starEach [e] X.env = [(false, eval e X.env)] := by rfl) :
    PI X (.Tuple elts kk tpos) (.Call (.Name "enumerate" p) [e] [] pos) (iEnumS X.K ta) := by
  refine ⟨fun pins s σ H R I h => ?_⟩
  refine Call_ (ld_blt I hg hm boot_enumerate (PyProof.Rows.callWith_type1 (thn (ha.run pos pins s σ H _ I h) fun us s1 ⟨vs, H1, I1, r1, q1⟩ => ?_) hs rfl))
  obtain ⟨a, ex, q⟩ := q1
  subst ex
  cases r1 with
  | cons r rr =>
    cases rr
    cases r
    have near : ∀ b, b ∈ [s1.heap.objs.size + 1, s1.heap.objs.size] → FpOk X pins H1 b := fun b hb => by
      have hle : s1.heap.objs.size ≤ b := by
        rcases (show b = s1.heap.objs.size + 1 ∨ b = s1.heap.objs.size by simpa using hb) with z | z
        · rw [z]; exact Nat.le_add_right _ _
        · rw [z]; exact Nat.le_refl _
      exact I1.fpOk hle (I1.hok.fresh hle)
    rcases q with ⟨xs, hq, q⟩ | ⟨xs, hq, q⟩
    · obtain ⟨its, rv, pl, hz⟩ := I1.list hq
      refine call_enumerate_list pl.isList fun g he hit hsz hk => wpAny_pyIter_enum he ?_
      exact ⟨_, [s1.heap.objs.size + 1, s1.heap.objs.size], _, _, H1, rfl, I1.kept (t' := s1.toks) hk, turn_enum a (s1.heap.objs.size + 1) s1.heap.objs.size, ⟨⟨.none, he⟩, hit, Nat.succ_ne_self _⟩, near, q⟩
    · obtain ⟨its, rv, pl, hz⟩ := I1.tuple hq
      refine call_enumT (isTuple_of pl) fun g he hit hsz hk => wpAny_pyIter_enum he ?_
      exact ⟨_, [s1.heap.objs.size + 1, s1.heap.objs.size], _, _, H1, rfl, I1.kept (t' := s1.toks) hk, turn_enumT a (s1.heap.objs.size + 1) s1.heap.objs.size, ⟨⟨.none, he⟩, hit, Nat.succ_ne_self _⟩, near, q⟩
theorem walk_enumT {K : PySem.W.Frag} {a : Addr} {xs : List V} : Walk (IteT K a) xs.length (fun H => SqT K H a xs) (YPair (fun i => some (.int (i : Nat))) (fun i => xs[i]?)) := by
  refine ⟨fun i _ hi q => ⟨xs, xs[i], q, by simp [hi]⟩, fun _ q => ⟨xs, q, Nat.le_refl _⟩, fun i H v Hn _ q y => ?_⟩
  obtain ⟨T, x, y1, y2, y3, y4⟩ := y
  exact ⟨T, .int (i : Nat), x, y1, y2, y3, rfl, y4 xs q⟩
end QT

/-! Words of my own: a def that may be called by its name. -/
namespace QT
open PySem PySem.Spec PyProof.Rows L2
structure Cal (P : Program) (w : World) (K : PySem.W.Frag) (mg : Str → Option Value) (base : Heap) (k : Nat) (x : Str) (sp : Sp) : Prop where
  ex : ∃ (f : Addr) (fd : FuncData) (ps : List Str), FnOk P w K mg base CX0 k f fd ps sp ∧ mg x = some (.ref f) ∧ PySem.W.keepIn K (.ref f) = true ∧ Binds K fd ps []
/-- one that may raise -/
structure CalX (P : Program) (w : World) (K : PySem.W.Frag) (mg : Str → Option Value) (base : Heap) (k : Nat) (x : Str) (sp : Sp) : Prop where
  ex : ∃ (f : Addr) (fd : FuncData) (ps : List Str), FnOk P w K mg base (L2.CX P w) k f fd ps sp ∧ mg x = some (.ref f) ∧ PySem.W.keepIn K (.ref f) = true ∧ Binds K fd ps []
section
variable {X : Cx} {k j : Nat} {x : Str} {sp : Sp} {p pos : Pos} {e : Expr} {es : List Expr} {t : TA} {W : WX}
theorem pe_c (c : Cal X.prog X.w X.K X.mg X.base k x sp) (hr : Room j X.A) (hk : k ≤ j) (hg : Gl X x) (ha : PA X (e :: es) t)
    (hdb : (x == ("__debug__" : Str)) = false := by decide) (he : starEach (e :: es) X.env = (false, eval e X.env) :: starEach es X.env := by rfl) (hpl : (backTo pos (starEach es X.env)).any (·.1) = false := by rfl) :
    PE X (.Call (.Name x p) (e :: es) [] pos) (tCall sp [] E0 t) := by
  obtain ⟨f, fd, ps, F, hm, kp, b⟩ := c.ex
  exact pe_call F (hr.mono hk) hg hm kp b .nil pass0 ha hdb he hpl
/-- what it raises goes to W, at the caller's slots -/
theorem pe_cX (tk : Takes X W) (c : CalX X.prog X.w X.K X.mg X.base k x sp) (hr : Room j X.A) (hk : k ≤ j) (hg : Gl X x) (ha : PA X (e :: es) t)
    (hdb : (x == ("__debug__" : Str)) = false := by decide) (he : starEach (e :: es) X.env = (false, eval e X.env) :: starEach es X.env := by rfl) (hpl : (backTo pos (starEach es X.env)).any (·.1) = false := by rfl) :
    PE X (.Call (.Name x p) (e :: es) [] pos) (tCallS sp (WE W) t) := by
  obtain ⟨f, fd, ps, F, hm, kp, b⟩ := c.ex
  exact pe_callS F (hr.mono hk) hg hm kp b (fun σ => passAt tk σ) ha hdb he hpl
end

/-! one step of a reading by its head -/
section
variable {σ : L2.St} {H : Hp} {D : Ends} {Q : VK} {QA : List V → Hp → Prop} {QT' : Bool → Hp → Prop}
theorem use_seq {t u : TS} (h : t { D with nx := u D } σ H) : tSeq t u D σ H := h
theorem use_asg {te : TE} {g : TG} (h : te σ H fun x H1 => g x σ H1 D.nx) : tAsg te g D σ H := h
theorem use_set {te : TE} {i : Nat} (h : te σ H fun x H1 => D.nx (σ.set i (some x)) H1) : tAsg te (gName i) D σ H := h
theorem use_drop {te : TE} (h : te σ H fun _ H1 => D.nx σ H1) : tDrop te D σ H := h
theorem use_ret {te : TE} (h : te σ H D.rt) : tRet te D σ H := h
theorem use_if {c : TT} {t u : TS} (h : c σ H fun b H1 => if b = true then t D σ H1 else u D σ H1) : tIfS c t u D σ H := h
theorem use_lst {t : TA} (h : t σ H fun xs H1 => xs.length ≤ sizeLine ∧ ∀ p, H1 p = none → Q (.ref p) (upd H1 p (.lst xs))) : tLst t σ H Q := h
theorem use_tup {t : TA} (h : t σ H fun xs H1 => xs.length ≤ sizeLine ∧ ∀ p, H1 p = none → Q (.ref p) (upd H1 p (.tup xs))) : tTup t σ H Q := h
theorem use_op {r : R2} {ta tb : TE} (h : ta σ H fun x H1 => tb σ H1 fun y H2 => r x y H2 Q) : tOp r ta tb σ H Q := h
theorem use_cons {te : TE} {t : TA} (h : te σ H fun x H1 => t σ H1 fun vs H2 => QA (x :: vs) H2) : tCons te t σ H QA := h
theorem use_nil (h : QA [] H) : tNil σ H QA := h
theorem use_cb {r : List V → Hp → VK → Prop} {t : TA} (h : t σ H fun vs H1 => r vs H1 Q) : tCB r t σ H Q := h
theorem use_call {sp : Sp} {dvs : List V} {E : XK} {t : TA} (h : t σ H fun vs H1 => sp (vs ++ dvs) H1 Q E) : tCall sp dvs E t σ H Q := h
theorem use_c {v : V} (h : Q v H) : tC v σ H Q := h
theorem use_var {i : Nat} {v : V} (e : σ[i]? = some (some v)) (h : Q v H) : tVar i σ H Q := ⟨v, e, h⟩
theorem use_test {t : TE} (h : t σ H fun x H1 => ∃ k, x = .bl k ∧ QT' k H1) : tTest t σ H QT' := h
end
/-- a reading may be told by another -/
theorem pe_imp {X : Cx} {e : Expr} {t t2 : TE} (h : PE X e t) (i : ∀ σ H Q, t2 σ H Q → t σ H Q) : PE X e t2 := ⟨fun pins s σ H Q I q => h.run pins s σ H Q I (i σ H Q q)⟩
theorem pss_imp {X : Cx} {st : List Stmt} {t t2 : TS} (h : PSs X st t) (i : ∀ D σ H, t2 D σ H → t D σ H) : PSs X st t2 := ⟨fun pins s σ H D I q => h.run pins s σ H D I (i D σ H q)⟩
end QT

/-! min and max of whole numbers with default=; is True, is False of anything -/
namespace QT
open PySem PySem.Spec PyProof.Rows L2
section
variable {prog : Program} {w : World} {A : Around} {E : Value → Shared → Prop} {s : Shared}
theorem minD_list {l : Addr} {vs : Array Value} {d : Value} {val : Nat → Int} {Q : Value → Shared → Prop} (hh : A.handled = none) (hl : s.heap.IsList l vs) (hv : ∀ i v, vs[i]? = some v → ∃ t, v = Value.int (val i) t)
    (h0 : vs.size = 0 → ∀ h' tk, (∀ b o, s.heap.get? b = some o → h'.get? b = some o) → Q d { s with heap := h', toks := tk })
    (h : ∀ i t h' tk, i < vs.size → (∀ j, j < vs.size → val i ≤ val j) → (∀ b o, s.heap.get? b = some o → h'.get? b = some o) → Q (.int (val i) t) { s with heap := h', toks := tk }) :
    wpAny (model prog w) A (call (.builtin "min") [.ref l] [(Str.ofString "default", d)]) Q E s := by
  refine call_min_walkD (W.iter_listW (A := A.in1) hh hl fun s₂ e wk st hfp hw hk => ?_)
  refine ⟨_, _, _, _, _, _, _, s.heap, (fun i j => decide (val i < val j)), rfl, wk, st, hfp, hw, hk, fun hz s' m => ?_, fun hp => ⟨fun i j vi vj s' Q E _ hi hj hq => CmpOf.ints_lt (P := fun i v => vs[i]? = some v) val hv i j vi vj s' Q E hi hj hq, fun v s' hP m => ?_⟩⟩
  · obtain ⟨h', tk, rfl, hk'⟩ := W.moved_old e rfl m
    exact h0 hz h' tk hk'
  · obtain ⟨h', tk, rfl, hk'⟩ := W.moved_old e rfl m
    obtain ⟨t, rfl⟩ := hv _ v hP
    have hb := argBest_lt val (vs.size - 1)
    exact h _ t h' tk (by omega) (fun j hj => hb.2 j (by omega)) hk'
theorem minD_tuple {l : Addr} {vs : Array Value} {d : Value} {val : Nat → Int} {Q : Value → Shared → Prop} (hh : A.handled = none) (hl : s.heap.IsTuple l vs) (hv : ∀ i v, vs[i]? = some v → ∃ t, v = Value.int (val i) t)
    (h0 : vs.size = 0 → ∀ h' tk, (∀ b o, s.heap.get? b = some o → h'.get? b = some o) → Q d { s with heap := h', toks := tk })
    (h : ∀ i t h' tk, i < vs.size → (∀ j, j < vs.size → val i ≤ val j) → (∀ b o, s.heap.get? b = some o → h'.get? b = some o) → Q (.int (val i) t) { s with heap := h', toks := tk }) :
    wpAny (model prog w) A (call (.builtin "min") [.ref l] [(Str.ofString "default", d)]) Q E s := by
  refine call_min_walkD (W.iter_tupleW (A := A.in1) hh hl fun s₂ e wk st hfp hw hk => ?_)
  refine ⟨_, _, _, _, _, _, _, s.heap, (fun i j => decide (val i < val j)), rfl, wk, st, hfp, hw, hk, fun hz s' m => ?_, fun hp => ⟨fun i j vi vj s' Q E _ hi hj hq => CmpOf.ints_lt (P := fun i v => vs[i]? = some v) val hv i j vi vj s' Q E hi hj hq, fun v s' hP m => ?_⟩⟩
  · obtain ⟨h', tk, rfl, hk'⟩ := W.moved_old e rfl m
    exact h0 hz h' tk hk'
  · obtain ⟨h', tk, rfl, hk'⟩ := W.moved_old e rfl m
    obtain ⟨t, rfl⟩ := hv _ v hP
    have hb := argBest_lt val (vs.size - 1)
    exact h _ t h' tk (by omega) (fun j hj => hb.2 j (by omega)) hk'
theorem maxD_list {l : Addr} {vs : Array Value} {d : Value} {val : Nat → Int} {Q : Value → Shared → Prop} (hh : A.handled = none) (hl : s.heap.IsList l vs) (hv : ∀ i v, vs[i]? = some v → ∃ t, v = Value.int (val i) t)
    (h0 : vs.size = 0 → ∀ h' tk, (∀ b o, s.heap.get? b = some o → h'.get? b = some o) → Q d { s with heap := h', toks := tk })
    (h : ∀ i t h' tk, i < vs.size → (∀ j, j < vs.size → val j ≤ val i) → (∀ b o, s.heap.get? b = some o → h'.get? b = some o) → Q (.int (val i) t) { s with heap := h', toks := tk }) :
    wpAny (model prog w) A (call (.builtin "max") [.ref l] [(Str.ofString "default", d)]) Q E s := by
  refine call_max_walkD (W.iter_listW (A := A.in1) hh hl fun s₂ e wk st hfp hw hk => ?_)
  refine ⟨_, _, _, _, _, _, _, s.heap, (fun i j => decide (val i > val j)), rfl, wk, st, hfp, hw, hk, fun hz s' m => ?_, fun hp => ⟨fun i j vi vj s' Q E _ hi hj hq => CmpOf.ints_gt (P := fun i v => vs[i]? = some v) val hv i j vi vj s' Q E hi hj hq, fun v s' hP m => ?_⟩⟩
  · obtain ⟨h', tk, rfl, hk'⟩ := W.moved_old e rfl m
    exact h0 hz h' tk hk'
  · obtain ⟨h', tk, rfl, hk'⟩ := W.moved_old e rfl m
    obtain ⟨t, rfl⟩ := hv _ v hP
    have hb := argBest_gt val (vs.size - 1)
    exact h _ t h' tk (by omega) (fun j hj => hb.2 j (by omega)) hk'
theorem maxD_tuple {l : Addr} {vs : Array Value} {d : Value} {val : Nat → Int} {Q : Value → Shared → Prop} (hh : A.handled = none) (hl : s.heap.IsTuple l vs) (hv : ∀ i v, vs[i]? = some v → ∃ t, v = Value.int (val i) t)
    (h0 : vs.size = 0 → ∀ h' tk, (∀ b o, s.heap.get? b = some o → h'.get? b = some o) → Q d { s with heap := h', toks := tk })
    (h : ∀ i t h' tk, i < vs.size → (∀ j, j < vs.size → val j ≤ val i) → (∀ b o, s.heap.get? b = some o → h'.get? b = some o) → Q (.int (val i) t) { s with heap := h', toks := tk }) :
    wpAny (model prog w) A (call (.builtin "max") [.ref l] [(Str.ofString "default", d)]) Q E s := by
  refine call_max_walkD (W.iter_tupleW (A := A.in1) hh hl fun s₂ e wk st hfp hw hk => ?_)
  refine ⟨_, _, _, _, _, _, _, s.heap, (fun i j => decide (val i > val j)), rfl, wk, st, hfp, hw, hk, fun hz s' m => ?_, fun hp => ⟨fun i j vi vj s' Q E _ hi hj hq => CmpOf.ints_gt (P := fun i v => vs[i]? = some v) val hv i j vi vj s' Q E hi hj hq, fun v s' hP m => ?_⟩⟩
  · obtain ⟨h', tk, rfl, hk'⟩ := W.moved_old e rfl m
    exact h0 hz h' tk hk'
  · obtain ⟨h', tk, rfl, hk'⟩ := W.moved_old e rfl m
    obtain ⟨t, rfl⟩ := hv _ v hP
    have hb := argBest_gt val (vs.size - 1)
    exact h _ t h' tk (by omega) (fun j hj => hb.2 j (by omega)) hk'
end
theorem vint_at {ns : List Int} {its : List Value} (r : Vals (ns.map V.int) its) (i : Nat) (v : Value) (h : its.toArray[i]? = some v) : ∃ t, v = Value.int (ns.getD i 0) t := by
  have h : its[i]? = some v := by simpa using h
  have hl : (ns.map V.int).length = its.length := r.length
  have lt : i < its.length := by
    rcases Nat.lt_or_ge i its.length with z | z
    · exact z
    · rw [List.getElem?_eq_none z] at h
      cases h
  have lt2 : i < ns.length := by
    rw [List.length_map] at hl
    omega
  have e : (ns.map V.int)[i]? = some (V.int ns[i]) := by
    rw [List.getElem?_map, List.getElem?_eq_getElem lt2]
    rfl
  obtain ⟨u, h1, h2⟩ := r.get e
  rw [h] at h1
  cases h1
  obtain ⟨t, h2⟩ := h2
  refine ⟨t, ?_⟩
  rw [h2, List.getD_eq_getElem?_getD, List.getElem?_eq_getElem lt2]
  rfl
/-- min(xs, default=d), xs a list or a tuple of whole numbers -/
def rMinD (K : PySem.W.Frag) : List V → List V → Hp → VK → Prop := fun vs zs H Q => ∃ (a : Addr) (ns : List Int) (d : V), vs = [V.ref a] ∧ zs = [d] ∧ (SqL K H a (ns.map V.int) ∨ SqT K H a (ns.map V.int)) ∧ (ns = [] → Q d H) ∧ ∀ m, m ∈ ns → (∀ y, y ∈ ns → m ≤ y) → Q (.int m) H
def rMaxD2 (K : PySem.W.Frag) : List V → List V → Hp → VK → Prop := fun vs zs H Q => ∃ (a : Addr) (ns : List Int) (d : V), vs = [V.ref a] ∧ zs = [d] ∧ (SqL K H a (ns.map V.int) ∨ SqT K H a (ns.map V.int)) ∧ (ns = [] → Q d H) ∧ ∀ m, m ∈ ns → (∀ y, y ∈ ns → y ≤ m) → Q (.int m) H
theorem getD_memI {ns : List Int} {i : Nat} (h : i < ns.length) : ns.getD i 0 ∈ ns := by
  rw [List.getD_eq_getElem?_getD, List.getElem?_eq_getElem h]
  exact List.getElem_mem h
theorem mem_getDI {ns : List Int} {y : Int} (h : y ∈ ns) : ∃ j, j < ns.length ∧ ns.getD j 0 = y := by
  obtain ⟨j, hj, e⟩ := List.getElem_of_mem h
  refine ⟨j, hj, ?_⟩
  rw [List.getD_eq_getElem?_getD, List.getElem?_eq_getElem hj]
  exact e
section
variable {X : Cx}
theorem cr_minD (hc : X.calm = true) : CallRK X (.builtin "min") [Str.ofString "default"] (rMinD X.K) := by
  intro pins s σ H vs zs us ws Q I r rz h
  obtain ⟨a, ns, d, rfl, rfl, hs, q0, q1⟩ := h
  obtain rfl := Vals.ref1 r
  obtain ⟨w1, rfl, e1⟩ := vals1 rz
  rcases hs with hs | hs
  · obtain ⟨its, rv, hl, _⟩ := I.list hs
    have hn : its.length = ns.length := by
      have := rv.length
      rw [List.length_map] at this
      exact this.symm
    refine minD_list (val := fun i => ns.getD i 0) (I.ok.hd hc) hl.isList (vint_at rv) (fun hz h' tk hk => ⟨d, H, I.kept hk, e1, q0 (List.eq_nil_of_length_eq_zero (by rw [← hn]; simpa using hz))⟩) fun i t h' tk hi hj hk => ⟨.int _, H, I.kept hk, ⟨_, rfl⟩, ?_⟩
    have hi : i < ns.length := by
      rw [← hn]
      simpa using hi
    refine q1 _ (getD_memI hi) fun y hy => ?_
    obtain ⟨j, hj2, e⟩ := mem_getDI hy
    rw [← e]
    exact hj j (by rw [List.size_toArray, hn]; exact hj2)
  · obtain ⟨its, rv, hl, _⟩ := I.tuple hs
    have hn : its.length = ns.length := by
      have := rv.length
      rw [List.length_map] at this
      exact this.symm
    refine minD_tuple (val := fun i => ns.getD i 0) (I.ok.hd hc) hl (vint_at rv) (fun hz h' tk hk => ⟨d, H, I.kept hk, e1, q0 (List.eq_nil_of_length_eq_zero (by rw [← hn]; simpa using hz))⟩) fun i t h' tk hi hj hk => ⟨.int _, H, I.kept hk, ⟨_, rfl⟩, ?_⟩
    have hi : i < ns.length := by
      rw [← hn]
      simpa using hi
    refine q1 _ (getD_memI hi) fun y hy => ?_
    obtain ⟨j, hj2, e⟩ := mem_getDI hy
    rw [← e]
    exact hj j (by rw [List.size_toArray, hn]; exact hj2)
theorem cr_maxD2 (hc : X.calm = true) : CallRK X (.builtin "max") [Str.ofString "default"] (rMaxD2 X.K) := by
  intro pins s σ H vs zs us ws Q I r rz h
  obtain ⟨a, ns, d, rfl, rfl, hs, q0, q1⟩ := h
  obtain rfl := Vals.ref1 r
  obtain ⟨w1, rfl, e1⟩ := vals1 rz
  rcases hs with hs | hs
  · obtain ⟨its, rv, hl, _⟩ := I.list hs
    have hn : its.length = ns.length := by
      have := rv.length
      rw [List.length_map] at this
      exact this.symm
    refine maxD_list (val := fun i => ns.getD i 0) (I.ok.hd hc) hl.isList (vint_at rv) (fun hz h' tk hk => ⟨d, H, I.kept hk, e1, q0 (List.eq_nil_of_length_eq_zero (by rw [← hn]; simpa using hz))⟩) fun i t h' tk hi hj hk => ⟨.int _, H, I.kept hk, ⟨_, rfl⟩, ?_⟩
    have hi : i < ns.length := by
      rw [← hn]
      simpa using hi
    refine q1 _ (getD_memI hi) fun y hy => ?_
    obtain ⟨j, hj2, e⟩ := mem_getDI hy
    rw [← e]
    exact hj j (by rw [List.size_toArray, hn]; exact hj2)
  · obtain ⟨its, rv, hl, _⟩ := I.tuple hs
    have hn : its.length = ns.length := by
      have := rv.length
      rw [List.length_map] at this
      exact this.symm
    refine maxD_tuple (val := fun i => ns.getD i 0) (I.ok.hd hc) hl (vint_at rv) (fun hz h' tk hk => ⟨d, H, I.kept hk, e1, q0 (List.eq_nil_of_length_eq_zero (by rw [← hn]; simpa using hz))⟩) fun i t h' tk hi hj hk => ⟨.int _, H, I.kept hk, ⟨_, rfl⟩, ?_⟩
    have hi : i < ns.length := by
      rw [← hn]
      simpa using hi
    refine q1 _ (getD_memI hi) fun y hy => ?_
    obtain ⟨j, hj2, e⟩ := mem_getDI hy
    rw [← e]
    exact hj j (by rw [List.size_toArray, hn]; exact hj2)
/-- min(xs, default=d): how it stands to a bound -/
def rMinB (K : PySem.W.Frag) : List V → List V → Hp → VK → Prop := fun vs zs H Q => ∃ (a : Addr) (ns : List Int) (d : Int), vs = [V.ref a] ∧ zs = [.int d] ∧ (SqL K H a (ns.map V.int) ∨ SqT K H a (ns.map V.int)) ∧ ∀ m : Int, (∀ b, b ≤ d → decide (b ≤ m) = ns.all fun n => decide (b ≤ n)) → Q (.int m) H
def rMaxB (K : PySem.W.Frag) : List V → List V → Hp → VK → Prop := fun vs zs H Q => ∃ (a : Addr) (ns : List Int) (d : Int), vs = [V.ref a] ∧ zs = [.int d] ∧ (SqL K H a (ns.map V.int) ∨ SqT K H a (ns.map V.int)) ∧ ∀ m : Int, (∀ b, d ≤ b → decide (m ≤ b) = ns.all fun n => decide (n ≤ b)) → Q (.int m) H
theorem least_all {ns : List Int} {m : Int} (h1 : m ∈ ns) (h2 : ∀ y, y ∈ ns → m ≤ y) (b : Int) : decide (b ≤ m) = ns.all fun n => decide (b ≤ n) := by
  rw [Bool.eq_iff_iff, decide_eq_true_eq, List.all_eq_true]
  constructor
  · intro h n hn
    have := h2 n hn
    exact decide_eq_true (by omega)
  · intro h
    simpa using h m h1
theorem most_all {ns : List Int} {m : Int} (h1 : m ∈ ns) (h2 : ∀ y, y ∈ ns → y ≤ m) (b : Int) : decide (m ≤ b) = ns.all fun n => decide (n ≤ b) := by
  rw [Bool.eq_iff_iff, decide_eq_true_eq, List.all_eq_true]
  constructor
  · intro h n hn
    have := h2 n hn
    exact decide_eq_true (by omega)
  · intro h
    simpa using h m h1
theorem cr_minB (hc : X.calm = true) : CallRK X (.builtin "min") [Str.ofString "default"] (rMinB X.K) := by
  intro pins s σ H vs zs us ws Q I r rz h
  obtain ⟨a, ns, d, e1, e2, hs, q⟩ := h
  refine cr_minD hc pins s σ H vs zs us ws Q I r rz ⟨a, ns, .int d, e1, e2, hs, fun z => q d fun b hb => ?_, fun m h1 h2 => q m fun b _ => least_all h1 h2 b⟩
  rw [z, decide_eq_true hb]
  rfl
theorem cr_maxB (hc : X.calm = true) : CallRK X (.builtin "max") [Str.ofString "default"] (rMaxB X.K) := by
  intro pins s σ H vs zs us ws Q I r rz h
  obtain ⟨a, ns, d, e1, e2, hs, q⟩ := h
  refine cr_maxD2 hc pins s σ H vs zs us ws Q I r rz ⟨a, ns, .int d, e1, e2, hs, fun z => q d fun b hb => ?_, fun m h1 h2 => q m fun b _ => most_all h1 h2 b⟩
  rw [z, decide_eq_true hb]
  rfl
theorem all_and {ns : List Int} {f g : Int → Bool} : (ns.all fun n => f n && g n) = (ns.all f && ns.all g) := by
  induction ns with
  | nil => rfl
  | cons n r ih =>
    simp only [List.all_cons, ih]
    cases f n <;> cases g n <;> simp
/-- x is True, x is False, x anything -/
def rIsB1 : R2 := fun x y H Q => ∃ b : Bool, y = .bl b ∧ Q (.bl (decide (x = .bl b))) H
theorem is_other {X : Cx} {pins : List (Addr × Obj)} {s : Shared} {σ : L2.St} {H : Hp} {x : V} {v : Value} {b : Bool} {Q : VK} (I : Inv X pins σ H s) (p : plainIs v (.bool b) = true) (n : v ≠ .bool b) (m : x ≠ .bl b) (q : Q (.bl (decide (x = .bl b))) H) :
    wpAny (model X.prog X.w) X.A (compareOp .Is v (.bool b)) (EP X pins σ Q) X.xe s :=
  wpAny_is_other p n ⟨.bl false, H, I, rfl, by simpa [m] using q⟩
theorem op_isB : OpR X (compareOp .Is) rIsB1 := by
  intro pins s σ H x y v u Q I rx ry h
  obtain ⟨b, rfl, q⟩ := h
  cases (show u = Value.bool b from ry)
  cases x with
  | bl c =>
    cases (show v = Value.bool c from rx)
    by_cases e : c = b
    · subst e
      exact wpAny_is_self rfl ⟨.bl true, H, I, rfl, by simpa using q⟩
    · exact wpAny_is_other rfl (fun z => e (Value.bool.inj z)) ⟨.bl false, H, I, rfl, by simpa [e] using q⟩
  | non =>
    cases rx
    exact is_other I rfl (fun z => by cases z) (fun z => by cases z) q
  | ref a =>
    cases rx
    exact is_other I rfl (fun z => by cases z) (fun z => by cases z) q
  | ty n =>
    cases rx
    exact is_other I rfl (fun z => by cases z) (fun z => by cases z) q
  | int i =>
    obtain ⟨t, rfl⟩ := rx
    exact is_other I rfl (fun z => by cases z) (fun z => by cases z) q
  | str i =>
    obtain ⟨t, rfl⟩ := rx
    exact is_other I rfl (fun z => by cases z) (fun z => by cases z) q
  | byt i =>
    obtain ⟨t, rfl⟩ := rx
    exact is_other I rfl (fun z => by cases z) (fun z => by cases z) q
  | flt i =>
    obtain ⟨t, rfl⟩ := rx
    exact is_other I rfl (fun z => by cases z) (fun z => by cases z) q
end
end QT

/-! what are_between answers -/
namespace QT
open PySem PySem.Spec PyProof.Rows L2
def isI : V → Bool
  | .int _ => true
  | _ => false
def nI : V → Bool := fun x => !isI x
def btw (lo hi : Int) : V → Bool
  | .int i => decide (lo ≤ i) && decide (i ≤ hi)
  | _ => false
/-- a thing whose type is known, however the heap grows -/
inductive Kn (K : PySem.W.Frag) (H : Hp) : V → Prop
  | int (i : Int) : Kn K H (.int i)
  | bl (b : Bool) : Kn K H (.bl b)
  | oth {x : V} {t : String} (n1 : isI x = false) (n2 : ∀ b, x ≠ .bl b) (ty : ∀ H', (∀ b o, H b = some o → H' b = some o) → TyX K H' x (.type t)) (no : PySem.W.kitOne K (.type t) (.type "int") = some false) : Kn K H x
theorem Kn.same {K : PySem.W.Frag} {H H' : Hp} {x : V} (h : Kn K H x) (e : ∀ b o, H b = some o → H' b = some o) : Kn K H' x := by
  cases h with
  | int i => exact .int i
  | bl b => exact .bl b
  | oth n1 n2 ty no => exact .oth n1 n2 (fun H2 k => ty H2 fun b o q => k b o (e b o q)) no
theorem seqT_same {K : PySem.W.Frag} {H H' : Hp} {a : Addr} {xs : List V} (h : SqT K H a xs) (e : ∀ b o, H b = some o → H' b = some o) : SqT K H' a xs := by
  rcases h with (h | ⟨o, h⟩) | h
  · exact .inl (.inl (e _ _ h))
  · exact .inl (.inr ⟨o, e _ _ h⟩)
  · exact .inr h
def spBtw (K : PySem.W.Frag) : Sp := fun vs H Q _ => ∃ (a : Addr) (xs : List V) (lo hi : Int), vs = [.ref a, .int lo, .int hi] ∧ (SqL K H a xs ∨ SqT K H a xs) ∧ (∀ x ∈ xs, Kn K H x) ∧ xs.length < sizeLine ∧
  ∀ H', (∀ b o, H b = some o → H' b = some o) → Q (.bl (xs.all (btw lo hi))) H'
theorem take_filter {f : V → Bool} {xs : List V} {i : Nat} {x : V} (h : xs[i]? = some x) : (xs.take (i + 1)).filter f = if f x = true then (xs.take i).filter f ++ [x] else (xs.take i).filter f := by
  rw [List.take_succ, h, List.filter_append]
  cases e : f x with
  | true => simp [List.filter, e]
  | false => simp [List.filter, e]
theorem ints_of : ∀ {xs : List V}, xs.filter nI = [] → ∃ ns : List Int, xs = ns.map V.int
  | [], _ => ⟨[], rfl⟩
  | x :: r, h => by
    cases x with
    | int n =>
      obtain ⟨ns, e⟩ := ints_of (xs := r) (by simpa [List.filter, nI, isI] using h)
      exact ⟨n :: ns, by rw [e]; rfl⟩
    | _ => simp [List.filter, nI, isI] at h
theorem odd_all {lo hi : Int} : ∀ {xs : List V}, xs.filter nI ≠ [] → xs.all (btw lo hi) = false
  | [], h => absurd rfl h
  | x :: r, h => by
    cases x with
    | int n =>
      have z := odd_all (lo := lo) (hi := hi) (xs := r) (by simpa [List.filter, nI, isI] using h)
      rw [List.all_cons, z, Bool.and_false]
    | _ => rfl
theorem all_ints {lo hi : Int} {ns : List Int} : (ns.map V.int).all (btw lo hi) = ((ns.all fun n => decide (lo ≤ n)) && ns.all fun n => decide (n ≤ hi)) := by
  rw [List.all_map, ← all_and]
  rfl
theorem filter_le {f : V → Bool} (xs : List V) (i : Nat) : ((xs.take i).filter f).length ≤ xs.length :=
  Nat.le_trans (List.length_filter_le _ _) (by rw [List.length_take]; omega)
/-- x is True or x is False or not isinstance(x, int) -/
theorem kn_test {K : PySem.W.Frag} {H : Hp} {x : V} {σ : L2.St} {j : Nat} {Q : Bool → Hp → Prop} (hσ : σ[j]? = some (some x)) (h : Kn K H x) (q : Q (nI x) H) :
    tOr (tTest (tOp rIsB1 (tVar j) (tC (.bl true)))) (tOr (tTest (tOp rIsB1 (tVar j) (tC (.bl false)))) (tNot (tB (tCB (rIsi K) (tCons (tVar j) (tCons (tC (.ty "int")) tNil)))))) σ H Q := by
  refine ⟨x, hσ, true, rfl, _, rfl, ?_⟩
  have go : ∀ {c : Bool} {t : String}, PySem.W.kitOne K (.type t) (.type "int") = some c → TyX K H x (.type t) → decide (x = .bl true) = false → decide (x = .bl false) = false → (!c) = nI x →
      if decide (x = .bl true) = true then Q true H else tOr (tTest (tOp rIsB1 (tVar j) (tC (.bl false)))) (tNot (tB (tCB (rIsi K) (tCons (tVar j) (tCons (tC (.ty "int")) tNil))))) σ H Q := fun {c t} k ty d1 d2 e => by
    rw [d1, if_neg Bool.false_ne_true]
    refine ⟨x, hσ, false, rfl, _, rfl, ?_⟩
    dsimp only
    rw [d2, if_neg Bool.false_ne_true]
    refine ⟨x, hσ, _, _, _, _, c, rfl, .ty _, ty, k, c, rfl, ?_⟩
    dsimp only
    rw [e]
    exact q
  cases h with
  | int i => exact go (c := true) (t := "int") (kit_ty (a := "int") (b := "int") (by decide +kernel)) (.base (by constructor)) (by simp) (by simp) rfl
  | bl b =>
    cases b with
    | true =>
      refine (if_pos (c := decide (V.bl true = V.bl true) = true) (by simp)).mpr ?_
      exact q
    | false =>
      refine (if_neg (c := decide (V.bl false = V.bl true) = true) (by simp)).mpr ?_
      refine ⟨_, hσ, false, rfl, _, rfl, ?_⟩
      refine (if_pos (c := decide (V.bl false = V.bl false) = true) (by simp)).mpr ?_
      exact q
  | @oth _ t n1 n2 ty no =>
    refine go (c := false) no (ty H fun _ _ z => z) (by simp [n2]) (by simp [n2]) ?_
    unfold nI
    rw [n1]
/-- the two bounds -/
theorem use_bounds {K : PySem.W.Frag} {a : Addr} {ns : List Int} {lo hi : Int} {σ : L2.St} {H : Hp} {Q : VK} (h0 : σ[0]? = some (some (.ref a))) (h1 : σ[1]? = some (some (.int lo))) (h2 : σ[2]? = some (some (.int hi)))
    (hs : SqL K H a (ns.map V.int) ∨ SqT K H a (ns.map V.int)) (q : Q (.bl ((ns.map V.int).all (btw lo hi))) H) :
    tAndV (tOp (rI0 fun i j => V.bl (decide (j ≤ i))) (tCKw (rMinB K) (tCons (tVar 0) tNil) (tCons (tVar 1) tNil)) (tVar 1)) (tOp (rI0 fun i j => V.bl (decide (i ≤ j))) (tCKw (rMaxB K) (tCons (tVar 0) tNil) (tCons (tVar 2) tNil)) (tVar 2)) σ H Q := by
  rw [all_ints] at q
  refine ⟨_, h0, _, h1, a, ns, lo, rfl, rfl, hs, fun m hm => ⟨_, h1, m, lo, rfl, rfl, _, rfl, ?_⟩⟩
  have e1 := hm lo (Int.le_refl _)
  rw [← e1] at q
  cases c : decide (lo ≤ m) with
  | false =>
    rw [if_neg Bool.false_ne_true]
    rw [c] at q
    exact q
  | true =>
    rw [if_pos rfl]
    refine ⟨_, h0, _, h2, a, ns, hi, rfl, rfl, hs, fun m2 hm2 => ⟨_, h2, m2, hi, rfl, rfl, ?_⟩⟩
    dsimp only
    rw [hm2 hi (Int.le_refl _)]
    rw [c, Bool.true_and] at q
    exact q
/-- what is behind the first row -/
theorem btw_end {K : PySem.W.Frag} {D : Addr} {xs : List V} {lo hi : Int} {H : Hp} {R : Bool → Prop} (hD : SqL K H D (xs.filter nI)) (r1 : xs.all (btw lo hi) = false → R true) (r2 : (∃ ns : List Int, xs = ns.map V.int) → R false) : ∃ k, TruV K (.ref D) H k ∧ R k := by
  refine ⟨!(xs.filter nI).isEmpty, .inl ⟨_, hD, rfl⟩, ?_⟩
  cases e : xs.filter nI with
  | nil => exact r2 (ints_of e)
  | cons x r => exact r1 (odd_all (by rw [e]; simp))
end QT

/-! errors that are made and kept as values: made, asked for their class, their fields, their methods -/
namespace QT
open PySem PySem.Spec PyProof.Rows L2
/-- C(e, ..), kept: __init__ has run over it -/
def tOex (C : Addr) (sp : Sp) (ta : TA) : TE := fun σ H Q => ta σ H fun vs H1 => vs.length ≤ 1000 ∧ ∀ a, H1 a = none → sp (.ref a :: (vs ++ [])) (upd H1 a (exo a C none)) (fun v H2 => v = .non ∧ Q (.ref a) H2) E0
section
variable {X : Cx} {e : Expr} {es : List Expr} {ta : TA} {p pos : Pos}
theorem pe_oex {x : Str} {C fI : Addr} {k : Nat} {fd : FuncData} {ps : List Str} {sp : Sp} (T : OexC X.K C) (iC : PySem.W.findIn X.K (.ref C) "__init__" = some (some (.ref fI))) (tI : PySem.W.typeIn X.K (.ref fI) = some (.type "function"))
    (F1 : FnOk X.prog X.w X.K X.mg X.base CX0 k fI fd ps sp) (hr : Room (k + 1) X.A) (hb : Binds X.K fd ps []) (hg : Gl X x) (hm : X.mg x = some (.ref C)) (ha : PA X (e :: es) ta)
    (hdb : (x == ("__debug__" : Str)) = false := by decide) (he : starEach (e :: es) X.env = (false, eval e X.env) :: starEach es X.env := by rfl) (hpl : (backTo pos (starEach es X.env)).any (·.1) = false := by rfl) :
    PE X (.Call (.Name x p) (e :: es) [] pos) (tOex C sp ta) := by
  refine ⟨fun pins s σ H Q I h => ?_⟩
  obtain ⟨nm, q, N, bs, bm, sn, sub, ab, col, dd, k0, k1, k2, k3, k5, atC, chain⟩ := T.cls
  refine wpAny_Call_Name_kw (ld_glob I hg hm ?_ hdb)
  refine PySem.W.callWith_K (h₀ := X.base) I.ok.mod.kin T.kC (thn (ha.run pos pins s σ H _ I h) fun us s1 ⟨vs, H1, I1, r1, few, asks⟩ => ⟨I1.kIn, ?_⟩) he hpl
  show wpAny _ _ (call (.ref C) us) _ _ _
  obtain ⟨hp, g, dr, tk, os⟩ := s1
  have above : hp.objs.size ≤ hp.objs.size + 1 := Nat.le_succ _
  have free : H1 (hp.objs.size + 1) = none := I1.hok.fresh above
  have ask := asks (hp.objs.size + 1) free
  have stays : ∀ b o, hp.get? b = some o → ((hp.push (PySem.W.kdv_tup us)).push (PySem.HandSPX.excO C hp.objs.size)).get? b = some o := fun b o z => Heap.get?_push_of_some _ (Heap.get?_push_of_some _ z)
  have there : ((hp.push (PySem.W.kdv_tup us)).push (PySem.HandSPX.excO C hp.objs.size)).get? (hp.objs.size + 1) = some (PySem.HandSPX.excO C hp.objs.size) := by heap_get
  have I2 : Inv X pins σ (upd H1 (hp.objs.size + 1) (exo (hp.objs.size + 1) C none)) ⟨(hp.push (PySem.W.kdv_tup us)).push (PySem.HandSPX.excO C hp.objs.size), g, dr, tk, os⟩ :=
    I1.laid (t' := tk) (a := hp.objs.size + 1) (o := exo (hp.objs.size + 1) C none) (h' := (hp.push (PySem.W.kdv_tup us)).push (PySem.HandSPX.excO C hp.objs.size)) stays above (exo_ok there)
  have r2 : Vals (V.ref (hp.objs.size + 1) :: (vs ++ [])) (Value.ref (hp.objs.size + 1) :: us) := .cons rfl (by rw [List.append_nil]; exact r1)
  have same : (Value.ref (hp.objs.size + 1) :: us).length = ps.length := by
    have z := r2.length
    rw [F1.len _ _ _ _ ask] at z
    exact z.symm
  have bound : BindsTo ⟨(hp.push (PySem.W.kdv_tup us)).push (PySem.HandSPX.excO C hp.objs.size), g, dr, tk, os⟩ fd ⟨Value.ref (hp.objs.size + 1) :: us, []⟩ (ps.zip (Value.ref (hp.objs.size + 1) :: us)) := by
    have z := hb ⟨(hp.push (PySem.W.kdv_tup us)).push (PySem.HandSPX.excO C hp.objs.size), g, dr, tk, os⟩ (Value.ref (hp.objs.size + 1) :: us) I2.kIn (by rw [List.append_nil]; exact same)
    rw [List.append_nil] at z
    exact z
  have line : us.length ≤ sizeLine := by
    rw [← Paired.length r1, sizeLine_eq]
    omega
  refine wpAny_call (PySem.HandSPX.call_own F.excBase_ValueError (fun Y => PySem.HandSPX.refsVE_contains Y bm chain) (I1.kIn _ _ atC) (PySem.W.looks_findIn I1.kIn iC) (fun self => PySem.W.bind_fn I1.kIn self tI) line
    (codeAny_mono (F1.run _ X.stack _ _ ⟨Value.ref (hp.objs.size + 1) :: us, []⟩ (Value.ref (hp.objs.size + 1) :: us) _ _ E0 (hr.make C us []) (I2.env0.make C us []) bound r2 ask) fun r s' back => ?_))
  cases r with
  | error er => exact back.elim
  | ok fl =>
    cases fl with
    | ret u =>
      obtain ⟨v, H2, I3, rv, ev, q2⟩ := I2.after back
      subst ev
      exact ⟨rv, .ref (hp.objs.size + 1), H2, I3, rfl, q2⟩
    | next => exact False.elim back
    | brk => exact False.elim back
    | cont => exact False.elim back
/-- its field -/
def tOxf (K : PySem.W.Frag) (f : Str) (te : TE) : TE := fun σ H Q => te σ H fun x H1 => ∃ (a C d : Addr) (fs : List (Str × V)) (v : V), x = .ref a ∧ H1 a = some (exo a C (some d)) ∧ H1 d = some (exd d fs) ∧ XfC K C ∧ PySem.W.findIn K (.ref C) f = some none ∧ fs.lookup f = some v ∧ Q v H1
theorem pe_oxf {n : Str} {te : TE} (he : PE X e te) (hb : attributeBase e n X.env (eval e X.env) = eval e X.env := by rfl) : PE X (.Attribute e n pos) (tOxf X.K n te) := by
  refine ⟨fun pins s σ H Q I h => ?_⟩
  refine attr_of hb (thn (he.run pins s σ H _ I h) fun u s1 hh => ?_)
  obtain ⟨x, H1, I1, rx, a, C, d, fs, v, ex, ea, ed, T, hno, l, q⟩ := hh
  subst ex
  obtain rfl : u = Value.ref a := rx
  obtain ⟨t1, ho⟩ := exo_at I1.hok ea
  obtain ⟨mA, hns, rel⟩ := exd_at I1.hok ed
  obtain ⟨od, hod, hl⟩ := lookIn_ns hns
  obtain ⟨u, hu, ru⟩ := RelO.some_of (v := v) (o := mA n) (by rw [← l]; exact rel n)
  have J : PySem.W.InstAt s1.heap a _ C (some od) := ⟨ho, rfl, rfl, hod⟩
  exact HandSPX.exc_get I1.kIn J T.ga T.gg T.exC (PySem.W.findObj_own T.hdC hno rfl (by rw [hl, hu])) (handed_of ru) ⟨v, H1, I1.tok _, ru, q⟩
end
end QT

namespace PySem
namespace HandSPX
open PySem.W PySem.Calls PyProof.Rows
section
variable {M : Model} {A : Around} {E : Value → Shared → Prop} {h : Heap} {g : Array GenState} {d : Drawn} {t : Nat} {os : OsState}
variable {nm q : Str} {C N : Addr} {bs bm bmB : List Value} {hdct : Bool} {sn : List Str} {sub : List Value} {ab : Bool} {col : Option Bool} {dd : Option Addr} {k0 k1 k2 k3 k5 : Option Value} {B newId initId : String}
theorem qk_check (F : ExcBaseFacts B newId initId bmB) (hT : ∀ X : String, bm.contains (.type X) = bmB.contains (.type X)) {kws : List (Str × Value)} {Q : Unit → Shared → Prop}
    (hC : h.get? C = some (excClassObj nm q C N bs bm hdct sn sub ab col dd k0 k1 k2 k3 k5 newId)) (hq : Q () ⟨h, g, d, t, os⟩) : wpAny M A (checkBuiltinCall newId ⟨[.ref C], kws⟩) Q E ⟨h, g, d, t, os⟩ := by
  have ofB : (Value.ref C :: bm).contains (.type B) = true := by rw [List.contains_cons, hT, F.hasB, Bool.or_true]
  have nostar := F.noStar
  simp only [checkBuiltinCall, F.newKind, F.newSplit, F.newRow]
  repeat (first | refine wpAny_loadPart_at hC ?_ | (refine wpAny_isSubtype_exc hC ?_; rw [ofB]) | refine wpAny_staticBase_exc hC ?_ | refine wpAny_madeBy_exc hC ?_ | simp only [bne_self_eq_false, Bool.false_eq_true, if_false] | wp_step)
  exact hq
end
section
variable {prog : Program} {w : World} {A : Around} {E : Value → Shared → Prop} {R : Result → Shared → Prop} {h : Heap} {g : Array GenState} {d : Drawn} {t : Nat} {os : OsState}
variable {nm q : Str} {C N : Addr} {bs bm bmB : List Value} {hdct : Bool} {sn : List Str} {sub : List Value} {ab : Bool} {col : Option Bool} {dd : Option Addr} {k0 k1 k2 k3 k5 : Option Value} {B newId initId : String}
theorem qk_new (F : ExcBaseFacts B newId initId bmB) (hT : ∀ X : String, bm.contains (.type X) = bmB.contains (.type X)) {kws : List (Str × Value)}
    (hC : h.get? C = some (excClassObj nm q C N bs bm hdct sn sub ab col dd k0 k1 k2 k3 k5 newId))
    (hq : R (.ok (.ret (.ref (h.objs.size + 1)))) ⟨(h.push { cls := .type "tuple", data := .seq #[] }).push
      { cls := .ref C, data := .fields #[.ref h.objs.size, .none, .none, .none, .bool false, .none] }, g, d, t, os⟩) :
    codeAny (model prog w) A (.builtin newId ⟨[.ref C], kws⟩) R ⟨h, g, d, t, os⟩ := by
  have ends_ := F.ends
  have ofB : (Value.ref C :: bm).contains (.type B) = true := by rw [List.contains_cons, hT, F.hasB, Bool.or_true]
  have ofA : (Value.ref C :: bm).contains (.type "AttributeError") = false := by rw [List.contains_cons, hT, F.noAttr]; rfl
  have ofN : (Value.ref C :: bm).contains (.type "NameError") = false := by rw [List.contains_cons, hT, F.noName]; rfl
  refine codeAny_builtinAt F.entry ?_
  unfold Builtin.«BaseException.__new__»
  refine wpAt_bind ?_
  show wpAt _ _ _ (stack >>= _) _ _ _
  refine wpAt_bind (wpAt_stack fun p below => wpAt_of_wpAny ?_)
  wp_walk
  refine wpAt_of_wpAny ?_
  rw [F.owner]
  repeat (first | with_reducible refine wpAny_madeHere_exc F.canon hC ?_ | with_reducible refine wpAny_loadPart_at hC ?_ | (with_reducible refine wpAny_isSubtype_exc hC ?_; first | rw [ofB] | rw [ofA] | rw [ofN]) | wp_step)
  show R _ _
  rw [Heap.size_push]
  exact hq
theorem qk_type (F : ExcBaseFacts B newId initId bmB) (hT : ∀ X : String, bm.contains (.type X) = bmB.contains (.type X)) {kws : List (Str × Value)} {fI : Addr} {Q : Fin → Shared → Prop}
    (hC : h.get? C = some (excClassObj nm q C N bs bm hdct sn sub ab col dd k0 k1 k2 k3 k5 newId))
    (hi : W.Looks (model prog w) h (typeLookup (.ref C) "__init__") (some (.ref fI))) (hb : ∀ self, W.Looks (model prog w) h (bindSpecial (.ref fI) self) (.ref fI, [self]))
    (hq : codeAny (model prog w) A (.call (.ref fI) ⟨[.ref (h.objs.size + 1)], kws⟩)
      (fun r s' => match r with | .ok (.ret v) => v = .none ∧ Q (.done (.ret (.ref (h.objs.size + 1)))) s' | .ok _ => False | .error e => E e s')
      ⟨(h.push (W.kdv_tup [])).push (excO C h.objs.size), g, d, t, os⟩) :
    wpAny (model prog w) A (Builtin.«type.__call__» ⟨[.ref C], kws⟩) Q E ⟨h, g, d, t, os⟩ := by
  repeat (first | with_reducible refine wpAny_loadPart_at hC ?_ | with_reducible refine wpAny_madeBy_exc hC ?_ | wp_step)
  refine codeAny_call_builtin_code (Code.quiet_builtin _ F.quiet) (qk_check F hT hC ?_)
  refine qk_new F hT hC ?_
  show wpAny _ _ _ _ _ _
  have stays : ∀ b o, h.get? b = some o → ((h.push (W.kdv_tup [])).push (excO C h.objs.size)).get? b = some o := fun b o e => Heap.get?_push_of_some _ (Heap.get?_push_of_some _ e)
  have atC := stays _ _ hC
  have there : ((h.push (W.kdv_tup [])).push (excO C h.objs.size)).get? (h.objs.size + 1) = some (excO C h.objs.size) := by heap_get
  have ofC : (Value.ref C :: bm).contains (.ref C) = true := by simp
  have i1 := hi.keeps stays
  have b1 := (hb (.ref (h.objs.size + 1))).keeps stays
  unfold isInstance
  repeat (first | with_reducible refine wpAny_loadPart_at there ?_ | (with_reducible refine wpAny_isSubtype_exc atC ?_; rw [ofC]) | wp_step)
  show wpAny _ _ (typeLookup (.ref C) _) _ _ _
  refine i1.at ?_
  refine wpAny_holding (wpAny_bind (b1.at ?_))
  refine wpAny_bind (wpAny_call (codeAny_mono hq fun r s' z => ?_))
  rcases r with e | (v | _ | _ | _) <;> first | exact z | exact z.elim | skip
  obtain ⟨rfl, z⟩ := z
  first
    | exact wpAny_pure (wpAny_pure z)
    | (wp_walk; exact z)
theorem qk_call (F : ExcBaseFacts B newId initId bmB) (hT : ∀ X : String, bm.contains (.type X) = bmB.contains (.type X)) {kws : List (Str × Value)} {fI : Addr}
    (hC : h.get? C = some (excClassObj nm q C N bs bm hdct sn sub ab col dd k0 k1 k2 k3 k5 newId))
    (hi : W.Looks (model prog w) h (typeLookup (.ref C) "__init__") (some (.ref fI))) (hb : ∀ self, W.Looks (model prog w) h (bindSpecial (.ref fI) self) (.ref fI, [self]))
    (hq : codeAny (model prog w) (A.under (.builtin "type.__call__" ⟨[.ref C], kws⟩)) (.call (.ref fI) ⟨[.ref (h.objs.size + 1)], kws⟩) (W.InitBack (h.objs.size + 1) R)
      ⟨(h.push (W.kdv_tup [])).push (excO C h.objs.size), g, d, t, os⟩) :
    codeAny (model prog w) A (.call (.ref C) ⟨[], kws⟩) R ⟨h, g, d, t, os⟩ := by
  have l1 := tc_lookup
  have l2 := tc_bind (.ref C)
  have isType : (⟨h, g, d, t, os⟩ : Shared).TypeIs (.ref C) "type" := ⟨_, hC, rfl⟩
  refine codeAny_of_tree ?_
  show wpAny _ _ (callAny (.ref C) _) _ _ _
  repeat (any_goals (first | assumption | with_reducible refine wpAny_loadPart_at hC ?_ | wp_step))
  refine ⟨rfl, ?_⟩
  refine codeAny_call_builtin_at (Code.quiet_builtin _ (by decide +kernel)) entry_typeCall (wpAny_check_type_call_sub hC (qk_type F hT hC hi hb ?_))
  refine codeAny_mono hq fun r s' z => ?_
  rcases r with e | (v | _ | _ | _) <;> exact z
end
end HandSPX
end PySem
namespace QT
open PySem PySem.Spec PyProof.Rows L2
/-- how keywords alone bind, behind self -/
def KwB (fd : FuncData) (ps ks : List Str) (g : List Value → List Value) : Prop := ∀ (s : Shared) (self : Value) (ws : List Value), ws.length = ks.length → BindsTo s fd ⟨[self], ks.zip ws⟩ (ps.zip (self :: g ws))
/-- C(k = e, ..), kept -/
def tOexK (C : Addr) (m : Nat) (sp : Sp) (gV : List V → List V) (tk : TA) : TE := fun σ H Q => tk σ H fun zs H1 => zs.length = m ∧ ∀ a, H1 a = none → sp (.ref a :: gV zs) (upd H1 a (exo a C none)) (fun v H2 => v = .non ∧ Q (.ref a) H2) E0
section
variable {X : Cx} {p pos : Pos} {kws : List Keyword} {tk : TA}
theorem pe_oexk {x : Str} {C fI : Addr} {k : Nat} {fd : FuncData} {ps ks : List Str} {sp : Sp} {g : List Value → List Value} {gV : List V → List V} (T : OexC X.K C) (iC : PySem.W.findIn X.K (.ref C) "__init__" = some (some (.ref fI))) (tI : PySem.W.typeIn X.K (.ref fI) = some (.type "function"))
    (F1 : FnOk X.prog X.w X.K X.mg X.base CX0 k fI fd ps sp) (hr : Room (k + 1) X.A) (hb : KwB fd ps ks g) (rel : ∀ {zs : List V} {ws : List Value}, Vals zs ws → Vals (gV zs) (g ws)) (hg : Gl X x) (hm : X.mg x = some (.ref C)) (hkw : PK X kws tk)
    (hall : (backToKw pos (keywordEach kws X.env)).all (·.1.isSome) = true := by rfl) (hks : (backToKw pos (keywordEach kws X.env)).filterMap (·.1) = ks := by rfl)
    (hdb : (x == ("__debug__" : Str)) = false := by decide) (hpl : ((backTo pos (starEach [] X.env)).any (·.1) || (backToKw pos (keywordEach kws X.env)).any (·.1.isNone)) = false := by rfl) :
    PE X (.Call (.Name x p) [] kws pos) (tOexK C ks.length sp gV tk) := by
  refine ⟨fun pins s σ H Q I h => ?_⟩
  obtain ⟨nm, q, N, bs, bm, sn, sub, ab, col, dd, k0, k1, k2, k3, k5, atC, chain⟩ := T.cls
  refine wpAny_Call_Name_kw (ld_glob I hg hm ?_ hdb)
  refine PySem.W.callWith_KW0 (h₀ := X.base) I.ok.mod.kin T.kC hall (thn (hkw.run pos pins s σ H _ I h) fun ws s1 ⟨zs, H1, I1, r1, many, asks⟩ => ⟨I1.kIn, ?_⟩) hpl
  rw [hks]
  show wpAny _ _ (call (.ref C) [] (ks.zip ws)) _ _ _
  obtain ⟨hp, gg, dr, tk', os⟩ := s1
  have above : hp.objs.size ≤ hp.objs.size + 1 := Nat.le_succ _
  have free : H1 (hp.objs.size + 1) = none := I1.hok.fresh above
  have ask := asks (hp.objs.size + 1) free
  have stays : ∀ b o, hp.get? b = some o → ((hp.push (PySem.W.kdv_tup [])).push (PySem.HandSPX.excO C hp.objs.size)).get? b = some o := fun b o z => Heap.get?_push_of_some _ (Heap.get?_push_of_some _ z)
  have there : ((hp.push (PySem.W.kdv_tup [])).push (PySem.HandSPX.excO C hp.objs.size)).get? (hp.objs.size + 1) = some (PySem.HandSPX.excO C hp.objs.size) := by heap_get
  have I2 : Inv X pins σ (upd H1 (hp.objs.size + 1) (exo (hp.objs.size + 1) C none)) ⟨(hp.push (PySem.W.kdv_tup [])).push (PySem.HandSPX.excO C hp.objs.size), gg, dr, tk', os⟩ :=
    I1.laid (t' := tk') (a := hp.objs.size + 1) (o := exo (hp.objs.size + 1) C none) (h' := (hp.push (PySem.W.kdv_tup [])).push (PySem.HandSPX.excO C hp.objs.size)) stays above (exo_ok there)
  have r2 : Vals (V.ref (hp.objs.size + 1) :: gV zs) (Value.ref (hp.objs.size + 1) :: g ws) := .cons rfl (rel r1)
  have wl : ws.length = ks.length := r1.length.symm.trans many
  refine wpAny_call (PySem.HandSPX.qk_call F.excBase_ValueError (fun Y => PySem.HandSPX.refsVE_contains Y bm chain) (I1.kIn _ _ atC) (PySem.W.looks_findIn I1.kIn iC) (fun self => PySem.W.bind_fn I1.kIn self tI)
    (codeAny_mono (F1.run _ X.stack _ _ ⟨[Value.ref (hp.objs.size + 1)], ks.zip ws⟩ (Value.ref (hp.objs.size + 1) :: g ws) _ _ E0 (hr.make C [] (ks.zip ws)) (I2.env0.make C [] (ks.zip ws)) (hb _ _ ws wl) r2 ask) fun r s' back => ?_))
  cases r with
  | error er => exact back.elim
  | ok fl =>
    cases fl with
    | ret u =>
      obtain ⟨v, H2, I3, rv, ev, q2⟩ := I2.after back
      subst ev
      exact ⟨rv, .ref (hp.objs.size + 1), H2, I3, rfl, q2⟩
    | next => exact False.elim back
    | brk => exact False.elim back
    | cont => exact False.elim back
end
end QT

/-! errors kept as values: their class and their methods -/
namespace QT
open PySem PySem.Spec PyProof.Rows L2
/-- an error of the class at C stands at a, its fields fs -/
def ErrAt (H : Hp) (a C : Addr) (fs : List (Str × V)) : Prop := (∃ d, H a = some (exo a C (some d)) ∧ H d = some (exd d fs)) ∨ (H a = some (ExO (.ref C) a) ∧ fs = [])
/-- what its class must say -/
structure ErrK (K : PySem.W.Frag) (C : Addr) : Prop where
  ga : PySem.W.findIn K (.ref C) "__getattribute__" = some (some (.builtin "BaseException.__getattribute__"))
  gg : PySem.W.findIn K (.ref C) "__getattr__" = some none
  cl : PySem.W.isClsIn K C = true
  ca : PySem.W.findIn K (.ref C) "__class__" = some (some (.builtin "object.__class__"))
  gn : PySem.W.specialIn K (.builtin "object.__class__") "__get__" = some (some (.builtin "getset_descriptor.__get__"))
  tk : PySem.W.takesIn K (.builtin "object.__class__") = some true
  mo : PySem.W.mroIn K C (.type "object") = some true
  sub : PySem.W.subIn K (.ref C) (.type "BaseException") = some true
theorem err_inst {X : Cx} {pins : List (Addr × Obj)} {σ : L2.St} {H : Hp} {s : Shared} {a C : Addr} {fs : List (Str × V)} (I : Inv X pins σ H s) (h : ErrAt H a C fs) :
    ∃ (ox : Obj) (od : Option Obj), PySem.W.InstAt s.heap a ox C od ∧ ∀ n, fs.lookup n = none → PySem.W.shadowIn od n = some false := by
  rcases h with ⟨d, ea, ed⟩ | ⟨ea, rfl⟩
  · obtain ⟨t1, ho⟩ := exo_at I.hok ea
    obtain ⟨mA, hns, rel⟩ := exd_at I.hok ed
    obtain ⟨od, hod, hl⟩ := lookIn_ns hns
    refine ⟨_, some od, ⟨ho, rfl, rfl, hod⟩, fun n hn => ?_⟩
    have z : mA n = none := RelO.none_of (by rw [← hn]; exact rel n)
    unfold PySem.W.shadowIn
    dsimp only
    rw [hl n, z]
    rfl
  · have z : ObjOk X.prog X.w H s.heap a (ExO (.ref C) a) := I.hok a _ ea
    obtain ⟨oe, vs, e, zc, dt, _⟩ := z.1
    obtain ⟨oc, od, oda, osl⟩ := oe
    obtain ⟨h1, h2⟩ := zc
    dsimp only at h1 h2 dt
    subst h1 h2 dt
    exact ⟨_, none, ⟨e, rfl, rfl, trivial⟩, fun n _ => rfl⟩
/-- isinstance(e, D) -/
def rIsErr (K : PySem.W.Frag) : List V → Hp → VK → Prop := fun xs H Q => ∃ (a C : Addr) (fs : List (Str × V)) (c : V) (cv : Value) (b : Bool), xs = [.ref a, c] ∧ ErrAt H a C fs ∧ ErrK K C ∧ (∀ u, RelV c u → u = cv) ∧ PySem.W.kitOne K (.ref C) cv = some b ∧ Q (.bl b) H
theorem call_isErr {X : Cx} : CallR X (.builtin "isinstance") (rIsErr X.K) := by
  intro pins s σ H xs us Q I r h
  obtain ⟨a, C, fs, c, cv, b, rfl, ea, E, hcv, e, q⟩ := h
  cases r with
  | cons rx rr =>
    cases rr with
    | cons rt rr =>
      cases rr
      cases rx
      have ec := hcv _ rt
      subst ec
      obtain ⟨ox, od, J, _⟩ := err_inst I ea
      exact PySem.W.kia_one (PySem.W.kitx_exc E.cl E.ga E.gg E.sub E.ca E.gn E.tk E.mo) I.kIn J e (fun z => nomatch z) fun tk => ⟨.bl b, H, I.kept (t' := tk) fun _ _ z => z, rfl, q⟩
/-- e.m() -/
def tErrM (X : Cx) (m : Str) (j : Nat) (te : TE) : TE := fun σ H Q => te σ H fun x H1 => ∃ (a C f : Addr) (fs : List (Str × V)) (fd : FuncData) (ps : List Str) (k : Nat) (sp : Sp), x = .ref a ∧ ErrAt H1 a C fs ∧ ErrK X.K C ∧ fs.lookup m = none ∧
  PySem.W.findIn X.K (.ref C) m = some (some (.ref f)) ∧ PySem.W.isFn X.K (.ref f) = true ∧ PySem.W.keepIn X.K (.ref f) = true ∧ FnOk X.prog X.w X.K X.mg X.base CX0 k f fd ps sp ∧ k ≤ j ∧ Binds X.K fd ps [] ∧ sp [.ref a] H1 Q E0
theorem pe_errM {X : Cx} {o : Expr} {te : TE} {m : Str} {j : Nat} {apos pos : Pos} {pl : Sem Bool} (hr : Room j X.A) (he : PE X o te)
    (ht : eval (.Call (.Attribute o m apos) [] [] pos) X.env = (do
      let ov ← eval o X.env
      standAt apos.atName
      let (f, first) ← holding [ov] (getMethod ov m pl)
      callWith pos f first (backTo pos (starEach [] X.env)) (backToKw pos (keywordEach [] X.env))) := by rfl) :
    PE X (.Call (.Attribute o m apos) [] [] pos) (tErrM X m j te) := by
  refine ⟨fun pins s σ H Q I h => ?_⟩
  refine PySem.W.methodCall_KW (pl := pl) (thn (he.run pins s σ H _ I h) fun u s1 ⟨x, H1, I1, rx, a, C, f, fs, fd, ps, k, sp, ex, ea, E, nl, hf, fn, kp, F, kj, hb, q⟩ => ?_) ht
  subst ex
  obtain rfl : u = Value.ref a := rx
  obtain ⟨ox, od, J, sh⟩ := err_inst I1 ea
  obtain ⟨m', fr⟩ := I1.fr
  refine PySem.W.method_exc fr I1.ok.mod.kin J E.ga E.gg hf fn (sh m nl) ?_
  exact PySem.W.callWith_K0 (first := [.ref a]) I1.kIn kp (run_fn (us := [.ref a]) (vs := [.ref a]) (dvs := []) (ds := []) F (hr.mono kj) hb .nil pass0 I1 (.cons rfl .nil) q)
end QT

/-! defs that are called where no repr is under way, so that they may ask repr -/
namespace QT
open PySem PySem.Spec PyProof.Rows L2
structure FnOkG (P : Program) (w : World) (K : PySem.W.Frag) (mg : Str → Option Value) (base : Heap) (k : Nat) (f : Addr) (fd : FuncData) (ps : List Str) (sp : Sp) : Prop where
  len : ∀ vs H Q E, sp vs H Q E → vs.length = ps.length
  run : ∀ (A : Around) (outer : List Env) (s : Shared) (H : Hp) (args : Args) (us : List Value) (vs : List V) (Q : VK) (E : XK), A.guards = some [] → Room k A → Env0 P w K mg base A outer s H → BindsTo s fd args (ps.zip us) → Vals vs us → sp vs H Q E →
    codeAny (model P w) A (.call (.ref f) args) (CR CX0 outer P w H s Q E) s
section
variable {P : Program} {w : World} {K : PySem.W.Frag} {mg : Str → Option Value} {base : Heap} {f : Addr} {fd : FuncData} {ps : List Str} {sp : Sp}
/-- a def by its body, where no repr is under way -/
theorem okG {x qual : Str} {st : Stmt} {k : Nat} {N : List Str} (F : Fun K x qual st f fd) (S : FnScope N ps (defScope st)) (len : ∀ vs H Q E, sp vs H Q E → vs.length = ps.length)
    (body : ∀ (cdv : Value) (A : Around) (outer : List Env) (s : Shared) (H : Hp) (vs : List V) (Q : VK) (E : XK), A.guards = some [] → Room k (A.deeper (envOfC qual (defScope st) s.heap.objs.size f cdv)) → sp vs H Q E →
      ∃ t, PSs (cxOf CX0 P w K mg base N qual (defScope st) f cdv A outer s H E).nox (defBody st) t ∧ t { nx := fun _ H' => Q .non H', rt := Q } (start N vs) H) : FnOkG P w K mg base (k + 1) f fd ps sp := by
  obtain ⟨oc, od, kV, doc, pm, an, cdv, ct, osl, rfl, atF, code⟩ := F.ex
  refine ⟨len, fun A outer s H args us vs Q E free room e0 bind vals promise => ?_⟩
  have count := len _ _ _ _ promise
  have inK : K.In s.heap := e0.mod.kin.keeps fun b o e => (e0.bs b o e).1
  have lim : s.heap.NoLimit := e0.mod.nolimit.keeps fun b o e => (e0.bs b o e).1
  have kinds : ∀ y ∈ ps.zip us, (defScope st).names.lookup y.1 = some .local ∨ ((defScope st).names.lookup y.1 = some .cell ∧ ((cellsFrom (s.heap.objs.size + 1) (defScope st).names []).lookup y.1).isSome = true) := fun ⟨n, v⟩ mem => by
    rcases S.par n (List.of_mem_zip mem).1 with q | q
    · exact .inl q
    · exact .inr ⟨q, PySem.W.cellsFrom_some _ _ _ (.inl q)⟩
  refine codeAny_call_function room.depth (inK _ _ atF) rfl S.co S.gen rfl (PySem.W.codeRec_of inK code) (bind _ _ _ _ ?_)
  refine wpAny_newFunctionEnv_cells S.kind kinds fun env same s1 inCall => ?_
  subst same
  refine ⟨lim.keeps inCall.toInCall.keep, codeAny_func ?_⟩
  obtain ⟨t, ht0, reads⟩ := body cdv A outer s H vs Q E free (room.deeper _) promise
  have ht := ht0.nox
  have I : Inv (cxOf CX0 P w K mg base N qual (defScope st) f cdv A outer s H E) [] (start N vs) H s1 := inv_start S room.hd e0 count vals inCall
  have fin : ∀ {σ' : L2.St} {H' : Hp} {v : V} {u : Value} {s' : Shared}, Inv (cxOf CX0 P w K mg base N qual (defScope st) f cdv A outer s H E) [] σ' H' s' → RelV v u → Q v H' → CE outer P w H s Q u s' :=
    fun {σ' H' v u s'} J rv q => ⟨v, H', J.os, J.bare, J.base, J.hok, rv, q⟩
  refine wpAny_mono (ht.run [] s1 (start N vs) H _ I reads) (fun fl s' ends => ?_) fun e s' ends => ends
  cases fl with
  | ret u =>
    obtain ⟨v, σ', H', J, rv, q⟩ := ends
    exact fin J rv q
  | next =>
    obtain ⟨σ', H', J, q⟩ := ends
    exact fin (v := V.non) (u := Value.none) J rfl q
  | brk | cont =>
    obtain ⟨_, _, _, q⟩ := ends
    exact False.elim q
end
structure CalG (P : Program) (w : World) (K : PySem.W.Frag) (mg : Str → Option Value) (base : Heap) (k : Nat) (x : Str) (sp : Sp) : Prop where
  ex : ∃ (f : Addr) (fd : FuncData) (ps : List Str), FnOkG P w K mg base k f fd ps sp ∧ mg x = some (.ref f) ∧ PySem.W.keepIn K (.ref f) = true ∧ Binds K fd ps []
section
variable {X : Cx} {k j : Nat} {x : Str} {sp : Sp} {p pos : Pos} {e : Expr} {es : List Expr} {t : TA}
theorem pe_cG (c : CalG X.prog X.w X.K X.mg X.base k x sp) (free : X.A.guards = some []) (hr : Room j X.A) (hk : k ≤ j) (hg : Gl X x) (ha : PA X (e :: es) t)
    (hdb : (x == ("__debug__" : Str)) = false := by decide) (he : starEach (e :: es) X.env = (false, eval e X.env) :: starEach es X.env := by rfl) (hpl : (backTo pos (starEach es X.env)).any (·.1) = false := by rfl) :
    PE X (.Call (.Name x p) (e :: es) [] pos) (tCall sp [] E0 t) := by
  obtain ⟨f, fd, ps, F, hm, kp, b⟩ := c.ex
  refine ⟨fun pins s σ H Q I h => ?_⟩
  refine wpAny_Call_Name_kw (ld_glob I hg hm ?_ hdb)
  refine PySem.W.callWith_K (h₀ := X.base) I.ok.mod.kin kp (thn (ha.run pos pins s σ H _ I h) fun us s1 ⟨vs, H1, I1, r, q⟩ => ⟨I1.kIn, ?_⟩) he hpl
  have q2 : sp vs H1 Q E0 := by
    have z : sp (vs ++ []) H1 Q E0 := q
    rw [List.append_nil] at z
    exact z
  have count : us.length = ps.length := by
    rw [← r.length]
    exact F.len _ _ _ _ q2
  have bound := b s1 us I1.kIn (by rw [List.append_nil]; exact count)
  rw [List.append_nil] at bound
  refine wpAny_call (codeAny_mono (F.run X.A X.stack s1 H1 ⟨us, []⟩ us vs Q E0 free (hr.mono hk) I1.env0 bound r q2) fun r s' back => ?_)
  cases r with
  | error e => exact False.elim back
  | ok fl =>
    cases fl with
    | ret u => exact I1.after back
    | next => exact False.elim back
    | brk => exact False.elim back
    | cont => exact False.elim back
/-- repr of a list or a tuple of data -/
def rReprD (K : PySem.W.Frag) : List V → Hp → VK → Prop := fun xs H Q => ∃ (a : Addr) (d : PyData), xs = [.ref a] ∧ Dp K H (.ref a) d ∧ d.showable = true ∧ d.hasDict = false ∧ d.shown.length ≤ sizeLine ∧ d.depth ≤ 60 ∧ Q (.str d.shown) H
theorem call_reprD (free : X.A.guards = some []) (hu : X.A.units + 64 < cLine) : CallR X (.builtin "repr") (rReprD X.K) := by
  intro pins s σ H xs us Q I r h
  obtain ⟨a, d, rfl, hd, sh, nd, len, dep, q⟩ := h
  cases r with
  | cons rx rr =>
    cases rr
    cases rx
    obtain ⟨as, reads⟩ := Dp.reads I d (.ref a) (.ref a) hd rfl
    refine repr_of_reads' reads sh (PySem.PyData.noDict_hsm nd) free (by omega) (fun b o z => z) (fun h' u tk k => ?_) len
    exact ⟨.str d.shown, H, I.kept (t' := tk) k, ⟨_, rfl⟩, q⟩
end
/-- the end: the law's promise from where nothing is under way -/
theorem law_callG {P : Program} {w : World} {K : PySem.W.Frag} {mg mb : Str → Option Value} {k : Nat} {fa a : Addr} {fd : FuncData} {x : Str} {sp : Sp} {s₁ : Shared} {vs : List Value} {ns : List Int}
    (KX : K.In s₁.heap) (hns : s₁.heap.Ns mainGlobals mg) (hb : s₁.heap.Ns builtinsNs mb) (hbb : ∀ x : Str, x ≠ "__name__" → mb x = bootBuiltins x) (hlim : s₁.heap.NoLimit) (hg : s₁.gens = #[])
    (ha : s₁.heap.get? a = some { cls := .type "list", data := .seq vs.toArray }) (hi : IntsAre vs ns) (hl : ns.length ≤ sizeLine) (hr : Room k callerA)
    (F : ∀ base : Heap, K.In base → base.Ns mainGlobals mg → FnOkG P w K mg base k fa fd [x] sp) (hbind : ∀ (s : Shared) (u : Value), BindsTo s fd ⟨[u], []⟩ [(x, u)])
    (hsp : ∀ H : Hp, Only H → SqL K H a (ns.map V.int) → sp [.ref a] H (fun v _ => v = .bl true) fun _ _ _ => False) :
    codeAny (model P w) callerA (.call (.ref fa) ⟨[.ref a], []⟩) (fun r s' => r = .ok (.ret (.bool true)) ∧ OldK s₁.heap s'.heap ∧ s'.os = s₁.os ∧ AllBare s'.gens) s₁ := by
  have vals := vals_ints hi
  have count := hi.length
  -- from a heap in which the script alone may be told of
  have from_ : ∀ H : Hp, Only H → SqL K H a (ns.map V.int) → HOk P w H s₁.heap → (∀ b, H b ≠ none → b = a) → (H a ≠ none → K.lookup a = none) →
      codeAny (model P w) callerA (.call (.ref fa) ⟨[.ref a], []⟩) (fun r s' => r = .ok (.ret (.bool true)) ∧ OldK s₁.heap s'.heap ∧ s'.os = s₁.os ∧ AllBare s'.gens) s₁ := by
    intro H only sq hok alone off
    have base_ : ∀ {b : Addr} {o : Obj}, s₁.heap.get? b = some o → H b = none → (hidT s₁.heap H).get? b = some o := fun e n => hidT_get e n
    have untold : ∀ {b : Addr} {o : Obj} {es : Array DictEntry} {ep : Nat}, s₁.heap.get? b = some o → o.data = .dict es ep → H b = none := fun {b o es ep} e d => by
      cases q : H b with
      | none => rfl
      | some u =>
        have eb : b = a := alone b (by rw [q]; simp)
        rw [eb, ha] at e
        cases e
        have z : Data.seq vs.toArray _ = Data.dict es ep := d
        cases z
    have ns_ : ∀ {b : Addr} {m : Str → Option Value}, s₁.heap.Ns b m → (hidT s₁.heap H).Ns b m := fun {b m} ⟨o, es, ep, e, d, r⟩ => ⟨o, es, ep, base_ e (untold e d), d, r⟩
    have inBase : K.In (hidT s₁.heap H) := fun b o e => base_ (KX b o e) (by
      cases q : H b with
      | none => rfl
      | some u =>
        have eb : b = a := alone b (by rw [q]; simp)
        rw [eb, off (by rw [← eb, q]; simp)] at e
        cases e)
    have modOk : Mod K mg (hidT s₁.heap H) := ⟨inBase, ns_ hns, ⟨mb, ns_ hb, hbb⟩, let ⟨mc, h1, h2⟩ := hlim; ⟨mc, ns_ h1, h2⟩⟩
    have e0 : Env0 P w K mg (hidT s₁.heap H) callerA [] s₁ H := ⟨rfl, modOk, fun b o e => of_hidT e, Nat.le_of_eq (hidT_size _ _), trivial, fun b z => absurd (show b ∈ ([] : List Addr) from z) (by simp), hok, .of_eq hg⟩
    refine codeAny_mono ((F _ inBase (ns_ hns)).run callerA [] s₁ H ⟨[.ref a], []⟩ [.ref a] [.ref a] _ _ rfl hr e0 (hbind s₁ (.ref a)) (.cons rfl .nil) (hsp H only sq)) fun r s' back => ?_
    cases r with
    | error e => exact False.elim back
    | ok fl =>
      cases fl with
      | next | brk | cont => exact False.elim back
      | ret u =>
        obtain ⟨v, H', os, bare, un, hok2, rv, q⟩ := back
        have qv : v = .bl true := q
        subst qv
        obtain rfl : u = Value.bool true := rv
        refine ⟨rfl, OldK.of_keep fun b o e => ?_, os, bare⟩
        cases q : H b with
        | none => exact un.keep b o e q (by intro z; exact absurd (show b ∈ ([] : List Addr) from z) (by simp)) (by simp)
        | some u =>
          rcases only b with z | ⟨ob, xs, z⟩
          · rw [q] at z
            cases z
          · obtain ⟨y1, _⟩ := hok b _ z
            obtain ⟨y2, _⟩ := hok2 b _ (un.frzs b ob _ z)
            rw [e] at y1
            cases y1
            exact y2
  cases hk : K.lookup a with
  | some o =>
    have e := KX a o hk
    rw [ha] at e
    cases e
    exact from_ (fun _ => none) (fun _ => .inl rfl) (.inr ⟨_, vs.toArray, _, hk, rfl, rfl, rfl, by rw [List.size_toArray, count]; exact hl, by simpa using vals⟩) (fun b u z => by cases (show (none : Option HO) = some u from z)) (fun b z => absurd rfl z) fun z => absurd rfl z
  | none =>
    refine from_ (fun b => if b = a then some (.frz { cls := .type "list", data := .seq vs.toArray } (.lst (ns.map V.int))) else none) (fun b => ?_) (.inl (.inr ⟨{ cls := .type "list", data := .seq vs.toArray }, if_pos rfl⟩)) (fun b u z => ?_) (fun b z => ?_) fun _ => hk
    · by_cases y : b = a
      · exact .inr ⟨_, _, if_pos y⟩
      · exact .inl (if_neg y)
    · by_cases y : b = a
      · have zz := (if_pos y).symm.trans z
        cases zz
        subst y
        exact ⟨ha, by rw [List.length_map]; exact hl, vs, _, vals, ha⟩
      · have zz := (if_neg y).symm.trans z
        cases zz
    · by_cases y : b = a
      · exact y
      · exact absurd (if_neg y) z
theorem walk_ofG {l : PySem.W.OpenLaw} {n k : Nat} {q : Program} {loose : List Str} {XP : (Str → Option Value) → Heap → Prop} {YP : World → Heap → Prop} {d : DefRec} {K : Params → PySem.W.Frag} {sp : World → Sp} {x : Str}
    (hn : l.most = some n) (hn2 : n ≤ sizeLine) (hdf : d.params.defaults = []) (hr : Room k callerA)
    (hY : ∀ (w : World) (h : Heap), YP w h → (K w.params).In h)
    (F : ∀ (w : World) (mg : Str → Option Value) (fa : Addr) (h : Heap), (K w.params).In h → h.Ns mainGlobals mg → mg d.name = some (.ref fa) →
      ∃ fd : FuncData, (∀ (s : Shared) (u : Value), BindsTo s fd ⟨[u], []⟩ [(x, u)]) ∧
        ∀ base : Heap, (K w.params).In base → base.Ns mainGlobals mg → FnOkG l.prog w (K w.params) mg base k fa fd [x] (sp w))
    (hsp : ∀ (w : World) (H : Hp) (a : Addr) (ns : List Int), ns.length ≤ n → (∀ z ∈ ns, Builtin.Int.intBits z ≤ 1048576) → Only H → SqL (K w.params) H a (ns.map V.int) → sp w [.ref a] H (fun v _ => v = .bl true) fun _ _ _ => False) :
    PySem.W.WalkO q loose XP YP l.row.toRowW d [] (fun f vs => PySem.call f vs) := by
  refine Att.attach_callB hn hdf fun w s₀ s₁ mg mb fa o pm cd doc a vs ns G Y ho hd hcd hmg hobj hints hlen hbits hg => ?_
  obtain ⟨fd, binds, ok⟩ := F w mg fa _ (hY w _ Y) G.T.g hmg
  exact law_callG (hY w _ Y) G.T.g G.T.b G.T.builtins G.T.nolimit hg hobj hints (Nat.le_trans hlen hn2) hr ok binds fun H hO hS => hsp w H a ns hlen hbits hO hS
end QT

/-! C() of an own error class without an __init__; T('x') of a built-in one: kept -/
namespace QT
open PySem PySem.Spec PyProof.Rows L2
section
variable {X : Cx} {p pos : Pos}
theorem pe_exc0 {C : Addr} {bmB : List Value} {B newId initId : String} {x : Str} (F : ExcBaseFacts B newId initId bmB) (q : PySem.W.excIn X.K C bmB newId = true) (gC : X.mg x = some (.ref C)) (kC : PySem.W.keepIn X.K (.ref C) = true) (hg : Gl X x)
    (hdb : (x == ("__debug__" : Str)) = false := by decide) :
    PE X (.Call (.Name x p) [] [] pos) (fun σ H Q => ∀ a, H a = none → Q (.ref a) (upd H a (ExO (.ref C) a))) := by
  refine ⟨fun pins s σ H Q I h => ?_⟩
  refine wpAny_Call_Name_kw (ld_glob I hg gC ?_ hdb)
  refine PySem.W.callWith_K0 I.kIn kC ?_
  show wpAny _ _ (call (.ref C) []) _ _ _
  obtain ⟨bm, N, nm, qn, bs, hdct, sn, sub, ab, col, dd, k0, k1, k2, k3, k5, mN, hC, hN, hni, T⟩ := exc_obj I.kIn q
  refine wpAny_call_exc_subT F T hC hN hni (fun h' a hm => ?_) (Nat.zero_le _)
  have hn : H a = none := I.hok.gone hm.new
  obtain ⟨t, ht, _, _⟩ := hm.there
  exact ⟨.ref a, upd H a (ExO (.ref C) a), I.laidN hm.keeps hm.new hn (exO_ok ht ⟨rfl, rfl⟩ rfl rfl rfl (show 4 < 6 by decide)), rfl, h a hn⟩
/-- an exception of a built-in class stands at a -/
def BexO (T : String) (a : Addr) : HO := .ext fun h => ∃ o, h.get? a = some o ∧ o.cls = .type T
theorem bexO_ok {P : Program} {w : World} {H : Hp} {h : Heap} {a : Addr} {T : String} {o : Obj} (e : h.get? a = some o) (c : o.cls = .type T) : ObjOk P w H h a (BexO T a) :=
  ⟨⟨o, e, c⟩, ⟨o, e⟩, fun _ _ ⟨u, q, r⟩ k => ⟨u, k u q, r⟩⟩
/-- T(e, ..) -/
theorem pe_bex {T N I' : String} {x : Str} {e : Expr} {es : List Expr} {t : TA} (F : ExcB T N I') (hg : Gl X x) (hm : X.mg x = none) (hv : bootBuiltins x = some (.type T)) (ha : PA X (e :: es) t) (hn : x ≠ "__name__" := by decide) (hdb : (x == ("__debug__" : Str)) = false := by decide)
    (hs : starEach (e :: es) X.env = (false, eval e X.env) :: starEach es X.env := by rfl) (hpl : (backTo pos (starEach es X.env)).any (·.1) = false := by rfl) :
    PE X (.Call (.Name x p) (e :: es) [] pos) (fun σ H Q => t σ H fun vs H1 => vs.length ≤ sizeLine ∧ ∀ a, H1 a = none → Q (.ref a) (upd H1 a (BexO T a))) := by
  refine ⟨fun pins s σ H Q J h => ?_⟩
  refine wpAny_Call_Name_kw (ld_blt J hg hm hv ?_ hn hdb)
  refine PyProof.Rows.callWith_type1 (thn (ha.run pos pins s σ H _ J h) fun us s1 hh => ?_) hs hpl
  obtain ⟨vs, H1, I1, r1, q0, q1⟩ := hh
  obtain ⟨hp1, g1, d1, tk1, os1⟩ := s1
  refine wpAny_call_exc F.call (fun h' a mk => ?_) (Nat.le_trans (Nat.le_of_eq r1.length.symm) q0)
  have m := PySem.Heap.MadeExc.of mk
  have free : H1 a = none := I1.hok.gone mk.new
  obtain ⟨t0, ht, _, _⟩ := m.there
  exact ⟨.ref a, upd H1 a (BexO T a), I1.laidN m.keeps m.new free (bexO_ok ht rfl), rfl, q1 a free⟩
/-- isinstance of such -/
def rIsVE (K : PySem.W.Frag) : List V → Hp → VK → Prop := fun xs H Q => ∃ (a : Addr) (c : V) (cv : Value) (b : Bool), xs = [.ref a, c] ∧ H a = some (BexO "ValueError" a) ∧ (∀ u, RelV c u → u = cv) ∧ PySem.W.kitOne K (.type "ValueError") cv = some b ∧ Q (.bl b) H
theorem call_isVE : CallR X (.builtin "isinstance") (rIsVE X.K) := by
  intro pins s σ H xs us Q I r h
  obtain ⟨a, c, cv, b, rfl, ea, hcv, e, q⟩ := h
  cases r with
  | cons rx rr =>
    cases rr with
    | cons rt rr =>
      cases rr
      cases rx
      have ec := hcv _ rt
      subst ec
      have z : ObjOk X.prog X.w H s.heap a (BexO "ValueError" a) := I.hok a _ ea
      exact PySem.W.kia_one (PySem.W.kitx_bexc PySem.F.excAttr_ValueError PySem.F.lkClass_ValueError PySem.F.soClass_ValueError (by decide)) I.kIn z.1 e (fun z => nomatch z) fun tk => ⟨.bl b, H, I.kept (t' := tk) fun _ _ z => z, rfl, q⟩
end
end QT

/-! The law's own helpers: draws, bytes of numbers. -/
namespace Q19
open PySem PySem.Spec PyProof.Rows L2 QT
def top (i : Nat) : Stmt := PySem.Challenge.pw_nestfile_k19_elements_that_are_no_bytes.main.body.getD i (.Pass ⟨0, 0, 0, 0⟩)
structure Txt (K : PySem.W.Frag) (mg : Str → Option Value) : Prop where
  z_len : mg "len" = none
  z_abs : mg "abs" = none
  z_int : mg "int" = none
  z_bool : mg "bool" = none
  z_list : mg "list" = none
  z_tuple : mg "tuple" = none
  z_isinstance : mg "isinstance" = none
  z_enumerate : mg "enumerate" = none
  z_range : mg "range" = none
  z_min : mg "min" = none
  z_max : mg "max" = none
theorem same_new {H : Hp} {p : Addr} {o : HO} (h : H p = none) : Same H (upd H p o) := fun b u e => by
  rw [upd_ne (ne_of_none e h)]
  exact e
theorem sz {n : Nat} (h : n ≤ 100000) : n ≤ sizeLine := Nat.le_trans h (by decide)
theorem szl {n : Nat} (h : n ≤ 100000) : n < sizeLine := Nat.lt_of_le_of_lt h (by decide)
theorem b01 {c : Prop} [Decidable c] : (0 : Int) ≤ (if c then 1 else 0) ∧ (if c then (1 : Int) else 0) ≤ 1 := by split <;> decide
theorem b64 {i : Int} (h : 0 ≤ i ∧ i ≤ 1) : -(2 ^ 64) < i ∧ i < 2 ^ 64 := ⟨by omega, by omega⟩
/-- a state of draws stands at s -/
def Stt (H : Hp) (s : Addr) : Prop := ∃ x y z : Int, H s = some (.lst [.int x, .int y, .int z]) ∧ 0 ≤ x ∧ 0 ≤ y ∧ y < 4294967296 ∧ 0 ≤ z ∧ z < 4294967296
/-- all stays but at s, where a state stands -/
structure Ext (s : Addr) (H H' : Hp) : Prop where
  keep : ∀ b o, b ≠ s → H b = some o → H' b = some o
  st : Stt H' s
theorem Ext.trans {s : Addr} {H H1 H2 : Hp} (a : Ext s H H1) (b : Ext s H1 H2) : Ext s H H2 := ⟨fun x o n e => b.keep x o n (a.keep x o n e), b.st⟩
theorem Ext.refl {s : Addr} {H : Hp} (h : Stt H s) : Ext s H H := ⟨fun _ _ _ e => e, h⟩
theorem Stt.ex {s : Addr} {H H' : Hp} (h : Stt H s) (e : Same H H') : Stt H' s := by
  obtain ⟨x, y, z, a, b⟩ := h
  exact ⟨x, y, z, e _ _ a, b⟩
theorem Ext.of {s : Addr} {H H' : Hp} (e : Same H H') (h : Stt H s) : Ext s H H' := ⟨fun b o _ q => e b o q, h.ex e⟩
theorem Ext.ex {s : Addr} {H H1 H2 : Hp} (a : Ext s H H1) (e : Same H1 H2) : Ext s H H2 := ⟨fun b o n q => e b o (a.keep b o n q), a.st.ex e⟩
theorem Ext.new {s : Addr} {H H1 : Hp} {p : Addr} {o : HO} (a : Ext s H H1) (h : H1 p = none) : Ext s H (upd H1 p o) := a.ex (same_new h)
theorem Stt.ne {s p : Addr} {H : Hp} (h : Stt H s) (q : H p = none) : p ≠ s := fun e => by
  obtain ⟨_, _, _, a, _⟩ := h
  rw [← e, q] at a
  cases a
theorem Ext.fresh {s : Addr} {H H' : Hp} (a : Ext s H H') {p : Addr} (q : H' p = none) (n : p ≠ s) : H p = none := by
  cases e : H p with
  | none => rfl
  | some o =>
    have z := a.keep p o n e
    rw [q] at z
    cases z
def spState : Sp := fun vs H Q _ => ∃ n : Int, vs = [.int n] ∧ ∀ (H' : Hp) (p : Addr), H p = none → Same H H' → Stt H' p → Q (.ref p) H'
def spDigit : Sp := fun vs H Q _ => ∃ (s : Addr) (b : Int), vs = [.ref s, .int b] ∧ Stt H s ∧ 0 < b ∧ b < 1000000000 ∧ ∀ (H' : Hp) (d : Int), Ext s H H' → 0 ≤ d → d < b → Q (.int d) H'
/-- a list of bytes stands at p, at most n -/
def ByL (H : Hp) (p : Addr) (n : Nat) : Prop := ∃ ns : List Int, H p = some (.lst (ns.map V.int)) ∧ (∀ k ∈ ns, 0 ≤ k ∧ k < 256) ∧ ns.length ≤ n
def spOctets : Sp := fun vs H Q _ => ∃ (n c : Int), vs = [.int n, .int c] ∧ 0 ≤ c ∧ c ≤ 20 ∧ ∀ (H' : Hp) (p : Addr), H p = none → Same H H' → ByL H' p c.toNat → Q (.ref p) H'
theorem ifT {c : Bool} {A B : Prop} (h : c = true) (a : A) : if c = true then A else B := by
  rw [if_pos h]
  exact a
theorem ifF {c : Bool} {A B : Prop} (h : c = false) (b : B) : if c = true then A else B := by
  rw [h, if_neg Bool.false_ne_true]
  exact b
/-- side conditions; and the plain steps of a reading -/
local macro_rules | `(tactic| walk_at "sd") => `(tactic| first
  | assumption | decide | omega | exact b64 b01 | (show (0 : Int) < _; first | decide | omega) | exact ⟨by decide, by decide, by decide⟩ | exact ⟨by decide, by decide⟩ | exact ⟨by omega, by omega⟩
  | exact .inl ⟨by omega, by omega⟩ | exact .inr ⟨by omega, by omega⟩ | exact sz (by simp) | exact szl (by simp))
local macro_rules | `(tactic| walk_at "rd") => `(tactic| repeat (first
  | refine ⟨_, rfl, ?_⟩
  | refine ⟨_, _, rfl, rfl, ?_⟩
  | refine ⟨_, _, _, _, rfl, rfl, SqL.of (by first | assumption | exact upd_same), rfl, ?_⟩
  | refine .inl ⟨_, rfl, ?_⟩
  | refine .inr ⟨_, rfl, ?_⟩
  | refine ⟨_, _, _, _, rfl, rfl, (by first | assumption | exact upd_same), rfl, ?_⟩
  | refine And.intro (by walk_at "sd") ?_))
section
variable {P : Program} {w : World} {K : PySem.W.Frag} {mg : Str → Option Value} {base : Heap} {f : Addr} {fd : FuncData}

abbrev s__law_state : Stmt := top 86
theorem sc__law_state : FnScope ["_law_source"] ["_law_source"] (defScope s__law_state) := ⟨rfl, rfl, rfl, by decide +kernel, rfl, by decide +kernel, by decide +kernel⟩
theorem ok_state (F : Fun K "_law_state" "_law_state" s__law_state f fd) (T : Txt K mg) : FnOk P w K mg base CX0 1 f fd ["_law_source"] spState := by
  refine F.ok sc__law_state (fun vs H Q E h => ?_) (fun cdv A outer s H vs Q E hr h => ?_)
  · obtain ⟨n, rfl, _⟩ := h
    rfl
  · obtain ⟨n, rfl, k⟩ := h
    refine ⟨_, (pss_cons (ps_set (i := 0) sc__law_state.nd rfl (Or.inl rfl) (pe_callB call_abs (by rfl) T.z_abs (by decide +kernel) (pa_cons (pv 0) pa_nil)))
      (pss_one (ps_ret (pe_lst (pa_cons (pe_op op_mul (pv 0) (pe_callTy call_int1 (by rfl) T.z_int (by decide +kernel) (pa_cons (pe_cmpR op_ge (pv 0) (pe_op op_pow pe_int pe_int) (nomark _)) pa_nil))) (pa_cons (pe_op op_add (pe_op op_mod (pe_callTy call_int1 (by rfl) T.z_int (by decide +kernel) (pa_cons (pv 0) pa_nil)) pe_int) pe_int) (pa_cons (pe_op op_mod (pe_callTy call_int1 (by rfl) T.z_int (by decide +kernel) (pa_cons (pv 0) pa_nil)) pe_int) pa_nil))))))), ?_⟩
    refine ⟨_, rfl, n, rfl, ?_⟩
    refine ⟨_, rfl, _, rfl, _, _, rfl, rfl, ⟨by decide, by decide, by decide⟩, _, _, rfl, rfl, .inr ⟨_, rfl, _, _, rfl, rfl, .inr (b64 b01), ?_⟩⟩
    refine ⟨_, rfl, .inl ⟨_, rfl, _, _, rfl, rfl, (by show (0 : Int) < 2147483629; decide), _, _, rfl, rfl, _, rfl, .inl ⟨_, rfl, _, _, rfl, rfl, (by show (0 : Int) < 2147483587; decide), sz (by simp), fun p hp => ?_⟩⟩⟩
    have habs : 0 ≤ (if n < 0 then -n else n) := by split <;> omega
    refine k _ p hp (same_new hp) ⟨_, _, _, upd_same, ?_, ?_, ?_, ?_, ?_⟩
    · exact Int.mul_nonneg habs b01.1
    · omega
    · omega
    · omega
    · omega

abbrev s__law_digit : Stmt := top 87
theorem sc__law_digit : FnScope ["_law_state_here", "_law_base", "_law_found", "_law_mixed"] ["_law_state_here", "_law_base"] (defScope s__law_digit) := ⟨rfl, rfl, rfl, by decide +kernel, rfl, by decide +kernel, by decide +kernel⟩
theorem ok_digit (F : Fun K "_law_digit" "_law_digit" s__law_digit f fd) (T : Txt K mg) : FnOk P w K mg base CX0 1 f fd ["_law_state_here", "_law_base"] spDigit := by
  refine F.ok sc__law_digit (fun vs H Q E h => ?_) (fun cdv A outer s H vs Q E hr h => ?_)
  · obtain ⟨s, b, rfl, _⟩ := h
    rfl
  · obtain ⟨p, b, rfl, ⟨x, y, z, hs, hx, hy, hy2, hz, hz2⟩, hb, hb2, k⟩ := h
    refine ⟨_, (pss_cons (ps_if (pt_cmpR op_gt (pe_ix ix_list (pv 0) pe_int (fun _ _ => rfl)) pe_int (nomark _))
      (pss_cons (ps_set (i := 2) sc__law_digit.nd rfl (Or.inl rfl) (pe_op op_mod (pe_callTy call_int1 (by rfl) T.z_int (by decide +kernel) (pa_cons (pe_ix ix_list (pv 0) pe_int (fun _ _ => rfl)) pa_nil)) (pv 1)))
        (pss_cons (ps_asg (pe_op op_fdiv (pe_ix ix_list (pv 0) pe_int (fun _ _ => rfl)) (pv 1)) (pg_sub (pv 0) pe_int set_list))
        (pss_one (ps_ret (pv 2)))))
      pss_nil)
      (pss_cons (ps_set (i := 3) sc__law_digit.nd rfl (Or.inl rfl) (pe_op op_mul (pe_ix ix_list (pv 0) pe_int (fun _ _ => rfl)) (pe_op op_add (pe_op op_fdiv (pe_ix ix_list (pv 0) pe_int (fun _ _ => rfl)) pe_int) pe_int)))
      (pss_cons (ps_asg (pe_op op_add (pe_op op_mod (pe_callTy call_int1 (by rfl) T.z_int (by decide +kernel) (pa_cons (pe_op op_add (pv 3) (pe_ix ix_list (pv 0) pe_int (fun _ _ => rfl))) pa_nil)) pe_int) pe_int) (pg_sub (pv 0) pe_int set_list))
      (pss_one (ps_ret (pe_op op_mod (pe_callTy call_int1 (by rfl) T.z_int (by decide +kernel) (pa_cons (pe_op op_fdiv (pe_ix ix_list (pv 0) pe_int (fun _ _ => rfl)) pe_int) pa_nil)) (pv 1))))))), ?_⟩
    walk_at "rd"
    by_cases big : 0 < x
    · refine ifT (decide_eq_true big) ?_
      walk_at "rd"
      refine k _ _ ⟨fun a o n e => by rw [upd_ne n]; exact e, _, _, _, upd_same, ?_, hy, hy2, hz, hz2⟩ (Int.emod_nonneg _ (by omega)) (Int.emod_lt_of_pos _ hb)
      exact Int.ediv_nonneg hx (by omega)
    · refine ifF (decide_eq_false big) ?_
      walk_at "rd"
      refine k _ _ ⟨fun a o n e => by rw [upd_ne n]; exact e, _, _, _, upd_same, hx, ?_, ?_, hz, hz2⟩ (Int.emod_nonneg _ (by omega)) (Int.emod_lt_of_pos _ hb)
      · omega
      · omega

abbrev s__law_octets : Stmt := top 88
theorem sc__law_octets : FnScope ["_law_number", "_law_count", "_law_found", "_law_turn"] ["_law_number", "_law_count"] (defScope s__law_octets) := ⟨rfl, rfl, rfl, by decide +kernel, rfl, by decide +kernel, by decide +kernel⟩
theorem ok_octets (F : Fun K "_law_octets" "_law_octets" s__law_octets f fd) (T : Txt K mg) : FnOk P w K mg base CX0 1 f fd ["_law_number", "_law_count"] spOctets := by
  refine F.ok sc__law_octets (fun vs H Q E h => ?_) (fun cdv A outer s H vs Q E hr h => ?_)
  · obtain ⟨n, c, rfl, _⟩ := h
    rfl
  · obtain ⟨n, c, rfl, hc, hc2, k⟩ := h
    refine ⟨_, (pss_cons (ps_set (i := 2) sc__law_octets.nd rfl (Or.inl rfl) (pe_lst pa_nil))
      (pss_cons (ps_for PassesOwn.never rfl (pi_range1 (by rfl) T.z_range (pa_cons (pv 1) pa_nil)) (pg_name (i := 3) sc__law_octets.nd rfl (Or.inl rfl))
      (pss_cons (ps_expr (pe_bm PySem.F.plainAttrs_list PySem.F.slot_list_append PySem.F.type_list_append mt_append (pv 2) (pa_cons (pe_op op_mod (pe_callTy call_int1 (by rfl) T.z_int (by decide +kernel) (pa_cons (pv 0) pa_nil)) pe_int) pa_nil)))
        (pss_one (ps_set (i := 0) sc__law_octets.nd rfl (Or.inl rfl) (pe_op op_fdiv (pv 0) pe_int)))))
      (pss_one (ps_ret (pe_revL (pv 2)))))), ?_⟩
    refine ⟨Nat.zero_le _, fun p hp => ?_⟩
    walk_at "rd"
    refine for_it walk_range (fun i σ H' => ∃ (m : Int) (ns : List Int) (t : Option V), σ = [some (.int m), some (.int c), some (.ref p), t] ∧ Same H H' ∧ H' p = some (.lst (ns.map V.int)) ∧ (∀ k ∈ ns, 0 ≤ k ∧ k < 256) ∧ ns.length = i)
      ⟨n, [], none, rfl, same_new hp, upd_same, by simp, rfl⟩ (fun _ _ _ _ _ => trivial) ?_ ?_
    · rintro i x σ H1 H' hi ⟨m, ns, t, rfl, sm, hl, hb, hn⟩ ⟨rfl, rfl⟩
      refine ⟨_, rfl, .inl ⟨rfl, _, SqL.of hl⟩, ?_⟩
      walk_at "rd"
      refine ⟨_, _, _, rfl, rfl, hl, szl (by rw [List.length_map, hn]; omega), ?_⟩
      walk_at "rd"
      refine ⟨_, ns ++ [m % 256], _, rfl, fun b o e => ?_, ?_, ?_, ?_⟩
      · rw [upd_ne (ne_of_none e hp)]
        exact sm b o e
      · rw [upd_same, List.map_append]
        rfl
      · intro q hq
        rcases List.mem_append.mp hq with z | z
        · exact hb q z
        · rw [List.mem_singleton.mp z]
          omega
      · rw [List.length_append, List.length_singleton, hn]
    · rintro σ H1 ⟨m, ns, t, rfl, sm, hl, hb, hn⟩
      refine ⟨_, rfl, _, _, rfl, SqL.of hl, fun q hq => ?_⟩
      refine k _ q (sm.free hq) (sm.trans (same_new hq)) ⟨ns.reverse, by rw [upd_same, List.map_reverse], fun z hz => hb z (List.mem_reverse.mp hz), ?_⟩
      rw [List.length_reverse, hn]
      exact Nat.le_refl _
end
end Q19

/-! shuffled, leaf -/
namespace Q19
open PySem PySem.Spec PyProof.Rows L2 QT
theorem dp_ints {K : PySem.W.Frag} {H : Hp} : ∀ ns : List Int, DpAll K H (ns.map V.int) (ns.map PyData.int)
  | [] => .nil
  | n :: r => .cons (.int n) (dp_ints r)
theorem eqv_nil : ∀ ns : List Int, PyData.eqv (.list (ns.map PyData.int)) (.list []) = ns.isEmpty
  | [] => rfl
  | _ :: _ => rfl
theorem shaped_nil : SeqAt.shaped (.list []) = true := by decide
theorem canAll : ∀ ns : List Int, PyData.canLayAll0 (ns.map PyData.int) = true
  | [] => rfl
  | n :: r => by
    show (true && PyData.canLayAll0 (r.map PyData.int)) = true
    rw [canAll r]
    rfl
theorem depthAll_ints : ∀ ns : List Int, PyData.depthAll (ns.map PyData.int) = 0
  | [] => rfl
  | n :: r => by
    show max 0 (PyData.depthAll (r.map PyData.int)) = 0
    rw [depthAll_ints r]
    rfl
theorem shaped_ints (ns : List Int) : SeqAt.shaped (.list (ns.map PyData.int)) = true := by
  show (PyData.canLayAll0 (ns.map PyData.int) && decide (PyData.depthAll (ns.map PyData.int) + 1 ≤ 64)) = true
  rw [canAll, depthAll_ints]
  rfl
theorem eraseInts (ns : List Int) (i : Nat) : (ns.map V.int).eraseIdx i = (ns.eraseIdx i).map V.int := by
  rw [List.eraseIdx_eq_take_drop_succ, List.eraseIdx_eq_take_drop_succ, List.map_append, List.map_take, List.map_drop]
theorem ix_in {n : Nat} {d : Int} (h0 : 0 ≤ d) (h1 : d < (n : Int)) : seqIndex? d n = some d.toNat := by
  have neg : ¬ d < 0 := by omega
  have inside : (decide (0 ≤ d) && decide (d < (n : Int))) = true := by simp [h0, h1]
  show (if (decide (0 ≤ (if d < 0 then d + n else d)) && decide ((if d < 0 then d + n else d) < (n : Int))) = true then some (if d < 0 then d + n else d).toNat else none) = _
  rw [if_neg neg, if_pos inside]
def spShuffled (K : PySem.W.Frag) : Sp := fun vs H Q _ => ∃ (s a : Addr) (ns : List Int), vs = [.ref s, .ref a] ∧ Stt H s ∧ a ≠ s ∧ SqL K H a (ns.map V.int) ∧ ns.length ≤ 1000 ∧
  ∀ (H' : Hp) (p : Addr) (ms : List Int), H p = none → Ext s H H' → H' p = some (.lst (ms.map V.int)) → (∀ m ∈ ms, m ∈ ns) → ms.length = ns.length → Q (.ref p) H'
/-- side conditions; and the plain steps of a reading -/
local macro_rules | `(tactic| walk_at "sd") => `(tactic| first
  | assumption | decide | omega | exact b64 b01 | (show (0 : Int) < _; first | decide | omega) | exact ⟨by decide, by decide, by decide⟩ | exact ⟨by decide, by decide⟩ | exact ⟨by omega, by omega⟩
  | exact .inl ⟨by omega, by omega⟩ | exact .inr ⟨by omega, by omega⟩ | exact sz (by simp) | exact szl (by simp))
local macro_rules | `(tactic| walk_at "rd") => `(tactic| repeat (first
  | refine ⟨_, rfl, ?_⟩
  | refine ⟨_, _, rfl, rfl, ?_⟩
  | refine ⟨_, _, _, _, rfl, rfl, SqL.of (by first | assumption | exact upd_same), rfl, ?_⟩
  | refine .inl ⟨_, rfl, ?_⟩
  | refine .inr ⟨_, rfl, ?_⟩
  | refine ⟨_, _, _, _, rfl, rfl, (by first | assumption | exact upd_same), rfl, ?_⟩
  | refine And.intro (by walk_at "sd") ?_))
section
variable {P : Program} {w : World} {K : PySem.W.Frag} {mg : Str → Option Value} {base : Heap} {f : Addr} {fd : FuncData}

abbrev s__law_shuffled : Stmt := top 89
theorem sc__law_shuffled : FnScope ["_law_s", "_law_items", "_law_left", "_law_found"] ["_law_s", "_law_items"] (defScope s__law_shuffled) := ⟨rfl, rfl, rfl, by decide +kernel, rfl, by decide +kernel, by decide +kernel⟩
theorem ok_shuffled (F : Fun K "_law_shuffled" "_law_shuffled" s__law_shuffled f fd) (T : Txt K mg) (c_digit : Cal P w K mg base 1 "_law_digit" spDigit) : FnOk P w K mg base CX0 2 f fd ["_law_s", "_law_items"] (spShuffled K) := by
  refine F.ok sc__law_shuffled (fun vs H Q E h => ?_) (fun cdv A outer st H vs Q E hr h => ?_)
  · obtain ⟨s, a, ns, rfl, _⟩ := h
    rfl
  · obtain ⟨s, a, ns, rfl, hs, has, hns, hlen, k⟩ := h
    refine ⟨_, (pss_cons (ps_set (i := 2) sc__law_shuffled.nd rfl (Or.inl rfl) (pe_callTy call_list_of (by rfl) T.z_list (by decide +kernel) (pa_cons (pv 1) pa_nil)))
      (pss_cons (ps_set (i := 3) sc__law_shuffled.nd rfl (Or.inl rfl) (pe_lst pa_nil))
      (pss_cons (ps_while PassesOwn.never (pt_cmpR (op_neD hr.units) (pv 2) (pe_lst pa_nil) (nomark _))
      (pss_one (ps_expr (pe_bm PySem.F.plainAttrs_list PySem.F.slot_list_append PySem.F.type_list_append mt_append (pv 3) (pa_cons (pe_bm PySem.F.plainAttrs_list PySem.F.slot_list_pop PySem.F.type_list_pop mt_popAt (pv 2) (pa_cons (pe_c c_digit hr (by decide) (by rfl) (pa_cons (pv 0) (pa_cons (pe_callB call_len_seq (by rfl) T.z_len PySem.boot_len (pa_cons (pv 2) pa_nil)) pa_nil))) pa_nil)) pa_nil)))))
      (pss_one (ps_ret (pv 3)))))), ?_⟩
    refine ⟨_, rfl, a, _, rfl, .inl hns, fun l hl => ?_⟩
    refine ⟨Nat.zero_le _, fun p hp => ?_⟩
    have hlp : l ≠ p := fun z => by
      subst z
      rw [upd_same] at hp
      cases hp
    have hls : l ≠ s := hs.ne hl
    have hp0 : H p = none := by
      rw [upd_ne hlp.symm] at hp
      exact hp
    have hps : p ≠ s := hs.ne hp0
    refine ⟨fun m σ H' => ∃ (ls ms : List Int), m = ls.length ∧ σ = [some (.ref s), some (.ref a), some (.ref l), some (.ref p)] ∧ Ext s H H' ∧ H' l = some (.lst (ls.map V.int)) ∧ H' p = some (.lst (ms.map V.int)) ∧ (∀ z ∈ ls, z ∈ ns) ∧ (∀ z ∈ ms, z ∈ ns) ∧ ls.length + ms.length = ns.length,
      ⟨ns.length, ns, [], rfl, rfl, (Ext.of (same_new hl) hs).new hp, by rw [upd_ne hlp, upd_same], upd_same, fun z q => q, by simp, by simp⟩, ?_⟩
    rintro m σ H' ⟨ls, ms, rfl, rfl, ex, h1, h2, m1, m2, hz⟩
    refine ⟨_, rfl, Nat.zero_le _, fun q hq => ?_⟩
    have hql : l ≠ q := ne_of_none h1 hq
    refine ⟨.list (ls.map PyData.int), .list [], .lst (SqL.of (by rw [upd_ne hql]; exact h1)) (dp_ints ls), .lst (SqL.of upd_same) .nil, shaped_ints ls, shaped_nil, _, rfl, ?_⟩
    rw [eqv_nil]
    have hqp : p ≠ q := ne_of_none h2 hq
    have ex1 : Ext s H (upd H' q (.lst [])) := ex.new hq
    cases ls with
    | nil =>
      refine ifF rfl ?_
      refine ⟨_, rfl, ?_⟩
      exact k _ p _ hp0 ex1 (by rw [upd_ne hqp]; exact h2) m2 (by simpa using hz)
    | cons z0 zs =>
      refine ifT rfl ?_
      refine ⟨fun σ' H2 => ∃ (ls ms : List Int), ls.length = zs.length ∧ σ' = [some (.ref s), some (.ref a), some (.ref l), some (.ref p)] ∧ Ext s H H2 ∧ H2 l = some (.lst (ls.map V.int)) ∧ H2 p = some (.lst (ms.map V.int)) ∧ (∀ z ∈ ls, z ∈ ns) ∧ (∀ z ∈ ms, z ∈ ns) ∧ ls.length + ms.length = ns.length,
        fun σ' H2 ⟨ls, ms, e, r⟩ => ⟨ls.length, by rw [e]; exact Nat.lt_succ_self _, ls, ms, rfl, r⟩, ?_⟩
      refine ⟨_, rfl, .inl ⟨rfl, _, SqL.of (by rw [upd_ne hqp]; exact h2)⟩, ?_⟩
      refine ⟨_, rfl, .inl ⟨rfl, _, SqL.of (by rw [upd_ne hql]; exact h1)⟩, ?_⟩
      refine ⟨_, rfl, _, rfl, _, _, rfl, .inl (SqL.of (by rw [upd_ne hql]; exact h1)), ?_⟩
      refine ⟨s, _, rfl, ex1.st, ?_, ?_, fun H2 d x2 d0 d1 => ?_⟩
      · rw [List.length_map, List.length_cons]
        omega
      · rw [List.length_map]
        omega
      have e1 : H2 l = some (.lst ((z0 :: zs).map V.int)) := x2.keep _ _ hls (by rw [upd_ne hql]; exact h1)
      have e2 : H2 p = some (.lst (ms.map V.int)) := x2.keep _ _ hps (by rw [upd_ne hqp]; exact h2)
      have dlt : d.toNat < (z0 :: zs).length := by
        rw [List.length_map] at d1
        omega
      have lenB : (z0 :: zs).length ≤ 1000 := by omega
      refine ⟨l, _, d, d.toNat, V.int ((z0 :: zs)[d.toNat]), rfl, rfl, e1, by omega, ?_, ?_, ?_, ?_⟩
      · rw [List.length_map] at d1
        omega
      · exact ix_in d0 d1
      · rw [List.getElem?_map, List.getElem?_eq_getElem dlt]
        rfl
      have npl : p ≠ l := hlp.symm
      refine ⟨p, _, _, rfl, rfl, by rw [upd_ne npl]; exact e2, szl (by rw [List.length_map]; omega), ?_⟩
      refine ⟨(z0 :: zs).eraseIdx d.toNat, ms ++ [(z0 :: zs)[d.toNat]], ?_, rfl, ?_, ?_, ?_, ?_, ?_, ?_⟩
      · rw [List.length_eraseIdx_of_lt dlt]
        rfl
      · have x3 := ex1.trans x2
        refine ⟨fun b o n e => ?_, ?_⟩
        · have nbl : b ≠ l := ne_of_none e hl
          have nbp : b ≠ p := ne_of_none e hp0
          rw [upd_ne nbp, upd_ne nbl]
          exact x3.keep b o n e
        · obtain ⟨i, j, y, q1, q2⟩ := x3.st
          exact ⟨i, j, y, by rw [upd_ne hps.symm, upd_ne hls.symm]; exact q1, q2⟩
      · rw [upd_ne hlp, upd_same, eraseInts]
      · rw [upd_same, List.map_append]
        rfl
      · exact fun z q => m1 z (List.mem_of_mem_eraseIdx q)
      · intro z q
        rcases List.mem_append.mp q with q | q
        · exact m2 z q
        · rw [List.mem_singleton.mp q]
          exact m1 _ (List.getElem_mem dlt)
      · rw [List.length_eraseIdx_of_lt dlt, List.length_append, List.length_singleton]
        have : (z0 :: zs).length = zs.length + 1 := rfl
        omega
end
end Q19


/-! leaf -/
namespace Q19
open PySem PySem.Spec PyProof.Rows L2 QT
theorem ByL.same {H H' : Hp} {p : Addr} {n : Nat} (h : ByL H p n) (e : Same H H') : ByL H' p n := by
  obtain ⟨ns, a, b⟩ := h
  exact ⟨ns, e _ _ a, b⟩
theorem ByL.mono {H : Hp} {p : Addr} {n m : Nat} (h : ByL H p n) (e : n ≤ m) : ByL H p m := by
  obtain ⟨ns, a, b, c⟩ := h
  exact ⟨ns, a, b, Nat.le_trans c e⟩
theorem ByL.ext {s : Addr} {H H' : Hp} {p : Addr} {n : Nat} (h : ByL H p n) (e : Ext s H H') (ne : p ≠ s) : ByL H' p n := by
  obtain ⟨ns, a, b⟩ := h
  exact ⟨ns, e.keep _ _ ne a, b⟩
/-- evaluates to a new list of at most n bytes -/
def EvB (n : Nat) (te : TE) : Prop := ∀ (σ : L2.St) (H : Hp) (Q : VK), (∀ p H', H p = none → Same H H' → ByL H' p n → Q (.ref p) H') → te σ H Q
def consts : List Int → TA
  | [] => tNil
  | n :: r => tCons (tC (.int n)) (consts r)
theorem run_consts : ∀ (ns : List Int) (σ : L2.St) (H : Hp) (Q : List V → Hp → Prop), Q (ns.map V.int) H → consts ns σ H Q
  | [], _, _, _, q => q
  | n :: r, σ, H, Q, q => run_consts r σ H _ q
theorem evb_lst {n : Nat} (ns : List Int) (h : ∀ k ∈ ns, 0 ≤ k ∧ k < 256) (hl : ns.length ≤ n) (hn : n ≤ 1000) : EvB n (tLst (consts ns)) := fun σ H Q q =>
  run_consts ns σ H _ ⟨sz (by rw [List.length_map]; omega), fun p hp => q p _ hp (same_new hp) ⟨ns, upd_same, h, hl⟩⟩
theorem evb_cat {K : PySem.W.Frag} {n m : Nat} {ta tb : TE} (ha : EvB n ta) (hb : EvB m tb) (hnm : n + m ≤ 1000) : EvB (n + m) (tOp (rCatS K) ta tb) := fun σ H Q q =>
  ha σ H _ fun p H1 hp s1 b1 => hb σ H1 _ fun r H2 hr s2 b2 => by
    obtain ⟨ns, a1, a2, a3⟩ := b1.same s2
    obtain ⟨ms, d1, d2, d3⟩ := b2
    refine ⟨p, r, _, _, rfl, rfl, SqL.of a1, SqL.of d1, sz (by rw [List.length_map, List.length_map]; omega), fun x hx => ?_⟩
    refine q x _ (s1.free (s2.free hx)) ((s1.trans s2).trans (same_new hx)) ⟨ns ++ ms, by rw [upd_same, List.map_append], fun k hk => ?_, by rw [List.length_append]; omega⟩
    rcases List.mem_append.mp hk with z | z
    · exact a2 k z
    · exact d2 k z
theorem evb_rep {n : Nat} {ta : TE} (k : Nat) (ha : EvB n ta) (hn : n ≤ 1000) (hk : k ≤ 30) : EvB (n * k) (tOp rRep ta (tC (.int (k : Int)))) := fun σ H Q q =>
  ha σ H _ fun p H1 hp s1 b1 => by
    obtain ⟨ns, a1, a2, a3⟩ := b1
    have e : (List.replicate ((k : Int).toNat) (ns.map V.int)).flatten = ((List.replicate k ns).flatten).map V.int := by
      rw [Int.toNat_natCast, List.map_flatten, List.map_replicate]
    have hl : ((List.replicate k ns).flatten).length = ns.length * k := by
      rw [List.length_flatten, List.map_replicate, List.sum_replicate_nat, Nat.mul_comm]
    have small : ns.length * k ≤ n * k := Nat.mul_le_mul_right k a3
    have big : n * k ≤ 30000 := Nat.le_trans (Nat.mul_le_mul hn hk) (by decide)
    refine ⟨p, _, _, rfl, rfl, a1, by omega, by omega, sz (by rw [List.length_map, Int.toNat_natCast]; omega), fun x hx => ?_⟩
    refine q x _ (s1.free hx) (s1.trans (same_new hx)) ⟨(List.replicate k ns).flatten, by rw [upd_same, e], fun j hj => ?_, by rw [hl]; exact small⟩
    obtain ⟨l, hl1, hl2⟩ := List.mem_flatten.mp hj
    rw [List.eq_of_mem_replicate hl1] at hl2
    exact a2 j hl2
theorem EvB.mono {n m : Nat} {te : TE} (h : EvB n te) (e : n ≤ m) : EvB m te := fun σ H Q q => h σ H Q fun p H' a b c => q p H' a b (c.mono e)
/-- some lists of bytes, all new -/
def Bys (H0 H : Hp) (as : List Addr) : Prop := ∀ a ∈ as, H0 a = none ∧ ByL H a 40
theorem Bys.same {H0 H H' : Hp} {as : List Addr} (h : Bys H0 H as) (e : Same H H') : Bys H0 H' as := fun a m => ⟨(h a m).1, (h a m).2.same e⟩
def EvBs (ta : TA) : Prop := ∀ (σ : L2.St) (H : Hp) (Q : List V → Hp → Prop), (∀ as H', Same H H' → Bys H H' as → as.length ≤ 30 → Q (as.map V.ref) H') → ta σ H Q
/-- .. k of them -/
def EvBk (k : Nat) (ta : TA) : Prop := ∀ (σ : L2.St) (H : Hp) (Q : List V → Hp → Prop), (∀ as H', Same H H' → Bys H H' as → as.length = k → Q (as.map V.ref) H') → ta σ H Q
theorem evbk_nil : EvBk 0 tNil := fun _ H _ q => q [] H (Same.refl H) (by intro a h; cases h) rfl
theorem evbk_cons {k n : Nat} {te : TE} {ta : TA} (h : EvB n te) (hn : n ≤ 40) (r : EvBk k ta) : EvBk (k + 1) (tCons te ta) := fun σ H Q q =>
  h σ H _ fun p H1 hp s1 b1 => r σ H1 _ fun as H2 s2 b2 e => by
    refine q (p :: as) H2 (s1.trans s2) (fun a m => ?_) (by rw [List.length_cons, e])
    rcases List.mem_cons.mp m with z | z
    · rw [z]
      exact ⟨hp, (b1.same s2).mono hn⟩
    · exact ⟨s1.free (b2 a z).1, (b2 a z).2⟩
/-- a list of k such stands at p -/
def Lsb (H0 H : Hp) (p : Addr) (k : Nat) : Prop := ∃ as : List Addr, H p = some (.lst (as.map V.ref)) ∧ Bys H0 H as ∧ as.length = k
theorem Bys.back {H0 H1 H : Hp} {as : List Addr} (h : Bys H1 H as) (e : Same H0 H1) : Bys H0 H as := fun a m => ⟨e.free (h a m).1, (h a m).2⟩
def spLeaf : Sp := fun vs H Q _ => ∃ s : Addr, vs = [.ref s] ∧ Stt H s ∧ ∀ (H' : Hp) (p : Addr), H p = none → Ext s H H' → ByL H' p 40 → Q (.ref p) H'
theorem use_b {n : Nat} {te : TE} {ta : TA} {σ : L2.St} {H : Hp} {Q : List V → Hp → Prop} (h : EvB n te) (q : ∀ p H', H p = none → Same H H' → ByL H' p n → ta σ H' (fun vs H2 => Q (.ref p :: vs) H2)) : tCons te ta σ H Q := h σ H _ q
theorem use_bk {k : Nat} {ta : TA} {σ : L2.St} {H : Hp} {Q : List V → Hp → Prop} (h : EvBk k ta) (q : ∀ as H', Same H H' → Bys H H' as → as.length = k → Q (as.map V.ref) H') : ta σ H Q := h σ H Q q
/-- list + display, both of lists of bytes -/
theorem lsb_cat {K : PySem.W.Frag} {H0 H H1 : Hp} {p q : Addr} {k j : Nat} {bs : List Addr} {Q : VK} (S : Same H0 H) (L : Lsb H0 H p k) (s : Same H H1) (b : Bys H H1 bs) (e : bs.length = j) (m : H1 q = none) (hk : k + j ≤ 1000)
    (g : ∀ (G : Hp) (x : Addr), H0 x = none → Same H0 G → Lsb H0 G x (k + j) → Q (.ref x) G) : rCatS K (.ref p) (.ref q) (upd H1 q (.lst (bs.map V.ref))) Q := by
  obtain ⟨as, a1, a2, a3⟩ := L
  have s2 : Same H (upd H1 q (.lst (bs.map V.ref))) := s.trans (same_new m)
  refine ⟨p, q, _, _, rfl, rfl, SqL.of (s2 _ _ a1), SqL.of upd_same, sz (by rw [List.length_map, List.length_map]; omega), fun x hx => ?_⟩
  refine g _ x (S.free (s2.free hx)) ((S.trans s2).trans (same_new hx)) ⟨as ++ bs, by rw [upd_same, List.map_append], fun a ha => ?_, by rw [List.length_append]; omega⟩
  rcases List.mem_append.mp ha with z | z
  · exact ⟨(a2 a z).1, ((a2 a z).2.same s2).same (same_new hx)⟩
  · exact ⟨S.free (b a z).1, ((b a z).2.same (same_new m)).same (same_new hx)⟩
/-- side conditions; and the plain steps of a reading -/
local macro_rules | `(tactic| walk_at "sd") => `(tactic| first
  | assumption | decide | omega | exact b64 b01 | (show (0 : Int) < _; first | decide | omega) | exact ⟨by decide, by decide, by decide⟩ | exact ⟨by decide, by decide⟩ | exact ⟨by omega, by omega⟩
  | exact .inl ⟨by omega, by omega⟩ | exact .inr ⟨by omega, by omega⟩ | exact sz (by simp) | exact szl (by simp))
local macro_rules | `(tactic| walk_at "rd") => `(tactic| repeat (first
  | refine ⟨_, rfl, ?_⟩
  | refine ⟨_, _, rfl, rfl, ?_⟩
  | refine ⟨_, _, _, _, rfl, rfl, SqL.of (by first | assumption | exact upd_same), rfl, ?_⟩
  | refine .inl ⟨_, rfl, ?_⟩
  | refine .inr ⟨_, rfl, ?_⟩
  | refine ⟨_, _, _, _, rfl, rfl, (by first | assumption | exact upd_same), rfl, ?_⟩
  | refine And.intro (by walk_at "sd") ?_))
section
variable {P : Program} {w : World} {K : PySem.W.Frag} {mg : Str → Option Value} {base : Heap} {f : Addr} {fd : FuncData}
abbrev s__law_leaf : Stmt := top 90
theorem sc__law_leaf : FnScope ["_law_s", "_law_some"] ["_law_s"] (defScope s__law_leaf) := ⟨rfl, rfl, rfl, by decide +kernel, rfl, by decide +kernel, by decide +kernel⟩
theorem ok_leaf (F : Fun K "_law_leaf" "_law_leaf" s__law_leaf f fd) (T : Txt K mg) (c_digit : Cal P w K mg base 1 "_law_digit" spDigit) : FnOk P w K mg base CX0 2 f fd ["_law_s"] spLeaf := by
  refine F.ok sc__law_leaf (fun vs H Q E h => ?_) (fun cdv A outer st H vs Q E hr h => ?_)
  · obtain ⟨s, rfl, _⟩ := h
    rfl
  · obtain ⟨s, rfl, hs, k⟩ := h
    refine ⟨_, (pss_cons (ps_set (i := 1) sc__law_leaf.nd rfl (Or.inl rfl) (pe_lst (pa_cons (pe_lst (pa_cons pe_int pa_nil)) (pa_cons (pe_lst (pa_cons pe_int pa_nil)) (pa_cons (pe_lst (pa_cons pe_int pa_nil)) (pa_cons (pe_lst (pa_cons pe_int (pa_cons pe_int pa_nil))) (pa_cons (pe_lst (pa_cons pe_int (pa_cons pe_int (pa_cons pe_int pa_nil)))) (pa_cons (pe_lst (pa_cons pe_int (pa_cons pe_int (pa_cons pe_int (pa_cons pe_int (pa_cons pe_int pa_nil)))))) (pa_cons (pe_op op_catS (pe_lst (pa_cons pe_int pa_nil)) (pe_op op_rep (pe_lst (pa_cons pe_int pa_nil)) pe_int)) (pa_cons (pe_op op_catS (pe_op op_catS (pe_lst (pa_cons pe_int pa_nil)) (pe_op op_rep (pe_lst (pa_cons pe_int pa_nil)) pe_int)) (pe_op op_rep (pe_lst (pa_cons pe_int pa_nil)) pe_int)) pa_nil))))))))))
      (pss_cons (ps_set (i := 1) sc__law_leaf.nd rfl (Or.inl rfl) (pe_op op_catS (pv 1) (pe_lst (pa_cons (pe_lst (pa_cons pe_int pa_nil)) (pa_cons (pe_lst (pa_cons pe_int (pa_cons pe_int (pa_cons pe_int pa_nil)))) (pa_cons (pe_lst (pa_cons pe_int (pa_cons pe_int pa_nil))) (pa_cons (pe_lst (pa_cons pe_int (pa_cons pe_int (pa_cons pe_int pa_nil)))) (pa_cons (pe_lst (pa_cons pe_int pa_nil)) (pa_cons (pe_lst (pa_cons pe_int (pa_cons pe_int (pa_cons pe_int pa_nil)))) (pa_cons (pe_lst (pa_cons pe_int (pa_cons pe_int (pa_cons pe_int (pa_cons pe_int (pa_cons pe_int pa_nil)))))) (pa_cons (pe_lst (pa_cons pe_int (pa_cons pe_int pa_nil))) (pa_cons (pe_lst (pa_cons pe_int (pa_cons pe_int pa_nil))) pa_nil))))))))))))
      (pss_cons (ps_set (i := 1) sc__law_leaf.nd rfl (Or.inl rfl) (pe_op op_catS (pv 1) (pe_lst (pa_cons (pe_lst (pa_cons pe_int (pa_cons pe_int (pa_cons pe_int (pa_cons pe_int pa_nil))))) (pa_cons (pe_lst (pa_cons pe_int (pa_cons pe_int (pa_cons pe_int (pa_cons pe_int (pa_cons pe_int pa_nil)))))) (pa_cons (pe_op op_catS (pe_lst (pa_cons pe_int pa_nil)) (pe_op op_rep (pe_lst (pa_cons pe_int pa_nil)) pe_int)) (pa_cons (pe_op op_catS (pe_lst (pa_cons pe_int pa_nil)) (pe_op op_rep (pe_lst (pa_cons pe_int pa_nil)) pe_int)) (pa_cons (pe_op op_catS (pe_lst (pa_cons pe_int (pa_cons pe_int (pa_cons pe_int pa_nil)))) (pe_op op_rep (pe_lst (pa_cons pe_int pa_nil)) pe_int)) pa_nil))))))))
      (pss_cons (ps_set (i := 1) sc__law_leaf.nd rfl (Or.inl rfl) (pe_op op_catS (pv 1) (pe_lst (pa_cons (pe_lst (pa_cons pe_int (pa_cons pe_int (pa_cons pe_int (pa_cons pe_int (pa_cons pe_int pa_nil)))))) (pa_cons (pe_lst (pa_cons pe_int (pa_cons pe_int (pa_cons pe_int (pa_cons pe_int (pa_cons pe_int pa_nil)))))) (pa_cons (pe_lst (pa_cons pe_int (pa_cons pe_int (pa_cons pe_int (pa_cons pe_int (pa_cons pe_int pa_nil)))))) (pa_cons (pe_op op_catS (pe_op op_catS (pe_lst (pa_cons pe_int (pa_cons pe_int pa_nil))) (pe_op op_rep (pe_lst (pa_cons pe_int pa_nil)) pe_int)) (pe_lst (pa_cons pe_int (pa_cons pe_int (pa_cons pe_int (pa_cons pe_int pa_nil)))))) pa_nil)))))))
      (pss_one (ps_ret (pe_ix ix_list (pv 1) (pe_c c_digit hr (by decide) (by rfl) (pa_cons (pv 0) (pa_cons (pe_callB call_len_seq (by rfl) T.z_len PySem.boot_len (pa_cons (pv 1) pa_nil)) pa_nil))) (fun _ _ => rfl)))))))), ?_⟩
    refine use_seq (use_set (use_lst (use_bk (k := 8) ?_ fun as1 H1 s1 b1 e1 => ?_)))
    · refine evbk_cons (evb_lst [0] (by decide) (Nat.le_refl _) (by decide)) (by decide) ?_
      refine evbk_cons (evb_lst [8] (by decide) (Nat.le_refl _) (by decide)) (by decide) ?_
      refine evbk_cons (evb_lst [9] (by decide) (Nat.le_refl _) (by decide)) (by decide) ?_
      refine evbk_cons (evb_lst [16, 200] (by decide) (Nat.le_refl _) (by decide)) (by decide) ?_
      refine evbk_cons (evb_lst [17, 1, 2] (by decide) (Nat.le_refl _) (by decide)) (by decide) ?_
      refine evbk_cons (evb_lst [18, 0, 0, 0, 1] (by decide) (Nat.le_refl _) (by decide)) (by decide) ?_
      refine evbk_cons (evb_cat (evb_lst [19] (by decide) (Nat.le_refl _) (by decide)) (evb_rep 8 (evb_lst [255] (by decide) (Nat.le_refl _) (by decide)) (by decide) (by decide)) (by decide)) (by decide) ?_
      refine evbk_cons (evb_cat (evb_cat (evb_lst [20] (by decide) (Nat.le_refl _) (by decide)) (evb_rep 8 (evb_lst [0] (by decide) (Nat.le_refl _) (by decide)) (by decide) (by decide)) (by decide)) (evb_rep 8 (evb_lst [255] (by decide) (Nat.le_refl _) (by decide)) (by decide) (by decide)) (by decide)) (by decide) ?_
      exact evbk_nil
    refine ⟨sz (by rw [List.length_map]; omega), fun p1 n1 => ?_⟩
    have L1 : Lsb H (upd H1 p1 (.lst (as1.map V.ref))) p1 8 := ⟨as1, upd_same, b1.same (same_new n1), e1⟩
    have S1 := s1.trans (same_new (o := .lst (as1.map V.ref)) n1)
    have z1 := s1.free n1
    dsimp only
    refine use_seq (use_set (use_op (use_var rfl (use_lst (use_bk (k := 9) ?_ fun bs2 H2 s2 b2 e2 => ?_)))))
    · refine evbk_cons (evb_lst [64] (by decide) (Nat.le_refl _) (by decide)) (by decide) ?_
      refine evbk_cons (evb_lst [66, 7, 7] (by decide) (Nat.le_refl _) (by decide)) (by decide) ?_
      refine evbk_cons (evb_lst [81, 97] (by decide) (Nat.le_refl _) (by decide)) (by decide) ?_
      refine evbk_cons (evb_lst [82, 98, 37] (by decide) (Nat.le_refl _) (by decide)) (by decide) ?_
      refine evbk_cons (evb_lst [80] (by decide) (Nat.le_refl _) (by decide)) (by decide) ?_
      refine evbk_cons (evb_lst [97, 0, 97] (by decide) (Nat.le_refl _) (by decide)) (by decide) ?_
      refine evbk_cons (evb_lst [98, 0, 97, 1, 2] (by decide) (Nat.le_refl _) (by decide)) (by decide) ?_
      refine evbk_cons (evb_lst [81, 10] (by decide) (Nat.le_refl _) (by decide)) (by decide) ?_
      refine evbk_cons (evb_lst [128, 5] (by decide) (Nat.le_refl _) (by decide)) (by decide) ?_
      exact evbk_nil
    refine ⟨sz (by rw [List.length_map]; omega), fun q2 m2 => ?_⟩
    refine lsb_cat S1 L1 s2 b2 e2 m2 (by decide) fun G2 p2 z2 S2 L2 => ?_
    dsimp only
    refine use_seq (use_set (use_op (use_var rfl (use_lst (use_bk (k := 5) ?_ fun bs3 H3 s3 b3 e3 => ?_)))))
    · refine evbk_cons (evb_lst [130, 1, 2, 3] (by decide) (Nat.le_refl _) (by decide)) (by decide) ?_
      refine evbk_cons (evb_lst [34, 1, 2, 3, 4] (by decide) (Nat.le_refl _) (by decide)) (by decide) ?_
      refine evbk_cons (evb_cat (evb_lst [35] (by decide) (Nat.le_refl _) (by decide)) (evb_rep 8 (evb_lst [9] (by decide) (Nat.le_refl _) (by decide)) (by decide) (by decide)) (by decide)) (by decide) ?_
      refine evbk_cons (evb_cat (evb_lst [51] (by decide) (Nat.le_refl _) (by decide)) (evb_rep 8 (evb_lst [1] (by decide) (Nat.le_refl _) (by decide)) (by decide) (by decide)) (by decide)) (by decide) ?_
      refine evbk_cons (evb_cat (evb_lst [95, 16, 15] (by decide) (Nat.le_refl _) (by decide)) (evb_rep 15 (evb_lst [99] (by decide) (Nat.le_refl _) (by decide)) (by decide) (by decide)) (by decide)) (by decide) ?_
      exact evbk_nil
    refine ⟨sz (by rw [List.length_map]; omega), fun q3 m3 => ?_⟩
    refine lsb_cat S2 L2 s3 b3 e3 m3 (by decide) fun G3 p3 z3 S3 L3 => ?_
    dsimp only
    refine use_seq (use_set (use_op (use_var rfl (use_lst (use_bk (k := 4) ?_ fun bs4 H4 s4 b4 e4 => ?_)))))
    · refine evbk_cons (evb_lst [79, 16, 2, 5, 5] (by decide) (Nat.le_refl _) (by decide)) (by decide) ?_
      refine evbk_cons (evb_lst [95, 17, 0, 1, 98] (by decide) (Nat.le_refl _) (by decide)) (by decide) ?_
      refine evbk_cons (evb_lst [111, 16, 1, 0, 99] (by decide) (Nat.le_refl _) (by decide)) (by decide) ?_
      refine evbk_cons (evb_cat (evb_cat (evb_lst [79, 19] (by decide) (Nat.le_refl _) (by decide)) (evb_rep 7 (evb_lst [0] (by decide) (Nat.le_refl _) (by decide)) (by decide) (by decide)) (by decide)) (evb_lst [3, 1, 2, 3] (by decide) (Nat.le_refl _) (by decide)) (by decide)) (by decide) ?_
      exact evbk_nil
    refine ⟨sz (by rw [List.length_map]; omega), fun q4 m4 => ?_⟩
    refine lsb_cat S3 L3 s4 b4 e4 m4 (by decide) fun G4 p4 z4 S4 L4 => ?_
    dsimp only
    obtain ⟨as, a1, a2, a3⟩ := L4
    have x4 : Ext s H G4 := Ext.of S4 hs
    refine ⟨_, rfl, _, rfl, _, rfl, p4, _, rfl, .inl (SqL.of a1), ?_⟩
    refine ⟨s, _, rfl, x4.st, ?_, ?_, fun H5 d x5 d0 d1 => ?_⟩
    · rw [List.length_map, a3]
      decide
    · rw [List.length_map, a3]
      decide
    rw [List.length_map, a3] at d1
    have p4s : p4 ≠ s := hs.ne z4
    have lt : d.toNat < as.length := by omega
    have at_ : atI (as.map V.ref) d = some (V.ref as[d.toNat]) := by
      unfold atI ixN
      rw [if_pos d0, if_pos (by rw [List.length_map, a3]; exact d1)]
      show (as.map V.ref)[d.toNat]? = _
      rw [List.getElem?_map, List.getElem?_eq_getElem lt]
      rfl
    refine ⟨p4, _, d, _, rfl, rfl, SqL.of (x5.keep _ _ p4s a1), at_, ?_⟩
    have m := a2 _ (List.getElem_mem lt)
    exact k _ _ m.1 (x4.trans x5) (m.2.ext x5 (hs.ne m.1))
end
end Q19


/-! bodies -/
namespace Q19
open PySem PySem.Spec PyProof.Rows L2 QT
/-- the list at p holds lists of bytes, all new -/
structure In (s : Addr) (H0 H : Hp) (p : Addr) (as : List Addr) : Prop where
  ex : Ext s H0 H
  np : H0 p = none
  hp : H p = some (.lst (as.map V.ref))
  bs : ∀ a ∈ as, H0 a = none ∧ a ≠ p ∧ ByL H a 40
section
variable {s : Addr} {H0 H H' : Hp} {p b : Addr} {as : List Addr}
theorem ne_s (h : Stt H0 s) {a : Addr} (n : H0 a = none) : a ≠ s := h.ne n
theorem In.next (h : In s H0 H p as) (h0 : Stt H0 s) (e : Ext s H H') : In s H0 H' p as :=
  ⟨h.ex.trans e, h.np, e.keep _ _ (h0.ne h.np) h.hp, fun a m => ⟨(h.bs a m).1, (h.bs a m).2.1, (h.bs a m).2.2.ext e (h0.ne (h.bs a m).1)⟩⟩
theorem In.same (h : In s H0 H p as) (h0 : Stt H0 s) (e : Same H H') : In s H0 H' p as := h.next h0 (Ext.of e h.ex.st)
theorem In.free (h : In s H0 H p as) (h0 : Stt H0 s) {a : Addr} (n : H a = none) : H0 a = none ∧ a ≠ p ∧ a ≠ s := by
  have ns : a ≠ s := h.ex.st.ne n
  exact ⟨h.ex.fresh n ns, (fun z => by rw [z, h.hp] at n; cases n), ns⟩
theorem byl_ne {n : Nat} (h : ByL H b n) (e : H p = none) : b ≠ p := fun z => by
  obtain ⟨_, q, _⟩ := h
  rw [z, e] at q
  cases q
/-- one more -/
theorem In.push (h : In s H0 H p as) (h0 : Stt H0 s) (n : H0 b = none) (ne : b ≠ p) (hb : ByL H b 40) : In s H0 (upd H p (.lst ((as ++ [b]).map V.ref))) p (as ++ [b]) := by
  have nps : p ≠ s := h0.ne h.np
  refine ⟨⟨fun x o nx e => ?_, ?_⟩, h.np, upd_same, fun a m => ?_⟩
  · rw [upd_ne (ne_of_none e h.np)]
    exact h.ex.keep x o nx e
  · obtain ⟨x, y, z, q, r⟩ := h.ex.st
    exact ⟨x, y, z, by rw [upd_ne nps.symm]; exact q, r⟩
  · have go : ∀ {c : Addr}, c ≠ p → ByL H c 40 → ByL (upd H p (.lst ((as ++ [b]).map V.ref))) c 40 := fun {c} nc ⟨ns, q, r⟩ => ⟨ns, by rw [upd_ne nc]; exact q, r⟩
    rcases List.mem_append.mp m with z | z
    · exact ⟨(h.bs a z).1, (h.bs a z).2.1, go (h.bs a z).2.1 (h.bs a z).2.2⟩
    · rw [List.mem_singleton.mp z]
      exact ⟨n, ne, go ne hb⟩
theorem cut_mem (ms : List Int) (lo hi : Option Int) : ∃ ks : List Int, cutV (ms.map V.int) lo hi = ks.map V.int ∧ ks.length ≤ ms.length ∧ ∀ k ∈ ks, k ∈ ms := by
  refine ⟨(ms.drop (HT.sIx (ms.map V.int).length 0 lo)).take (HT.sIx (ms.map V.int).length (ms.map V.int).length hi - HT.sIx (ms.map V.int).length 0 lo), ?_, ?_, fun k h => List.mem_of_mem_drop (List.mem_of_mem_take h)⟩
  · unfold cutV
    rw [List.map_take, List.map_drop]
  · rw [List.length_take, List.length_drop]
    omega
-- kl3
theorem cut_ints (ms : List Int) (lo hi : Option Int) : ∃ ks : List Int, cutV (ms.map V.int) lo hi = ks.map V.int ∧ ks.length ≤ ms.length := by
  refine ⟨(ms.drop (HT.sIx (ms.map V.int).length 0 lo)).take (HT.sIx (ms.map V.int).length (ms.map V.int).length hi - HT.sIx (ms.map V.int).length 0 lo), ?_, ?_⟩
  · unfold cutV
    rw [List.map_take, List.map_drop]
  · rw [List.length_take, List.length_drop]
    omega
/-- body + octets(..): a new list, longer -/
theorem cat_oct2 {K : PySem.W.Frag} {n m : Nat} {q : Addr} {Q : VK} (h : In s H0 H p as) (h0 : Stt H0 s) (hb : ByL H b n) (hq : ByL H q m) (hnm : n + m ≤ 1000)
    (k : ∀ (H' : Hp) (x : Addr), Same H H' → In s H0 H' p as → H0 x = none → x ≠ p → ByL H' x (n + m) → Q (.ref x) H') : rCatS K (.ref b) (.ref q) H Q := by
  obtain ⟨ns, a1, a2, a3⟩ := hb
  obtain ⟨ms, d1, d2, d3⟩ := hq
  refine ⟨b, q, _, _, rfl, rfl, SqL.of a1, SqL.of d1, sz (by rw [List.length_map, List.length_map]; omega), fun x hx => ?_⟩
  obtain ⟨f1, f2, f3⟩ := h.free h0 hx
  refine k _ x (same_new hx) (h.same h0 (same_new hx)) f1 f2 ⟨ns ++ ms, by rw [upd_same, List.map_append], fun j hj => ?_, by rw [List.length_append]; omega⟩
  rcases List.mem_append.mp hj with z | z
  · exact a2 j z
  · exact d2 j z
def rLen (K : PySem.W.Frag) : List V → Hp → VK → Prop := fun xs H Q => ∃ p ys, xs = [.ref p] ∧ (SqL K H p ys ∨ SqT K H p ys) ∧ Q (.int ys.length) H
/-- for k in range(count): body = body + octets(digit(s, len(found)), width) -/
def tInner (K : PySem.W.Frag) : TS := tFor (iRng1 (tCons (tVar 5) tNil)) (gName 7) (tAsg (tOp (rCatS K) (tVar 6) (tCall spOctets [] E0 (tCons (tCall spDigit [] E0 (tCons (tVar 0) (tCons (tCB (rLen K) (tCons (tVar 2) tNil)) tNil))) (tCons (tVar 1) tNil)))) (gName 6))
theorem inner {K : PySem.W.Frag} {D : Ends} {w c : Int} {t wy kk key : Option V} {n : Nat} (h0 : Stt H0 s) (h : In s H0 H p as) (hl : 1 ≤ as.length) (hl2 : as.length ≤ 30) (hw : 1 ≤ w) (hw2 : w ≤ 3) (hc : 0 ≤ c) (hc2 : c ≤ 4)
    (nb : H0 b = none) (neb : b ≠ p) (hb : ByL H b n) (hn : n ≤ 19)
    (k : ∀ (H' : Hp) (x : Addr) (kk : Option V), In s H0 H' p as → H0 x = none → x ≠ p → ByL H' x (n + 3 * c.toNat) → D.nx [some (.ref s), some (.int w), some (.ref p), t, wy, some (.int c), some (.ref x), kk, key] H') :
    tInner K D [some (.ref s), some (.int w), some (.ref p), t, wy, some (.int c), some (.ref b), kk, key] H := by
  refine ⟨_, rfl, c, rfl, by omega, by omega, ?_⟩
  refine for_it walk_range (fun i σ H' => ∃ (x : Addr) (kk : Option V), σ = [some (.ref s), some (.int w), some (.ref p), t, wy, some (.int c), some (.ref x), kk, key] ∧ In s H0 H' p as ∧ H0 x = none ∧ x ≠ p ∧ ByL H' x (n + 3 * i))
    ⟨b, kk, rfl, h, nb, neb, hb⟩ (fun _ _ _ _ _ => trivial) ?_ ?_
  · rintro i x σ H1 H' hi ⟨y, k2, rfl, h1, ny, ney, hy⟩ ⟨rfl, rfl⟩
    refine ⟨_, rfl, _, rfl, _, rfl, p, _, rfl, .inl (SqL.of h1.hp), ?_⟩
    refine ⟨s, _, rfl, h1.ex.st, by rw [List.length_map]; omega, by rw [List.length_map]; omega, fun H2 d x2 d0 d1 => ?_⟩
    refine ⟨_, rfl, _, _, rfl, by omega, by omega, fun H3 q nq s3 b3 => ?_⟩
    have h2 := h1.next h0 x2
    have h3 := h2.same h0 s3
    refine cat_oct2 h3 h0 ((hy.ext x2 (h0.ne ny)).same s3) (b3.mono (m := 3) (by omega)) (by omega) fun H4 z _ h4 nz nez hz => ?_
    exact ⟨z, _, rfl, h4, nz, nez, hz.mono (by omega)⟩
  · rintro σ H1 ⟨y, k2, rfl, h1, ny, ney, hy⟩
    exact k _ y k2 h1 ny ney hy
end
def spBodies : Sp := fun vs H Q _ => ∃ (s : Addr) (w : Int), vs = [.ref s, .int w] ∧ Stt H s ∧ 1 ≤ w ∧ w ≤ 3 ∧ ∀ (H' : Hp) (p : Addr) (as : List Addr), In s H H' p as → 3 ≤ as.length → as.length ≤ 10 → Q (.ref p) H'
/-- side conditions; and the plain steps of a reading -/
local macro_rules | `(tactic| walk_at "sd") => `(tactic| first
  | assumption | decide | omega | exact b64 b01 | (show (0 : Int) < _; first | decide | omega) | exact ⟨by decide, by decide, by decide⟩ | exact ⟨by decide, by decide⟩ | exact ⟨by omega, by omega⟩
  | exact .inl ⟨by omega, by omega⟩ | exact .inr ⟨by omega, by omega⟩ | exact sz (by simp) | exact szl (by simp))
local macro_rules | `(tactic| walk_at "rd") => `(tactic| repeat (first
  | refine ⟨_, rfl, ?_⟩
  | refine ⟨_, _, rfl, rfl, ?_⟩
  | refine ⟨_, _, _, _, rfl, rfl, SqL.of (by first | assumption | exact upd_same), rfl, ?_⟩
  | refine .inl ⟨_, rfl, ?_⟩
  | refine .inr ⟨_, rfl, ?_⟩
  | refine ⟨_, _, _, _, rfl, rfl, (by first | assumption | exact upd_same), rfl, ?_⟩
  | refine And.intro (by walk_at "sd") ?_))
section
variable {P : Program} {w : World} {K : PySem.W.Frag} {mg : Str → Option Value} {base : Heap} {f : Addr} {fd : FuncData}
abbrev s__law_bodies : Stmt := top 91
theorem sc__law_bodies : FnScope ["_law_s", "_law_width", "_law_found", "_law_turn", "_law_way", "_law_count", "_law_body", "_law_k", "_law_key"] ["_law_s", "_law_width"] (defScope s__law_bodies) := ⟨rfl, rfl, rfl, by decide +kernel, rfl, by decide +kernel, by decide +kernel⟩
theorem ok_bodies (F : Fun K "_law_bodies" "_law_bodies" s__law_bodies f fd) (T : Txt K mg) (c_digit : Cal P w K mg base 1 "_law_digit" spDigit) (c_octets : Cal P w K mg base 1 "_law_octets" spOctets)
    (c_shuffled : Cal P w K mg base 2 "_law_shuffled" (spShuffled K)) (c_leaf : Cal P w K mg base 2 "_law_leaf" spLeaf) : FnOk P w K mg base CX0 3 f fd ["_law_s", "_law_width"] spBodies := by
  refine F.ok sc__law_bodies (fun vs H Q E h => ?_) (fun cdv A outer st H vs Q E hr h => ?_)
  · obtain ⟨s, w, rfl, _⟩ := h
    rfl
  · obtain ⟨s, w, rfl, hs, hw, hw2, k⟩ := h
    refine ⟨_, (pss_cons (ps_set (i := 2) sc__law_bodies.nd rfl (Or.inl rfl) (pe_lst (pa_cons (pe_lst (pa_cons pe_int (pa_cons pe_int pa_nil))) (pa_cons (pe_lst (pa_cons pe_int (pa_cons pe_int (pa_cons pe_int pa_nil)))) (pa_cons (pe_lst (pa_cons pe_int (pa_cons pe_int (pa_cons pe_int pa_nil)))) pa_nil)))))
      (pss_cons (ps_for PassesOwn.never rfl (pi_range1 (by rfl) T.z_range (pa_cons (pe_op op_add pe_int (pe_c c_digit hr (by decide) (by rfl) (pa_cons (pv 0) (pa_cons pe_int pa_nil)))) pa_nil)) (pg_name (i := 3) sc__law_bodies.nd rfl (Or.inl rfl))
      (pss_cons (ps_set (i := 4) sc__law_bodies.nd rfl (Or.inl rfl) (pe_c c_digit hr (by decide) (by rfl) (pa_cons (pv 0) (pa_cons pe_int pa_nil))))
        (pss_one (ps_if (pt_cmpR op_lt (pv 4) pe_int (nomark _))
        (pss_one (ps_expr (pe_bm PySem.F.plainAttrs_list PySem.F.slot_list_append PySem.F.type_list_append mt_append (pv 2) (pa_cons (pe_c c_leaf hr (by decide) (by rfl) (pa_cons (pv 0) pa_nil)) pa_nil))))
        (pss_one (ps_if (pt_cmpR op_eq (pv 4) pe_int (nomark _))
          (pss_cons (ps_set (i := 5) sc__law_bodies.nd rfl (Or.inl rfl) (pe_c c_digit hr (by decide) (by rfl) (pa_cons (pv 0) (pa_cons pe_int pa_nil))))
            (pss_cons (ps_set (i := 6) sc__law_bodies.nd rfl (Or.inl rfl) (pe_lst (pa_cons (pe_op op_add pe_int (pv 5)) pa_nil)))
            (pss_cons (ps_for PassesOwn.never rfl (pi_range1 (by rfl) T.z_range (pa_cons (pv 5) pa_nil)) (pg_name (i := 7) sc__law_bodies.nd rfl (Or.inl rfl))
            (pss_one (ps_set (i := 6) sc__law_bodies.nd rfl (Or.inl rfl) (pe_op op_catS (pv 6) (pe_c c_octets hr (by decide) (by rfl) (pa_cons (pe_c c_digit hr (by decide) (by rfl) (pa_cons (pv 0) (pa_cons (pe_callB call_len_seq (by rfl) T.z_len PySem.boot_len (pa_cons (pv 2) pa_nil)) pa_nil))) (pa_cons (pv 1) pa_nil)))))))
            (pss_one (ps_expr (pe_bm PySem.F.plainAttrs_list PySem.F.slot_list_append PySem.F.type_list_append mt_append (pv 2) (pa_cons (pv 6) pa_nil)))))))
          (pss_cons (ps_set (i := 5) sc__law_bodies.nd rfl (Or.inl rfl) (pe_c c_digit hr (by decide) (by rfl) (pa_cons (pv 0) (pa_cons pe_int pa_nil))))
            (pss_cons (ps_set (i := 6) sc__law_bodies.nd rfl (Or.inl rfl) (pe_lst (pa_cons (pe_op op_add pe_int (pv 5)) pa_nil)))
            (pss_cons (ps_for PassesOwn.never rfl (pi_list (pe_slice sl_list (pe_c c_shuffled hr (by decide) (by rfl) (pa_cons (pv 0) (pa_cons (pe_lst (pa_cons pe_int (pa_cons pe_int (pa_cons pe_int pa_nil)))) pa_nil))) po_none (po_some (pv 5)))) (pg_name (i := 8) sc__law_bodies.nd rfl (Or.inl rfl))
            (pss_one (ps_set (i := 6) sc__law_bodies.nd rfl (Or.inl rfl) (pe_op op_catS (pv 6) (pe_c c_octets hr (by decide) (by rfl) (pa_cons (pv 8) (pa_cons (pv 1) pa_nil)))))))
            (pss_cons (ps_for PassesOwn.never rfl (pi_range1 (by rfl) T.z_range (pa_cons (pv 5) pa_nil)) (pg_name (i := 7) sc__law_bodies.nd rfl (Or.inl rfl))
            (pss_one (ps_set (i := 6) sc__law_bodies.nd rfl (Or.inl rfl) (pe_op op_catS (pv 6) (pe_c c_octets hr (by decide) (by rfl) (pa_cons (pe_c c_digit hr (by decide) (by rfl) (pa_cons (pv 0) (pa_cons (pe_callB call_len_seq (by rfl) T.z_len PySem.boot_len (pa_cons (pv 2) pa_nil)) pa_nil))) (pa_cons (pv 1) pa_nil)))))))
            (pss_one (ps_expr (pe_bm PySem.F.plainAttrs_list PySem.F.slot_list_append PySem.F.type_list_append mt_append (pv 2) (pa_cons (pv 6) pa_nil))))))))))))))
      (pss_one (ps_ret (pv 2))))), ?_⟩
    refine use_seq (use_set (use_lst (use_bk (k := 3) ?_ fun as H1 s1 b1 e1 => ?_)))
    · refine evbk_cons (evb_lst [81, 97] (by decide) (Nat.le_refl _) (by decide)) (by decide) ?_
      refine evbk_cons (evb_lst [82, 98, 99] (by decide) (Nat.le_refl _) (by decide)) (by decide) ?_
      refine evbk_cons (evb_lst [97, 0, 100] (by decide) (Nat.le_refl _) (by decide)) (by decide) ?_
      exact evbk_nil
    refine ⟨sz (by rw [List.length_map]; omega), fun p n1 => ?_⟩
    have x1 : Ext s H H1 := Ext.of s1 hs
    have h1 : In s H (upd H1 p (.lst (as.map V.ref))) p as := ⟨x1.new n1, s1.free n1, upd_same, fun a m => ⟨(b1 a m).1, byl_ne (b1 a m).2 n1, (b1 a m).2.same (same_new n1)⟩⟩
    dsimp only
    refine use_seq ?_
    refine ⟨_, rfl, s, _, rfl, h1.ex.st, by decide, by decide, fun H2 d x2 d0 d1 => ?_⟩
    refine ⟨_, _, rfl, rfl, _, rfl, by omega, by omega, ?_⟩
    have h2 := h1.next hs x2
    refine for_it walk_range (fun i σ H' => ∃ (as : List Addr) (o1 o2 o3 o4 o5 o6 : Option V), σ = [some (.ref s), some (.int w), some (.ref p), o1, o2, o3, o4, o5, o6] ∧ In s H H' p as ∧ as.length = 3 + i)
      ⟨as, none, none, none, none, none, none, rfl, h2, e1⟩ (fun _ _ _ _ _ => trivial) ?_ ?_
    · rintro i0 x σ H3 H' hi ⟨as, o1, o2, o3, o4, o5, o6, rfl, h3, e3⟩ ⟨rfl, rfl⟩
      have hi8 : i0 < 8 := by omega
      have lenOk : (as.map V.ref).length < sizeLine := szl (by rw [List.length_map, e3]; omega)
      have fin : ∀ {H' : Hp} {b : Addr} {o1 o2 o3 o4 o5 o6 : Option V}, In s H H' p as → H b = none → b ≠ p → ByL H' b 40 →
          ∃ (az : List Addr) (p1 p2 p3 p4 p5 p6 : Option V), [some (.ref s), some (.int w), some (.ref p), o1, o2, o3, o4, o5, o6] = [some (.ref s), some (.int w), some (.ref p), p1, p2, p3, p4, p5, p6] ∧ In s H (upd H' p (.lst (as.map V.ref ++ [V.ref b]))) p az ∧ az.length = 3 + (i0 + 1) :=
        fun {H' b o1 o2 o3 o4 o5 o6} h nb ne hb => by
          have e : as.map V.ref ++ [V.ref b] = (as ++ [b]).map V.ref := by
            rw [List.map_append]
            rfl
          rw [e]
          exact ⟨as ++ [b], o1, o2, o3, o4, o5, o6, rfl, h.push hs nb ne hb, by rw [List.length_append, List.length_singleton, e3]; omega⟩
      refine use_seq ?_
      refine ⟨_, rfl, s, _, rfl, h3.ex.st, by decide, by decide, fun H4 y x4 y0 y1 => ?_⟩
      have h4 := h3.next hs x4
      refine ⟨_, rfl, _, _, rfl, rfl, _, rfl, ?_⟩
      by_cases c1 : y < 2
      · refine ifT (decide_eq_true c1) ?_
        refine ⟨_, rfl, .inl ⟨rfl, _, SqL.of h4.hp⟩, ?_⟩
        refine ⟨_, rfl, s, rfl, h4.ex.st, fun H5 b nb x5 b5 => ?_⟩
        have h5 := h4.next hs x5
        obtain ⟨nb0, nbp, _⟩ := h4.free hs nb
        exact ⟨p, _, _, rfl, rfl, h5.hp, lenOk, fin h5 nb0 nbp b5⟩
      refine ifF (decide_eq_false c1) ?_
      refine ⟨_, rfl, rfl, _, rfl, ?_⟩
      by_cases c2 : y = 2
      · subst c2
        refine ifT (by decide) ?_
        refine use_seq ?_
        refine ⟨_, rfl, s, _, rfl, h4.ex.st, by decide, by decide, fun H5 c x5 k0 k1 => ?_⟩
        have h5 := h4.next hs x5
        dsimp only
        refine use_seq ?_
        refine ⟨_, rfl, _, _, rfl, rfl, sz (by simp), fun b nb => ?_⟩
        have h6 := h5.same hs (same_new (o := .lst [.int (160 + c)]) nb)
        obtain ⟨nb0, nbp, _⟩ := h5.free hs nb
        have bb : ByL (upd H5 b (.lst [.int (160 + c)])) b 1 := ⟨[160 + c], upd_same, by intro q m; rw [List.mem_singleton.mp m]; omega, Nat.le_refl _⟩
        dsimp only
        refine use_seq ?_
        refine inner (K := K) (n := 1) hs h6 (by omega) (by omega) hw hw2 k0 (by omega) nb0 nbp bb (by decide) fun H7 z kk h7 nz nez hz => ?_
        refine ⟨_, rfl, .inl ⟨rfl, _, SqL.of h7.hp⟩, ?_⟩
        refine ⟨_, rfl, p, _, _, rfl, rfl, h7.hp, lenOk, ?_⟩
        exact fin h7 nz nez (hz.mono (by omega))
      refine ifF (decide_eq_false (by intro z; exact c2 (V.int.inj z))) ?_
      refine use_seq ?_
      refine ⟨_, rfl, s, _, rfl, h4.ex.st, by decide, by decide, fun H5 c x5 k0 k1 => ?_⟩
      have h5 := h4.next hs x5
      dsimp only
      refine use_seq ?_
      refine ⟨_, rfl, _, _, rfl, rfl, sz (by simp), fun b nb => ?_⟩
      have h6 := h5.same hs (same_new (o := .lst [.int (208 + c)]) nb)
      obtain ⟨nb0, nbp, _⟩ := h5.free hs nb
      have bb : ByL (upd H5 b (.lst [.int (208 + c)])) b 1 := ⟨[208 + c], upd_same, by intro q m; rw [List.mem_singleton.mp m]; omega, Nat.le_refl _⟩
      dsimp only
      refine use_seq ?_
      -- for key in shuffled(..)[:count]
      refine ⟨_, rfl, sz (by simp), fun q nq => ?_⟩
      have h7 := h6.same hs (same_new (o := .lst [.int 0, .int 1, .int 2]) nq)
      obtain ⟨_, _, nqs⟩ := h6.free hs nq
      refine ⟨s, q, [0, 1, 2], rfl, h7.ex.st, nqs, SqL.of upd_same, by decide, fun H8 r ms nr x8 hr8 _ hlen => ?_⟩
      have h8 := h7.next hs x8
      refine ⟨_, rfl, _, rfl, r, _, rfl, SqL.of hr8, fun u nu => ?_⟩
      obtain ⟨ks, ek, kl⟩ := cut_ints ms none (some c)
      rw [ek]
      have h9 := h8.same hs (same_new (o := .lst (ks.map V.int)) nu)
      obtain ⟨_, _, nus⟩ := h8.free hs nu
      have b9 : ByL (upd H8 u (.lst (ks.map V.int))) b 1 := ((bb.same (same_new nq)).ext x8 (hs.ne nb0)).same (same_new nu)
      refine ⟨u, rfl, ⟨_, SqL.of upd_same⟩, ?_⟩
      have k3 : ks.length ≤ 3 := Nat.le_trans kl (by rw [hlen]; decide)
      refine for_it (walk_list (K := K) (a := u) (xs := ks.map V.int)) (fun i σ H' => ∃ (x : Addr) (kk key : Option V), σ = [some (.ref s), some (.int w), some (.ref p), some (.int (0 + (i0 : Int))), some (.int y), some (.int c), some (.ref x), kk, key] ∧ In s H H' p as ∧ H x = none ∧ x ≠ p ∧ ByL H' x (1 + 3 * i) ∧ H' u = some (.lst (ks.map V.int)))
        ⟨b, _, _, rfl, h9, nb0, nbp, b9, upd_same⟩ (fun _ _ _ _ ⟨_, _, _, _, _, _, _, _, q⟩ => SqL.of q) ?_ ?_
      · rintro j x σ G0 G1 hj ⟨x1, kk, key, rfl, g1, ny, ney, hy, hu⟩ ⟨rfl, hx⟩
        rw [List.length_map] at hj
        obtain ⟨n, rfl⟩ : ∃ n, x = V.int n := by
          rw [List.getElem?_map, List.getElem?_eq_getElem hj] at hx
          exact ⟨_, (Option.some.inj hx).symm⟩
        refine ⟨_, rfl, _, rfl, _, rfl, _, _, rfl, by omega, by omega, fun G2 q2 n2 s2 b2 => ?_⟩
        have g2 := g1.same hs s2
        have hu2 := s2 _ _ hu
        refine cat_oct2 g2 hs (hy.same s2) (b2.mono (m := 3) (by omega)) (by omega) fun G3 z s3 g3 nz nez hz => ?_
        exact ⟨z, _, _, rfl, g3, nz, nez, hz.mono (by omega), s3 _ _ hu2⟩
      · rintro σ G0 ⟨x1, kk, key, rfl, g1, ny, ney, hy, hu⟩
        rw [List.length_map] at hy
        dsimp only
        refine use_seq ?_
        refine inner (K := K) hs g1 (by omega) (by omega) hw hw2 k0 (by omega) ny ney hy (by omega) fun H7 z kk h7 nz nez hz => ?_
        refine ⟨_, rfl, .inl ⟨rfl, _, SqL.of h7.hp⟩, ?_⟩
        refine ⟨_, rfl, p, _, _, rfl, rfl, h7.hp, lenOk, ?_⟩
        exact fin h7 nz nez (hz.mono (by omega))
    · rintro σ H3 ⟨as, o1, o2, o3, o4, o5, o6, rfl, h3, e3⟩
      refine ⟨_, rfl, ?_⟩
      have len : (1 + d).toNat ≤ 7 := by omega
      exact k _ p as h3 (by omega) (by omega)
end
end Q19


/-! assembled -/
namespace Q19
open PySem PySem.Spec PyProof.Rows L2 QT
def spAssembled : Sp := fun vs H Q _ => ∃ (s b : Addr) (w : Int) (as : List Addr), vs = [.ref s, .ref b, .int w] ∧ Stt H s ∧ b ≠ s ∧ H b = some (.lst (as.map V.ref)) ∧ (∀ a ∈ as, a ≠ s ∧ ByL H a 40) ∧ 3 ≤ as.length ∧ as.length ≤ 10 ∧ 1 ≤ w ∧ w ≤ 3 ∧
  ∀ (H' : Hp) (t d q : Addr) (ns : List Int), Ext s H H' → H t = none → H' t = some (.tup [.ref d, .ref q]) → H d = none → H' d = some (.lst (ns.map V.int)) → (∀ k ∈ ns, 0 ≤ k ∧ k < 256) → 1 ≤ ns.length → ns.length ≤ 1000 → Q (.ref t) H'
theorem rg_ints (n : Int) : rgV 0 n = ((List.range n.toNat).map fun (j : Nat) => (j : Int)).map V.int := by
  unfold rgV
  rw [List.map_map, Int.sub_zero]
  refine List.map_congr_left fun j _ => ?_
  show V.int (0 + (j : Int)) = V.int (j : Int)
  rw [Int.zero_add]
theorem rep_ints (x : Int) (k : Nat) : (List.replicate k [V.int x]).flatten = (List.replicate k x).map V.int := by
  induction k with
  | zero => rfl
  | succ k ih =>
    rw [List.replicate_succ, List.flatten_cons, ih, List.replicate_succ, List.map_cons]
    rfl
theorem byl_two {H : Hp} {p : Addr} {a b : Int} (h : H p = some (.lst [V.int a, V.int b])) (a0 : 0 ≤ a) (a1 : a < 256) (b0 : 0 ≤ b) (b1 : b < 256) : ByL H p 2 :=
  ⟨[a, b], h, fun j hj => by
    rcases List.mem_cons.mp hj with e | e
    · rw [e]
      exact ⟨a0, a1⟩
    · rw [List.mem_singleton.mp e]
      exact ⟨b0, b1⟩, Nat.le_refl _⟩
theorem byl_rep {H : Hp} {p : Addr} {x k : Int} {n : Nat} (h : H p = some (.lst ((List.replicate k.toNat [V.int x]).flatten))) (hx : 0 ≤ x) (hx2 : x < 256) (hk : k ≤ (n : Int)) : ByL H p n := by
  rw [rep_ints] at h
  exact ⟨_, h, fun j hj => by rw [List.eq_of_mem_replicate hj]; exact ⟨hx, hx2⟩, by rw [List.length_replicate]; omega⟩
theorem mem_rg {n : Nat} {m : Int} (h : m ∈ (List.range ((n : Int)).toNat).map fun (j : Nat) => (j : Int)) : 0 ≤ m ∧ m < (n : Int) := by
  obtain ⟨j, hj, rfl⟩ := List.mem_map.mp h
  have z := List.mem_range.mp hj
  exact ⟨by omega, by omega⟩
theorem ix_set {n : Nat} {d : Int} (h0 : 0 ≤ d) (h1 : d < (n : Int)) : ixN n d = some d.toNat := by
  unfold ixN
  rw [if_pos h0, if_pos h1]
theorem at_ix {xs : List V} {d : Int} (h0 : 0 ≤ d) (h1 : d.toNat < xs.length) : atI xs d = some xs[d.toNat] := by
  unfold atI
  rw [ix_set h0 (by omega)]
  show xs[d.toNat]? = _
  rw [List.getElem?_eq_getElem h1]
/-- the list of data at d, apart from the list at q -/
structure Asm (s : Addr) (H0 H : Hp) (d q : Addr) (n m : Nat) : Prop where
  ex : Ext s H0 H
  nd : H0 d = none
  nq : H0 q = none
  dq : d ≠ q
  dat : ∃ ns : List Int, H d = some (.lst (ns.map V.int)) ∧ (∀ k ∈ ns, 0 ≤ k ∧ k < 256) ∧ 1 ≤ ns.length ∧ ns.length ≤ n
  pl : ∃ ls : List Int, H q = some (.lst (ls.map V.int)) ∧ ls.length = m
section
variable {s : Addr} {H0 H H' : Hp} {d q x : Addr} {n m j : Nat}
theorem Asm.next (h : Asm s H0 H d q n m) (h0 : Stt H0 s) (e : Ext s H H') : Asm s H0 H' d q n m := by
  obtain ⟨ns, a1, a2⟩ := h.dat
  obtain ⟨ls, b1, b2⟩ := h.pl
  exact ⟨h.ex.trans e, h.nd, h.nq, h.dq, ⟨ns, e.keep _ _ (h0.ne h.nd) a1, a2⟩, ls, e.keep _ _ (h0.ne h.nq) b1, b2⟩
theorem Asm.same (h : Asm s H0 H d q n m) (h0 : Stt H0 s) (e : Same H H') : Asm s H0 H' d q n m := h.next h0 (Ext.of e h.ex.st)
theorem Asm.free (h : Asm s H0 H d q n m) (nx : H x = none) : H0 x = none ∧ x ≠ d ∧ x ≠ q ∧ x ≠ s := by
  obtain ⟨ns, a1, a2⟩ := h.dat
  obtain ⟨ls, b1, b2⟩ := h.pl
  have ns : x ≠ s := h.ex.st.ne nx
  exact ⟨h.ex.fresh nx ns, (fun z => by rw [z, a1] at nx; cases nx), (fun z => by rw [z, b1] at nx; cases nx), ns⟩
/-- data + bytes -/
theorem Asm.cat {K : PySem.W.Frag} {Q : VK} (h : Asm s H0 H d q n m) (h0 : Stt H0 s) (hx : ByL H x j) (hz : n + j ≤ 100000)
    (k : ∀ (H' : Hp) (y : Addr), Same H H' → Asm s H0 H' y q (n + j) m → Q (.ref y) H') : rCatS K (.ref d) (.ref x) H Q := by
  obtain ⟨ns, a1, a2, a3, a4⟩ := h.dat
  obtain ⟨ls, b1, b2⟩ := h.pl
  obtain ⟨ms, d1, d2, d3⟩ := hx
  refine ⟨d, x, _, _, rfl, rfl, SqL.of a1, SqL.of d1, sz (by rw [List.length_map, List.length_map]; omega), fun y ny => ?_⟩
  obtain ⟨f1, f2, f3, f4⟩ := h.free ny
  have sm : Same H (upd H y (.lst (ns.map V.int ++ ms.map V.int))) := same_new ny
  refine k _ y sm ⟨h.ex.ex sm, f1, h.nq, f3, ⟨ns ++ ms, by rw [upd_same, List.map_append], fun i hi => ?_, by rw [List.length_append]; omega, by rw [List.length_append]; omega⟩, ls, sm _ _ b1, b2⟩
  rcases List.mem_append.mp hi with z | z
  · exact a2 i z
  · exact d2 i z
end
/-- side conditions; and the plain steps of a reading -/
local macro_rules | `(tactic| walk_at "sd") => `(tactic| first
  | assumption | decide | omega | exact b64 b01 | (show (0 : Int) < _; first | decide | omega) | exact ⟨by decide, by decide, by decide⟩ | exact ⟨by decide, by decide⟩ | exact ⟨by omega, by omega⟩
  | exact .inl ⟨by omega, by omega⟩ | exact .inr ⟨by omega, by omega⟩ | exact sz (by simp) | exact szl (by simp))
local macro_rules | `(tactic| walk_at "rd") => `(tactic| repeat (first
  | refine ⟨_, rfl, ?_⟩
  | refine ⟨_, _, rfl, rfl, ?_⟩
  | refine ⟨_, _, _, _, rfl, rfl, SqL.of (by first | assumption | exact upd_same), rfl, ?_⟩
  | refine .inl ⟨_, rfl, ?_⟩
  | refine .inr ⟨_, rfl, ?_⟩
  | refine ⟨_, _, _, _, rfl, rfl, (by first | assumption | exact upd_same), rfl, ?_⟩
  | refine And.intro (by walk_at "sd") ?_))
section
variable {P : Program} {w : World} {K : PySem.W.Frag} {mg : Str → Option Value} {base : Heap} {f : Addr} {fd : FuncData}
abbrev s__law_assembled : Stmt := top 92
theorem sc__law_assembled : FnScope ["_law_s", "_law_bodies_here", "_law_width", "_law_data", "_law_places", "_law_number", "_law_table", "_law_size", "_law_place"] ["_law_s", "_law_bodies_here", "_law_width"] (defScope s__law_assembled) := ⟨rfl, rfl, rfl, by decide +kernel, rfl, by decide +kernel, by decide +kernel⟩
theorem ok_assembled (F : Fun K "_law_assembled" "_law_assembled" s__law_assembled f fd) (T : Txt K mg) (c_digit : Cal P w K mg base 1 "_law_digit" spDigit) (c_octets : Cal P w K mg base 1 "_law_octets" spOctets)
    (c_shuffled : Cal P w K mg base 2 "_law_shuffled" (spShuffled K)) : FnOk P w K mg base CX0 3 f fd ["_law_s", "_law_bodies_here", "_law_width"] spAssembled := by
  refine F.ok sc__law_assembled (fun vs H Q E h => ?_) (fun cdv A outer st H vs Q E hr h => ?_)
  · obtain ⟨s, b, w, as, rfl, _⟩ := h
    rfl
  · obtain ⟨s, b, w, as, rfl, hs, nbs, hb, has, l3, l10, hw, hw2, k⟩ := h
    refine ⟨_, (pss_cons (ps_par (i := 3) (j := 4) rfl sc__law_assembled.nd rfl rfl (by decide) rfl rfl (pa_cons (pe_lst (pa_cons pe_int (pa_cons pe_int (pa_cons pe_int (pa_cons pe_int (pa_cons pe_int (pa_cons pe_int (pa_cons pe_int (pa_cons pe_int pa_nil))))))))) (pa_cons (pe_op op_rep (pe_lst (pa_cons pe_int pa_nil)) (pe_callB call_len_seq (by rfl) T.z_len PySem.boot_len (pa_cons (pv 1) pa_nil))) pa_nil)) (by rfl))
      (pss_cons (ps_for PassesOwn.never rfl (pi_list (pe_c c_shuffled hr (by decide) (by rfl) (pa_cons (pv 0) (pa_cons (pe_listRg rfl (by rfl) T.z_list (prg_1 (by rfl) T.z_range (pe_callB call_len_seq (by rfl) T.z_len PySem.boot_len (pa_cons (pv 1) pa_nil)))) pa_nil)))) (pg_name (i := 5) sc__law_assembled.nd rfl (Or.inl rfl))
      (pss_cons (ps_set (i := 3) sc__law_assembled.nd rfl (Or.inl rfl) (pe_op op_catS (pv 3) (pe_op op_rep (pe_lst (pa_cons pe_int pa_nil)) (pe_ix ix_list (pe_lst (pa_cons pe_int (pa_cons pe_int (pa_cons pe_int (pa_cons (pe_c c_digit hr (by decide) (by rfl) (pa_cons (pv 0) (pa_cons pe_int pa_nil))) pa_nil))))) (pe_c c_digit hr (by decide) (by rfl) (pa_cons (pv 0) (pa_cons pe_int pa_nil))) (fun _ _ => rfl)))))
        (pss_cons (ps_asg (pe_callB call_len_seq (by rfl) T.z_len PySem.boot_len (pa_cons (pv 3) pa_nil)) (pg_sub (pv 4) (pv 5) set_list))
        (pss_one (ps_set (i := 3) sc__law_assembled.nd rfl (Or.inl rfl) (pe_op op_catS (pv 3) (pe_ix ix_list (pv 1) (pv 5) (fun _ _ => rfl))))))))
      (pss_cons (ps_par (i := 6) (j := 7) rfl sc__law_assembled.nd rfl rfl (by decide) rfl rfl (pa_cons (pe_callB call_len_seq (by rfl) T.z_len PySem.boot_len (pa_cons (pv 3) pa_nil)) (pa_cons (pe_op op_add (pe_op op_add pe_int (pe_callTy call_int1 (by rfl) T.z_int (by decide +kernel) (pa_cons (pe_cmpR op_gt (pe_callB call_len_seq (by rfl) T.z_len PySem.boot_len (pa_cons (pv 3) pa_nil)) pe_int (nomark _)) pa_nil))) (pe_c c_digit hr (by decide) (by rfl) (pa_cons (pv 0) (pa_cons pe_int pa_nil)))) pa_nil)) (by rfl))
      (pss_cons (ps_for PassesOwn.never rfl (pi_list (pv 4)) (pg_name (i := 8) sc__law_assembled.nd rfl (Or.inl rfl))
      (pss_one (ps_set (i := 3) sc__law_assembled.nd rfl (Or.inl rfl) (pe_op op_catS (pv 3) (pe_c c_octets hr (by decide) (by rfl) (pa_cons (pv 8) (pa_cons (pv 7) pa_nil)))))))
      (pss_cons (ps_set (i := 3) sc__law_assembled.nd rfl (Or.inl rfl) (pe_op op_catS (pe_op op_catS (pv 3) (pe_op op_rep (pe_lst (pa_cons pe_int pa_nil)) pe_int)) (pe_lst (pa_cons (pv 7) (pa_cons (pv 2) pa_nil)))))
      (pss_cons (ps_for PassesOwn.never rfl (pi_tup (pe_tup (pa_cons (pe_callB call_len_seq (by rfl) T.z_len PySem.boot_len (pa_cons (pv 1) pa_nil)) (pa_cons (pe_op op_sub (pe_callB call_len_seq (by rfl) T.z_len PySem.boot_len (pa_cons (pv 1) pa_nil)) pe_int) (pa_cons (pv 6) pa_nil))))) (pg_name (i := 5) sc__law_assembled.nd rfl (Or.inl rfl))
      (pss_one (ps_set (i := 3) sc__law_assembled.nd rfl (Or.inl rfl) (pe_op op_catS (pv 3) (pe_c c_octets hr (by decide) (by rfl) (pa_cons (pv 5) (pa_cons pe_int pa_nil)))))))
      (pss_one (ps_ret (pe_tup (pa_cons (pv 3) (pa_cons (pv 4) pa_nil))))))))))), ?_⟩
    refine use_seq ?_
    refine ⟨sz (by simp), fun d nd => ⟨sz (by simp), fun l1 n1 => ⟨_, rfl, b, _, rfl, .inl (SqL.of (same_new n1 _ _ (same_new nd _ _ hb))), ?_⟩⟩⟩
    have lb : (as.map V.ref).length = as.length := List.length_map ..
    refine ⟨l1, _, _, rfl, rfl, upd_same, by omega, by omega, sz (by rw [lb]; simp; omega), fun q nq => ⟨_, _, rfl, ?_⟩⟩
    have sd := same_new (o := .lst [.int 98, .int 112, .int 108, .int 105, .int 115, .int 116, .int 48, .int 48]) nd
    have s1 := same_new (o := .lst [.int 0]) n1
    have sq := same_new (o := .lst ((List.replicate (((as.map V.ref).length : Nat) : Int).toNat [V.int 0]).flatten)) nq
    have A0 : Asm s H (upd (upd (upd H d (.lst [.int 98, .int 112, .int 108, .int 105, .int 115, .int 116, .int 48, .int 48])) l1 (.lst [.int 0])) q (.lst ((List.replicate (((as.map V.ref).length : Nat) : Int).toNat [V.int 0]).flatten))) d q 8 as.length := by
      refine ⟨Ext.of ((sd.trans s1).trans sq) hs, nd, sd.free (s1.free nq), ne_of_none (s1 _ _ upd_same) nq, ⟨[98, 112, 108, 105, 115, 116, 48, 48], sq _ _ (s1 _ _ upd_same), by decide, by decide, by decide⟩, List.replicate as.length 0, by rw [upd_same, rep_ints, lb, Int.toNat_natCast], List.length_replicate⟩
    dsimp only
    refine use_seq ?_
    -- for number in shuffled(s, list(range(len(bodies))))
    have bAt : ∀ {H' : Hp}, Ext s H H' → H' b = some (.lst (as.map V.ref)) := fun e => e.keep _ _ nbs hb
    refine ⟨_, rfl, _, rfl, b, _, rfl, .inl (SqL.of (bAt A0.ex)), _, rfl, ⟨by omega, by omega, by omega, by rw [lb]; omega, by rw [lb]; omega⟩, fun r0 nr0 => ?_⟩
    rw [rg_ints]
    obtain ⟨_, _, _, nr0s⟩ := A0.free nr0
    have A1 := A0.same hs (same_new (o := .lst (((List.range (((as.map V.ref).length : Nat) : Int).toNat).map fun (j : Nat) => (j : Int)).map V.int)) nr0)
    refine ⟨s, r0, _, rfl, A1.ex.st, nr0s, SqL.of upd_same, by rw [List.length_map, List.length_range, lb]; omega, fun H1 r ms nr x1 hr1 mem len => ?_⟩
    have A2 := A1.next hs x1
    obtain ⟨_, nrd, nrq, nrs⟩ := A1.free nr
    have mlen : ms.length = as.length := by rw [len, List.length_map, List.length_range, lb, Int.toNat_natCast]
    have mlo : ∀ m ∈ ms, 0 ≤ m ∧ m < (as.length : Int) := fun m hm => by
      have z := mem_rg (mem m hm)
      rw [lb] at z
      exact z
    refine ⟨r, rfl, ⟨_, SqL.of hr1⟩, ?_⟩
    refine for_it (walk_list (K := K) (a := r) (xs := ms.map V.int)) (fun i σ H' => ∃ (d : Addr) (o1 o2 o3 o4 : Option V), σ = [some (.ref s), some (.ref b), some (.int w), some (.ref d), some (.ref q), o1, o2, o3, o4] ∧ Asm s H H' d q (8 + 42 * i) as.length ∧ H' r = some (.lst (ms.map V.int)))
      ⟨d, none, none, none, none, rfl, A2, hr1⟩ (fun _ _ _ _ ⟨_, _, _, _, _, _, _, e⟩ => SqL.of e) ?_ ?_
    · rintro i x σ G0 G1 hi ⟨d, o1, o2, o3, o4, rfl, B0, hr0⟩ ⟨rfl, hx⟩
      rw [List.length_map] at hi
      obtain ⟨n, hn, rfl⟩ : ∃ n, n ∈ ms ∧ x = V.int n := by
        rw [List.getElem?_map, List.getElem?_eq_getElem hi] at hx
        exact ⟨_, List.getElem_mem hi, (Option.some.inj hx).symm⟩
      obtain ⟨n0, n1'⟩ := mlo n hn
      refine use_seq ?_
      -- data = data + [255] * [0, 0, 0, digit][digit]
      refine ⟨_, rfl, sz (by simp), fun t1 m1 => ?_⟩
      have B1 := B0.same hs (same_new (o := .lst [.int 255]) m1)
      refine ⟨_, rfl, s, _, rfl, B1.ex.st, by decide, by decide, fun G2 j x2 j0 j1 => ⟨sz (by simp), fun t2 m2 => ?_⟩⟩
      have B2 := B1.next hs x2
      have B3 := B2.same hs (same_new (o := .lst [.int 0, .int 0, .int 0, .int j]) m2)
      refine ⟨_, rfl, s, _, rfl, B3.ex.st, by decide, by decide, fun G3 y x3 y0 y1 => ?_⟩
      have B4 := B3.next hs x3
      obtain ⟨_, _, _, t2s⟩ := B2.free m2
      obtain ⟨_, _, _, t1s⟩ := B0.free m1
      have ylt : y.toNat < [V.int 0, V.int 0, V.int 0, V.int j].length := by simp; omega
      obtain ⟨v, hv, v0, v1⟩ : ∃ v : Int, [V.int 0, V.int 0, V.int 0, V.int j][y.toNat] = V.int v ∧ 0 ≤ v ∧ v ≤ 2 := by
        have cases4 : y = 0 ∨ y = 1 ∨ y = 2 ∨ y = 3 := by omega
        rcases cases4 with z | z | z | z <;> subst z
        · exact ⟨0, rfl, by omega, by omega⟩
        · exact ⟨0, rfl, by omega, by omega⟩
        · exact ⟨0, rfl, by omega, by omega⟩
        · exact ⟨j, rfl, by omega, by omega⟩
      refine ⟨t2, _, y, _, rfl, rfl, SqL.of (x3.keep _ _ t2s upd_same), at_ix y0 ylt, ?_⟩
      rw [hv]
      have ht1 : G3 t1 = some (.lst [.int 255]) := x3.keep _ _ t1s (same_new m2 _ _ (x2.keep _ _ t1s upd_same))
      refine ⟨t1, _, _, rfl, rfl, ht1, by omega, by omega, sz (by simp; omega), fun t3 m3 => ?_⟩
      have B5 := B4.same hs (same_new (o := .lst ((List.replicate v.toNat [V.int 255]).flatten)) m3)
      refine B5.cat hs (byl_rep (n := 2) upd_same (by decide) (by decide) v1) (by omega) fun G4 d2 s4 B6 => ?_
      have hr4 : G4 r = some (.lst (ms.map V.int)) := s4 _ _ (same_new m3 _ _ (x3.keep _ _ nrs (same_new m2 _ _ (x2.keep _ _ nrs (same_new m1 _ _ hr0)))))
      dsimp only
      refine use_seq ?_
      -- places[number] = len(data)
      obtain ⟨ns, e1, e2, e3, e4⟩ := B6.dat
      obtain ⟨ls, f1, f2⟩ := B6.pl
      refine ⟨_, rfl, _, _, rfl, .inl (SqL.of e1), _, rfl, _, rfl, q, _, n, n.toNat, rfl, rfl, f1, ix_set n0 (by rw [List.length_map, f2]; exact n1'), ?_⟩
      have nqs : q ≠ s := hs.ne B6.nq
      have eset : (ls.map V.int).set n.toNat (V.int ((ns.map V.int).length : Nat)) = (ls.set n.toNat (((ns.map V.int).length : Nat) : Int)).map V.int := by rw [List.map_set]
      rw [eset]
      have B7 : Asm s H (upd G4 q (.lst ((ls.set n.toNat (((ns.map V.int).length : Nat) : Int)).map V.int))) d2 q (8 + 42 * i + 2) as.length := by
        refine ⟨⟨fun x o nx ox => ?_, ?_⟩, B6.nd, B6.nq, B6.dq, ⟨ns, by rw [upd_ne B6.dq]; exact e1, e2, e3, e4⟩, _, upd_same, by rw [List.length_set, f2]⟩
        · rw [upd_ne (ne_of_none ox B6.nq)]
          exact B6.ex.keep x o nx ox
        · obtain ⟨x, y, z, g1, g2⟩ := B6.ex.st
          exact ⟨x, y, z, by rw [upd_ne nqs.symm]; exact g1, g2⟩
      -- data = data + bodies[number]
      have nlt : n.toNat < (as.map V.ref).length := by rw [lb]; omega
      refine ⟨_, rfl, _, rfl, _, rfl, b, _, n, _, rfl, rfl, SqL.of (bAt B7.ex), at_ix n0 nlt, ?_⟩
      rw [List.getElem_map]
      have nlt2 : n.toNat < as.length := by omega
      obtain ⟨as1, as2⟩ := has _ (List.getElem_mem nlt2)
      refine B7.cat hs (as2.ext B7.ex as1) (by omega) fun G5 d3 s5 B8 => ?_
      refine ⟨d3, _, _, _, _, rfl, ?_, s5 _ _ (by rw [upd_ne nrq]; exact hr4)⟩
      have eq : 8 + 42 * (i + 1) = 8 + 42 * i + 2 + 40 := by omega
      rw [eq]
      exact B8
    · rintro σ G0 ⟨d, o1, o2, o3, o4, rfl, B0, hr0⟩
      rw [List.length_map, mlen] at B0
      dsimp only
      refine use_seq ?_
      -- table, size = len(data), 1 + int(len(data) > 255) + digit
      obtain ⟨ns, e1, e2, e3, e4⟩ := B0.dat
      refine ⟨_, rfl, _, _, rfl, .inl (SqL.of e1), _, rfl, _, _, rfl, .inl (SqL.of e1), _, _, rfl, rfl, .inr ⟨_, rfl, _, _, rfl, rfl, _, rfl, s, _, rfl, B0.ex.st, by decide, by decide, fun G1 y x1 y0 y1 => ⟨_, _, rfl, rfl, _, _, rfl, ?_⟩⟩⟩
      have B1 := B0.next hs x1
      have hsz : ∃ z : Int, (1 : Int) + (if decide ((255 : Int) < (((ns.map V.int).length : Nat) : Int)) = true then 1 else 0) + y = z ∧ 1 ≤ z ∧ z ≤ 3 := by
        refine ⟨_, rfl, ?_, ?_⟩ <;> split <;> omega
      obtain ⟨z, ez, z1, z3⟩ := hsz
      dsimp only
      refine use_seq ?_
      obtain ⟨ls, f1, f2⟩ := B1.pl
      refine ⟨_, rfl, q, rfl, ⟨_, SqL.of f1⟩, ?_⟩
      refine for_it (walk_list (K := K) (a := q) (xs := ls.map V.int)) (fun i σ H' => ∃ (d : Addr) (o1 o2 : Option V), σ = [some (.ref s), some (.ref b), some (.int w), some (.ref d), some (.ref q), o1, some (.int (((ns.map V.int).length : Nat) : Int)), some (.int z), o2] ∧ Asm s H H' d q (8 + 42 * as.length + 3 * i) as.length ∧ H' q = some (.lst (ls.map V.int)))
        ⟨d, o1, o4, by rw [← ez]; rfl, B1, f1⟩ (fun _ _ _ _ ⟨_, _, _, _, _, e⟩ => SqL.of e) ?_ ?_
      · rintro i x σ G2 G3 hi ⟨d, o1, o2, rfl, C0, hq⟩ ⟨rfl, hx⟩
        rw [List.length_map] at hi
        obtain ⟨n, rfl⟩ : ∃ n, x = V.int n := by
          rw [List.getElem?_map, List.getElem?_eq_getElem hi] at hx
          exact ⟨_, (Option.some.inj hx).symm⟩
        refine ⟨_, rfl, _, rfl, _, rfl, n, z, rfl, by omega, by omega, fun G4 p np s4 b4 => ?_⟩
        have C1 := C0.same hs s4
        refine C1.cat hs (b4.mono (m := 3) (by omega)) (by omega) fun G5 d2 s5 C2 => ?_
        exact ⟨d2, _, _, rfl, C2, s5 _ _ (s4 _ _ hq)⟩
      · rintro σ G2 ⟨d, o1, o2, rfl, C0, hq⟩
        rw [List.length_map, f2] at C0
        dsimp only
        refine use_seq ?_
        -- data = data + [0] * 6 + [size, width]
        refine ⟨_, rfl, sz (by simp), fun t1 m1 => ⟨t1, _, _, rfl, rfl, upd_same, by decide, by decide, sz (by simp), fun t2 m2 => ?_⟩⟩
        have C1 := (C0.same hs (same_new (o := .lst [.int 0]) m1)).same hs (same_new (o := .lst ((List.replicate (6 : Int).toNat [V.int 0]).flatten)) m2)
        refine C1.cat hs (byl_rep (n := 6) upd_same (by decide) (by decide) (by decide)) (by omega) fun G3 d2 s3 C2 => ?_
        refine ⟨_, rfl, _, rfl, sz (by simp), fun t3 m3 => ?_⟩
        have C3 := C2.same hs (same_new (o := .lst [.int z, .int w]) m3)
        refine C3.cat hs (j := 2) (byl_two upd_same (by omega) (by omega) (by omega) (by omega)) (by omega) fun G4 d3 s4 C4 => ?_
        dsimp only
        refine use_seq ?_
        -- for number in (count, count - 1, table)
        refine ⟨_, rfl, b, _, rfl, .inl (SqL.of (bAt C4.ex)), _, rfl, b, _, rfl, .inl (SqL.of (bAt C4.ex)), _, _, rfl, rfl, _, rfl, sz (by simp), fun t4 m4 => ⟨t4, rfl, ⟨_, .inl (.inl upd_same)⟩, ?_⟩⟩
        have C5 := C4.same hs (same_new (o := .tup [.int (((as.map V.ref).length : Nat) : Int), .int ((((as.map V.ref).length : Nat) : Int) - 1), .int (((ns.map V.int).length : Nat) : Int)]) m4)
        refine for_it (walk_tup (K := K) (a := t4) (xs := [.int (((as.map V.ref).length : Nat) : Int), .int ((((as.map V.ref).length : Nat) : Int) - 1), .int (((ns.map V.int).length : Nat) : Int)])) (fun i σ H' => ∃ (d : Addr) (o1 o2 o3 o4 : Option V), σ = [some (.ref s), some (.ref b), some (.int w), some (.ref d), some (.ref q), o1, o2, o3, o4] ∧ Asm s H H' d q (8 + 42 * as.length + 3 * as.length + 8 + 8 * i) as.length ∧ H' t4 = some (.tup [.int (((as.map V.ref).length : Nat) : Int), .int ((((as.map V.ref).length : Nat) : Int) - 1), .int (((ns.map V.int).length : Nat) : Int)]))
          ⟨d3, _, _, _, _, rfl, C5, upd_same⟩ (fun _ _ _ _ ⟨_, _, _, _, _, _, _, e⟩ => .inl (.inl e)) ?_ ?_
        · rintro i x σ G5 G6 hi ⟨d, o1, o2, o3, o4, rfl, D0, ht⟩ ⟨rfl, hx⟩
          have hi3 : i < 3 := hi
          obtain ⟨n, rfl⟩ : ∃ n, x = V.int n := by
            have i3 : i = 0 ∨ i = 1 ∨ i = 2 := by omega
            rcases i3 with e | e | e <;> subst e
            · exact ⟨_, (Option.some.inj hx).symm⟩
            · exact ⟨_, (Option.some.inj hx).symm⟩
            · exact ⟨_, (Option.some.inj hx).symm⟩
          refine ⟨_, rfl, _, rfl, n, 8, rfl, by decide, by decide, fun G7 p np s7 b7 => ?_⟩
          have D1 := D0.same hs s7
          refine D1.cat hs (b7.mono (m := 8) (by decide)) (by omega) fun G8 d2 s8 D2 => ?_
          exact ⟨d2, _, _, _, _, rfl, D2, s8 _ _ (s7 _ _ ht)⟩
        · rintro σ G5 ⟨d, o1, o2, o3, o4, rfl, D0, ht⟩
          refine ⟨_, rfl, _, rfl, sz (by simp), fun t nt => ?_⟩
          obtain ⟨ns, e1, e2, e3, e4⟩ := D0.dat
          have sm := same_new (o := .tup [.ref d, .ref q]) nt
          obtain ⟨t0, _, _, _⟩ := D0.free nt
          simp at e4
          exact k _ t d q ns (D0.ex.ex sm) t0 upd_same D0.nd (sm _ _ e1) e2 e3 (by omega)
end
end Q19


/-! what a byte is; the errors; check_bytes, read_layout, read -/
namespace Q19
open PySem PySem.Spec PyProof.Rows L2 QT
/-- the things that rows hold here -/
inductive Plain (H : Hp) : V → Prop
  | int (i : Int) : Plain H (.int i)
  | bl (b : Bool) : Plain H (.bl b)
  | non : Plain H .non
  | str (x : Str) : Plain H (.str x)
  | lst {a : Addr} {xs : List V} (h : H a = some (.lst xs)) : Plain H (.ref a)
theorem Plain.same {H H' : Hp} {v : V} (h : Plain H v) (e : Same H H') : Plain H' v := by
  cases h with
  | int i => exact .int i
  | bl b => exact .bl b
  | non => exact .non
  | str x => exact .str x
  | lst h => exact .lst (e _ _ h)
theorem Plain.kn {K : PySem.W.Frag} {H : Hp} {v : V} (h : Plain H v) : Kn K H v := by
  cases h with
  | int i => exact .int i
  | bl b => exact .bl b
  | non => exact .oth (t := "NoneType") rfl (fun b z => by cases z) (fun H' _ => .base (by constructor)) (kit_ty (a := "NoneType") (b := "int") (by decide +kernel))
  | str x => exact .oth (t := "str") rfl (fun b z => by cases z) (fun H' _ => .base (by constructor)) (kit_ty (a := "str") (b := "int") (by decide +kernel))
  | lst h => exact .oth (t := "list") rfl (fun b z => by cases z) (fun H' e => .base (by constructor; exact e _ _ h)) (kit_ty (a := "list") (b := "int") (by decide +kernel))
def isByte : V → Bool
  | .int i => decide (0 ≤ i) && decide (i ≤ 255)
  | _ => false
def isInt : V → Bool
  | .int _ => true
  | _ => false
/-- the type of a thing, as isinstance asks -/
def tyN : V → String
  | .int _ => "int"
  | .bl _ => "bool"
  | .non => "NoneType"
  | .str _ => "str"
  | _ => "list"
theorem ty_of {K : PySem.W.Frag} {H : Hp} {v : V} (h : Plain H v) : TyX K H v (.type (tyN v)) := by
  cases h with
  | int i => exact .base (by constructor)
  | bl b => exact .base (by constructor)
  | non => exact .base (by constructor)
  | str x => exact .base (by constructor)
  | lst h => exact .base (by constructor; exact h)
theorem sqT_same {K : PySem.W.Frag} {H H' : Hp} {a : Addr} {xs : List V} (h : SqT K H a xs) (e : Same H H') : SqT K H' a xs := by
  rcases h with (h | ⟨o, h⟩) | h
  · exact .inl (.inl (e _ _ h))
  · exact .inl (.inr ⟨o, e _ _ h⟩)
  · exact .inr h
theorem sq_same {K : PySem.W.Frag} {H H' : Hp} {a : Addr} {xs : List V} (h : SqL K H a xs ∨ SqT K H a xs) (e : Same H H') : SqL K H' a xs ∨ SqT K H' a xs := by
  rcases h with h | h
  · exact .inl (e.seq h)
  · right
    rcases h with (h | ⟨o, h⟩) | h
    · exact .inl (.inl (e _ _ h))
    · exact .inl (.inr ⟨o, e _ _ h⟩)
    · exact .inr h
def spIsInteger : Sp := fun vs H Q _ => ∃ v : V, vs = [v] ∧ Plain H v ∧ Q (.bl (isInt v)) H
def spIsBetween : Sp := fun vs H Q _ => ∃ v : V, vs = [v, .int 0, .int 255] ∧ Plain H v ∧ Q (.bl (isByte v)) H
/-- an own error class with an __init__ -/
structure ErrC (K : PySem.W.Frag) (mg : Str → Option Value) (x : Str) (C fI : Addr) : Prop where
  oex : OexC K C
  xf : XfC K C
  ini : PySem.W.findIn K (.ref C) "__init__" = some (some (.ref fI))
  tI : PySem.W.typeIn K (.ref fI) = some (.type "function")
  mgC : mg x = some (.ref C)
/-- __init__ that keeps one field -/
def spInit1 (fld : Str) (C : Addr) : Sp := fun vs H Q _ => ∃ (a : Addr) (v : V), vs = [.ref a, v] ∧ H a = some (exo a C none) ∧ ∀ dx, H dx = none → dx ≠ a → Q .non (upd (upd H dx (exd dx [(fld, v)])) a (exo a C (some dx)))
/-- .. two fields -/
def spInit2 (f1 f2 : Str) (C : Addr) : Sp := fun vs H Q _ => ∃ (a : Addr) (v u : V), vs = [.ref a, v, u] ∧ H a = some (exo a C none) ∧
  ∀ dx, H dx = none → dx ≠ a → Q .non (upd (upd (upd H dx (exd dx [(f1, v)])) a (exo a C (some dx))) dx (exd dx [(f2, u), (f1, v)]))
def bad (v : V) : Bool := !isByte v
/-- NoBytes with the first place -/
def outB (CB : Addr) (H : Hp) (E : XK) (i : Nat) : Prop := ∀ (H' : Hp) (d : Addr), Same H H' → H' d = some (.xd [("place", .int (i : Int))]) → E (.ref CB) (some d) H'
theorem outB_same {CB : Addr} {H H0 : Hp} {E : XK} {i : Nat} (k : outB CB H E i) (s : Same H H0) : outB CB H0 E i := fun H' d e => k H' d (s.trans e)
theorem use_next {D : Ends} {σ : L2.St} {H : Hp} (h : D.nx σ H) : tNext D σ H := h
def outT (CT : Addr) (H : Hp) (E : XK) (word : Str) (i : Int) : Prop := ∀ (H' : Hp) (d : Addr), Same H H' → H' d = some (.xd [("place", .int i), ("word", .str word)]) → E (.ref CT) (some d) H'
def spCheck (K : PySem.W.Frag) (CB : Addr) : Sp := fun vs H Q E => ∃ (a : Addr) (xs : List V), vs = [.ref a] ∧ (SqL K H a xs ∨ SqT K H a xs) ∧ (∀ v ∈ xs, Plain H v) ∧ xs.length ≤ 2000 ∧
  (∀ i, xs.findIdx? bad = some i → outB CB H E i) ∧ (xs.findIdx? bad = none → ∀ H', Same H H' → Q .non H')
theorem upd_none {H : Hp} {a b : Addr} {o : HO} (h : upd H a o b = none) : H b = none ∧ b ≠ a := by
  have n : b ≠ a := fun z => by
    rw [z, upd_same] at h
    cases h
  rw [upd_ne n] at h
  exact ⟨h, n⟩
/-- what making the error asks, by what its catcher wishes -/
theorem raise1 {C : Addr} {fld : Str} {v : V} {H1 : Hp} {Q E : XK} (k : ∀ (H' : Hp) (d : Addr), Same H1 H' → H' d = some (.xd [(fld, v)]) → Q (.ref C) (some d) H') (a : Addr) (ha : H1 a = none) :
    spInit1 fld C (.ref a :: ([v] ++ [])) (upd H1 a (exo a C none)) (fun u H2 => u = .non ∧ ∃ (d : Addr) (fs : List (Str × V)), H2 a = some (exo a C (some d)) ∧ H2 d = some (exd d fs) ∧ H1 d = none ∧ Q (.ref C) (some d) (upd (del H2 a) d (.xd fs))) E := by
  refine ⟨a, v, rfl, upd_same, fun dx n ne => ⟨rfl, dx, [(fld, v)], upd_same, by rw [upd_ne ne, upd_same], (upd_none n).1, k _ dx (fun b o e => ?_) upd_same⟩⟩
  have n1 := ne_of_none e ha
  have n2 := ne_of_none e (upd_none n).1
  rw [upd_ne n2, del_ne n1, upd_ne n1, upd_ne n2, upd_ne n1]
  exact e
theorem raise2 {C : Addr} {f1 f2 : Str} {v u : V} {H1 : Hp} {Q E : XK} (k : ∀ (H' : Hp) (d : Addr), Same H1 H' → H' d = some (.xd [(f2, u), (f1, v)]) → Q (.ref C) (some d) H') (a : Addr) (ha : H1 a = none) :
    spInit2 f1 f2 C (.ref a :: ([v, u] ++ [])) (upd H1 a (exo a C none)) (fun u H2 => u = .non ∧ ∃ (d : Addr) (fs : List (Str × V)), H2 a = some (exo a C (some d)) ∧ H2 d = some (exd d fs) ∧ H1 d = none ∧ Q (.ref C) (some d) (upd (del H2 a) d (.xd fs))) E := by
  refine ⟨a, v, u, rfl, upd_same, fun dx n ne => ⟨rfl, dx, [(f2, u), (f1, v)], by rw [upd_ne ne.symm, upd_same], upd_same, (upd_none n).1, k _ dx (fun b o e => ?_) upd_same⟩⟩
  have n1 := ne_of_none e ha
  have n2 := ne_of_none e (upd_none n).1
  rw [upd_ne n2, del_ne n1, upd_ne n2, upd_ne n1, upd_ne n2, upd_ne n1]
  exact e
theorem btw_byte : btw 0 255 = isByte := by
  funext v
  cases v <;> rfl
theorem all_none {xs : List V} (h : xs.all isByte = true) : xs.findIdx? bad = none := by
  rw [List.findIdx?_eq_none_iff]
  intro x hx
  show (!isByte x) = false
  rw [List.all_eq_true.mp h x hx]
  rfl
theorem find_first {xs : List V} {i : Nat} {x : V} (h : xs[i]? = some x) (b : bad x = true) (l : ∀ j < i, ∀ y, xs[j]? = some y → bad y = false) : xs.findIdx? bad = some i := by
  rw [List.findIdx?_eq_some_iff_getElem]
  obtain ⟨hi, e⟩ := List.getElem?_eq_some_iff.mp h
  refine ⟨hi, by rw [e]; exact b, fun j hj => ?_⟩
  have z := l j hj _ (List.getElem?_eq_getElem (Nat.lt_trans hj hi))
  rw [z]
  exact Bool.false_ne_true
theorem find_none {xs : List V} (l : ∀ j < xs.length, ∀ y, xs[j]? = some y → bad y = false) : xs.findIdx? bad = none := by
  rw [List.findIdx?_eq_none_iff]
  intro x hx
  obtain ⟨j, hj, e⟩ := List.getElem_of_mem hx
  exact l j hj x (by rw [List.getElem?_eq_getElem hj, e])
/-- side conditions; and the plain steps of a reading -/
local macro_rules | `(tactic| walk_at "sd") => `(tactic| first
  | assumption | decide | omega | exact b64 b01 | (show (0 : Int) < _; first | decide | omega) | exact ⟨by decide, by decide, by decide⟩ | exact ⟨by decide, by decide⟩ | exact ⟨by omega, by omega⟩
  | exact .inl ⟨by omega, by omega⟩ | exact .inr ⟨by omega, by omega⟩ | exact sz (by simp) | exact szl (by simp))
local macro_rules | `(tactic| walk_at "rd") => `(tactic| repeat (first
  | refine ⟨_, rfl, ?_⟩
  | refine ⟨_, _, rfl, rfl, ?_⟩
  | refine ⟨_, _, _, _, rfl, rfl, SqL.of (by first | assumption | exact upd_same), rfl, ?_⟩
  | refine .inl ⟨_, rfl, ?_⟩
  | refine .inr ⟨_, rfl, ?_⟩
  | refine ⟨_, _, _, _, rfl, rfl, (by first | assumption | exact upd_same), rfl, ?_⟩
  | refine And.intro (by walk_at "sd") ?_))
section
variable {P : Program} {w : World} {K : PySem.W.Frag} {mg : Str → Option Value} {base : Heap} {f : Addr} {fd : FuncData}
abbrev s_is_integer : Stmt := top 11
theorem sc_is_integer : FnScope ["thing"] ["thing"] (defScope s_is_integer) := ⟨rfl, rfl, rfl, by decide +kernel, rfl, by decide +kernel, by decide +kernel⟩
theorem ok_is_integer (F : Fun K "is_integer" "is_integer" s_is_integer f fd) (T : Txt K mg) : FnOk P w K mg base CX0 1 f fd ["thing"] spIsInteger := by
  refine F.ok sc_is_integer (fun vs H Q E h => ?_) (fun cdv A outer st H vs Q E hr h => ?_)
  · obtain ⟨v, rfl, _⟩ := h
    rfl
  · obtain ⟨v, rfl, hv, k⟩ := h
    refine ⟨_, (pss_one (ps_ret (pe_and (pe_callB call_isi (by rfl) T.z_isinstance (by decide +kernel) (pa_cons (pv 0) (pa_cons (pe_bltn (v := .ty "int") (u := .type "int") (by rfl) T.z_int (by decide +kernel) rfl) pa_nil))) (pe_one (pe_not (pe_callB call_isi (by rfl) T.z_isinstance (by decide +kernel) (pa_cons (pv 0) (pa_cons (pe_bltn (v := .ty "bool") (u := .type "bool") (by rfl) T.z_bool (by decide +kernel) rfl) pa_nil)))))))), ?_⟩
    refine ⟨_, rfl, ?_⟩
    have t := ty_of (K := K) hv
    cases hv with
    | int i => exact ⟨_, _, _, _, true, rfl, .ty _, t, kit_ty (a := "int") (b := "int") (by decide +kernel), true, rfl, ifT rfl ⟨_, rfl, _, _, _, _, false, rfl, .ty _, t, kit_ty (a := "int") (b := "bool") (by decide +kernel), false, rfl, k⟩⟩
    | bl b => exact ⟨_, _, _, _, true, rfl, .ty _, t, kit_ty (a := "bool") (b := "int") (by decide +kernel), true, rfl, ifT rfl ⟨_, rfl, _, _, _, _, true, rfl, .ty _, t, kit_ty (a := "bool") (b := "bool") (by decide +kernel), true, rfl, k⟩⟩
    | non => exact ⟨_, _, _, _, false, rfl, .ty _, t, kit_ty (a := "NoneType") (b := "int") (by decide +kernel), false, rfl, ifF rfl k⟩
    | str x => exact ⟨_, _, _, _, false, rfl, .ty _, t, kit_ty (a := "str") (b := "int") (by decide +kernel), false, rfl, ifF rfl k⟩
    | lst h => exact ⟨_, _, _, _, false, rfl, .ty _, t, kit_ty (a := "list") (b := "int") (by decide +kernel), false, rfl, ifF rfl k⟩
abbrev s_is_between : Stmt := top 12
theorem sc_is_between : FnScope ["thing", "low", "high"] ["thing", "low", "high"] (defScope s_is_between) := ⟨rfl, rfl, rfl, by decide +kernel, rfl, by decide +kernel, by decide +kernel⟩
theorem ok_is_between (F : Fun K "is_between" "is_between" s_is_between f fd) (T : Txt K mg) (c_is_integer : Cal P w K mg base 1 "is_integer" spIsInteger) : FnOk P w K mg base CX0 2 f fd ["thing", "low", "high"] spIsBetween := by
  refine F.ok sc_is_between (fun vs H Q E h => ?_) (fun cdv A outer st H vs Q E hr h => ?_)
  · obtain ⟨v, rfl, _⟩ := h
    rfl
  · obtain ⟨v, rfl, hv, k⟩ := h
    refine ⟨_, (pss_one (ps_ret (pe_and (pe_c c_is_integer hr (by decide) (by rfl) (pa_cons (pv 0) pa_nil)) (pe_one (pe_chain op_le op_le (pv 1) (pv 0) (pv 2)))))), ?_⟩
    refine ⟨_, rfl, v, rfl, hv, _, rfl, ?_⟩
    cases hv with
    | int i =>
      refine ifT rfl ?_
      refine ⟨_, rfl, _, rfl, _, _, rfl, rfl, _, rfl, ?_⟩
      by_cases c : (0 : Int) ≤ i
      · refine ifT (decide_eq_true c) ?_
        refine ⟨_, rfl, _, _, rfl, rfl, ?_⟩
        have e : isByte (.int i) = decide (i ≤ 255) := by
          show (decide (0 ≤ i) && decide (i ≤ 255)) = _
          rw [decide_eq_true c, Bool.true_and]
        show Q (.bl (decide (i ≤ 255))) H
        rw [← e]
        exact k
      · refine ifF (decide_eq_false c) ?_
        have e : isByte (.int i) = false := by
          show (decide (0 ≤ i) && decide (i ≤ 255)) = _
          rw [decide_eq_false c, Bool.false_and]
        rw [e] at k
        exact k
    | bl b => exact ifF rfl k
    | non => exact ifF rfl k
    | str x => exact ifF rfl k
    | lst h => exact ifF rfl k
abbrev s_are_between : Stmt := top 14
theorem sc_are_between : FnScope ["things", "low", "high", "thing"] ["things", "low", "high"] (defScope s_are_between) := ⟨rfl, rfl, rfl, by decide +kernel, rfl, by decide +kernel, by decide +kernel⟩
theorem ok_between (F : Fun K "are_between" "are_between" s_are_between f fd) (T : Txt K mg) : FnOk P w K mg base CX0 1 f fd ["things", "low", "high"] (spBtw K) := by
  refine F.ok sc_are_between (fun vs H Q E h => ?_) (fun cdv A outer st H vs Q E hr h => ?_)
  · obtain ⟨a, xs, lo, hi, rfl, _⟩ := h
    rfl
  · obtain ⟨a, xs, lo, hi, rfl, hs, kn, hl, k⟩ := h
    rcases hs with hs | hs
    · refine ⟨_, (pss_cons (ps_if (pt_truth (pe_lc (own := [("thing", 3)]) (g := (gName 3)) rfl sc_are_between.nd (pi_list (pv 0)) (blkOk_by (N := ["things", "low", "high", "thing"]) (sc := defScope s_are_between) (by decide +kernel)) (fun _ _ _ _ _ => (pg_name (i := 3) sc_are_between.nd rfl (Or.inl rfl))) (fun _ _ _ _ _ => (pts_one (PW.pt (pw_or (pt_cmpR op_isB (pv 3) pe_bl (nomark _)) (pw_or (pt_cmpR op_isB (pv 3) pe_bl (nomark _)) (pw_or1 (pt_not (pt_val (pe_callB (show CallR _ (.builtin "isinstance") (rIsi K) from call_isi) (by rfl) T.z_isinstance (by decide +kernel) (pa_cons (pv 3) (pa_cons (pe_bltn (v := .ty "int") (u := .type "int") (by rfl) T.z_int (by decide +kernel) rfl) pa_nil))))))))))) (fun _ _ _ _ _ => (pv 3))) (by intro _; rfl))
      (pss_one (ps_ret pe_bl))
      pss_nil)
      (pss_one (ps_ret (pe_and (pe_cmpR op_ge (pe_callBK (cr_minB rfl) (by rfl) T.z_min (by decide +kernel) (pa_cons (pv 0) pa_nil) (pk_cons (pv 1) pk_nil)) (pv 1) (nomark _)) (pe_one (pe_cmpR op_le (pe_callBK (cr_maxB rfl) (by rfl) T.z_max (by decide +kernel) (pa_cons (pv 0) pa_nil) (pk_cons (pv 2) pk_nil)) (pv 2) (nomark _))))))), ?_⟩
      dsimp only
      refine use_seq ?_
      refine ⟨_, rfl, a, rfl, ⟨_, hs⟩, fun D nD => ?_⟩
      refine lc_it (walk_list (K := K) (a := a) (xs := xs)) (fun i H' => Same H H' ∧ H' D = some (.lst ((xs.take i).filter nI))) ⟨same_new nD, upd_same⟩ (fun _ _ _ ⟨sm, _⟩ => sm.seq hs) ?_ ?_
      · rintro i x W1 W2 li ⟨sm, hD⟩ ⟨rfl, hx⟩
        refine ⟨rfl, kn_test rfl ((kn x (List.mem_of_getElem? hx)).same sm) ?_⟩
        cases c : nI x with
        | true =>
          refine ifT rfl ?_
          refine ⟨x, rfl, _, hD, Nat.lt_of_le_of_lt (filter_le xs i) hl, fun b o e => ?_, ?_⟩
          · rw [upd_ne (ne_of_none e nD)]
            exact sm b o e
          · rw [upd_same, take_filter hx, if_pos c]
        | false =>
          refine ifF rfl ⟨sm, ?_⟩
          rw [hD, take_filter hx, if_neg (by rw [c]; exact Bool.false_ne_true)]
      · rintro W ⟨sm, hD⟩
        rw [List.take_length] at hD
        refine btw_end (lo := lo) (hi := hi) (SqL.of hD) (fun e => ?_) fun ⟨ns, e⟩ => ?_
        · refine ifT rfl ?_
          have q := k W sm
          rw [e] at q
          exact q
        · refine ifF rfl ?_
          subst e
          exact use_bounds rfl rfl rfl (.inl (sm.seq hs)) (k W sm)
    · refine ⟨_, (pss_cons (ps_if (pt_truth (pe_lc (own := [("thing", 3)]) (g := (gName 3)) rfl sc_are_between.nd (pi_tup (pv 0)) (blkOk_by (N := ["things", "low", "high", "thing"]) (sc := defScope s_are_between) (by decide +kernel)) (fun _ _ _ _ _ => (pg_name (i := 3) sc_are_between.nd rfl (Or.inl rfl))) (fun _ _ _ _ _ => (pts_one (PW.pt (pw_or (pt_cmpR op_isB (pv 3) pe_bl (nomark _)) (pw_or (pt_cmpR op_isB (pv 3) pe_bl (nomark _)) (pw_or1 (pt_not (pt_val (pe_callB (show CallR _ (.builtin "isinstance") (rIsi K) from call_isi) (by rfl) T.z_isinstance (by decide +kernel) (pa_cons (pv 3) (pa_cons (pe_bltn (v := .ty "int") (u := .type "int") (by rfl) T.z_int (by decide +kernel) rfl) pa_nil))))))))))) (fun _ _ _ _ _ => (pv 3))) (by intro _; rfl))
      (pss_one (ps_ret pe_bl))
      pss_nil)
      (pss_one (ps_ret (pe_and (pe_cmpR op_ge (pe_callBK (cr_minB rfl) (by rfl) T.z_min (by decide +kernel) (pa_cons (pv 0) pa_nil) (pk_cons (pv 1) pk_nil)) (pv 1) (nomark _)) (pe_one (pe_cmpR op_le (pe_callBK (cr_maxB rfl) (by rfl) T.z_max (by decide +kernel) (pa_cons (pv 0) pa_nil) (pk_cons (pv 2) pk_nil)) (pv 2) (nomark _))))))), ?_⟩
      dsimp only
      refine use_seq ?_
      refine ⟨_, rfl, a, rfl, ⟨_, hs⟩, fun D nD => ?_⟩
      refine lc_it (walk_tup (K := K) (a := a) (xs := xs)) (fun i H' => Same H H' ∧ H' D = some (.lst ((xs.take i).filter nI))) ⟨same_new nD, upd_same⟩ (fun _ _ _ ⟨sm, _⟩ => seqT_same hs sm) ?_ ?_
      · rintro i x W1 W2 li ⟨sm, hD⟩ ⟨rfl, hx⟩
        refine ⟨rfl, kn_test rfl ((kn x (List.mem_of_getElem? hx)).same sm) ?_⟩
        cases c : nI x with
        | true =>
          refine ifT rfl ?_
          refine ⟨x, rfl, _, hD, Nat.lt_of_le_of_lt (filter_le xs i) hl, fun b o e => ?_, ?_⟩
          · rw [upd_ne (ne_of_none e nD)]
            exact sm b o e
          · rw [upd_same, take_filter hx, if_pos c]
        | false =>
          refine ifF rfl ⟨sm, ?_⟩
          rw [hD, take_filter hx, if_neg (by rw [c]; exact Bool.false_ne_true)]
      · rintro W ⟨sm, hD⟩
        rw [List.take_length] at hD
        refine btw_end (lo := lo) (hi := hi) (SqL.of hD) (fun e => ?_) fun ⟨ns, e⟩ => ?_
        · refine ifT rfl ?_
          have q := k W sm
          rw [e] at q
          exact q
        · refine ifF rfl ?_
          subst e
          exact use_bounds rfl rfl rfl (.inr (seqT_same hs sm)) (k W sm)
abbrev s_NoBytes___init__ : Stmt := inClass (top 4) 0
theorem sc_NoBytes___init__ : FnScope ["self", "place"] ["self", "place"] (defScope s_NoBytes___init__) := ⟨rfl, rfl, rfl, by decide +kernel, rfl, by decide +kernel, by decide +kernel⟩
theorem ok_initB {C : Addr} (F : Fun K "__init__" "NoBytes.__init__" s_NoBytes___init__ f fd) (O : OexC K C) (nf : PySem.W.findIn K (.ref C) "place" = some none) : FnOk P w K mg base CX0 1 f fd ["self", "place"] (spInit1 "place" C) := by
  refine F.ok sc_NoBytes___init__ (fun vs H Q E h => ?_) (fun cdv A outer st H vs Q E hr h => ?_)
  · obtain ⟨a, v, rfl, _⟩ := h
    rfl
  · obtain ⟨a, v, rfl, ha, k⟩ := h
    refine ⟨_, pss_one (ps_ost (pv 0) (pv 1)), ?_⟩
    exact ⟨_, rfl, _, rfl, a, C, rfl, O, nf, .inl ⟨ha, fun dx n ne => k dx n ne⟩⟩
abbrev s_Torn___init__ : Stmt := inClass (top 5) 0
theorem sc_Torn___init__ : FnScope ["self", "word", "place"] ["self", "word", "place"] (defScope s_Torn___init__) := ⟨rfl, rfl, rfl, by decide +kernel, rfl, by decide +kernel, by decide +kernel⟩
theorem ok_initT {C : Addr} (F : Fun K "__init__" "Torn.__init__" s_Torn___init__ f fd) (O : OexC K C) (nw : PySem.W.findIn K (.ref C) "word" = some none) (np : PySem.W.findIn K (.ref C) "place" = some none) : FnOk P w K mg base CX0 1 f fd ["self", "word", "place"] (spInit2 "word" "place" C) := by
  refine F.ok sc_Torn___init__ (fun vs H Q E h => ?_) (fun cdv A outer st H vs Q E hr h => ?_)
  · obtain ⟨a, v, u, rfl, _⟩ := h
    rfl
  · obtain ⟨a, v, u, rfl, ha, k⟩ := h
    refine ⟨_, pss_cons (ps_ost (pv 0) (pv 1)) (pss_one (ps_ost (pv 0) (pv 2))), ?_⟩
    refine ⟨_, rfl, _, rfl, a, C, rfl, O, nw, .inl ⟨ha, fun dx n ne => ?_⟩⟩
    exact ⟨_, rfl, _, rfl, a, C, rfl, O, np, .inr ⟨dx, _, upd_same, by rw [upd_ne ne, upd_same], by show 1 ≤ 900; decide, k dx n ne⟩⟩
abbrev s_check_bytes : Stmt := top 24
theorem sc_check_bytes : FnScope ["data", "place", "octet"] ["data"] (defScope s_check_bytes) := ⟨rfl, rfl, rfl, by decide +kernel, rfl, by decide +kernel, by decide +kernel⟩
theorem ok_check {CB fB : Addr} {fdB : FuncData} {tg : Tok} (F : Fun K "check_bytes" "check_bytes" s_check_bytes f fd) (T : Txt K mg) (gb : mg "GREATEST_BYTE" = some (.int 255 tg)) (B : ErrC K mg "NoBytes" CB fB) (bB : Binds K fdB ["self", "place"] [])
    (c_initB : FnOk P w K mg base CX0 1 fB fdB ["self", "place"] (spInit1 "place" CB)) (c_is_between : Cal P w K mg base 2 "is_between" spIsBetween) (c_between : Cal P w K mg base 1 "are_between" (spBtw K)) : FnOk P w K mg base (L2.CX P w) 3 f fd ["data"] (spCheck K CB) := by
  refine F.okX sc_check_bytes (fun vs H Q E h => ?_) (fun cdv A outer st H vs Q E hr h => ?_)
  · obtain ⟨a, xs, rfl, _⟩ := h
    rfl
  · obtain ⟨a, xs, rfl, hs, hp, hl, kb, kn⟩ := h
    refine ⟨_, (pss_cons (ps_if (pt_val (pe_c c_between hr (by decide) (by rfl) (pa_cons (pv 0) (pa_cons pe_int (pa_cons (pe_glob (v := .int 255) (by rfl) gb ⟨_, rfl⟩) pa_nil)))))
      (pss_one ps_retN)
      pss_nil)
      (pss_one (ps_for (passes_of rfl) rfl (pi_enumS (by rfl) T.z_enumerate (pa_cons (pv 0) pa_nil)) (pg_tup rfl (pgs_cons (pg_name (i := 1) sc_check_bytes.nd rfl (Or.inl rfl)) (pgs_cons (pg_name (i := 2) sc_check_bytes.nd rfl (Or.inl rfl)) pgs_nil)))
      (pss_one (ps_if (pt_not (pt_val (pe_c c_is_between hr (by decide) (by rfl) (pa_cons (pv 2) (pa_cons pe_int (pa_cons (pe_glob (v := .int 255) (by rfl) gb ⟨_, rfl⟩) pa_nil))))))
        (pss_one (ps_raise rfl (takes_of rfl rfl rfl rfl) (pmk_oex B.oex B.ini B.tI c_initB hr bB .nil pass0 (by rfl) B.mgC (pa_cons (pv 1) pa_nil))))
        pss_nil))))), ?_⟩
    refine use_seq ?_
    refine ⟨_, rfl, a, xs, 0, 255, rfl, hs, fun v m => (hp v m).kn, szl (by omega), fun H0 (s0 : Same H H0) => ⟨_, rfl, ?_⟩⟩
    rw [btw_byte]
    cases call : xs.all isByte with
    | true => exact ifT rfl (kn (all_none call) H0 s0)
    | false =>
    refine ifF rfl (use_next ?_)
    dsimp only
    replace hs := sq_same hs s0
    replace hp := fun v m => (hp v m).same s0
    replace kb := fun i e => outB_same (kb i e) s0
    replace kn := fun e H' s => kn e H' (s0.trans s)
    clear call
    refine ⟨_, rfl, a, rfl, ?_⟩
    rcases hs with hs | hs
    · refine .inl ⟨xs, hs, for_it (walk_enum (K := K) (a := a) (xs := xs)) (fun i σ H' => ∃ o1 o2 : Option V, σ = [some (.ref a), o1, o2] ∧ Same H0 H' ∧ ∀ j < i, ∀ y, xs[j]? = some y → bad y = false)
        ⟨none, none, rfl, Same.refl H0, fun j hj => absurd hj (Nat.not_lt_zero j)⟩ (fun _ _ _ _ ⟨_, _, _, sm, _⟩ => sm.seq hs) ?_ ?_⟩
      · rintro i x σ H1 H2 hi ⟨o1, o2, rfl, sm, ok⟩ ⟨t, u, v, rfl, nt, rfl, eu, ev⟩
        cases eu
        replace ev : xs[i]? = some v := ev
        have sm2 : Same H0 (upd H1 t (.tup [.int (i : Nat), v])) := sm.trans (same_new nt)
        refine ⟨t, _, rfl, .inl (.inl upd_same), rfl, _, _, rfl, _, _, rfl, rfl, ?_⟩
        have hv := (hp v (List.mem_of_getElem? ev)).same sm2
        refine ⟨_, rfl, v, rfl, hv, _, rfl, ?_⟩
        by_cases c : isByte v = true
        · refine ifF (by rw [c]; rfl) ?_
          refine ⟨_, _, rfl, sm2, fun j hj y hy => ?_⟩
          by_cases e : j = i
          · subst e
            rw [ev] at hy
            cases hy
            show (!isByte v) = false
            rw [c]
            rfl
          · exact ok j (by omega) y hy
        · have c2 : isByte v = false := by simpa using c
          refine ifT (by rw [c2]; rfl) ?_
          refine ⟨_, rfl, (by show 1 ≤ 1000; decide), raise1 fun H' d s' e' => ?_⟩
          exact kb i (find_first ev (by show (!isByte v) = true; rw [c2]; rfl) ok) H' d (sm2.trans s') e'
      · rintro σ H1 ⟨o1, o2, rfl, sm, ok⟩
        exact kn (find_none ok) H1 sm
    · refine .inr ⟨xs, hs, for_it (walk_enumT (K := K) (a := a) (xs := xs)) (fun i σ H' => ∃ o1 o2 : Option V, σ = [some (.ref a), o1, o2] ∧ Same H0 H' ∧ ∀ j < i, ∀ y, xs[j]? = some y → bad y = false)
        ⟨none, none, rfl, Same.refl H0, fun j hj => absurd hj (Nat.not_lt_zero j)⟩ (fun _ _ _ _ ⟨_, _, _, sm, _⟩ => sqT_same hs sm) ?_ ?_⟩
      · rintro i x σ H1 H2 hi ⟨o1, o2, rfl, sm, ok⟩ ⟨t, u, v, rfl, nt, rfl, eu, ev⟩
        cases eu
        replace ev : xs[i]? = some v := ev
        have sm2 : Same H0 (upd H1 t (.tup [.int (i : Nat), v])) := sm.trans (same_new nt)
        refine ⟨t, _, rfl, .inl (.inl upd_same), rfl, _, _, rfl, _, _, rfl, rfl, ?_⟩
        have hv := (hp v (List.mem_of_getElem? ev)).same sm2
        refine ⟨_, rfl, v, rfl, hv, _, rfl, ?_⟩
        by_cases c : isByte v = true
        · refine ifF (by rw [c]; rfl) ?_
          refine ⟨_, _, rfl, sm2, fun j hj y hy => ?_⟩
          by_cases e : j = i
          · subst e
            rw [ev] at hy
            cases hy
            show (!isByte v) = false
            rw [c]
            rfl
          · exact ok j (by omega) y hy
        · have c2 : isByte v = false := by simpa using c
          refine ifT (by rw [c2]; rfl) ?_
          refine ⟨_, rfl, (by show 1 ≤ 1000; decide), raise1 fun H' d s' e' => ?_⟩
          exact kb i (find_first ev (by show (!isByte v) = true; rw [c2]; rfl) ok) H' d (sm2.trans s') e'
      · rintro σ H1 ⟨o1, o2, rfl, sm, ok⟩
        exact kn (find_none ok) H1 sm
def zeros (n : Nat) : List V := List.replicate n (.int 0)
def header : List V := [.int 98, .int 112, .int 108, .int 105, .int 115, .int 116, .int 48, .int 48]
def spLayout (K : PySem.W.Frag) (CT : Addr) : Sp := fun vs H Q E => ∃ (a : Addr) (xs : List V), vs = [.ref a] ∧ SqL K H a xs ∧
  ((xs.length < 42 ∧ outT CT H E "short" (xs.length : Int)) ∨ (xs = zeros 42 ∧ outT CT H E "header" 0))
abbrev s_read_layout : Stmt := top 26
theorem sc_read_layout : FnScope ["data", "place", "octet", "layout"] ["data"] (defScope s_read_layout) := ⟨rfl, rfl, rfl, by decide +kernel, rfl, by decide +kernel, by decide +kernel⟩
theorem ok_layout {CT fT ah : Addr} {fdT : FuncData} {tg : Tok} (F : Fun K "read_layout" "read_layout" s_read_layout f fd) (T : Txt K mg) (gs : mg "SHORTEST_FILE" = some (.int 42 tg)) (gh : mg "HEADER" = some (.ref ah)) (hd : ∀ H, SqT K H ah header) (R : ErrC K mg "Torn" CT fT) (bT : Binds K fdT ["self", "word", "place"] [])
    (c_initT : FnOk P w K mg base CX0 1 fT fdT ["self", "word", "place"] (spInit2 "word" "place" CT)) : FnOk P w K mg base (L2.CX P w) 3 f fd ["data"] (spLayout K CT) := by
  refine F.okX sc_read_layout (fun vs H Q E h => ?_) (fun cdv A outer st H vs Q E hr h => ?_)
  · obtain ⟨a, xs, rfl, _⟩ := h
    rfl
  · obtain ⟨a, xs, rfl, hs, h⟩ := h
    refine ⟨_, (pss_cons (ps_if (pt_cmpR op_lt (pe_callB call_len_seq (by rfl) T.z_len PySem.boot_len (pa_cons (pv 0) pa_nil)) (pe_glob (v := .int 42) (by rfl) gs ⟨_, rfl⟩) (nomark _))
      (pss_one (ps_raise rfl (takes_of rfl rfl rfl rfl) (pmk_oex R.oex R.ini R.tI c_initT hr bT .nil pass0 (by rfl) R.mgC (pa_cons pe_str (pa_cons (pe_callB call_len_seq (by rfl) T.z_len PySem.boot_len (pa_cons (pv 0) pa_nil)) pa_nil)))))
      pss_nil)
      (pss_cons (ps_for (passes_of rfl) rfl (pi_enumS (by rfl) T.z_enumerate (pa_cons (pe_glob (v := .ref ah) (by rfl) gh rfl) pa_nil)) (pg_tup rfl (pgs_cons (pg_name (i := 1) sc_read_layout.nd rfl (Or.inl rfl)) (pgs_cons (pg_name (i := 2) sc_read_layout.nd rfl (Or.inl rfl)) pgs_nil)))
      (pss_one (ps_if (pt_cmpR op_ne (pe_ix ix_list (pv 0) (pv 1) (fun _ _ => rfl)) (pv 2) (nomark _))
        (pss_one (ps_raise rfl (takes_of rfl rfl rfl rfl) (pmk_oex R.oex R.ini R.tI c_initT hr bT .nil pass0 (by rfl) R.mgC (pa_cons pe_str (pa_cons (pv 1) pa_nil)))))
        pss_nil)))
      (pss_cons ps_never
      (pss_cons ps_never
      (pss_one ps_never))))), ?_⟩
    refine use_seq ?_
    refine ⟨_, rfl, a, xs, rfl, .inl hs, _, _, rfl, rfl, _, rfl, ?_⟩
    rcases h with ⟨short, k⟩ | ⟨rfl, k⟩
    · refine ifT (decide_eq_true (by omega)) ?_
      refine ⟨_, rfl, a, xs, rfl, .inl hs, (by show 2 ≤ 1000; decide), raise2 fun H' d s' e' => ?_⟩
      exact k H' d s' e'
    · refine ifF (decide_eq_false (by show ¬ ((((zeros 42).length : Nat) : Int) < 42); decide)) ?_
      dsimp only
      refine use_seq ?_
      refine ⟨ah, rfl, .inr ⟨header, hd _, for_it (walk_enumT (K := K) (a := ah) (xs := header)) (fun i σ H' => i = 0 ∧ σ = [some (.ref a), none, none, none] ∧ Same H H') ⟨rfl, rfl, Same.refl H⟩ (fun _ _ _ _ _ => hd _) ?_ ?_⟩⟩
      · rintro i x σ H1 H2 hi ⟨rfl, rfl, sm⟩ ⟨t, u, v, rfl, nt, rfl, eu, ev⟩
        cases eu
        have ev2 : v = .int 98 := (Option.some.inj ev).symm
        subst ev2
        have sm2 : Same H (upd H1 t (.tup [.int ((0 : Nat) : Int), .int 98])) := sm.trans (same_new nt)
        refine ⟨t, _, rfl, .inl (.inl upd_same), rfl, _, _, rfl, _, _, rfl, rfl, ?_⟩
        refine ⟨_, rfl, _, rfl, a, _, _, .int 0, rfl, rfl, sm2.seq hs, rfl, _, rfl, rfl, _, rfl, ?_⟩
        refine ifT (by decide) ?_
        refine ⟨_, rfl, (by show 2 ≤ 1000; decide), raise2 fun H' d s' e' => ?_⟩
        exact k H' d (sm2.trans s') e'
      · rintro σ H1 ⟨z, _⟩
        cases z
def spRead (K : PySem.W.Frag) (CB CT : Addr) : Sp := fun vs H Q E => ∃ (a : Addr) (xs : List V), vs = [.ref a] ∧ (∀ v ∈ xs, Plain H v) ∧ xs.length ≤ 2000 ∧
  ((∃ i, (SqL K H a xs ∨ SqT K H a xs) ∧ xs.findIdx? bad = some i ∧ outB CB H E i) ∨ (SqL K H a xs ∧ xs.findIdx? bad = none ∧ ((xs.length < 42 ∧ outT CT H E "short" (xs.length : Int)) ∨ (xs = zeros 42 ∧ outT CT H E "header" 0))))
abbrev s_read : Stmt := top 83
theorem sc_read : FnScope ["data", "layout", "objects"] ["data"] (defScope s_read) := ⟨rfl, rfl, rfl, by decide +kernel, rfl, by decide +kernel, by decide +kernel⟩
theorem ok_read {CB CT : Addr} (F : Fun K "read" "read" s_read f fd) (c_check : CalX P w K mg base 3 "check_bytes" (spCheck K CB)) (c_layout : CalX P w K mg base 3 "read_layout" (spLayout K CT)) : FnOk P w K mg base (L2.CX P w) 4 f fd ["data"] (spRead K CB CT) := by
  refine F.okX sc_read (fun vs H Q E h => ?_) (fun cdv A outer st H vs Q E hr h => ?_)
  · obtain ⟨a, xs, rfl, _⟩ := h
    rfl
  · obtain ⟨a, xs, rfl, hp, hl, h⟩ := h
    refine ⟨_, (pss_cons (ps_expr (pe_cX (takes_of rfl rfl rfl rfl) c_check hr (by decide) (by rfl) (pa_cons (pv 0) pa_nil)))
      (pss_cons (ps_set (i := 1) sc_read.nd rfl (Or.inl rfl) (pe_cX (takes_of rfl rfl rfl rfl) c_layout hr (by decide) (by rfl) (pa_cons (pv 0) pa_nil)))
      (pss_cons ps_never
      (pss_one ps_never)))), ?_⟩
    refine use_seq ?_
    rcases h with ⟨i, hs, e, k⟩ | ⟨hs, e, k⟩
    · refine ⟨_, rfl, a, xs, rfl, hs, hp, hl, fun j ej => ?_, fun en => ?_⟩
      · rw [e] at ej
        cases ej
        exact k
      · rw [e] at en
        cases en
    · refine ⟨_, rfl, a, xs, rfl, .inl hs, hp, hl, fun j ej => ?_, fun _ H1 s1 => ?_⟩
      · rw [e] at ej
        cases ej
      dsimp only
      refine use_seq ?_
      refine ⟨_, rfl, a, xs, rfl, s1.seq hs, ?_⟩
      rcases k with ⟨l, k⟩ | ⟨l, k⟩
      · exact .inl ⟨l, fun H' d s' e' => k H' d (s1.trans s') e'⟩
      · exact .inr ⟨l, fun H' d s' e' => k H' d (s1.trans s') e'⟩
end
end Q19


/-! is_byte, said -/
namespace Q19
open PySem PySem.Spec PyProof.Rows L2 QT
def spIsByte : Sp := fun vs H Q _ => ∃ v : V, vs = [v] ∧ Plain H v ∧ Q (.bl (isByte v)) H
def spSaid (K : PySem.W.Frag) : Sp := fun vs H Q _ => ∃ (a : Addr) (xs : List V), vs = [.ref a] ∧ (∀ v ∈ xs, Plain H v) ∧ xs.length ≤ 2000 ∧
  ((∃ i, (SqL K H a xs ∨ SqT K H a xs) ∧ xs.findIdx? bad = some i ∧ ∀ H', Same H H' → Q (.int (i : Int)) H') ∨
    (SqL K H a xs ∧ xs.findIdx? bad = none ∧ xs.length < 42 ∧ ∀ H' t, Same H H' → H' t = some (.tup [.str "short", .int (xs.length : Int)]) → Q (.ref t) H') ∨
    (SqL K H a xs ∧ xs.findIdx? bad = none ∧ xs = zeros 42 ∧ ∀ H' t, Same H H' → H' t = some (.tup [.str "header", .int 0]) → Q (.ref t) H'))
theorem look1 {f : Str} {v : V} : List.lookup f [(f, v)] = some v := by
  rw [lookup_put, if_pos rfl]
theorem look2 {f g : Str} {v u : V} (h : ¬ g = f) : List.lookup g [(f, v), (g, u)] = some u := by
  rw [lookup_put, if_neg h, lookup_put, if_pos rfl]
theorem look3 {f g : Str} {v u : V} : List.lookup f [(f, v), (g, u)] = some v := by
  rw [lookup_put, if_pos rfl]
/-- side conditions; and the plain steps of a reading -/
local macro_rules | `(tactic| walk_at "sd") => `(tactic| first
  | assumption | decide | omega | exact b64 b01 | (show (0 : Int) < _; first | decide | omega) | exact ⟨by decide, by decide, by decide⟩ | exact ⟨by decide, by decide⟩ | exact ⟨by omega, by omega⟩
  | exact .inl ⟨by omega, by omega⟩ | exact .inr ⟨by omega, by omega⟩ | exact sz (by simp) | exact szl (by simp))
local macro_rules | `(tactic| walk_at "rd") => `(tactic| repeat (first
  | refine ⟨_, rfl, ?_⟩
  | refine ⟨_, _, rfl, rfl, ?_⟩
  | refine ⟨_, _, _, _, rfl, rfl, SqL.of (by first | assumption | exact upd_same), rfl, ?_⟩
  | refine .inl ⟨_, rfl, ?_⟩
  | refine .inr ⟨_, rfl, ?_⟩
  | refine ⟨_, _, _, _, rfl, rfl, (by first | assumption | exact upd_same), rfl, ?_⟩
  | refine And.intro (by walk_at "sd") ?_))
section
variable {P : Program} {w : World} {K : PySem.W.Frag} {mg : Str → Option Value} {base : Heap} {f : Addr} {fd : FuncData}
abbrev s__law_is_byte : Stmt := top 93
theorem sc__law_is_byte : FnScope ["_law_one"] ["_law_one"] (defScope s__law_is_byte) := ⟨rfl, rfl, rfl, by decide +kernel, rfl, by decide +kernel, by decide +kernel⟩
theorem ok_is_byte (F : Fun K "_law_is_byte" "_law_is_byte" s__law_is_byte f fd) (T : Txt K mg) : FnOk P w K mg base CX0 1 f fd ["_law_one"] spIsByte := by
  refine F.ok sc__law_is_byte (fun vs H Q E h => ?_) (fun cdv A outer st H vs Q E hr h => ?_)
  · obtain ⟨v, rfl, _⟩ := h
    rfl
  · obtain ⟨v, rfl, hv, k⟩ := h
    refine ⟨_, (pss_one (ps_ret (pe_and (pe_callB call_isi (by rfl) T.z_isinstance (by decide +kernel) (pa_cons (pv 0) (pa_cons (pe_bltn (v := .ty "int") (u := .type "int") (by rfl) T.z_int (by decide +kernel) rfl) pa_nil))) (pe_and (pe_not (pe_callB call_isi (by rfl) T.z_isinstance (by decide +kernel) (pa_cons (pv 0) (pa_cons (pe_bltn (v := .ty "bool") (u := .type "bool") (by rfl) T.z_bool (by decide +kernel) rfl) pa_nil)))) (pe_one (pe_chain op_le op_le pe_int (pv 0) pe_int)))))), ?_⟩
    refine ⟨_, rfl, ?_⟩
    have t := ty_of (K := K) hv
    cases hv with
    | int i =>
      refine ⟨_, _, _, _, true, rfl, .ty _, t, kit_ty (a := "int") (b := "int") (by decide +kernel), true, rfl, ifT rfl ⟨_, rfl, _, _, _, _, false, rfl, .ty _, t, kit_ty (a := "int") (b := "bool") (by decide +kernel), false, rfl, true, rfl, ifT rfl ?_⟩⟩
      refine ⟨_, rfl, _, _, rfl, rfl, _, rfl, ?_⟩
      by_cases c : (0 : Int) ≤ i
      · refine ifT (decide_eq_true c) ?_
        refine ⟨_, _, rfl, rfl, ?_⟩
        have e : isByte (.int i) = decide (i ≤ 255) := by
          show (decide (0 ≤ i) && decide (i ≤ 255)) = _
          rw [decide_eq_true c, Bool.true_and]
        show Q (.bl (decide (i ≤ 255))) H
        rw [← e]
        exact k
      · refine ifF (decide_eq_false c) ?_
        have e : isByte (.int i) = false := by
          show (decide (0 ≤ i) && decide (i ≤ 255)) = _
          rw [decide_eq_false c, Bool.false_and]
        rw [e] at k
        exact k
    | bl b => exact ⟨_, _, _, _, true, rfl, .ty _, t, kit_ty (a := "bool") (b := "int") (by decide +kernel), true, rfl, ifT rfl ⟨_, rfl, _, _, _, _, true, rfl, .ty _, t, kit_ty (a := "bool") (b := "bool") (by decide +kernel), true, rfl, false, rfl, ifF rfl k⟩⟩
    | non => exact ⟨_, _, _, _, false, rfl, .ty _, t, kit_ty (a := "NoneType") (b := "int") (by decide +kernel), false, rfl, ifF rfl k⟩
    | str x => exact ⟨_, _, _, _, false, rfl, .ty _, t, kit_ty (a := "str") (b := "int") (by decide +kernel), false, rfl, ifF rfl k⟩
    | lst h => exact ⟨_, _, _, _, false, rfl, .ty _, t, kit_ty (a := "list") (b := "int") (by decide +kernel), false, rfl, ifF rfl k⟩
abbrev s__law_said : Stmt := top 94
theorem sc__law_said : FnScope ["_law_data", "_law_found", "e"] ["_law_data"] (defScope s__law_said) := ⟨rfl, rfl, rfl, by decide +kernel, rfl, by decide +kernel, by decide +kernel⟩
theorem ok_said {CB fB CT fT CN : Addr} (F : Fun K "_law_said" "_law_said" s__law_said f fd) (B : ErrC K mg "NoBytes" CB fB) (R : ErrC K mg "Torn" CT fT) (mN : mg "NestError" = some (.ref CN))
    (bp : PySem.W.findIn K (.ref CB) "place" = some none) (tw : PySem.W.findIn K (.ref CT) "word" = some none) (tp : PySem.W.findIn K (.ref CT) "place" = some none)
    (xBB : PySem.W.exmOne K (.ref CB) (.ref CB) = some true) (xTB : PySem.W.exmOne K (.ref CT) (.ref CB) = some false) (xTT : PySem.W.exmOne K (.ref CT) (.ref CT) = some true)
    (c_read : CalX P w K mg base 4 "read" (spRead K CB CT)) : FnOk P w K mg base CX0 5 f fd ["_law_data"] (spSaid K) := by
  refine F.ok sc__law_said (fun vs H Q E h => ?_) (fun cdv A outer st H vs Q E hr h => ?_)
  · obtain ⟨a, xs, rfl, _⟩ := h
    rfl
  · obtain ⟨a, xs, rfl, hp, hl, h⟩ := h
    refine ⟨_, pss_cons (ps_set (i := 1) sc__law_said.nd rfl (Or.inl rfl) pe_non) (pss_cons (ps_tryN rfl rfl takes0
        (fun W pn xe tk _ => pss_one (ps_expr (pe_cX tk c_read hr (by decide) (by rfl) (pa_cons (pv 0) pa_nil))))
        (.named (i := 2) ⟨by rfl, by decide, .inl B.mgC⟩ sc__law_said.nd rfl rfl (fun a oe cls d pn hz hf => pss_one (ps_set (i := 1) sc__law_said.nd rfl (Or.inl rfl) (pe_xf B.xf bp hz hf (pv 2))))
        (.named (i := 2) ⟨by rfl, by decide, .inl R.mgC⟩ sc__law_said.nd rfl rfl (fun a oe cls d pn hz hf => pss_one (ps_set (i := 1) sc__law_said.nd rfl (Or.inl rfl) (pe_tup (pa_cons (pe_xf R.xf tw hz hf (pv 2)) (pa_cons (pe_xf R.xf tp hz hf (pv 2)) pa_nil)))))
        (.bare ⟨by rfl, by decide, .inl mN⟩ (fun a oe cls d pn hz hf => pss_one (ps_set (i := 1) sc__law_said.nd rfl (Or.inl rfl) pe_str)) .done)))) (pss_one (ps_ret (pv 1)))), ?_⟩
    refine use_seq ?_
    refine use_set ?_
    show tSeq _ _ _ _ _
    refine use_seq ?_
    refine ⟨_, rfl, a, xs, rfl, hp, hl, ?_⟩
    rcases h with ⟨i, hs, e, k⟩ | ⟨hs, e, l, k⟩ | ⟨hs, e, l, k⟩
    · refine .inl ⟨i, hs, e, fun H' d s' e' => ?_⟩
      refine ⟨true, xBB, fun _ x nx => ?_, fun z => nomatch z⟩
      refine ⟨_, rfl, rfl, rfl, d, _, _, rfl, e', look1, ?_⟩
      exact ⟨_, rfl, k H' s'⟩
    · refine .inr ⟨hs, e, .inl ⟨l, fun H' d s' e' => ?_⟩⟩
      refine ⟨false, xTB, (fun z => nomatch z), fun _ => ⟨true, xTT, fun _ x nx => ?_, fun z => nomatch z⟩⟩
      refine ⟨_, rfl, rfl, rfl, d, _, _, rfl, e', look2 (by decide +kernel), _, rfl, rfl, rfl, d, _, _, rfl, e', look3, sz (by simp), fun t nt => ?_⟩
      exact ⟨_, rfl, k _ t (s'.trans (same_new nt)) upd_same⟩
    · refine .inr ⟨hs, e, .inr ⟨l, fun H' d s' e' => ?_⟩⟩
      refine ⟨false, xTB, (fun z => nomatch z), fun _ => ⟨true, xTT, fun _ x nx => ?_, fun z => nomatch z⟩⟩
      refine ⟨_, rfl, rfl, rfl, d, _, _, rfl, e', look2 (by decide +kernel), _, rfl, rfl, rfl, d, _, _, rfl, e', look3, sz (by simp), fun t nt => ?_⟩
      exact ⟨_, rfl, k _ t (s'.trans (same_new nt)) upd_same⟩
end
end Q19


/-! the law -/
namespace Q19
open PySem PySem.Spec PyProof.Rows L2 QT
theorem Plain.ext {s : Addr} {H H' : Hp} {v : V} (h : Plain H v) (e : Ext s H H') : Plain H' v := by
  cases h with
  | int i => exact .int i
  | bl b => exact .bl b
  | non => exact .non
  | str x => exact .str x
  | @lst a xs h =>
    by_cases z : a = s
    · obtain ⟨x, y, u, q, _⟩ := e.st
      rw [z]
      exact .lst q
    · exact .lst (e.keep _ _ z h)
theorem Plain.upd {p : Addr} {H : Hp} {v : V} {ys : List V} (h : Plain H v) : Plain (upd H p (.lst ys)) v := by
  cases h with
  | int i => exact .int i
  | bl b => exact .bl b
  | non => exact .non
  | str x => exact .str x
  | @lst a xs h =>
    by_cases z : a = p
    · rw [z]
      exact .lst upd_same
    · exact .lst (by rw [upd_ne z]; exact h)
theorem same_of_ext {s : Addr} {H0 H1 H2 : Hp} (n : H0 s = none) (a : Same H0 H1) (b : Ext s H1 H2) : Same H0 H2 := fun x o e => b.keep x o (ne_of_none e n) (a x o e)
def spLaw (K : PySem.W.Frag) : Sp := fun vs H Q _ => ∃ (a : Addr) (ns : List Int), vs = [.ref a] ∧ SqL K H a (ns.map V.int) ∧ ns.length ≤ 63 ∧ ∀ H', Q (.bl true) H'
/-- bytes, at least one -/
def Dat (H : Hp) (d : Addr) (ns : List Int) : Prop := H d = some (.lst (ns.map V.int)) ∧ (∀ k ∈ ns, 0 ≤ k ∧ k < 256) ∧ 1 ≤ ns.length ∧ ns.length ≤ 2000
/-- what the rows of things to be read look like -/
structure Row (s : Addr) (Hs H : Hp) (d r : Addr) (ns : List Int) (xs : List V) : Prop where
  sm : Same Hs H
  st : Stt H s
  ns0 : Hs s = none
  nr0 : Hs r = none
  ds : d ≠ s
  dr : d ≠ r
  rs : r ≠ s
  dat : Dat H d ns
  row : H r = some (.lst xs)
  len : xs.length = ns.length
  pl : ∀ v ∈ xs, Plain H v
section
variable {s : Addr} {Hs H H' : Hp} {d r q : Addr} {ns : List Int} {xs : List V} {o : HO}
theorem Row.le (h : Row s Hs H d r ns xs) : xs.length ≤ 2000 := by
  rw [h.len]
  exact h.dat.2.2.2
theorem Row.ext (h : Row s Hs H d r ns xs) (e : Ext s H H') : Row s Hs H' d r ns xs :=
  ⟨same_of_ext h.ns0 h.sm e, e.st, h.ns0, h.nr0, h.ds, h.dr, h.rs, ⟨e.keep _ _ h.ds h.dat.1, h.dat.2⟩, e.keep _ _ h.rs h.row, h.len, fun v m => (h.pl v m).ext e⟩
theorem Row.same (h : Row s Hs H d r ns xs) (e : Same H H') : Row s Hs H' d r ns xs := h.ext (Ext.of e h.st)
theorem Row.put (h : Row s Hs H d r ns xs) {j : Nat} {v : V} (hv : Plain H v) : Row s Hs (upd H r (.lst (xs.set j v))) d r ns (xs.set j v) := by
  refine ⟨fun x o e => ?_, ?_, h.ns0, h.nr0, h.ds, h.dr, h.rs, ⟨by rw [upd_ne h.dr]; exact h.dat.1, h.dat.2⟩, upd_same, by rw [List.length_set]; exact h.len, fun y m => ?_⟩
  · rw [upd_ne (ne_of_none e h.nr0)]
    exact h.sm x o e
  · obtain ⟨x, y, z, g1, g2⟩ := h.st
    exact ⟨x, y, z, by rw [upd_ne h.rs.symm]; exact g1, g2⟩
  · rcases List.mem_or_eq_of_mem_set m with z | z
    · exact (h.pl y z).upd
    · rw [z]
      exact hv.upd
end
theorem find_some {xs : List V} {j : Nat} {v : V} (h : xs[j]? = some v) (b : bad v = true) : ∃ i, xs.findIdx? bad = some i := by
  cases e : xs.findIdx? bad with
  | some i => exact ⟨i, rfl⟩
  | none =>
    rw [List.findIdx?_eq_none_iff] at e
    rw [e v (List.mem_of_getElem? h)] at b
    cases b
theorem plain_rep {H : Hp} {k : Nat} {v : V} (h : v ∈ (List.replicate k [V.int 0]).flatten) : Plain H v := by
  obtain ⟨l, h1, h2⟩ := List.mem_flatten.mp h
  rw [List.eq_of_mem_replicate h1] at h2
  rw [List.mem_singleton.mp h2]
  exact .int 0
/-- the places of the things that are no bytes, so far -/
theorem due_step {xs : List V} {k : Nat} {x : V} (h : xs[k]? = some x) : (xs.take (k + 1)).findIdx? bad = ((xs.take k).findIdx? bad).or (if bad x = true then some k else none) := by
  obtain ⟨hk, e⟩ := List.getElem?_eq_some_iff.mp h
  rw [List.take_succ, h, Option.toList_some, List.findIdx?_append, List.length_take, Nat.min_eq_left (Nat.le_of_lt hk), List.findIdx?_singleton]
  by_cases b : bad x = true
  · rw [if_pos b, if_pos b]
    simp
  · rw [if_neg b, if_neg b]
    simp
/-- side conditions; and the plain steps of a reading -/
local macro_rules | `(tactic| walk_at "sd") => `(tactic| first
  | assumption | decide | omega | exact b64 b01 | (show (0 : Int) < _; first | decide | omega) | exact ⟨by decide, by decide, by decide⟩ | exact ⟨by decide, by decide⟩ | exact ⟨by omega, by omega⟩
  | exact .inl ⟨by omega, by omega⟩ | exact .inr ⟨by omega, by omega⟩ | exact sz (by simp) | exact szl (by simp))
local macro_rules | `(tactic| walk_at "rd") => `(tactic| repeat (first
  | refine ⟨_, rfl, ?_⟩
  | refine ⟨_, _, rfl, rfl, ?_⟩
  | refine ⟨_, _, _, _, rfl, rfl, SqL.of (by first | assumption | exact upd_same), rfl, ?_⟩
  | refine .inl ⟨_, rfl, ?_⟩
  | refine .inr ⟨_, rfl, ?_⟩
  | refine ⟨_, _, _, _, rfl, rfl, (by first | assumption | exact upd_same), rfl, ?_⟩
  | refine And.intro (by walk_at "sd") ?_))
section
variable {P : Program} {w : World} {K : PySem.W.Frag} {mg : Str → Option Value} {base : Heap} {f : Addr} {fd : FuncData}
abbrev s_law : Stmt := top 95
theorem sc_law : FnScope ["_law_script", "_law_number", "_law_s", "_law_width", "_law_data", "_law_places", "_law_spoilt", "_law_turn", "_law_wrong", "_law_due", "_law_at", "_law_one"] ["_law_script"] (defScope s_law) := ⟨rfl, rfl, rfl, by decide +kernel, rfl, by decide +kernel, by decide +kernel⟩
theorem ok_law (F : Fun K "law" "law" s_law f fd) (T : Txt K mg) (c_state : Cal P w K mg base 1 "_law_state" spState) (c_digit : Cal P w K mg base 1 "_law_digit" spDigit) (c_bodies : Cal P w K mg base 3 "_law_bodies" spBodies)
    (c_assembled : Cal P w K mg base 3 "_law_assembled" spAssembled) (c_is_byte : Cal P w K mg base 1 "_law_is_byte" spIsByte) (c_said : Cal P w K mg base 5 "_law_said" (spSaid K)) : FnOk P w K mg base CX0 6 f fd ["_law_script"] (spLaw K) := by
  refine F.ok sc_law (fun vs H Q E h => ?_) (fun cdv A outer st H vs Q E hr h => ?_)
  · obtain ⟨a, ns, rfl, _⟩ := h
    rfl
  · obtain ⟨a, ns, rfl, hs, hl, k⟩ := h
    refine ⟨_, (pss_cons (ps_for PassesOwn.never rfl (pi_list (pe_slice sl_list (pe_op op_catS (pv 0) (pe_lst (pa_cons pe_int pa_nil))) po_none (po_some pe_int))) (pg_name (i := 1) sc_law.nd rfl (Or.inl rfl))
      (pss_cons (ps_set (i := 2) sc_law.nd rfl (Or.inl rfl) (pe_c c_state hr (by decide) (by rfl) (pa_cons (pv 1) pa_nil)))
        (pss_cons (ps_set (i := 3) sc_law.nd rfl (Or.inl rfl) (pe_op op_add pe_int (pe_c c_digit hr (by decide) (by rfl) (pa_cons (pv 2) (pa_cons pe_int pa_nil)))))
        (pss_cons (ps_asg (pe_c c_assembled hr (by decide) (by rfl) (pa_cons (pv 2) (pa_cons (pe_c c_bodies hr (by decide) (by rfl) (pa_cons (pv 2) (pa_cons (pv 3) pa_nil))) (pa_cons (pv 3) pa_nil)))) (pg_tup rfl (pgs_cons (pg_name (i := 4) sc_law.nd rfl (Or.inl rfl)) (pgs_cons (pg_name (i := 5) sc_law.nd rfl (Or.inl rfl)) pgs_nil))))
        (pss_cons (ps_set (i := 4) sc_law.nd rfl (Or.inl rfl) (pe_ix ix_list (pe_lst (pa_cons (pv 4) (pa_cons (pe_op op_catS (pe_slice sl_list (pv 4) po_none (po_some (pe_c c_digit hr (by decide) (by rfl) (pa_cons (pv 2) (pa_cons pe_int pa_nil))))) (pe_lst (pa_cons pe_int pa_nil))) (pa_cons (pe_lst (pa_cons pe_int pa_nil)) pa_nil)))) (pe_c c_digit hr (by decide) (by rfl) (pa_cons (pv 2) (pa_cons pe_int pa_nil))) (fun _ _ => rfl)))
        (pss_cons (ps_set (i := 6) sc_law.nd rfl (Or.inl rfl) (pe_callTy call_list_of (by rfl) T.z_list (by decide +kernel) (pa_cons (pv 4) pa_nil)))
        (pss_cons (ps_for PassesOwn.never rfl (pi_range1 (by rfl) T.z_range (pa_cons (pe_op op_add pe_int (pe_c c_digit hr (by decide) (by rfl) (pa_cons (pv 2) (pa_cons pe_int pa_nil)))) pa_nil)) (pg_name (i := 7) sc_law.nd rfl (Or.inl rfl))
        (pss_cons (ps_set (i := 8) sc_law.nd rfl (Or.inl rfl) (pe_ix ix_list (pe_lst (pa_cons (pe_un un_neg pe_int) (pa_cons pe_int (pa_cons pe_bl (pa_cons pe_non (pa_cons pe_str (pa_cons (pe_lst (pa_cons pe_int pa_nil)) (pa_cons (pe_op op_pow pe_int pe_int) pa_nil)))))))) (pe_c c_digit hr (by decide) (by rfl) (pa_cons (pv 2) (pa_cons pe_int pa_nil))) (fun _ _ => rfl)))
          (pss_one (ps_asg (pv 8) (pg_sub (pv 6) (pe_c c_digit hr (by decide) (by rfl) (pa_cons (pv 2) (pa_cons (pe_callB call_len_seq (by rfl) T.z_len PySem.boot_len (pa_cons (pv 4) pa_nil)) pa_nil))) set_list)))))
        (pss_cons (ps_setLc (i := 9) (own := [("_law_at", 10), ("_law_one", 11)]) (g := (gTup K 2 (gCons (gName 10) (gCons (gName 11) gNil)))) (by rfl) sc_law.nd rfl rfl (sw_true rfl rfl rfl (by decide +kernel)) (pi_enum (by rfl) T.z_enumerate (pa_cons (pv 6) pa_nil)) (blkOk_by (N := ["_law_script", "_law_number", "_law_s", "_law_width", "_law_data", "_law_places", "_law_spoilt", "_law_turn", "_law_wrong", "_law_due", "_law_at", "_law_one"]) (sc := defScope s_law) (by decide +kernel)) (fun _ _ _ _ _ => (pg_tup rfl (pgs_cons (pg_name (i := 10) sc_law.nd rfl (Or.inl rfl)) (pgs_cons (pg_name (i := 11) sc_law.nd rfl (Or.inl rfl)) pgs_nil)))) (fun _ _ _ _ _ => (pts_one (pt_not (pt_val (pe_c c_is_byte hr (by decide) (by rfl) (pa_cons (pv 11) pa_nil)))))) (fun _ _ _ _ _ => (pv 10)))
        (pss_cons (ps_if (PW.pt (pw_or (pt_cmpR op_ne (pe_c c_said hr (by decide) (by rfl) (pa_cons (pv 6) pa_nil)) (pe_ix ix_list (pv 9) pe_int (fun _ _ => rfl)) (nomark _)) (pw_or1 (pt_cmpR op_ne (pe_c c_said hr (by decide) (by rfl) (pa_cons (pe_callTy call_tuple_of (by rfl) T.z_tuple (by decide +kernel) (pa_cons (pv 6) pa_nil)) pa_nil)) (pe_ix ix_list (pv 9) pe_int (fun _ _ => rfl)) (nomark _)))))
        (pss_one (ps_ret pe_bl))
        pss_nil)
        (pss_cons (ps_if (PW.pt (pw_or (pt_cmpR (op_neD hr.units) (pe_c c_said hr (by decide) (by rfl) (pa_cons (pe_lst pa_nil) pa_nil)) (pe_tup (pa_cons pe_str (pa_cons pe_int pa_nil))) (nomark _)) (pw_or1 (pt_cmpR (op_neD hr.units) (pe_c c_said hr (by decide) (by rfl) (pa_cons (pe_op op_rep (pe_lst (pa_cons pe_int pa_nil)) pe_int) pa_nil)) (pe_tup (pa_cons pe_str (pa_cons pe_int pa_nil))) (nomark _)))))
        (pss_one (ps_ret pe_bl))
        pss_nil)
        (pss_one (ps_if (pt_cmpR (op_neD hr.units) (pe_c c_said hr (by decide) (by rfl) (pa_cons (pe_op op_rep (pe_lst (pa_cons pe_int pa_nil)) pe_int) pa_nil)) (pe_tup (pa_cons pe_str (pa_cons pe_int pa_nil))) (nomark _))
        (pss_one (ps_ret pe_bl))
        pss_nil))))))))))))
      (pss_one (ps_ret pe_bl))), ?_⟩
    refine use_seq ?_
    refine ⟨_, rfl, sz (by simp), fun l1 n1 => ⟨a, l1, _, _, rfl, rfl, (same_new n1).seq hs, SqL.of upd_same, sz (by rw [List.length_map]; simp; omega), fun l2 n2 => ⟨_, rfl, l2, _, rfl, SqL.of upd_same, fun u nu => ?_⟩⟩⟩
    have e1 : ns.map V.int ++ [V.int 0] = (ns ++ [0]).map V.int := by
      rw [List.map_append]
      rfl
    rw [e1]
    obtain ⟨ks, ek, kl⟩ := cut_ints (ns ++ [0]) none (some 3)
    rw [ek]
    refine ⟨u, rfl, ⟨_, SqL.of upd_same⟩, ?_⟩
    generalize hH0 : upd (upd (upd H l1 (.lst [.int 0])) l2 (.lst ((ns ++ [0]).map V.int))) u (.lst (ks.map V.int)) = Hs
    have hu : Hs u = some (.lst (ks.map V.int)) := by
      rw [← hH0]
      exact upd_same
    refine for_it (walk_list (K := K) (a := u) (xs := ks.map V.int)) (fun i σ H' => ∃ o1 o2 o3 o4 o5 o6 o7 o8 o9 o10 o11 : Option V, σ = [some (.ref a), o1, o2, o3, o4, o5, o6, o7, o8, o9, o10, o11] ∧ Same Hs H')
      ⟨none, none, none, none, none, none, none, none, none, none, none, rfl, Same.refl _⟩ (fun _ _ _ _ ⟨_, _, _, _, _, _, _, _, _, _, _, _, sm⟩ => SqL.of (sm _ _ hu)) ?_ ?_
    · rintro i x σ G0 G1 hi ⟨o1, o2, o3, o4, o5, o6, o7, o8, o9, o10, o11, rfl, sm0⟩ ⟨rfl, hx⟩
      rw [List.length_map] at hi
      obtain ⟨n, rfl⟩ : ∃ n, x = V.int n := by
        rw [List.getElem?_map, List.getElem?_eq_getElem hi] at hx
        exact ⟨_, (Option.some.inj hx).symm⟩
      refine use_seq ?_
      -- s = state(number)
      refine ⟨_, rfl, n, rfl, fun G2 s ns2 s2 st2 => ?_⟩
      have s0 : Hs s = none := sm0.free ns2
      have sm2 : Same Hs G2 := sm0.trans s2
      dsimp only
      refine use_seq ?_
      -- width = 1 + digit
      refine ⟨_, rfl, s, _, rfl, st2, by decide, by decide, fun G3 y x3 y0 y1 => ⟨_, _, rfl, rfl, ?_⟩⟩
      have sm3 := same_of_ext s0 sm2 x3
      dsimp only
      refine use_seq ?_
      -- data, places = assembled(s, bodies(s, width), width)
      refine ⟨_, rfl, _, rfl, _, rfl, s, _, rfl, x3.st, by omega, by omega, fun G4 b as I4 l3 l10 => ?_⟩
      have nbs : b ≠ s := x3.st.ne I4.np
      refine ⟨_, rfl, s, b, _, as, rfl, I4.ex.st, nbs, I4.hp, fun a m => ⟨x3.st.ne (I4.bs a m).1, (I4.bs a m).2.2⟩, l3, l10, by omega, by omega, fun G5 t d q ms x5 nt ht nd hd hb h1 h2 => ?_⟩
      have sm5 := same_of_ext s0 (same_of_ext s0 sm3 I4.ex) x5
      have nds : d ≠ s := I4.ex.st.ne nd
      refine ⟨t, _, rfl, .inl (.inl ht), rfl, _, _, rfl, _, _, rfl, rfl, ?_⟩
      dsimp only
      refine use_seq ?_
      -- data = [data, data[:digit] + [0], [7]][digit]
      refine ⟨_, rfl, _, rfl, _, rfl, s, _, rfl, x5.st, by decide, by decide, fun G6 j x6 j0 j1 => ?_⟩
      have hd6 := x6.keep _ _ nds hd
      refine ⟨_, rfl, d, _, rfl, SqL.of hd6, fun p1 m1 => ?_⟩
      obtain ⟨cs, ec, cl, cb⟩ := cut_mem ms none (some j)
      rw [ec]
      have t1 := same_new (o := .lst (cs.map V.int)) m1
      refine ⟨sz (by simp), fun p2 m2 => ?_⟩
      have t2 := same_new (o := .lst [.int 0]) m2
      refine ⟨p1, p2, _, _, rfl, rfl, SqL.of (t2 _ _ upd_same), SqL.of upd_same, sz (by rw [List.length_map]; simp; omega), fun p3 m3 => ?_⟩
      have t3 := same_new (o := .lst (cs.map V.int ++ [.int 0])) m3
      refine ⟨sz (by simp), fun p4 m4 => ?_⟩
      have t4 := same_new (o := .lst [.int 7]) m4
      refine ⟨sz (by simp), fun p5 m5 => ?_⟩
      have t5 := same_new (o := .lst [.ref d, .ref p3, .ref p4]) m5
      have t15 := (((t1.trans t2).trans t3).trans t4).trans t5
      have x7 := x6.ex t15
      refine ⟨_, rfl, s, _, rfl, x7.st, by decide, by decide, fun G7 z x8 z0 z1 => ?_⟩
      have p5s : p5 ≠ s := (x6.ex (((t1.trans t2).trans t3).trans t4)).st.ne m5
      have p4s : p4 ≠ s := (x6.ex ((t1.trans t2).trans t3)).st.ne m4
      have p3s : p3 ≠ s := (x6.ex (t1.trans t2)).st.ne m3
      obtain ⟨e, ns', he, hes, hdat⟩ : ∃ (e : Addr) (ns' : List Int), [V.ref d, V.ref p3, V.ref p4][z.toNat]? = some (.ref e) ∧ e ≠ s ∧ Dat G7 e ns' := by
        have z3 : z = 0 ∨ z = 1 ∨ z = 2 := by omega
        rcases z3 with zz | zz | zz <;> subst zz
        · exact ⟨d, ms, rfl, nds, x8.keep _ _ nds (t15 _ _ hd6), hb, h1, by omega⟩
        · refine ⟨p3, cs ++ [0], rfl, p3s, x8.keep _ _ p3s (t5 _ _ (t4 _ _ (by rw [upd_same, List.map_append]; rfl))), fun j hj => ?_, by simp, by simp; omega⟩
          rcases List.mem_append.mp hj with m | m
          · exact hb j (cb j m)
          · rw [List.mem_singleton.mp m]
            exact ⟨by decide, by decide⟩
        · exact ⟨p4, [7], rfl, p4s, x8.keep _ _ p4s (t5 _ _ upd_same), by decide, by decide, by decide⟩
      have zlt : z.toNat < [V.ref d, V.ref p3, V.ref p4].length := (List.getElem?_eq_some_iff.mp he).1
      have hz : [V.ref d, V.ref p3, V.ref p4][z.toNat] = .ref e := (List.getElem?_eq_some_iff.mp he).2
      refine ⟨p5, _, z, _, rfl, rfl, SqL.of (x8.keep _ _ p5s upd_same), at_ix z0 zlt, ?_⟩
      rw [hz]
      have sm8 := same_of_ext s0 (same_of_ext s0 sm5 (x6.ex t15)) x8
      dsimp only
      refine use_seq ?_
      -- spoilt = list(data)
      refine ⟨_, rfl, e, _, rfl, .inl (SqL.of hdat.1), fun r nr => ?_⟩
      have R0 : Row s Hs (upd G7 r (.lst (ns'.map V.int))) e r ns' (ns'.map V.int) := by
        refine ⟨sm8.trans (same_new nr), x8.st.ex (same_new nr), s0, sm8.free nr, hes, ne_of_none hdat.1 nr, x8.st.ne nr, ⟨same_new nr _ _ hdat.1, hdat.2⟩, upd_same, List.length_map .., fun v m => ?_⟩
        obtain ⟨j, _, rfl⟩ := List.mem_map.mp m
        exact .int j
      dsimp only
      refine use_seq ?_
      -- for turn in range(1 + digit)
      refine ⟨_, rfl, s, _, rfl, R0.st, by decide, by decide, fun G8 c x9 c0 c1 => ⟨_, _, rfl, rfl, _, rfl, by omega, by omega, ?_⟩⟩
      refine for_it walk_range (fun i σ H' => ∃ (xs : List V) (o1 o3 o5 o7 o8 o9 o10 o11 : Option V), σ = [some (.ref a), o1, some (.ref s), o3, some (.ref e), o5, some (.ref r), o7, o8, o9, o10, o11] ∧ Row s Hs H' e r ns' xs ∧ (1 ≤ i → ∃ (j : Nat) (v : V), xs[j]? = some v ∧ bad v = true))
        ⟨_, _, _, _, _, _, _, _, _, rfl, R0.ext x9, fun z => absurd z (by decide)⟩ (fun _ _ _ _ _ => trivial) ?_ ?_
      · rintro i2 x σ W0 W1 hi2 ⟨xs, o1, o3, o5, o7, o8, o9, o10, o11, rfl, R1, _⟩ ⟨rfl, rfl⟩
        refine use_seq ?_
        -- wrong = [..][digit]
        refine ⟨_, rfl, sz (by simp), fun q1 k1 => ⟨_, _, rfl, rfl, ⟨by decide, by decide, by decide⟩, sz (by simp), fun q2 k2 => ?_⟩⟩
        have R2 := (R1.same (same_new (o := .lst [.int 1]) k1)).same (same_new (o := .lst [.int (-1), .int 256, .bl true, .non, .str "a", .ref q1, .int (10 ^ (30 : Int).toNat)]) k2)
        refine ⟨_, rfl, s, _, rfl, R2.st, by decide, by decide, fun W2 b2 y2 b0 b1 => ?_⟩
        have R3 := R2.ext y2
        have q1s : q1 ≠ s := R1.st.ne k1
        have q2s : q2 ≠ s := (R1.same (same_new (o := .lst [.int 1]) k1)).st.ne k2
        obtain ⟨v, hv, vbad, vpl⟩ : ∃ v, [V.int (-1), V.int 256, V.bl true, V.non, V.str "a", V.ref q1, V.int (10 ^ (30 : Int).toNat)][b2.toNat]? = some v ∧ bad v = true ∧ Plain W2 v := by
          have b7 : b2 = 0 ∨ b2 = 1 ∨ b2 = 2 ∨ b2 = 3 ∨ b2 = 4 ∨ b2 = 5 ∨ b2 = 6 := by omega
          rcases b7 with zz | zz | zz | zz | zz | zz | zz <;> subst zz
          · exact ⟨_, rfl, by decide, .int _⟩
          · exact ⟨_, rfl, by decide, .int _⟩
          · exact ⟨_, rfl, by decide, .bl _⟩
          · exact ⟨_, rfl, by decide, .non⟩
          · exact ⟨_, rfl, by decide, .str _⟩
          · exact ⟨_, rfl, rfl, .lst (y2.keep _ _ q1s (same_new k2 _ _ upd_same))⟩
          · exact ⟨_, rfl, by decide, .int _⟩
        have blt := (List.getElem?_eq_some_iff.mp hv).1
        have bv := (List.getElem?_eq_some_iff.mp hv).2
        refine ⟨q2, _, b2, _, rfl, rfl, SqL.of (y2.keep _ _ q2s upd_same), at_ix b0 blt, ?_⟩
        rw [bv]
        -- spoilt[digit] = wrong
        refine ⟨_, rfl, _, rfl, _, rfl, _, rfl, e, _, rfl, .inl (SqL.of R3.dat.1), ?_⟩
        have lns : (ns'.map V.int).length = ns'.length := List.length_map ..
        refine ⟨s, _, rfl, R3.st, by rw [lns]; have := R3.dat.2.2.1; omega, by rw [lns]; have := R3.dat.2.2.2; omega, fun W3 g y3 g0 g1 => ?_⟩
        have R4 := R3.ext y3
        rw [lns] at g1
        refine ⟨r, _, g, g.toNat, rfl, rfl, R4.row, ix_set g0 (by rw [R4.len]; exact g1), ?_⟩
        refine ⟨_, _, _, _, _, _, _, _, _, rfl, R4.put (vpl.ext y3), fun _ => ⟨g.toNat, v, ?_, vbad⟩⟩
        rw [List.getElem?_set_self (by rw [R4.len]; omega)]
      · rintro σ W0 ⟨xs, o1, o3, o5, o7, o8, o9, o10, o11, rfl, R1, hbad⟩
        obtain ⟨j, v, hj, vb⟩ := hbad (by omega)
        obtain ⟨i0, hi0⟩ := find_some hj vb
        dsimp only
        refine use_seq ?_
        -- due = [at for at, one in enumerate(spoilt) if not is_byte(one)]
        refine ⟨_, rfl, r, xs, rfl, SqL.of R1.row, fun D nD => ?_⟩
        have B0 : Same W0 (upd W0 D (.lst [])) := same_new nD
        refine lc_it (walk_enum (K := K) (a := r) (xs := xs)) (fun i H' => ∃ js : List Int, Same W0 H' ∧ H' D = some (.lst (js.map V.int)) ∧ js.length ≤ i ∧ js.head? = ((xs.take i).findIdx? bad).map fun (n : Nat) => (n : Int))
          ⟨[], B0, upd_same, Nat.le_refl _, rfl⟩ (fun _ _ _ ⟨_, sm, _⟩ => SqL.of (sm _ _ R1.row)) ?_ ?_
        · rintro i3 x W1 W2 hi3 ⟨js, sm, hD, jl, jh⟩ ⟨t, u0, v0, rfl, nt, rfl, eu, ev⟩
          cases eu
          replace ev : xs[i3]? = some v0 := ev
          have sm2 := sm.trans (same_new (o := .tup [.int (i3 : Nat), v0]) nt)
          refine ⟨t, _, rfl, .inl (.inl upd_same), rfl, _, _, rfl, _, _, rfl, rfl, rfl, ?_⟩
          refine ⟨_, rfl, v0, rfl, (R1.pl v0 (List.mem_of_getElem? ev)).same sm2, _, rfl, ?_⟩
          have hD2 := same_new (o := .tup [.int (i3 : Nat), v0]) nt _ _ hD
          have step := due_step ev
          by_cases c : isByte v0 = true
          · refine ifF (by rw [c]; rfl) ?_
            refine ⟨js, sm2, hD2, by omega, ?_⟩
            have nb : ¬ bad v0 = true := by
              show ¬ (!isByte v0) = true
              rw [c]
              decide
            rw [step, if_neg nb, Option.or_none]
            exact jh
          · have c2 : isByte v0 = false := by simpa using c
            refine ifT (by rw [c2]; rfl) ?_
            refine ⟨_, rfl, _, hD2, szl (by rw [List.length_map]; have := R1.len; have := R1.dat.2.2.2; omega), ?_⟩
            refine ⟨js ++ [(i3 : Int)], fun x o ex => ?_, by rw [upd_same, List.map_append]; rfl, by rw [List.length_append, List.length_singleton]; omega, ?_⟩
            · rw [upd_ne (ne_of_none ex nD)]
              exact sm2 x o ex
            · have yb : bad v0 = true := by
                show (!isByte v0) = true
                rw [c2]
                rfl
              rw [step, if_pos yb, List.head?_append, jh]
              cases (xs.take i3).findIdx? bad with
              | none => rfl
              | some n => rfl
        · rintro W1 ⟨js, sm, hD, jl, jh⟩
          rw [List.take_length, hi0] at jh
          have R2 := R1.same sm
          have at0 : atI (js.map V.int) 0 = some (.int (i0 : Int)) := by
            cases js with
            | nil => cases jh
            | cons j0 jr =>
              have ej : j0 = (i0 : Int) := Option.some.inj jh
              rw [ej]
              exact at_ix (xs := ((i0 : Int) :: jr).map V.int) (d := 0) (by decide) (by simp)
          dsimp only
          refine use_seq ?_
          refine ⟨_, rfl, r, xs, rfl, R2.pl, R2.le, .inl ⟨i0, .inl (SqL.of R2.row), hi0, fun V1 v1 => ?_⟩⟩
          refine ⟨_, rfl, D, _, _, _, rfl, rfl, SqL.of (v1 _ _ hD), at0, rfl, _, rfl, ifF (by simp) ?_⟩
          have R3 := R2.same v1
          refine ⟨_, rfl, r, xs, rfl, .inl ⟨SqL.of R3.row, fun tp nt => ?_⟩⟩
          have R4 := R3.same (same_new (o := .tup xs) nt)
          refine ⟨tp, xs, rfl, R4.pl, R4.le, .inl ⟨i0, .inr (.inl (.inl upd_same)), hi0, fun V2 v2 => ?_⟩⟩
          refine ⟨_, rfl, D, _, _, _, rfl, rfl, SqL.of (v2 _ _ (same_new nt _ _ (v1 _ _ hD))), at0, rfl, _, rfl, ifF (by simp) ?_⟩
          have R5 := R4.same v2
          dsimp only
          refine use_seq ?_
          -- said([]), said([0] * 41)
          refine ⟨sz (by simp), fun f1 g1 => ?_⟩
          refine ⟨f1, [], rfl, (fun v m => nomatch m), Nat.zero_le _, .inr (.inl ⟨SqL.of upd_same, rfl, by decide, fun V3 t3 v3 e3 => ?_⟩)⟩
          have S3 := (R5.sm.trans (same_new (o := .lst []) g1)).trans v3
          refine ⟨sz (by simp), fun t4 nt4 => ⟨.tuple [.str "short", .int 0], .tuple [.str "short", .int 0], .tup (.inl (.inl (same_new nt4 _ _ e3))) (.cons (.str _) (.cons (.int _) .nil)), .tup (.inl (.inl upd_same)) (.cons (.str _) (.cons (.int _) .nil)), by decide +kernel, by decide +kernel, _, rfl, ifF (by decide +kernel) ?_⟩⟩
          have S4 := S3.trans (same_new (o := .tup [.str "short", .int 0]) nt4)
          refine ⟨sz (by simp), fun h1 m1' => ⟨h1, _, _, rfl, rfl, upd_same, by decide, by decide, sz (by simp), fun h2 m2' => ?_⟩⟩
          have S5 := (S4.trans (same_new (o := .lst [.int 0]) m1')).trans (same_new (o := .lst ((List.replicate (41 : Int).toNat [V.int 0]).flatten)) m2')
          refine ⟨h2, _, rfl, (fun v m => plain_rep m), by decide +kernel, .inr (.inl ⟨SqL.of upd_same, by decide +kernel, by decide +kernel, fun V4 t5 v4 e5 => ?_⟩)⟩
          have S6 := S5.trans v4
          refine ⟨sz (by simp), fun t6 nt6 => ⟨.tuple [.str "short", .int 41], .tuple [.str "short", .int 41], .tup (.inl (.inl (same_new nt6 _ _ e5))) (.cons (.str _) (.cons (.int _) .nil)), .tup (.inl (.inl upd_same)) (.cons (.str _) (.cons (.int _) .nil)), by decide +kernel, by decide +kernel, _, rfl, ifF (by decide +kernel) ?_⟩⟩
          have S7 := S6.trans (same_new (o := .tup [.str "short", .int 41]) nt6)
          refine ⟨sz (by simp), fun h3 m3' => ⟨h3, _, _, rfl, rfl, upd_same, by decide, by decide, sz (by simp), fun h4 m4' => ?_⟩⟩
          have S8 := (S7.trans (same_new (o := .lst [.int 0]) m3')).trans (same_new (o := .lst ((List.replicate (42 : Int).toNat [V.int 0]).flatten)) m4')
          refine ⟨h4, _, rfl, (fun v m => plain_rep m), by decide +kernel, .inr (.inr ⟨SqL.of upd_same, by decide +kernel, rfl, fun V5 t7 v5 e7 => ?_⟩)⟩
          have S9 := S8.trans v5
          refine ⟨sz (by simp), fun t8 nt8 => ⟨.tuple [.str "header", .int 0], .tuple [.str "header", .int 0], .tup (.inl (.inl (same_new nt8 _ _ e7))) (.cons (.str _) (.cons (.int _) .nil)), .tup (.inl (.inl upd_same)) (.cons (.str _) (.cons (.int _) .nil)), by decide +kernel, by decide +kernel, _, rfl, ifF (by decide +kernel) ?_⟩⟩
          exact ⟨_, _, _, _, _, _, _, _, _, _, _, rfl, S9.trans (same_new nt8)⟩
    · rintro σ G0 ⟨o1, o2, o3, o4, o5, o6, o7, o8, o9, o10, o11, rfl, sm0⟩
      exact k _
end
end Q19


/-! the end -/
namespace Q19
open PySem PySem.Spec PyProof.Rows L2 QT
theorem exm_is {K : PySem.W.Frag} {c C : Addr} {b : Bool} (h1 : PySem.W.subIn K (.ref C) (.type "BaseException") = some true) (h2 : PySem.W.isClsIn K C = true) (h3 : PySem.W.typeIn K (.ref C) = some (.type "type")) (h4 : PySem.W.subIn K (.ref c) (.ref C) = some b) : PySem.W.exmOne K (.ref c) (.ref C) = some b := by
  have y1 : (PySem.W.subIn K (.ref C) (.type "BaseException") == some true) = true := by
    rw [h1]
    rfl
  have y2 : ((PySem.W.clsIn K C).isSome && PySem.W.typeIn K (.ref C) == some (.type "type")) = true := by
    have y3 : (PySem.W.clsIn K C).isSome = true := h2
    rw [y3, h3]
    rfl
  unfold PySem.W.exmOne PySem.W.kitCls
  rw [if_pos y1]
  dsimp only
  rw [if_pos y2]
  exact h4
theorem all_mk {P : Program} {w : World} {K : PySem.W.Frag} {h : Heap} {mg : Str → Option Value} {fa fSt fDi fOc fSh fLe fBo fAs fIb fSa fLa fIn fBe fBw fCh fLy fRe fNi fTi CB CT CN HH : Addr} (X : K.In h) (G : h.Ns mainGlobals mg) (hfa : mg "law" = some (.ref fa))
    {odSt anSt odDi anDi odOc anOc odSh anSh odLe anLe odBo anBo odAs anAs odIb anIb odSa anSa odLa anLa odIn anIn odBe anBe odBw anBw odCh anCh odLy anLy odRe anRe odNi anNi odTi anTi : Option Addr} {slSt slDi slOc slSh slLe slBo slAs slIb slSa slLa slIn slBe slBw slCh slLy slRe slNi slTi : Array (Option Value)} {ocSt kVSt dcSt pmSt cdSt ctSt ocDi kVDi dcDi pmDi cdDi ctDi ocOc kVOc dcOc pmOc cdOc ctOc ocSh kVSh dcSh pmSh cdSh ctSh ocLe kVLe dcLe pmLe cdLe ctLe ocBo kVBo dcBo pmBo cdBo ctBo ocAs kVAs dcAs pmAs cdAs ctAs ocIb kVIb dcIb pmIb cdIb ctIb ocSa kVSa dcSa pmSa cdSa ctSa ocLa kVLa dcLa pmLa cdLa ctLa ocIn kVIn dcIn pmIn cdIn ctIn ocBe kVBe dcBe pmBe cdBe ctBe ocBw kVBw dcBw pmBw cdBw ctBw ocCh kVCh dcCh pmCh cdCh ctCh ocLy kVLy dcLy pmLy cdLy ctLy ocRe kVRe dcRe pmRe cdRe ctRe ocNi kVNi dcNi pmNi cdNi ctNi ocTi kVTi dcTi pmTi cdTi ctTi : Value}
    {nmB qB : Str} {NB : Addr} {bsB subB bmB : List Value} {snB : List Str} {abB : Bool} {colB : Option Bool} {ddB : Option Addr} {m0B m1B m2B m3B m5B : Option Value}
    {nmT qT : Str} {NT : Addr} {bsT subT bmT : List Value} {snT : List Str} {abT : Bool} {colT : Option Bool} {ddT : Option Addr} {m0T m1T m2T m3T m5T : Option Value}
    {tkGb : Tok}
    {tkSf : Tok}
    {odH : Option Addr} {slH : Array (Option Value)} {nH : Nat} {uH0 : Tok} {uH1 : Tok} {uH2 : Tok} {uH3 : Tok} {uH4 : Tok} {uH5 : Tok} {uH6 : Tok} {uH7 : Tok}
    (gB : PySem.W.nsIn K mainGlobals "NoBytes" = some (some (.ref CB)))
    (xB : K.lookup CB = some (excClassObj nmB qB CB NB bsB bmB true snB subB abB colB ddB m0B m1B m2B m3B m5B "ValueError.__new__"))
    (rB : PySem.HandSPX.refsVE bmB = true)
    (saB : PySem.W.findIn K (.ref CB) "__setattr__" = some (some (.builtin "object.__setattr__")))
    (gaB : PySem.W.findIn K (.ref CB) "__getattribute__" = some (some (.builtin "BaseException.__getattribute__")))
    (ggB : PySem.W.findIn K (.ref CB) "__getattr__" = some none)
    (keB : PySem.W.keepIn K (.ref CB) = true)
    (beB : PySem.W.subIn K (.ref CB) (.type "BaseException") = some true)
    (tyB : PySem.W.typeIn K (.ref CB) = some (.type "type"))
    (hdB : PySem.W.hasDictIn K CB = true)
    (icB : PySem.W.isClsIn K CB = true)
    (nB_place : PySem.W.findIn K (.ref CB) "place" = some none)
    (gT : PySem.W.nsIn K mainGlobals "Torn" = some (some (.ref CT)))
    (xT : K.lookup CT = some (excClassObj nmT qT CT NT bsT bmT true snT subT abT colT ddT m0T m1T m2T m3T m5T "ValueError.__new__"))
    (rT : PySem.HandSPX.refsVE bmT = true)
    (saT : PySem.W.findIn K (.ref CT) "__setattr__" = some (some (.builtin "object.__setattr__")))
    (gaT : PySem.W.findIn K (.ref CT) "__getattribute__" = some (some (.builtin "BaseException.__getattribute__")))
    (ggT : PySem.W.findIn K (.ref CT) "__getattr__" = some none)
    (keT : PySem.W.keepIn K (.ref CT) = true)
    (beT : PySem.W.subIn K (.ref CT) (.type "BaseException") = some true)
    (tyT : PySem.W.typeIn K (.ref CT) = some (.type "type"))
    (hdT : PySem.W.hasDictIn K CT = true)
    (icT : PySem.W.isClsIn K CT = true)
    (nT_word : PySem.W.findIn K (.ref CT) "word" = some none)
    (nT_place : PySem.W.findIn K (.ref CT) "place" = some none)
    (suBB : PySem.W.subIn K (.ref CB) (.ref CB) = some true)
    (suTB : PySem.W.subIn K (.ref CT) (.ref CB) = some false)
    (suTT : PySem.W.subIn K (.ref CT) (.ref CT) = some true)
    (gN : PySem.W.nsIn K mainGlobals "NestError" = some (some (.ref CN)))
    (iGb : PySem.W.nsIn K mainGlobals "GREATEST_BYTE" = some (some (.int 255 tkGb)))
    (iSf : PySem.W.nsIn K mainGlobals "SHORTEST_FILE" = some (some (.int 42 tkSf)))
    (hH : PySem.W.nsIn K mainGlobals "HEADER" = some (some (.ref HH)))
    (hlH : K.lookup HH = some ⟨.type "tuple", odH, .seq #[.int 98 uH0, .int 112 uH1, .int 108 uH2, .int 105 uH3, .int 115 uH4, .int 116 uH5, .int 48 uH6, .int 48 uH7] nH, slH⟩)
    (z_len : PySem.W.nsIn K mainGlobals "len" = some none)
    (z_abs : PySem.W.nsIn K mainGlobals "abs" = some none)
    (z_int : PySem.W.nsIn K mainGlobals "int" = some none)
    (z_bool : PySem.W.nsIn K mainGlobals "bool" = some none)
    (z_list : PySem.W.nsIn K mainGlobals "list" = some none)
    (z_tuple : PySem.W.nsIn K mainGlobals "tuple" = some none)
    (z_isinstance : PySem.W.nsIn K mainGlobals "isinstance" = some none)
    (z_enumerate : PySem.W.nsIn K mainGlobals "enumerate" = some none)
    (z_range : PySem.W.nsIn K mainGlobals "range" = some none)
    (z_min : PySem.W.nsIn K mainGlobals "min" = some none)
    (z_max : PySem.W.nsIn K mainGlobals "max" = some none)
    (aSt : PySem.W.nsIn K mainGlobals "_law_state" = some (some (.ref fSt)))
    (lSt : K.lookup fSt = some ⟨ocSt, odSt, .func (PySem.W.fnOf "_law_state" "_law_state" (defArgs s__law_state) (defBody s__law_state) (defScope s__law_state) .none kVSt dcSt pmSt anSt cdSt ctSt), slSt⟩)
    (cSt : PySem.W.codeIn K cdSt "_law_state" = true)
    (kSt : PySem.W.keepIn K (.ref fSt) = true)
    (aDi : PySem.W.nsIn K mainGlobals "_law_digit" = some (some (.ref fDi)))
    (lDi : K.lookup fDi = some ⟨ocDi, odDi, .func (PySem.W.fnOf "_law_digit" "_law_digit" (defArgs s__law_digit) (defBody s__law_digit) (defScope s__law_digit) .none kVDi dcDi pmDi anDi cdDi ctDi), slDi⟩)
    (cDi : PySem.W.codeIn K cdDi "_law_digit" = true)
    (kDi : PySem.W.keepIn K (.ref fDi) = true)
    (aOc : PySem.W.nsIn K mainGlobals "_law_octets" = some (some (.ref fOc)))
    (lOc : K.lookup fOc = some ⟨ocOc, odOc, .func (PySem.W.fnOf "_law_octets" "_law_octets" (defArgs s__law_octets) (defBody s__law_octets) (defScope s__law_octets) .none kVOc dcOc pmOc anOc cdOc ctOc), slOc⟩)
    (cOc : PySem.W.codeIn K cdOc "_law_octets" = true)
    (kOc : PySem.W.keepIn K (.ref fOc) = true)
    (aSh : PySem.W.nsIn K mainGlobals "_law_shuffled" = some (some (.ref fSh)))
    (lSh : K.lookup fSh = some ⟨ocSh, odSh, .func (PySem.W.fnOf "_law_shuffled" "_law_shuffled" (defArgs s__law_shuffled) (defBody s__law_shuffled) (defScope s__law_shuffled) .none kVSh dcSh pmSh anSh cdSh ctSh), slSh⟩)
    (cSh : PySem.W.codeIn K cdSh "_law_shuffled" = true)
    (kSh : PySem.W.keepIn K (.ref fSh) = true)
    (aLe : PySem.W.nsIn K mainGlobals "_law_leaf" = some (some (.ref fLe)))
    (lLe : K.lookup fLe = some ⟨ocLe, odLe, .func (PySem.W.fnOf "_law_leaf" "_law_leaf" (defArgs s__law_leaf) (defBody s__law_leaf) (defScope s__law_leaf) .none kVLe dcLe pmLe anLe cdLe ctLe), slLe⟩)
    (cLe : PySem.W.codeIn K cdLe "_law_leaf" = true)
    (kLe : PySem.W.keepIn K (.ref fLe) = true)
    (aBo : PySem.W.nsIn K mainGlobals "_law_bodies" = some (some (.ref fBo)))
    (lBo : K.lookup fBo = some ⟨ocBo, odBo, .func (PySem.W.fnOf "_law_bodies" "_law_bodies" (defArgs s__law_bodies) (defBody s__law_bodies) (defScope s__law_bodies) .none kVBo dcBo pmBo anBo cdBo ctBo), slBo⟩)
    (cBo : PySem.W.codeIn K cdBo "_law_bodies" = true)
    (kBo : PySem.W.keepIn K (.ref fBo) = true)
    (aAs : PySem.W.nsIn K mainGlobals "_law_assembled" = some (some (.ref fAs)))
    (lAs : K.lookup fAs = some ⟨ocAs, odAs, .func (PySem.W.fnOf "_law_assembled" "_law_assembled" (defArgs s__law_assembled) (defBody s__law_assembled) (defScope s__law_assembled) .none kVAs dcAs pmAs anAs cdAs ctAs), slAs⟩)
    (cAs : PySem.W.codeIn K cdAs "_law_assembled" = true)
    (kAs : PySem.W.keepIn K (.ref fAs) = true)
    (aIb : PySem.W.nsIn K mainGlobals "_law_is_byte" = some (some (.ref fIb)))
    (lIb : K.lookup fIb = some ⟨ocIb, odIb, .func (PySem.W.fnOf "_law_is_byte" "_law_is_byte" (defArgs s__law_is_byte) (defBody s__law_is_byte) (defScope s__law_is_byte) .none kVIb dcIb pmIb anIb cdIb ctIb), slIb⟩)
    (cIb : PySem.W.codeIn K cdIb "_law_is_byte" = true)
    (kIb : PySem.W.keepIn K (.ref fIb) = true)
    (aSa : PySem.W.nsIn K mainGlobals "_law_said" = some (some (.ref fSa)))
    (lSa : K.lookup fSa = some ⟨ocSa, odSa, .func (PySem.W.fnOf "_law_said" "_law_said" (defArgs s__law_said) (defBody s__law_said) (defScope s__law_said) .none kVSa dcSa pmSa anSa cdSa ctSa), slSa⟩)
    (cSa : PySem.W.codeIn K cdSa "_law_said" = true)
    (kSa : PySem.W.keepIn K (.ref fSa) = true)
    (aLa : PySem.W.nsIn K mainGlobals "law" = some (some (.ref fLa)))
    (lLa : K.lookup fLa = some ⟨ocLa, odLa, .func (PySem.W.fnOf "law" "law" (defArgs s_law) (defBody s_law) (defScope s_law) .none kVLa dcLa pmLa anLa cdLa ctLa), slLa⟩)
    (cLa : PySem.W.codeIn K cdLa "law" = true)
    (kLa : PySem.W.keepIn K (.ref fLa) = true)
    (aIn : PySem.W.nsIn K mainGlobals "is_integer" = some (some (.ref fIn)))
    (lIn : K.lookup fIn = some ⟨ocIn, odIn, .func (PySem.W.fnOf "is_integer" "is_integer" (defArgs s_is_integer) (defBody s_is_integer) (defScope s_is_integer) .none kVIn dcIn pmIn anIn cdIn ctIn), slIn⟩)
    (cIn : PySem.W.codeIn K cdIn "is_integer" = true)
    (kIn : PySem.W.keepIn K (.ref fIn) = true)
    (aBe : PySem.W.nsIn K mainGlobals "is_between" = some (some (.ref fBe)))
    (lBe : K.lookup fBe = some ⟨ocBe, odBe, .func (PySem.W.fnOf "is_between" "is_between" (defArgs s_is_between) (defBody s_is_between) (defScope s_is_between) .none kVBe dcBe pmBe anBe cdBe ctBe), slBe⟩)
    (cBe : PySem.W.codeIn K cdBe "is_between" = true)
    (kBe : PySem.W.keepIn K (.ref fBe) = true)
    (aBw : PySem.W.nsIn K mainGlobals "are_between" = some (some (.ref fBw)))
    (lBw : K.lookup fBw = some ⟨ocBw, odBw, .func (PySem.W.fnOf "are_between" "are_between" (defArgs s_are_between) (defBody s_are_between) (defScope s_are_between) .none kVBw dcBw pmBw anBw cdBw ctBw), slBw⟩)
    (cBw : PySem.W.codeIn K cdBw "are_between" = true)
    (kBw : PySem.W.keepIn K (.ref fBw) = true)
    (aCh : PySem.W.nsIn K mainGlobals "check_bytes" = some (some (.ref fCh)))
    (lCh : K.lookup fCh = some ⟨ocCh, odCh, .func (PySem.W.fnOf "check_bytes" "check_bytes" (defArgs s_check_bytes) (defBody s_check_bytes) (defScope s_check_bytes) .none kVCh dcCh pmCh anCh cdCh ctCh), slCh⟩)
    (cCh : PySem.W.codeIn K cdCh "check_bytes" = true)
    (kCh : PySem.W.keepIn K (.ref fCh) = true)
    (aLy : PySem.W.nsIn K mainGlobals "read_layout" = some (some (.ref fLy)))
    (lLy : K.lookup fLy = some ⟨ocLy, odLy, .func (PySem.W.fnOf "read_layout" "read_layout" (defArgs s_read_layout) (defBody s_read_layout) (defScope s_read_layout) .none kVLy dcLy pmLy anLy cdLy ctLy), slLy⟩)
    (cLy : PySem.W.codeIn K cdLy "read_layout" = true)
    (kLy : PySem.W.keepIn K (.ref fLy) = true)
    (aRe : PySem.W.nsIn K mainGlobals "read" = some (some (.ref fRe)))
    (lRe : K.lookup fRe = some ⟨ocRe, odRe, .func (PySem.W.fnOf "read" "read" (defArgs s_read) (defBody s_read) (defScope s_read) .none kVRe dcRe pmRe anRe cdRe ctRe), slRe⟩)
    (cRe : PySem.W.codeIn K cdRe "read" = true)
    (kRe : PySem.W.keepIn K (.ref fRe) = true)
    (aNi : PySem.W.findIn K (.ref CB) "__init__" = some (some (.ref fNi)))
    (tNi : PySem.W.typeIn K (.ref fNi) = some (.type "function"))
    (lNi : K.lookup fNi = some ⟨ocNi, odNi, .func (PySem.W.fnOf "__init__" "NoBytes.__init__" (defArgs s_NoBytes___init__) (defBody s_NoBytes___init__) (defScope s_NoBytes___init__) .none kVNi dcNi pmNi anNi cdNi ctNi), slNi⟩)
    (cNi : PySem.W.codeIn K cdNi "NoBytes.__init__" = true)
    (kNi : PySem.W.keepIn K (.ref fNi) = true)
    (aTi : PySem.W.findIn K (.ref CT) "__init__" = some (some (.ref fTi)))
    (tTi : PySem.W.typeIn K (.ref fTi) = some (.type "function"))
    (lTi : K.lookup fTi = some ⟨ocTi, odTi, .func (PySem.W.fnOf "__init__" "Torn.__init__" (defArgs s_Torn___init__) (defBody s_Torn___init__) (defScope s_Torn___init__) .none kVTi dcTi pmTi anTi cdTi ctTi), slTi⟩)
    (cTi : PySem.W.codeIn K cdTi "Torn.__init__" = true)
    (kTi : PySem.W.keepIn K (.ref fTi) = true)
    : ∃ fd : FuncData, (∀ (s : Shared) (v : Value), BindsTo s fd ⟨[v], []⟩ [("_law_script", v)]) ∧ ∀ base : Heap, K.In base → base.Ns mainGlobals mg → FnOk P w K mg base CX0 6 fa fd ["_law_script"] (spLaw K) := by
  have e := hfa.symm.trans (PySem.W.mg_of X G aLa)
  cases e
  have FSt := fun_mk (st := s__law_state) lSt cSt kSt
  have bSt := FSt.binds (ps := ["_law_source"]) fun _ _ _ _ _ _ us hl => match us, hl with | [_], _ => rfl
  have FDi := fun_mk (st := s__law_digit) lDi cDi kDi
  have bDi := FDi.binds (ps := ["_law_state_here", "_law_base"]) fun _ _ _ _ _ _ us hl => match us, hl with | [_, _], _ => rfl
  have FOc := fun_mk (st := s__law_octets) lOc cOc kOc
  have bOc := FOc.binds (ps := ["_law_number", "_law_count"]) fun _ _ _ _ _ _ us hl => match us, hl with | [_, _], _ => rfl
  have FSh := fun_mk (st := s__law_shuffled) lSh cSh kSh
  have bSh := FSh.binds (ps := ["_law_s", "_law_items"]) fun _ _ _ _ _ _ us hl => match us, hl with | [_, _], _ => rfl
  have FLe := fun_mk (st := s__law_leaf) lLe cLe kLe
  have bLe := FLe.binds (ps := ["_law_s"]) fun _ _ _ _ _ _ us hl => match us, hl with | [_], _ => rfl
  have FBo := fun_mk (st := s__law_bodies) lBo cBo kBo
  have bBo := FBo.binds (ps := ["_law_s", "_law_width"]) fun _ _ _ _ _ _ us hl => match us, hl with | [_, _], _ => rfl
  have FAs := fun_mk (st := s__law_assembled) lAs cAs kAs
  have bAs := FAs.binds (ps := ["_law_s", "_law_bodies_here", "_law_width"]) fun _ _ _ _ _ _ us hl => match us, hl with | [_, _, _], _ => rfl
  have FIb := fun_mk (st := s__law_is_byte) lIb cIb kIb
  have bIb := FIb.binds (ps := ["_law_one"]) fun _ _ _ _ _ _ us hl => match us, hl with | [_], _ => rfl
  have FSa := fun_mk (st := s__law_said) lSa cSa kSa
  have bSa := FSa.binds (ps := ["_law_data"]) fun _ _ _ _ _ _ us hl => match us, hl with | [_], _ => rfl
  have FLa := fun_mk (st := s_law) lLa cLa kLa
  have FIn := fun_mk (st := s_is_integer) lIn cIn kIn
  have bIn := FIn.binds (ps := ["thing"]) fun _ _ _ _ _ _ us hl => match us, hl with | [_], _ => rfl
  have FBe := fun_mk (st := s_is_between) lBe cBe kBe
  have bBe := FBe.binds (ps := ["thing", "low", "high"]) fun _ _ _ _ _ _ us hl => match us, hl with | [_, _, _], _ => rfl
  have FBw := fun_mk (st := s_are_between) lBw cBw kBw
  have bBw := FBw.binds (ps := ["things", "low", "high"]) fun _ _ _ _ _ _ us hl => match us, hl with | [_, _, _], _ => rfl
  have FCh := fun_mk (st := s_check_bytes) lCh cCh kCh
  have bCh := FCh.binds (ps := ["data"]) fun _ _ _ _ _ _ us hl => match us, hl with | [_], _ => rfl
  have FLy := fun_mk (st := s_read_layout) lLy cLy kLy
  have bLy := FLy.binds (ps := ["data"]) fun _ _ _ _ _ _ us hl => match us, hl with | [_], _ => rfl
  have FRe := fun_mk (st := s_read) lRe cRe kRe
  have bRe := FRe.binds (ps := ["data"]) fun _ _ _ _ _ _ us hl => match us, hl with | [_], _ => rfl
  have FNi := fun_mk (st := s_NoBytes___init__) lNi cNi kNi
  have bNi := FNi.binds (ps := ["self", "place"]) fun _ _ _ _ _ _ us hl => match us, hl with | [_, _], _ => rfl
  have FTi := fun_mk (st := s_Torn___init__) lTi cTi kTi
  have bTi := FTi.binds (ps := ["self", "word", "place"]) fun _ _ _ _ _ _ us hl => match us, hl with | [_, _, _], _ => rfl
  have T : Txt K mg := ⟨PySem.W.mg_none_of X G z_len, PySem.W.mg_none_of X G z_abs, PySem.W.mg_none_of X G z_int, PySem.W.mg_none_of X G z_bool, PySem.W.mg_none_of X G z_list, PySem.W.mg_none_of X G z_tuple, PySem.W.mg_none_of X G z_isinstance, PySem.W.mg_none_of X G z_enumerate, PySem.W.mg_none_of X G z_range, PySem.W.mg_none_of X G z_min, PySem.W.mg_none_of X G z_max⟩
  have B : ErrC K mg "NoBytes" CB fNi := ⟨⟨⟨_, _, _, _, _, _, _, _, _, _, _, _, _, _, _, xB, rB⟩, saB, beB, tyB, keB⟩, ⟨gaB, ggB, beB, hdB⟩, aNi, tNi, PySem.W.mg_of X G gB⟩
  have R : ErrC K mg "Torn" CT fTi := ⟨⟨⟨_, _, _, _, _, _, _, _, _, _, _, _, _, _, _, xT, rT⟩, saT, beT, tyT, keT⟩, ⟨gaT, ggT, beT, hdT⟩, aTi, tTi, PySem.W.mg_of X G gT⟩
  have hd : ∀ H, SqT K H HH header := fun H => .inr ⟨_, _, _, hlH, rfl, rfl, (by show 8 ≤ sizeLine; decide), .cons ⟨_, rfl⟩ (.cons ⟨_, rfl⟩ (.cons ⟨_, rfl⟩ (.cons ⟨_, rfl⟩ (.cons ⟨_, rfl⟩ (.cons ⟨_, rfl⟩ (.cons ⟨_, rfl⟩ (.cons ⟨_, rfl⟩ .nil)))))))⟩
  refine ⟨PySem.W.fnOf "law" "law" (defArgs s_law) (defBody s_law) (defScope s_law) .none kVLa dcLa pmLa anLa cdLa ctLa, fun s v => .of_eq rfl, fun base _ _ => ?_⟩
  have c_state : Cal P w K mg base 1 "_law_state" spState := ⟨_, _, _, ok_state FSt T, PySem.W.mg_of X G aSt, kSt, bSt⟩
  have c_digit : Cal P w K mg base 1 "_law_digit" spDigit := ⟨_, _, _, ok_digit FDi T, PySem.W.mg_of X G aDi, kDi, bDi⟩
  have c_octets : Cal P w K mg base 1 "_law_octets" spOctets := ⟨_, _, _, ok_octets FOc T, PySem.W.mg_of X G aOc, kOc, bOc⟩
  have c_shuffled : Cal P w K mg base 2 "_law_shuffled" (spShuffled K) := ⟨_, _, _, ok_shuffled FSh T c_digit, PySem.W.mg_of X G aSh, kSh, bSh⟩
  have c_leaf : Cal P w K mg base 2 "_law_leaf" spLeaf := ⟨_, _, _, ok_leaf FLe T c_digit, PySem.W.mg_of X G aLe, kLe, bLe⟩
  have c_bodies : Cal P w K mg base 3 "_law_bodies" spBodies := ⟨_, _, _, ok_bodies FBo T c_digit c_octets c_shuffled c_leaf, PySem.W.mg_of X G aBo, kBo, bBo⟩
  have c_assembled : Cal P w K mg base 3 "_law_assembled" spAssembled := ⟨_, _, _, ok_assembled FAs T c_digit c_octets c_shuffled, PySem.W.mg_of X G aAs, kAs, bAs⟩
  have c_is_byte : Cal P w K mg base 1 "_law_is_byte" spIsByte := ⟨_, _, _, ok_is_byte FIb T, PySem.W.mg_of X G aIb, kIb, bIb⟩
  have c_is_integer : Cal P w K mg base 1 "is_integer" spIsInteger := ⟨_, _, _, ok_is_integer FIn T, PySem.W.mg_of X G aIn, kIn, bIn⟩
  have c_is_between : Cal P w K mg base 2 "is_between" spIsBetween := ⟨_, _, _, ok_is_between FBe T c_is_integer, PySem.W.mg_of X G aBe, kBe, bBe⟩
  have c_between : Cal P w K mg base 1 "are_between" (spBtw K) := ⟨_, _, _, ok_between FBw T, PySem.W.mg_of X G aBw, kBw, bBw⟩
  have c_check : CalX P w K mg base 3 "check_bytes" (spCheck K CB) := ⟨_, _, _, ok_check FCh T (PySem.W.mg_of X G iGb) B bNi (ok_initB FNi B.oex nB_place) c_is_between c_between, PySem.W.mg_of X G aCh, kCh, bCh⟩
  have c_layout : CalX P w K mg base 3 "read_layout" (spLayout K CT) := ⟨_, _, _, ok_layout FLy T (PySem.W.mg_of X G iSf) (PySem.W.mg_of X G hH) hd R bTi (ok_initT FTi R.oex nT_word nT_place), PySem.W.mg_of X G aLy, kLy, bLy⟩
  have c_read : CalX P w K mg base 4 "read" (spRead K CB CT) := ⟨_, _, _, ok_read FRe c_check c_layout, PySem.W.mg_of X G aRe, kRe, bRe⟩
  have c_said : Cal P w K mg base 5 "_law_said" (spSaid K) := ⟨_, _, _, ok_said FSa B R (PySem.W.mg_of X G gN) nB_place nT_word nT_place (exm_is beB icB tyB suBB) (exm_is beB icB tyB suTB) (exm_is beT icT tyT suTT) c_read, PySem.W.mg_of X G aSa, kSa, bSa⟩
  exact ok_law FLa T c_state c_digit c_bodies c_assembled c_is_byte c_said
theorem walk {l : PySem.W.OpenLaw} {q : Program} {loose : List Str} {XP : (Str → Option Value) → Heap → Prop} {YP : World → Heap → Prop} {d : DefRec} {K : Params → PySem.W.Frag} (hn : l.most = some 63) (hdf : d.params.defaults = [])
    (hY : ∀ (w : World) (h : Heap), YP w h → (K w.params).In h)
    (F : ∀ (w : World) (mg : Str → Option Value) (fa : Addr) (h : Heap), (K w.params).In h → h.Ns mainGlobals mg → mg d.name = some (.ref fa) →
      ∃ fd : FuncData, (∀ (s : Shared) (u : Value), BindsTo s fd ⟨[u], []⟩ [("_law_script", u)]) ∧ ∀ base : Heap, (K w.params).In base → base.Ns mainGlobals mg → FnOk l.prog w (K w.params) mg base CX0 6 fa fd ["_law_script"] (spLaw (K w.params))) :
    PySem.W.WalkO q loose XP YP l.row.toRowW d [] (fun f vs => PySem.call f vs) :=
  L2.walk_of (n := 63) (k := 6) (x := "_law_script") (CX := fun _ => CX0) (sp := fun w => spLaw (K w.params)) hn (by decide) hdf ⟨rfl, by decide, by decide⟩ hY F (fun _ _ a ns hl _ hS => ⟨a, ns, rfl, hS, hl, fun _ => rfl⟩) fun _ _ _ _ _ z => z
end Q19
open PySem PySem.W PyProof.Rows in
set_option maxRecDepth 100000 in
set_option maxHeartbeats 0 in
theorem PySem.Challenge.cw_nestfile_k19_elements_that_are_no_bytes_holds : PySem.Challenge.rw_nestfile_k19_elements_that_are_no_bytes.Holds := by
  w_on; o_law; k_head; (case hw => w_witness2)
  k_fill
  refine Q19.walk (l := PySem.Challenge.rw_nestfile_k19_elements_that_are_no_bytes) rfl rfl (fun w h Y => PySem.W.kIn_of Y) ?F
  case F =>
    intro w mg fa h KX G hmg
    refine' Q19.all_mk KX G hmg ?gB ?xB ?rB ?saB ?gaB ?ggB ?keB ?beB ?tyB ?hdB ?icB ?nB_place ?gT ?xT ?rT ?saT ?gaT ?ggT ?keT ?beT ?tyT ?hdT ?icT ?nT_word ?nT_place ?suBB ?suTB ?suTT ?gN ?iGb ?iSf ?hH ?hlH ?z_len ?z_abs ?z_int ?z_bool ?z_list ?z_tuple ?z_isinstance ?z_enumerate ?z_range ?z_min ?z_max ?aSt ?lSt ?cSt ?kSt ?aDi ?lDi ?cDi ?kDi ?aOc ?lOc ?cOc ?kOc ?aSh ?lSh ?cSh ?kSh ?aLe ?lLe ?cLe ?kLe ?aBo ?lBo ?cBo ?kBo ?aAs ?lAs ?cAs ?kAs ?aIb ?lIb ?cIb ?kIb ?aSa ?lSa ?cSa ?kSa ?aLa ?lLa ?cLa ?kLa ?aIn ?lIn ?cIn ?kIn ?aBe ?lBe ?cBe ?kBe ?aBw ?lBw ?cBw ?kBw ?aCh ?lCh ?cCh ?kCh ?aLy ?lLy ?cLy ?kLy ?aRe ?lRe ?cRe ?kRe ?aNi ?tNi ?lNi ?cNi ?kNi ?aTi ?tTi ?lTi ?cTi ?kTi
    (case gB => k_is)
    (case xB => k_is)
    (case rB => decide +kernel)
    (case saB => k_is)
    (case gaB => k_is)
    (case ggB => k_is)
    (case keB => k_is)
    (case beB => k_is)
    (case tyB => k_is)
    (case hdB => k_is)
    (case icB => k_is)
    (case nB_place => k_is)
    (case gT => k_is)
    (case xT => k_is)
    (case rT => decide +kernel)
    (case saT => k_is)
    (case gaT => k_is)
    (case ggT => k_is)
    (case keT => k_is)
    (case beT => k_is)
    (case tyT => k_is)
    (case hdT => k_is)
    (case icT => k_is)
    (case nT_word => k_is)
    (case nT_place => k_is)
    (case suBB => first | rfl | k_is)
    (case suTB => first | rfl | k_is)
    (case suTT => first | rfl | k_is)
    (case gN => k_is)
    (case iGb => k_is)
    (case iSf => k_is)
    (case hH => k_is)
    (case hlH => k_is)
    (case z_len => k_is)
    (case z_abs => k_is)
    (case z_int => k_is)
    (case z_bool => k_is)
    (case z_list => k_is)
    (case z_tuple => k_is)
    (case z_isinstance => k_is)
    (case z_enumerate => k_is)
    (case z_range => k_is)
    (case z_min => k_is)
    (case z_max => k_is)
    (case aSt => k_is)
    (case lSt => k_is)
    (case cSt => k_is)
    (case kSt => k_is)
    (case aDi => k_is)
    (case lDi => k_is)
    (case cDi => k_is)
    (case kDi => k_is)
    (case aOc => k_is)
    (case lOc => k_is)
    (case cOc => k_is)
    (case kOc => k_is)
    (case aSh => k_is)
    (case lSh => k_is)
    (case cSh => k_is)
    (case kSh => k_is)
    (case aLe => k_is)
    (case lLe => k_is)
    (case cLe => k_is)
    (case kLe => k_is)
    (case aBo => k_is)
    (case lBo => k_is)
    (case cBo => k_is)
    (case kBo => k_is)
    (case aAs => k_is)
    (case lAs => k_is)
    (case cAs => k_is)
    (case kAs => k_is)
    (case aIb => k_is)
    (case lIb => k_is)
    (case cIb => k_is)
    (case kIb => k_is)
    (case aSa => k_is)
    (case lSa => k_is)
    (case cSa => k_is)
    (case kSa => k_is)
    (case aLa => k_is)
    (case lLa => k_is)
    (case cLa => k_is)
    (case kLa => k_is)
    (case aIn => k_is)
    (case lIn => k_is)
    (case cIn => k_is)
    (case kIn => k_is)
    (case aBe => k_is)
    (case lBe => k_is)
    (case cBe => k_is)
    (case kBe => k_is)
    (case aBw => k_is)
    (case lBw => k_is)
    (case cBw => k_is)
    (case kBw => k_is)
    (case aCh => k_is)
    (case lCh => k_is)
    (case cCh => k_is)
    (case kCh => k_is)
    (case aLy => k_is)
    (case lLy => k_is)
    (case cLy => k_is)
    (case kLy => k_is)
    (case aRe => k_is)
    (case lRe => k_is)
    (case cRe => k_is)
    (case kRe => k_is)
    (case aNi => k_is)
    (case tNi => k_is)
    (case lNi => k_is)
    (case cNi => k_is)
    (case kNi => k_is)
    (case aTi => k_is)
    (case tTi => k_is)
    (case lTi => k_is)
    (case cTi => k_is)
    (case kTi => k_is)
