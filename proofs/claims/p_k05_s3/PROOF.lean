import PyProof.Rows.All
import Wide.All
import OpenK.AllK
import Wide.FinOn
import HandS.ForMost
import HandS.Exc
import HandS.TryMany
import HandS.Walk
import KE.GoesMore
import PyProof.Draws
import HandS.ForExc
import HandS.ExcInit
import HandS.ExcField
import HandS.IsInst
import HandS.EndBits
import HandS.Style
import HandS.WordsExc
import HandS.ExcValue
import HandS.ExcIs
import HandS.MakeKw
import KE.KExcMore
import KE.KExcIs
import HandS.ExcBuiltin
import PyProof.ReprRoads
import HandS.Conv
import PyProof.ReprLen
import HandS.TupMul
import PySem.Challenge.RW_nestfile_k05_errors
set_option Elab.async false
set_option linter.all false
set_option maxRecDepth 100000
set_option maxHeartbeats 2000000
/-! try with several clauses, each with a name or without. -/
namespace QT
open PySem PySem.Spec PyProof.Rows L2
/-- a suite whose clause keeps the exception under slot i -/
def tsAs (i : Nat) (ts : Addr → Value → Option Addr → TS) : Addr → Value → Option Addr → TS := fun a cls d D σ H =>
  ts a cls d { nx := fun σq Hq => D.nx (σq.set i none) Hq, rt := D.rt, bk := fun σq Hq => D.bk (σq.set i none) Hq, ct := fun σq Hq => D.ct (σq.set i none) Hq } (σ.set i (some (.ref a))) H
inductive Clauses (X : Cx) : List ExceptHandler → List (Value × (Addr → Value → Option Addr → TS)) → Prop
  | done : Clauses X [] []
  | bare {x : Str} {c : Value} {ts : Addr → Value → Option Addr → TS} {b : Stmt} {bs : List Stmt} {p q : Pos} {hs : List ExceptHandler} {l : List (Value × (Addr → Value → Option Addr → TS))} (names : Names X x c)
      (su : ∀ (a : Addr) (oe : Obj) (cls : Value) (d : Option Addr) (pn : List (Addr × Obj)), Zc cls d oe → (∃ vs, oe.data = .fields vs) → PSs (X.suite a ((a, oe) :: pn)) (b :: bs) (ts a cls d)) (rest : Clauses X hs l) :
      Clauses X (.ExceptHandler (some (.Name x p)) none (b :: bs) q :: hs) ((c, ts) :: l)
  | named {x n : Str} {i : Nat} {c : Value} {ts : Addr → Value → Option Addr → TS} {b : Stmt} {bs : List Stmt} {p q : Pos} {hs : List ExceptHandler} {l : List (Value × (Addr → Value → Option Addr → TS))} (names : Names X x c)
      (hN : X.N.Nodup) (hi : X.N[i]? = some n) (hl : X.env.kindOf n = some .local)
      (su : ∀ (a : Addr) (oe : Obj) (cls : Value) (d : Option Addr) (pn : List (Addr × Obj)), Zc cls d oe → (∃ vs, oe.data = .fields vs) → PSs (X.suite a ((a, oe) :: pn)) (b :: bs) (ts a cls d)) (rest : Clauses X hs l) :
      Clauses X (.ExceptHandler (some (.Name x p)) (some n) (b :: bs) q :: hs) ((c, tsAs i ts) :: l)
section
variable {X : Cx} {body : List Stmt} {h0 : ExceptHandler} {hs : List ExceptHandler} {l : List (Value × (Addr → Value → Option Addr → TS))} {pos : Pos} {tb : WX → TS} {Wout : WX}
theorem ps_tryN (st : X.stack = X.env :: X.outer) (hf : X.env.frame = some X.env.locals) (tk : Takes X Wout)
    (hb : ∀ (W : WX) (pn : List (Addr × Obj)) (xe : Value → Shared → Prop), Takes (X.tr pn xe) W → PassesOwn (model X.prog X.w) X.A X.env xe → PSs (X.tr pn xe) body (tb W))
    (cl : Clauses X (h0 :: hs) l) : PS X (.Try body (h0 :: hs) [] [] pos) (fun D σ H => tb (wMany X.K Wout D l) D σ H) := by
  refine ⟨fun pins s σ H D I0 reading => ?_⟩
  have hok := I0.ok
  have frames : X.A.frames = some (X.env :: X.outer) := by rw [hok.frames, st]
  refine wpAny_Try_except ?_
  refine wpAny_mono ((hb (wMany X.K Wout D l) (X.pn ++ pins) (fun e s₁ => wpAny (model X.prog X.w) X.A (noteFrame e X.env) (fun _ s₂ => wpAny (model X.prog X.w) X.A (setFlight e none) (fun _ s₃ =>
    wpAny (model X.prog X.w) X.A (handleBy e X.env (h0 :: hs)) (SP X pins D) X.xe s₃) X.xe s₂) X.xe s₁) (fun u t caught => ?_) PassesOwn.looking).run [] s σ H D (I0.toTry _) reading) (fun f s1 through => ?_) (fun e s1 he => he)
  · obtain ⟨a, B, sI, pinsQ, σq, Hq, cls, d, rfl, I1, fresh, grown, sky, na, hos, agree, wish⟩ := caught
    have I2 : Inv X pins σq Hq sI := I1.ofTry hok
    have sky2 : Sky B (X.env :: X.outer) a (Zc cls d) X.env.locals t.heap := by rw [← st]; exact sky
    show wpAny (model X.prog X.w) X.A (noteFrame (.ref a) X.env) _ _ _
    refine Sky.land Zc.steady frames hf sky2 fun g3 flight grown3 => ?_
    have I3 : Inv X pins σq Hq { t with heap := g3 } := I2.landed fresh flight.1 (grown.trans grown3) hos agree
    obtain ⟨o3, fs3, at3, zc3, data3⟩ := flight.there
    have off : ∀ {h : Heap} {o : Obj} {vs : Array Value}, h.FunFrames B (X.env :: X.outer) → h.get? a = some o → o.data = .fields vs → a ∉ frs (X.env :: X.outer) := fun {h o vs} ff at_ dd mem => by
      obtain ⟨_, oo, at', nf⟩ := ff.mem mem
      rw [at_] at at'
      cases at'
      exact nf _ dd
    have offA := off flight.2.2.1 at3 data3
    have offL : a ≠ X.env.locals := fun z => offA (List.mem_filterMap.mpr ⟨X.env, List.mem_cons_self, by rw [hf, z]⟩)
    have offF : a ∉ X.fs := fun mem => by
      obtain ⟨en, hen, q⟩ := List.mem_filterMap.mp mem
      exact offA (List.mem_filterMap.mpr ⟨en, List.mem_cons_of_mem _ hen, q⟩)
    have IS := I3.suite at3 data3 na offL offF
    have tested : ∀ {x : Str} {c : Value} {np : Pos} {Q : Value → Shared → Prop} {E : Value → Shared → Prop}, Names X x c → Q c { t with heap := g3 } → wpAny (model X.prog X.w) (X.A.mark (some (.ref a))) (eval (.Name x np) X.env) Q E { t with heap := g3 } := fun {x c np Q E} nm q => by
      obtain ⟨hg, hdbg, hm | ⟨hm, hv, hnn⟩⟩ := nm
      · exact ld_glob (X := X.suite a ((a, o3) :: (X.pn ++ pins))) IS hg hm q hdbg
      · exact ld_blt (X := X.suite a ((a, o3) :: (X.pn ++ pins))) IS hg hm hv q hnn hdbg
    have typed : PySem.W.Looks (model X.prog X.w) g3 (typeOf (.ref a)) cls := fun A Q E s k q => wpAny_typeOf_ref (k _ _ at3) (by rw [zc3.1]; exact q)
    have walk : ∀ {hs' : List ExceptHandler} {l' : List (Value × (Addr → Value → Option Addr → TS))}, Clauses X hs' l' → wMany X.K Wout D l' cls d σq Hq →
        wpAny (model X.prog X.w) X.A (handleBy (.ref a) X.env hs') (SP X pins D) X.xe { t with heap := g3 } := by
      intro hs' l' hk
      induction hk with
      | done =>
        intro w
        refine wpAny_handleBy_nil ?_
        obtain ⟨_, _, _, oe, vs, T, oT, ts', he, hz, hd, h1, hr⟩ := id flight
        unfold PySem.passOn
        refine wpAny_bind (wpAny_field he hd h1 ?_)
        rw [if_neg (show ¬ ((Value.ref T == Value.none) = true) from by simp)]
        have onward : wpAny (model X.prog X.w) X.A (setFlight (.ref a) X.env.frame) (fun _ s4 => wpAny (model X.prog X.w) X.A (throw (.ref a) : Sem Flow) (SP X pins D) X.xe s4) X.xe { t with heap := g3 } := by
          rw [hf]
          refine HandSPX.setFlight_upZ flight fun g4 hg4 grown4 => wpAny_throw (tk _ _ ?_)
          exact ⟨a, B, sI, pins, σq, Hq, cls, d, rfl, I2, fresh, (grown.trans grown3).trans grown4, .inr (.inr (by rw [st]; exact hg4)), na, hos, agree, w⟩
        first
          | exact wpAny_bind (wpAny_pure (wpAny_bind onward))
          | exact wpAny_bind onward
      | @bare x c ts b bs p q hs2 l2 names su rest ih =>
        intro w
        obtain ⟨hit, hx, yes, no⟩ := w
        refine wpAny_handleBy_cons (codeAny_handlers_test ?_) (by intro z; cases z)
        refine tested names ((PySem.W.exm_one (M := model X.prog X.w) (I3.kIn) typed hx).here ?_)
        cases hit with
        | true =>
          refine codeAny_handlers_suite ?_
          refine HandSPX.lands_againZ flight fun g4 flight4 grown4 => ?_
          have I4 : Inv X pins σq Hq { t with heap := g4 } := I2.landed fresh flight4.1 ((grown.trans grown3).trans grown4) hos agree
          obtain ⟨o4, fs4, at4, zc4, data4⟩ := flight4.there
          refine wpAny_mono ((su a o4 cls d (X.pn ++ pins) zc4 ⟨_, data4⟩).run [] _ _ Hq _ (I4.suite at4 data4 na offL offF) (yes rfl a na)) (fun f s6 hsp => ?_) (fun _ _ z => False.elim z)
          cases f with
          | ret u =>
            obtain ⟨v6, σ6, H6, S6, r6, q6⟩ := hsp
            exact ⟨_, _, _, S6.unsuite hok, r6, q6⟩
          | next | brk | cont =>
            obtain ⟨σ6, H6, S6, q6⟩ := hsp
            exact ⟨_, _, S6.unsuite hok, q6⟩
        | false =>
          show wpAny _ X.A (handleBy (.ref a) X.env hs2) _ _ _
          exact ih (no rfl)
      | @named x n i c ts b bs p q hs2 l2 names hN hi hl su rest ih =>
        intro w
        obtain ⟨hit, hx, yes, no⟩ := w
        refine wpAny_handleBy_cons (codeAny_handlers_test ?_) (by intro z; cases z)
        refine tested names ((PySem.W.exm_one (M := model X.prog X.w) (I3.kIn) typed hx).here ?_)
        cases hit with
        | true =>
          refine codeAny_handlers_suite_as ?_
          refine HandSPX.lands_againZ flight fun g4 flight4 grown4 => ?_
          have I4 : Inv X pins σq Hq { t with heap := g4 } := I2.landed fresh flight4.1 ((grown.trans grown3).trans grown4) hos agree
          obtain ⟨o4, fs4, at4, zc4, data4⟩ := flight4.there
          refine store_ok (X := X.suite a ((a, o4) :: (X.pn ++ pins))) (v := .ref a) (I4.suite at4 data4 na offL offF) hN hi (.inl hl) rfl (fun s5 S5 => ?_) (.inr hl)
          refine wpAny_mono ((su a o4 cls d (X.pn ++ pins) zc4 ⟨_, data4⟩).run [] s5 _ Hq _ S5 (yes rfl a na)) (fun f s6 hsp => ?_) (fun _ _ z => False.elim z)
          have gone : ∀ {σ6 : L2.St} {H6 : Hp} {R : Shared → Prop}, Inv (X.suite a ((a, o4) :: (X.pn ++ pins))) [] σ6 H6 s6 → (∀ s7, Inv X pins (σ6.set i none) H6 s7 → R s7) →
              wpAny (model X.prog X.w) X.A (do bindName X.env n .none; unbindBehindTheSuite X.env n q) (fun _ s7 => R s7) X.xe s6 := fun {σ6 H6 R} S6 hq => gone_ok (S6.unsuite hok) hN hi hl hq
          cases f with
          | ret u =>
            obtain ⟨v6, σ6, H6, S6, r6, q6⟩ := hsp
            exact gone S6 fun s7 J7 => ⟨_, _, _, J7, r6, q6⟩
          | next | brk | cont =>
            obtain ⟨σ6, H6, S6, q6⟩ := hsp
            exact gone S6 fun s7 J7 => ⟨_, _, J7, q6⟩
        | false =>
          show wpAny _ X.A (handleBy (.ref a) X.env hs2) _ _ _
          exact ih (no rfl)
    exact walk cl wish
  · cases f with
    | ret u =>
      obtain ⟨v, σq, Hq, I1, r, q⟩ := through
      exact ⟨v, σq, Hq, I1.ofTry hok, r, q⟩
    | next =>
      obtain ⟨σq, Hq, I1, q⟩ := through
      exact wpAny_execs_nil ⟨σq, Hq, I1.ofTry hok, q⟩
    | brk | cont =>
      obtain ⟨σq, Hq, I1, q⟩ := through
      exact ⟨σq, Hq, I1.ofTry hok, q⟩
end
end QT

/-! list + list where either may be the script. -/
namespace QT
open PySem PySem.Spec PySem.P PyProof PyProof.Rows L2
theorem meets_cat (l b : Addr) (xs ys : Array Value) (n m : Nat) (sl sb : Array (Option Value)) (hc : xs.size + ys.size ≤ sizeLine) :
    Meets (Builtin.«list.__add__» ⟨[.ref l, .ref b], []⟩) (fun _ R s => s.heap.get? l = some (⟨.type "list", none, .seq xs n, sl⟩ : Obj) ∧ s.heap.get? b = some (⟨.type "list", none, .seq ys m, sb⟩ : Obj) ∧
      R (.ok (.ret (Value.ref s.heap.objs.size))) { s with heap := s.heap.push { cls := Value.type "list", data := Data.seq (xs ++ ys) } }) :=
  .of_wp fun prog w A R s h => by
    obtain ⟨hp, g, d, tk, os⟩ := s
    obtain ⟨hl, hb, h⟩ := h
    have g1 := PySem.AutoSeq1.idx_int
    have g2 := PySem.AutoSeq1.sub_tuple_tuple
    have g3 := PySem.AutoSeq1.sub_list_list
    have g4 := PySem.AutoSeq1.sub_tuple_list
    have g5 := PySem.AutoSeq1.sub_list_tuple
    wp_walk using PySem.AutoSeq1.wpAny_loadPart' hl, PySem.AutoSeq1.wpAny_loadPart' hb
    exact ⟨_, rfl, h⟩

/-- what an Inv says of a list that may be read -/
theorem list_at {X : Cx} {pins : List (Addr × Obj)} {σ : L2.St} {H : Hp} {s : Shared} {a : Addr} {xs : List V} (I : Inv X pins σ H s) (h : SqL X.K H a xs) :
    ∃ (its : List Value) (n : Nat) (sl : Array (Option Value)), Vals xs its ∧ s.heap.get? a = some (⟨.type "list", none, .seq its.toArray n, sl⟩ : Obj) := by
  obtain ⟨its, r, ⟨o, n, e, hc, hd, hs⟩, _⟩ := I.list h
  obtain ⟨c, d, dt, sl⟩ := o
  cases hc
  cases hd
  cases hs
  exact ⟨its, n, sl, r, e⟩
def rCatS (K : PySem.W.Frag) : R2 := fun x y H Q => ∃ a b xs ys, x = .ref a ∧ y = .ref b ∧ SqL K H a xs ∧ SqL K H b ys ∧ xs.length + ys.length ≤ sizeLine ∧
  ∀ p, H p = none → Q (.ref p) (upd H p (.lst (xs ++ ys)))
theorem op_catS {X : Cx} : OpR X (binaryOp .Add) (rCatS X.K) := by
  intro pins s σ H x y v u Q I rx ry h
  obtain ⟨a, b, xs, ys, rfl, rfl, ha, hb, hz, q⟩ := h
  cases rx
  cases ry
  obtain ⟨is, n, sl, ra, ea⟩ := list_at I ha
  obtain ⟨js, m, sb, rb, eb⟩ := list_at I hb
  have la := Paired.length ra
  have lb := Paired.length rb
  refine concat_meets ⟨_, ea, rfl⟩ ⟨_, eb, rfl⟩ noFill_list_add seq_list_add F.slot_list_add F.entry_list_add (F.args_list_add_2 _ _) (meets_cat a b is.toArray js.toArray n m sl sb (by rw [List.size_toArray, List.size_toArray]; omega)) ⟨ea, eb, ?_⟩
  have e2 : is.toArray ++ js.toArray = (is ++ js).toArray := by simp
  rw [e2]
  exact ⟨.ref _, _, I.lnew (t' := s.toks) (ra.append rb) (by rw [List.length_append]; omega), rfl, q _ I.fresh⟩
end QT

set_option maxHeartbeats 4000000
/-! for a, b in enumerate(t), t a tuple; and of either kind. -/
namespace QT
open PySem PySem.Spec PyProof.Rows L2
/-- enumerate's own making over a tuple -/
theorem meets_enumT (l : Addr) (items : Array Value) :
    Meets (Builtin.«enumerate.__new__» ⟨[.type "enumerate", .ref l], []⟩) (fun _ R s => s.heap.IsTuple l items ∧
      R (.ok (.ret (.ref (s.heap.push { cls := .type "tuple_iterator", data := .fields #[.ref l, .int 0 0] }).objs.size)))
        { s with heap := (s.heap.push { cls := .type "tuple_iterator", data := .fields #[.ref l, .int 0 0] }).push { cls := .type "enumerate", data := .fields #[.none, .bool false, .ref s.heap.objs.size, rawInt 0, .none, .none] } }) :=
  .of_wp fun prog w A R s h => by
    obtain ⟨hp, g, d, tk, os⟩ := s
    obtain ⟨hl, h⟩ := h
    have kind := sub_enumerate
    wp_walk
    refine wpAny_stack_any fun st => wpAny_pure ?_
    split
    · rename_i c _ _ _ _ _
      cases (c == Value.type "enumerate")
      · wp_walk using wpAny_pyIter_tuple hl
        exact ⟨_, rfl, h⟩
      · wp_walk using wpAny_pyIter_tuple hl
        exact ⟨_, rfl, h⟩
    · wp_walk using wpAny_pyIter_tuple hl
      exact ⟨_, rfl, h⟩
section
variable {prog : Program} {w : World} {A : Around} {E : Value → Shared → Prop} {s : Shared}
theorem call_enumT {l : Addr} {items : Array Value} {Q : Value → Shared → Prop} (hL : s.heap.IsTuple l items)
    (h : ∀ g, IsEnum g (s.heap.objs.size + 1) s.heap.objs.size 0 .none → g.IsTupleIter s.heap.objs.size l 0 → g.objs.size = s.heap.objs.size + 2 →
      (∀ b o, s.heap.get? b = some o → g.get? b = some o) → Q (.ref (s.heap.objs.size + 1)) { s with heap := g }) :
    wpAny (model prog w) A (call (.type "enumerate") [.ref l]) Q E s := by
  refine callType_new F.called_enumerate (by decide) (F.typeCall_enumerate_1 _) (F.newCall_enumerate_1 _) (fun obj => F.args_object_init_2 obj _) F.entry_enumerate_new (meets_enumT l items) ⟨hL, ?_⟩
  have big : (s.heap.push { cls := .type "tuple_iterator", data := .fields #[.ref l, .int 0 0] }).objs.size = s.heap.objs.size + 1 := Heap.size_push ..
  show _ ∧ _
  rw [big]
  have made : IsEnum ((s.heap.push { cls := .type "tuple_iterator", data := .fields #[.ref l, .int 0 0] }).push
      { cls := .type "enumerate", data := .fields #[.none, .bool false, .ref s.heap.objs.size, rawInt 0, .none, .none] }) (s.heap.objs.size + 1) s.heap.objs.size 0 .none := by
    have there := Heap.get?_push_size (s.heap.push { cls := .type "tuple_iterator", data := .fields #[.ref l, .int 0 0] })
      (o := { cls := .type "enumerate", data := .fields #[.none, .bool false, .ref s.heap.objs.size, rawInt 0, .none, .none] }) rfl
    rw [big] at there
    exact there
  exact ⟨⟨_, made, rfl⟩, h _ made ⟨_, Heap.get?_push_of_some _ (Heap.get?_push_size _ rfl), rfl, rfl⟩ (by rw [Heap.size_push, big]) fun b o x => Heap.get?_push_of_some _ (Heap.get?_push_of_some _ x)⟩
end
/-- the tuple at a as it stands, each item in a new pair -/
def IteT (K : PySem.W.Frag) (a : Addr) : It :=
  ⟨fun i H => ∃ (xs : List V) (x : V), SqT K H a xs ∧ xs[i]? = some x, fun i H v Hn => ∃ T x, v = .ref T ∧ H T = none ∧ Hn = upd H T (.tup [.int (i : Nat), x]) ∧ ∀ xs, SqT K H a xs → xs[i]? = some x, fun i H => ∃ xs : List V, SqT K H a xs ∧ xs.length ≤ i⟩
theorem isTuple_of {h : Heap} {a : Addr} {its : Array Value} (p : IsTup h a its) : h.IsTuple a its := p
theorem turn_enumT {P : Program} {w : World} {K : PySem.W.Frag} {elts : List Expr} {kk : Nat} {tpos : Pos} (a e it : Addr) :
    Turn P w K (.Tuple elts kk tpos) (IteT K a) [e, it] e (fun i h => (∃ old, IsEnum h e it ((i : Nat) : Int) old) ∧ h.IsTupleIter it a i ∧ e ≠ it) where
  mem := by simp
  obj := fun i h st b hb => by
    obtain ⟨⟨old, he⟩, ⟨o, ho, hc, hd⟩, _⟩ := st
    rcases (show b = e ∨ b = it by simpa using hb) with z | z
    · rw [z]
      exact ⟨_, he, fun v q => nomatch q⟩
    · rw [z]
      exact ⟨o, ho, fun v q => by rw [hd] at q; cases q⟩
  keep := fun i h h' st k => let ⟨⟨old, he⟩, ⟨o, ho, r⟩, hne⟩ := st; ⟨⟨old, k e (by simp) _ he⟩, ⟨o, k it (by simp) _ ho, r⟩, hne⟩
  item := by
    intro X hP hw hK hc i pins s σ H E I hf st hg
    subst hP hw hK
    obtain ⟨⟨old, he⟩, hit, hne⟩ := st
    obtain ⟨xs, x, hq, hx⟩ := hg
    obtain ⟨its, rv, p, hz⟩ := I.tuple hq
    obtain ⟨u, hu, ru⟩ := rv.get hx
    have sizeE : e < s.heap.objs.size := Heap.lt_size he
    have sizeI : it < s.heap.objs.size := by
      obtain ⟨_, q, _⟩ := hit
      exact Heap.lt_size q
    have T0 : s.heap.IsTuple a its.toArray := isTuple_of p
    have nat : a ≠ it := fun z => by
      obtain ⟨o1, e1, c1, _⟩ := hit
      obtain ⟨o2, e2, c2, _⟩ := T0
      rw [z, e1] at e2
      cases e2
      rw [c1] at c2
      exact absurd (Value.type.inj c2) (by decide)
    have nae : e ∉ [it, a] := by
      intro z
      rcases (show e = it ∨ e = a by simpa using z) with z | z
      · exact hne z
      · obtain ⟨o2, e2, c2, _⟩ := T0
        rw [← z, he] at e2
        cases e2
        exact absurd (Value.type.inj c2) (by decide)
    have lt : i < its.toArray.size := by
      have z := (List.getElem?_eq_some_iff.mp hu).1
      simpa using z
    refine wpAny_pyNext_enum_itemD (Draws.tuple (A := X.A.in1) (I.ok.hd hc) it a nat its.toArray) he ⟨hit, T0⟩ lt hne nae fun y g tk hy out st1 hT hsz hk => ?_
    have ey : y = u := by
      have z : its[i]? = some y := by simpa using hy
      rw [hu] at z
      exact (Option.some.inj z).symm
    subst ey
    refine ⟨_, rfl, wpAny_letOwnedTupleGo_enum (s := { s with heap := g, toks := tk + 1 }) out fun g2 he2 sb => ?_⟩
    have hT2 : g2.get? s.heap.objs.size = some { cls := .type "tuple", data := .seq #[.int i tk, y] } := (sb.2 _ (Nat.ne_of_gt sizeE)).trans hT
    have new : ObjOk X.prog X.w (upd H s.heap.objs.size (.tup [.int (i : Nat), x])) g2 s.heap.objs.size (.tup [.int (i : Nat), x]) :=
      ⟨by show 2 ≤ sizeLine; decide, [.int i tk, y], .cons ⟨_, rfl⟩ (.cons ru .nil), ⟨_, hT2, rfl, _, rfl⟩⟩
    have kept : ∀ b ob, b ∉ [e, it] → s.heap.get? b = some ob → g2.get? b = some ob := fun b ob hb q => (sb.2 b (fun z => hb (by simp [z]))).trans (hk b ob (fun z => hb (by simp [z])) (fun z => hb (by simp [z])) q)
    have I1 : Inv X pins σ (upd H s.heap.objs.size (.tup [.int (i : Nat), x])) { s with heap := g2, toks := tk + 1 } := I.turnedNew (ch := [e, it]) kept hf (Nat.le_refl _) new
    refine ⟨.ref s.heap.objs.size, _, I1, rfl, ⟨_, x, rfl, I.hok.fresh (Nat.le_refl _), rfl, fun ys hy2 => by rw [I.tuple_inj hy2 hq]; exact hx⟩, ⟨⟨y, ?_⟩, ?_, hne⟩, fun b hb => ?_⟩
    · have e1 : ((i + 1 : Nat) : Int) = (i : Int) + 1 := by omega
      rw [e1]
      exact he2
    · obtain ⟨⟨o, ho, r⟩, _⟩ := st1
      exact ⟨o, (sb.2 it (Ne.symm hne)).trans ho, r⟩
    · have hb2 : b < s.heap.objs.size := by
        rcases (show b = e ∨ b = it by simpa using hb) with z | z
        · rw [z]; exact sizeE
        · rw [z]; exact sizeI
      rw [upd_ne (Nat.ne_of_lt hb2)]
      exact (hf b hb).1
  done := by
    intro X hP hw hK hc i pins s σ H E I hf st hg
    subst hP hw hK
    obtain ⟨⟨old, he⟩, hit, hne⟩ := st
    obtain ⟨xs, hq, hx⟩ := hg
    obtain ⟨its, rv, p, hz⟩ := I.tuple hq
    obtain ⟨f0, f1, f2, f3, f4, f5⟩ := hf it (by simp)
    have T0 : s.heap.IsTuple a its.toArray := isTuple_of p
    have nat : a ≠ it := fun z => by
      obtain ⟨o1, e1, c1, _⟩ := hit
      obtain ⟨o2, e2, c2, _⟩ := T0
      rw [z, e1] at e2
      cases e2
      rw [c1] at c2
      exact absurd (Value.type.inj c2) (by decide)
    have hl := rv.length
    have none_ : its.toArray[i]? = none := by simp; omega
    have fin : ∀ g, Heap.ExtBut it s.heap g → (none : Option Value) = none ∧ Inv X pins σ H { s with heap := g } := fun g eb => ⟨rfl, I.turned (t' := s.toks) (fun b o hb q => eb b o hb q) f0 f1 f3 f4 f5⟩
    -- the end is met at any place behind the last
    have hT : s.TypeIs (.ref e) "enumerate" := ⟨_, he, rfl⟩
    unfold pyNext
    refine wpAny_bind (wpAny_attempt (wpAny_callSpecial?_slot (name := Str.ofString "__next__") hT F.slot_enumerate_next (wpAny_call_entry F.slot_enumerate_next hT F.entry_enumerate_next ?_ (F.args_enumerate_next_1 _))))
    show wpAny _ _ (field (.ref e) 2 >>= _) _ _ _
    refine wpAny_bind (wpAny_field he rfl (x := .ref it) rfl ?_)
    refine wpAny_bind (wpAny_nextOf_tuple_end (I.ok.hd hc) hit T0 none_ fun g x eb hx2 => ?_)
    obtain ⟨o, ho, hcl⟩ := hx2
    refine wpAny_bind (wpAny_isInstance (T := "StopIteration") (b := true) ⟨o, ho, hcl⟩ isSubtype_stop ?_)
    exact wpAny_pure (fin g eb)
  self := fun A i s Q E st h => let ⟨⟨_, he⟩, _⟩ := st; wpAny_pyIter_enum he h
/-- enumerate over a list or a tuple -/
def iEnumS (K : PySem.W.Frag) (ta : TA) : TI := fun σ H R => ta σ H fun vs H1 => ∃ a, vs = [.ref a] ∧ ((∃ xs, SqL K H1 a xs ∧ R (Ite K a) H1) ∨ ∃ xs, SqT K H1 a xs ∧ R (IteT K a) H1)
theorem pi_enumS {X : Cx} {e : Expr} {ta : TA} {p pos tpos : Pos} {elts : List Expr} {kk : Nat} (hg : Gl X "enumerate") (hm : X.mg "enumerate" = none) (ha : PA X [e] ta) (hs : starEach [e] X.env = [(false, eval e X.env)] := by rfl) :
    PI X (.Tuple elts kk tpos) (.Call (.Name "enumerate" p) [e] [] pos) (iEnumS X.K ta) := by
  refine ⟨fun pins s σ H R I h => ?_⟩
  refine Call_ (ld_blt I hg hm boot_enumerate (PyProof.Rows.callWith_type1 (thn (ha.run pos pins s σ H _ I h) fun us s1 ⟨vs, H1, I1, r1, q1⟩ => ?_) hs rfl))
  obtain ⟨a, ex, q⟩ := q1
  subst ex
  cases r1 with
  | cons r rr =>
    cases rr
    cases r
    have near : ∀ b, b ∈ [s1.heap.objs.size + 1, s1.heap.objs.size] → FpOk X pins H1 b := fun b hb => by
      have hle : s1.heap.objs.size ≤ b := by
        rcases (show b = s1.heap.objs.size + 1 ∨ b = s1.heap.objs.size by simpa using hb) with z | z
        · rw [z]; exact Nat.le_add_right _ _
        · rw [z]; exact Nat.le_refl _
      exact I1.fpOk hle (I1.hok.fresh hle)
    rcases q with ⟨xs, hq, q⟩ | ⟨xs, hq, q⟩
    · obtain ⟨its, rv, pl, hz⟩ := I1.list hq
      refine call_enumerate_list pl.isList fun g he hit hsz hk => wpAny_pyIter_enum he ?_
      exact ⟨_, [s1.heap.objs.size + 1, s1.heap.objs.size], _, _, H1, rfl, I1.kept (t' := s1.toks) hk, turn_enum a (s1.heap.objs.size + 1) s1.heap.objs.size, ⟨⟨.none, he⟩, hit, Nat.succ_ne_self _⟩, near, q⟩
    · obtain ⟨its, rv, pl, hz⟩ := I1.tuple hq
      refine call_enumT (isTuple_of pl) fun g he hit hsz hk => wpAny_pyIter_enum he ?_
      exact ⟨_, [s1.heap.objs.size + 1, s1.heap.objs.size], _, _, H1, rfl, I1.kept (t' := s1.toks) hk, turn_enumT a (s1.heap.objs.size + 1) s1.heap.objs.size, ⟨⟨.none, he⟩, hit, Nat.succ_ne_self _⟩, near, q⟩
theorem walk_enumT {K : PySem.W.Frag} {a : Addr} {xs : List V} : Walk (IteT K a) xs.length (fun H => SqT K H a xs) (YPair (fun i => some (.int (i : Nat))) (fun i => xs[i]?)) := by
  refine ⟨fun i _ hi q => ⟨xs, xs[i], q, by simp [hi]⟩, fun _ q => ⟨xs, q, Nat.le_refl _⟩, fun i H v Hn _ q y => ?_⟩
  obtain ⟨T, x, y1, y2, y3, y4⟩ := y
  exact ⟨T, .int (i : Nat), x, y1, y2, y3, rfl, y4 xs q⟩
end QT

/-! Words of my own: a def that may be called by its name. -/
namespace QT
open PySem PySem.Spec PyProof.Rows L2
structure Cal (P : Program) (w : World) (K : PySem.W.Frag) (mg : Str → Option Value) (base : Heap) (k : Nat) (x : Str) (sp : Sp) : Prop where
  ex : ∃ (f : Addr) (fd : FuncData) (ps : List Str), FnOk P w K mg base CX0 k f fd ps sp ∧ mg x = some (.ref f) ∧ PySem.W.keepIn K (.ref f) = true ∧ Binds K fd ps []
/-- one that may raise -/
structure CalX (P : Program) (w : World) (K : PySem.W.Frag) (mg : Str → Option Value) (base : Heap) (k : Nat) (x : Str) (sp : Sp) : Prop where
  ex : ∃ (f : Addr) (fd : FuncData) (ps : List Str), FnOk P w K mg base (L2.CX P w) k f fd ps sp ∧ mg x = some (.ref f) ∧ PySem.W.keepIn K (.ref f) = true ∧ Binds K fd ps []
section
variable {X : Cx} {k j : Nat} {x : Str} {sp : Sp} {p pos : Pos} {e : Expr} {es : List Expr} {t : TA} {W : WX}
theorem pe_c (c : Cal X.prog X.w X.K X.mg X.base k x sp) (hr : Room j X.A) (hk : k ≤ j) (hg : Gl X x) (ha : PA X (e :: es) t)
    (hdb : (x == ("__debug__" : Str)) = false := by decide) (he : starEach (e :: es) X.env = (false, eval e X.env) :: starEach es X.env := by rfl) (hpl : (backTo pos (starEach es X.env)).any (·.1) = false := by rfl) :
    PE X (.Call (.Name x p) (e :: es) [] pos) (tCall sp [] E0 t) := by
  obtain ⟨f, fd, ps, F, hm, kp, b⟩ := c.ex
  exact pe_call F (hr.mono hk) hg hm kp b .nil pass0 ha hdb he hpl
/-- what it raises goes to W, at the caller's slots -/
theorem pe_cX (tk : Takes X W) (c : CalX X.prog X.w X.K X.mg X.base k x sp) (hr : Room j X.A) (hk : k ≤ j) (hg : Gl X x) (ha : PA X (e :: es) t)
    (hdb : (x == ("__debug__" : Str)) = false := by decide) (he : starEach (e :: es) X.env = (false, eval e X.env) :: starEach es X.env := by rfl) (hpl : (backTo pos (starEach es X.env)).any (·.1) = false := by rfl) :
    PE X (.Call (.Name x p) (e :: es) [] pos) (tCallS sp (WE W) t) := by
  obtain ⟨f, fd, ps, F, hm, kp, b⟩ := c.ex
  exact pe_callS F (hr.mono hk) hg hm kp b (fun σ => passAt tk σ) ha hdb he hpl
end

/-! one step of a reading by its head -/
section
variable {σ : L2.St} {H : Hp} {D : Ends} {Q : VK} {QA : List V → Hp → Prop} {QT' : Bool → Hp → Prop}
theorem use_seq {t u : TS} (h : t { D with nx := u D } σ H) : tSeq t u D σ H := h
theorem use_asg {te : TE} {g : TG} (h : te σ H fun x H1 => g x σ H1 D.nx) : tAsg te g D σ H := h
theorem use_set {te : TE} {i : Nat} (h : te σ H fun x H1 => D.nx (σ.set i (some x)) H1) : tAsg te (gName i) D σ H := h
theorem use_drop {te : TE} (h : te σ H fun _ H1 => D.nx σ H1) : tDrop te D σ H := h
theorem use_ret {te : TE} (h : te σ H D.rt) : tRet te D σ H := h
theorem use_if {c : TT} {t u : TS} (h : c σ H fun b H1 => if b = true then t D σ H1 else u D σ H1) : tIfS c t u D σ H := h
theorem use_lst {t : TA} (h : t σ H fun xs H1 => xs.length ≤ sizeLine ∧ ∀ p, H1 p = none → Q (.ref p) (upd H1 p (.lst xs))) : tLst t σ H Q := h
theorem use_tup {t : TA} (h : t σ H fun xs H1 => xs.length ≤ sizeLine ∧ ∀ p, H1 p = none → Q (.ref p) (upd H1 p (.tup xs))) : tTup t σ H Q := h
theorem use_op {r : R2} {ta tb : TE} (h : ta σ H fun x H1 => tb σ H1 fun y H2 => r x y H2 Q) : tOp r ta tb σ H Q := h
theorem use_cons {te : TE} {t : TA} (h : te σ H fun x H1 => t σ H1 fun vs H2 => QA (x :: vs) H2) : tCons te t σ H QA := h
theorem use_nil (h : QA [] H) : tNil σ H QA := h
theorem use_cb {r : List V → Hp → VK → Prop} {t : TA} (h : t σ H fun vs H1 => r vs H1 Q) : tCB r t σ H Q := h
theorem use_call {sp : Sp} {dvs : List V} {E : XK} {t : TA} (h : t σ H fun vs H1 => sp (vs ++ dvs) H1 Q E) : tCall sp dvs E t σ H Q := h
theorem use_c {v : V} (h : Q v H) : tC v σ H Q := h
theorem use_var {i : Nat} {v : V} (e : σ[i]? = some (some v)) (h : Q v H) : tVar i σ H Q := ⟨v, e, h⟩
theorem use_test {t : TE} (h : t σ H fun x H1 => ∃ k, x = .bl k ∧ QT' k H1) : tTest t σ H QT' := h
end
/-- a reading may be told by another -/
theorem pe_imp {X : Cx} {e : Expr} {t t2 : TE} (h : PE X e t) (i : ∀ σ H Q, t2 σ H Q → t σ H Q) : PE X e t2 := ⟨fun pins s σ H Q I q => h.run pins s σ H Q I (i σ H Q q)⟩
theorem pss_imp {X : Cx} {st : List Stmt} {t t2 : TS} (h : PSs X st t) (i : ∀ D σ H, t2 D σ H → t D σ H) : PSs X st t2 := ⟨fun pins s σ H D I q => h.run pins s σ H D I (i D σ H q)⟩
end QT

/-! errors that are made and kept as values: made, asked for their class, their fields, their methods -/
namespace QT
open PySem PySem.Spec PyProof.Rows L2
/-- C(e, ..), kept: __init__ has run over it -/
def tOex (C : Addr) (sp : Sp) (ta : TA) : TE := fun σ H Q => ta σ H fun vs H1 => vs.length ≤ 1000 ∧ ∀ a, H1 a = none → sp (.ref a :: (vs ++ [])) (upd H1 a (exo a C none)) (fun v H2 => v = .non ∧ Q (.ref a) H2) E0
section
variable {X : Cx} {e : Expr} {es : List Expr} {ta : TA} {p pos : Pos}
theorem pe_oex {x : Str} {C fI : Addr} {k : Nat} {fd : FuncData} {ps : List Str} {sp : Sp} (T : OexC X.K C) (iC : PySem.W.findIn X.K (.ref C) "__init__" = some (some (.ref fI))) (tI : PySem.W.typeIn X.K (.ref fI) = some (.type "function"))
    (F1 : FnOk X.prog X.w X.K X.mg X.base CX0 k fI fd ps sp) (hr : Room (k + 1) X.A) (hb : Binds X.K fd ps []) (hg : Gl X x) (hm : X.mg x = some (.ref C)) (ha : PA X (e :: es) ta)
    (hdb : (x == ("__debug__" : Str)) = false := by decide) (he : starEach (e :: es) X.env = (false, eval e X.env) :: starEach es X.env := by rfl) (hpl : (backTo pos (starEach es X.env)).any (·.1) = false := by rfl) :
    PE X (.Call (.Name x p) (e :: es) [] pos) (tOex C sp ta) := by
  refine ⟨fun pins s σ H Q I h => ?_⟩
  obtain ⟨nm, q, N, bs, bm, sn, sub, ab, col, dd, k0, k1, k2, k3, k5, atC, chain⟩ := T.cls
  refine wpAny_Call_Name_kw (ld_glob I hg hm ?_ hdb)
  refine PySem.W.callWith_K (h₀ := X.base) I.ok.mod.kin T.kC (thn (ha.run pos pins s σ H _ I h) fun us s1 ⟨vs, H1, I1, r1, few, asks⟩ => ⟨I1.kIn, ?_⟩) he hpl
  show wpAny _ _ (call (.ref C) us) _ _ _
  obtain ⟨hp, g, dr, tk, os⟩ := s1
  have above : hp.objs.size ≤ hp.objs.size + 1 := Nat.le_succ _
  have free : H1 (hp.objs.size + 1) = none := I1.hok.fresh above
  have ask := asks (hp.objs.size + 1) free
  have stays : ∀ b o, hp.get? b = some o → ((hp.push (PySem.W.kdv_tup us)).push (PySem.HandSPX.excO C hp.objs.size)).get? b = some o := fun b o z => Heap.get?_push_of_some _ (Heap.get?_push_of_some _ z)
  have there : ((hp.push (PySem.W.kdv_tup us)).push (PySem.HandSPX.excO C hp.objs.size)).get? (hp.objs.size + 1) = some (PySem.HandSPX.excO C hp.objs.size) := by heap_get
  have I2 : Inv X pins σ (upd H1 (hp.objs.size + 1) (exo (hp.objs.size + 1) C none)) ⟨(hp.push (PySem.W.kdv_tup us)).push (PySem.HandSPX.excO C hp.objs.size), g, dr, tk, os⟩ :=
    I1.laid (t' := tk) (a := hp.objs.size + 1) (o := exo (hp.objs.size + 1) C none) (h' := (hp.push (PySem.W.kdv_tup us)).push (PySem.HandSPX.excO C hp.objs.size)) stays above (exo_ok there)
  have r2 : Vals (V.ref (hp.objs.size + 1) :: (vs ++ [])) (Value.ref (hp.objs.size + 1) :: us) := .cons rfl (by rw [List.append_nil]; exact r1)
  have same : (Value.ref (hp.objs.size + 1) :: us).length = ps.length := by
    have z := r2.length
    rw [F1.len _ _ _ _ ask] at z
    exact z.symm
  have bound : BindsTo ⟨(hp.push (PySem.W.kdv_tup us)).push (PySem.HandSPX.excO C hp.objs.size), g, dr, tk, os⟩ fd ⟨Value.ref (hp.objs.size + 1) :: us, []⟩ (ps.zip (Value.ref (hp.objs.size + 1) :: us)) := by
    have z := hb ⟨(hp.push (PySem.W.kdv_tup us)).push (PySem.HandSPX.excO C hp.objs.size), g, dr, tk, os⟩ (Value.ref (hp.objs.size + 1) :: us) I2.kIn (by rw [List.append_nil]; exact same)
    rw [List.append_nil] at z
    exact z
  have line : us.length ≤ sizeLine := by
    rw [← Paired.length r1, sizeLine_eq]
    omega
  refine wpAny_call (PySem.HandSPX.call_own F.excBase_ValueError (fun Y => PySem.HandSPX.refsVE_contains Y bm chain) (I1.kIn _ _ atC) (PySem.W.looks_findIn I1.kIn iC) (fun self => PySem.W.bind_fn I1.kIn self tI) line
    (codeAny_mono (F1.run _ X.stack _ _ ⟨Value.ref (hp.objs.size + 1) :: us, []⟩ (Value.ref (hp.objs.size + 1) :: us) _ _ E0 (hr.make C us []) (I2.env0.make C us []) bound r2 ask) fun r s' back => ?_))
  cases r with
  | error er => exact back.elim
  | ok fl =>
    cases fl with
    | ret u =>
      obtain ⟨v, H2, I3, rv, ev, q2⟩ := I2.after back
      subst ev
      exact ⟨rv, .ref (hp.objs.size + 1), H2, I3, rfl, q2⟩
    | next => exact False.elim back
    | brk => exact False.elim back
    | cont => exact False.elim back
/-- its field -/
def tOxf (K : PySem.W.Frag) (f : Str) (te : TE) : TE := fun σ H Q => te σ H fun x H1 => ∃ (a C d : Addr) (fs : List (Str × V)) (v : V), x = .ref a ∧ H1 a = some (exo a C (some d)) ∧ H1 d = some (exd d fs) ∧ XfC K C ∧ PySem.W.findIn K (.ref C) f = some none ∧ fs.lookup f = some v ∧ Q v H1
theorem pe_oxf {n : Str} {te : TE} (he : PE X e te) (hb : attributeBase e n X.env (eval e X.env) = eval e X.env := by rfl) : PE X (.Attribute e n pos) (tOxf X.K n te) := by
  refine ⟨fun pins s σ H Q I h => ?_⟩
  refine attr_of hb (thn (he.run pins s σ H _ I h) fun u s1 hh => ?_)
  obtain ⟨x, H1, I1, rx, a, C, d, fs, v, ex, ea, ed, T, hno, l, q⟩ := hh
  subst ex
  obtain rfl : u = Value.ref a := rx
  obtain ⟨t1, ho⟩ := exo_at I1.hok ea
  obtain ⟨mA, hns, rel⟩ := exd_at I1.hok ed
  obtain ⟨od, hod, hl⟩ := lookIn_ns hns
  obtain ⟨u, hu, ru⟩ := RelO.some_of (v := v) (o := mA n) (by rw [← l]; exact rel n)
  have J : PySem.W.InstAt s1.heap a _ C (some od) := ⟨ho, rfl, rfl, hod⟩
  exact HandSPX.exc_get I1.kIn J T.ga T.gg T.exC (PySem.W.findObj_own T.hdC hno rfl (by rw [hl, hu])) (handed_of ru) ⟨v, H1, I1.tok _, ru, q⟩
end
end QT

namespace PySem
namespace HandSPX
open PySem.W PySem.Calls PyProof.Rows
section
variable {M : Model} {A : Around} {E : Value → Shared → Prop} {h : Heap} {g : Array GenState} {d : Drawn} {t : Nat} {os : OsState}
variable {nm q : Str} {C N : Addr} {bs bm bmB : List Value} {hdct : Bool} {sn : List Str} {sub : List Value} {ab : Bool} {col : Option Bool} {dd : Option Addr} {k0 k1 k2 k3 k5 : Option Value} {B newId initId : String}
theorem qk_check (F : ExcBaseFacts B newId initId bmB) (hT : ∀ X : String, bm.contains (.type X) = bmB.contains (.type X)) {kws : List (Str × Value)} {Q : Unit → Shared → Prop}
    (hC : h.get? C = some (excClassObj nm q C N bs bm hdct sn sub ab col dd k0 k1 k2 k3 k5 newId)) (hq : Q () ⟨h, g, d, t, os⟩) : wpAny M A (checkBuiltinCall newId ⟨[.ref C], kws⟩) Q E ⟨h, g, d, t, os⟩ := by
  have ofB : (Value.ref C :: bm).contains (.type B) = true := by rw [List.contains_cons, hT, F.hasB, Bool.or_true]
  have nostar := F.noStar
  simp only [checkBuiltinCall, F.newKind, F.newSplit, F.newRow]
  repeat (first | refine wpAny_loadPart_at hC ?_ | (refine wpAny_isSubtype_exc hC ?_; rw [ofB]) | refine wpAny_staticBase_exc hC ?_ | refine wpAny_madeBy_exc hC ?_ | simp only [bne_self_eq_false, Bool.false_eq_true, if_false] | wp_step)
  exact hq
end
section
variable {prog : Program} {w : World} {A : Around} {E : Value → Shared → Prop} {R : Result → Shared → Prop} {h : Heap} {g : Array GenState} {d : Drawn} {t : Nat} {os : OsState}
variable {nm q : Str} {C N : Addr} {bs bm bmB : List Value} {hdct : Bool} {sn : List Str} {sub : List Value} {ab : Bool} {col : Option Bool} {dd : Option Addr} {k0 k1 k2 k3 k5 : Option Value} {B newId initId : String}
theorem qk_new (F : ExcBaseFacts B newId initId bmB) (hT : ∀ X : String, bm.contains (.type X) = bmB.contains (.type X)) {kws : List (Str × Value)}
    (hC : h.get? C = some (excClassObj nm q C N bs bm hdct sn sub ab col dd k0 k1 k2 k3 k5 newId))
    (hq : R (.ok (.ret (.ref (h.objs.size + 1)))) ⟨(h.push { cls := .type "tuple", data := .seq #[] }).push
      { cls := .ref C, data := .fields #[.ref h.objs.size, .none, .none, .none, .bool false, .none] }, g, d, t, os⟩) :
    codeAny (model prog w) A (.builtin newId ⟨[.ref C], kws⟩) R ⟨h, g, d, t, os⟩ := by
  have ends_ := F.ends
  have ofB : (Value.ref C :: bm).contains (.type B) = true := by rw [List.contains_cons, hT, F.hasB, Bool.or_true]
  have ofA : (Value.ref C :: bm).contains (.type "AttributeError") = false := by rw [List.contains_cons, hT, F.noAttr]; rfl
  have ofN : (Value.ref C :: bm).contains (.type "NameError") = false := by rw [List.contains_cons, hT, F.noName]; rfl
  refine codeAny_builtinAt F.entry ?_
  unfold Builtin.«BaseException.__new__»
  refine wpAt_bind ?_
  show wpAt _ _ _ (stack >>= _) _ _ _
  refine wpAt_bind (wpAt_stack fun p below => wpAt_of_wpAny ?_)
  wp_walk
  refine wpAt_of_wpAny ?_
  rw [F.owner]
  repeat (first | with_reducible refine wpAny_madeHere_exc F.canon hC ?_ | with_reducible refine wpAny_loadPart_at hC ?_ | (with_reducible refine wpAny_isSubtype_exc hC ?_; first | rw [ofB] | rw [ofA] | rw [ofN]) | wp_step)
  show R _ _
  rw [Heap.size_push]
  exact hq
theorem qk_type (F : ExcBaseFacts B newId initId bmB) (hT : ∀ X : String, bm.contains (.type X) = bmB.contains (.type X)) {kws : List (Str × Value)} {fI : Addr} {Q : Fin → Shared → Prop}
    (hC : h.get? C = some (excClassObj nm q C N bs bm hdct sn sub ab col dd k0 k1 k2 k3 k5 newId))
    (hi : W.Looks (model prog w) h (typeLookup (.ref C) "__init__") (some (.ref fI))) (hb : ∀ self, W.Looks (model prog w) h (bindSpecial (.ref fI) self) (.ref fI, [self]))
    (hq : codeAny (model prog w) A (.call (.ref fI) ⟨[.ref (h.objs.size + 1)], kws⟩)
      (fun r s' => match r with | .ok (.ret v) => v = .none ∧ Q (.done (.ret (.ref (h.objs.size + 1)))) s' | .ok _ => False | .error e => E e s')
      ⟨(h.push (W.kdv_tup [])).push (excO C h.objs.size), g, d, t, os⟩) :
    wpAny (model prog w) A (Builtin.«type.__call__» ⟨[.ref C], kws⟩) Q E ⟨h, g, d, t, os⟩ := by
  repeat (first | with_reducible refine wpAny_loadPart_at hC ?_ | with_reducible refine wpAny_madeBy_exc hC ?_ | wp_step)
  refine codeAny_call_builtin_code (Code.quiet_builtin _ F.quiet) (qk_check F hT hC ?_)
  refine qk_new F hT hC ?_
  show wpAny _ _ _ _ _ _
  have stays : ∀ b o, h.get? b = some o → ((h.push (W.kdv_tup [])).push (excO C h.objs.size)).get? b = some o := fun b o e => Heap.get?_push_of_some _ (Heap.get?_push_of_some _ e)
  have atC := stays _ _ hC
  have there : ((h.push (W.kdv_tup [])).push (excO C h.objs.size)).get? (h.objs.size + 1) = some (excO C h.objs.size) := by heap_get
  have ofC : (Value.ref C :: bm).contains (.ref C) = true := by simp
  have i1 := hi.keeps stays
  have b1 := (hb (.ref (h.objs.size + 1))).keeps stays
  unfold isInstance
  repeat (first | with_reducible refine wpAny_loadPart_at there ?_ | (with_reducible refine wpAny_isSubtype_exc atC ?_; rw [ofC]) | wp_step)
  show wpAny _ _ (typeLookup (.ref C) _) _ _ _
  refine i1.at ?_
  refine wpAny_holding (wpAny_bind (b1.at ?_))
  refine wpAny_bind (wpAny_call (codeAny_mono hq fun r s' z => ?_))
  rcases r with e | (v | _ | _ | _) <;> first | exact z | exact z.elim | skip
  obtain ⟨rfl, z⟩ := z
  first
    | exact wpAny_pure (wpAny_pure z)
    | (wp_walk; exact z)
theorem qk_call (F : ExcBaseFacts B newId initId bmB) (hT : ∀ X : String, bm.contains (.type X) = bmB.contains (.type X)) {kws : List (Str × Value)} {fI : Addr}
    (hC : h.get? C = some (excClassObj nm q C N bs bm hdct sn sub ab col dd k0 k1 k2 k3 k5 newId))
    (hi : W.Looks (model prog w) h (typeLookup (.ref C) "__init__") (some (.ref fI))) (hb : ∀ self, W.Looks (model prog w) h (bindSpecial (.ref fI) self) (.ref fI, [self]))
    (hq : codeAny (model prog w) (A.under (.builtin "type.__call__" ⟨[.ref C], kws⟩)) (.call (.ref fI) ⟨[.ref (h.objs.size + 1)], kws⟩) (W.InitBack (h.objs.size + 1) R)
      ⟨(h.push (W.kdv_tup [])).push (excO C h.objs.size), g, d, t, os⟩) :
    codeAny (model prog w) A (.call (.ref C) ⟨[], kws⟩) R ⟨h, g, d, t, os⟩ := by
  have l1 := tc_lookup
  have l2 := tc_bind (.ref C)
  have isType : (⟨h, g, d, t, os⟩ : Shared).TypeIs (.ref C) "type" := ⟨_, hC, rfl⟩
  refine codeAny_of_tree ?_
  show wpAny _ _ (callAny (.ref C) _) _ _ _
  repeat (any_goals (first | assumption | with_reducible refine wpAny_loadPart_at hC ?_ | wp_step))
  refine ⟨rfl, ?_⟩
  refine codeAny_call_builtin_at (Code.quiet_builtin _ (by decide +kernel)) entry_typeCall (wpAny_check_type_call_sub hC (qk_type F hT hC hi hb ?_))
  refine codeAny_mono hq fun r s' z => ?_
  rcases r with e | (v | _ | _ | _) <;> exact z
end
end HandSPX
end PySem
namespace QT
open PySem PySem.Spec PyProof.Rows L2
/-- how keywords alone bind, behind self -/
def KwB (fd : FuncData) (ps ks : List Str) (g : List Value → List Value) : Prop := ∀ (s : Shared) (self : Value) (ws : List Value), ws.length = ks.length → BindsTo s fd ⟨[self], ks.zip ws⟩ (ps.zip (self :: g ws))
/-- C(k = e, ..), kept -/
def tOexK (C : Addr) (m : Nat) (sp : Sp) (gV : List V → List V) (tk : TA) : TE := fun σ H Q => tk σ H fun zs H1 => zs.length = m ∧ ∀ a, H1 a = none → sp (.ref a :: gV zs) (upd H1 a (exo a C none)) (fun v H2 => v = .non ∧ Q (.ref a) H2) E0
section
variable {X : Cx} {p pos : Pos} {kws : List Keyword} {tk : TA}
theorem pe_oexk {x : Str} {C fI : Addr} {k : Nat} {fd : FuncData} {ps ks : List Str} {sp : Sp} {g : List Value → List Value} {gV : List V → List V} (T : OexC X.K C) (iC : PySem.W.findIn X.K (.ref C) "__init__" = some (some (.ref fI))) (tI : PySem.W.typeIn X.K (.ref fI) = some (.type "function"))
    (F1 : FnOk X.prog X.w X.K X.mg X.base CX0 k fI fd ps sp) (hr : Room (k + 1) X.A) (hb : KwB fd ps ks g) (rel : ∀ {zs : List V} {ws : List Value}, Vals zs ws → Vals (gV zs) (g ws)) (hg : Gl X x) (hm : X.mg x = some (.ref C)) (hkw : PK X kws tk)
    (hall : (backToKw pos (keywordEach kws X.env)).all (·.1.isSome) = true := by rfl) (hks : (backToKw pos (keywordEach kws X.env)).filterMap (·.1) = ks := by rfl)
    (hdb : (x == ("__debug__" : Str)) = false := by decide) (hpl : ((backTo pos (starEach [] X.env)).any (·.1) || (backToKw pos (keywordEach kws X.env)).any (·.1.isNone)) = false := by rfl) :
    PE X (.Call (.Name x p) [] kws pos) (tOexK C ks.length sp gV tk) := by
  refine ⟨fun pins s σ H Q I h => ?_⟩
  obtain ⟨nm, q, N, bs, bm, sn, sub, ab, col, dd, k0, k1, k2, k3, k5, atC, chain⟩ := T.cls
  refine wpAny_Call_Name_kw (ld_glob I hg hm ?_ hdb)
  refine PySem.W.callWith_KW0 (h₀ := X.base) I.ok.mod.kin T.kC hall (thn (hkw.run pos pins s σ H _ I h) fun ws s1 ⟨zs, H1, I1, r1, many, asks⟩ => ⟨I1.kIn, ?_⟩) hpl
  rw [hks]
  show wpAny _ _ (call (.ref C) [] (ks.zip ws)) _ _ _
  obtain ⟨hp, gg, dr, tk', os⟩ := s1
  have above : hp.objs.size ≤ hp.objs.size + 1 := Nat.le_succ _
  have free : H1 (hp.objs.size + 1) = none := I1.hok.fresh above
  have ask := asks (hp.objs.size + 1) free
  have stays : ∀ b o, hp.get? b = some o → ((hp.push (PySem.W.kdv_tup [])).push (PySem.HandSPX.excO C hp.objs.size)).get? b = some o := fun b o z => Heap.get?_push_of_some _ (Heap.get?_push_of_some _ z)
  have there : ((hp.push (PySem.W.kdv_tup [])).push (PySem.HandSPX.excO C hp.objs.size)).get? (hp.objs.size + 1) = some (PySem.HandSPX.excO C hp.objs.size) := by heap_get
  have I2 : Inv X pins σ (upd H1 (hp.objs.size + 1) (exo (hp.objs.size + 1) C none)) ⟨(hp.push (PySem.W.kdv_tup [])).push (PySem.HandSPX.excO C hp.objs.size), gg, dr, tk', os⟩ :=
    I1.laid (t' := tk') (a := hp.objs.size + 1) (o := exo (hp.objs.size + 1) C none) (h' := (hp.push (PySem.W.kdv_tup [])).push (PySem.HandSPX.excO C hp.objs.size)) stays above (exo_ok there)
  have r2 : Vals (V.ref (hp.objs.size + 1) :: gV zs) (Value.ref (hp.objs.size + 1) :: g ws) := .cons rfl (rel r1)
  have wl : ws.length = ks.length := r1.length.symm.trans many
  refine wpAny_call (PySem.HandSPX.qk_call F.excBase_ValueError (fun Y => PySem.HandSPX.refsVE_contains Y bm chain) (I1.kIn _ _ atC) (PySem.W.looks_findIn I1.kIn iC) (fun self => PySem.W.bind_fn I1.kIn self tI)
    (codeAny_mono (F1.run _ X.stack _ _ ⟨[Value.ref (hp.objs.size + 1)], ks.zip ws⟩ (Value.ref (hp.objs.size + 1) :: g ws) _ _ E0 (hr.make C [] (ks.zip ws)) (I2.env0.make C [] (ks.zip ws)) (hb _ _ ws wl) r2 ask) fun r s' back => ?_))
  cases r with
  | error er => exact back.elim
  | ok fl =>
    cases fl with
    | ret u =>
      obtain ⟨v, H2, I3, rv, ev, q2⟩ := I2.after back
      subst ev
      exact ⟨rv, .ref (hp.objs.size + 1), H2, I3, rfl, q2⟩
    | next => exact False.elim back
    | brk => exact False.elim back
    | cont => exact False.elim back
end
end QT

/-! errors kept as values: their class and their methods -/
namespace QT
open PySem PySem.Spec PyProof.Rows L2
/-- an error of the class at C stands at a, its fields fs -/
def ErrAt (H : Hp) (a C : Addr) (fs : List (Str × V)) : Prop := (∃ d, H a = some (exo a C (some d)) ∧ H d = some (exd d fs)) ∨ (H a = some (ExO (.ref C) a) ∧ fs = [])
/-- what its class must say -/
structure ErrK (K : PySem.W.Frag) (C : Addr) : Prop where
  ga : PySem.W.findIn K (.ref C) "__getattribute__" = some (some (.builtin "BaseException.__getattribute__"))
  gg : PySem.W.findIn K (.ref C) "__getattr__" = some none
  cl : PySem.W.isClsIn K C = true
  ca : PySem.W.findIn K (.ref C) "__class__" = some (some (.builtin "object.__class__"))
  gn : PySem.W.specialIn K (.builtin "object.__class__") "__get__" = some (some (.builtin "getset_descriptor.__get__"))
  tk : PySem.W.takesIn K (.builtin "object.__class__") = some true
  mo : PySem.W.mroIn K C (.type "object") = some true
  sub : PySem.W.subIn K (.ref C) (.type "BaseException") = some true
theorem err_inst {X : Cx} {pins : List (Addr × Obj)} {σ : L2.St} {H : Hp} {s : Shared} {a C : Addr} {fs : List (Str × V)} (I : Inv X pins σ H s) (h : ErrAt H a C fs) :
    ∃ (ox : Obj) (od : Option Obj), PySem.W.InstAt s.heap a ox C od ∧ ∀ n, fs.lookup n = none → PySem.W.shadowIn od n = some false := by
  rcases h with ⟨d, ea, ed⟩ | ⟨ea, rfl⟩
  · obtain ⟨t1, ho⟩ := exo_at I.hok ea
    obtain ⟨mA, hns, rel⟩ := exd_at I.hok ed
    obtain ⟨od, hod, hl⟩ := lookIn_ns hns
    refine ⟨_, some od, ⟨ho, rfl, rfl, hod⟩, fun n hn => ?_⟩
    have z : mA n = none := RelO.none_of (by rw [← hn]; exact rel n)
    unfold PySem.W.shadowIn
    dsimp only
    rw [hl n, z]
    rfl
  · have z : ObjOk X.prog X.w H s.heap a (ExO (.ref C) a) := I.hok a _ ea
    obtain ⟨oe, vs, e, zc, dt, _⟩ := z.1
    obtain ⟨oc, od, oda, osl⟩ := oe
    obtain ⟨h1, h2⟩ := zc
    dsimp only at h1 h2 dt
    subst h1 h2 dt
    exact ⟨_, none, ⟨e, rfl, rfl, trivial⟩, fun n _ => rfl⟩
/-- isinstance(e, D) -/
def rIsErr (K : PySem.W.Frag) : List V → Hp → VK → Prop := fun xs H Q => ∃ (a C : Addr) (fs : List (Str × V)) (c : V) (cv : Value) (b : Bool), xs = [.ref a, c] ∧ ErrAt H a C fs ∧ ErrK K C ∧ (∀ u, RelV c u → u = cv) ∧ PySem.W.kitOne K (.ref C) cv = some b ∧ Q (.bl b) H
theorem call_isErr {X : Cx} : CallR X (.builtin "isinstance") (rIsErr X.K) := by
  intro pins s σ H xs us Q I r h
  obtain ⟨a, C, fs, c, cv, b, rfl, ea, E, hcv, e, q⟩ := h
  cases r with
  | cons rx rr =>
    cases rr with
    | cons rt rr =>
      cases rr
      cases rx
      have ec := hcv _ rt
      subst ec
      obtain ⟨ox, od, J, _⟩ := err_inst I ea
      exact PySem.W.kia_one (PySem.W.kitx_exc E.cl E.ga E.gg E.sub E.ca E.gn E.tk E.mo) I.kIn J e (fun z => nomatch z) fun tk => ⟨.bl b, H, I.kept (t' := tk) fun _ _ z => z, rfl, q⟩
/-- e.m() -/
def tErrM (X : Cx) (m : Str) (j : Nat) (te : TE) : TE := fun σ H Q => te σ H fun x H1 => ∃ (a C f : Addr) (fs : List (Str × V)) (fd : FuncData) (ps : List Str) (k : Nat) (sp : Sp), x = .ref a ∧ ErrAt H1 a C fs ∧ ErrK X.K C ∧ fs.lookup m = none ∧
  PySem.W.findIn X.K (.ref C) m = some (some (.ref f)) ∧ PySem.W.isFn X.K (.ref f) = true ∧ PySem.W.keepIn X.K (.ref f) = true ∧ FnOk X.prog X.w X.K X.mg X.base CX0 k f fd ps sp ∧ k ≤ j ∧ Binds X.K fd ps [] ∧ sp [.ref a] H1 Q E0
theorem pe_errM {X : Cx} {o : Expr} {te : TE} {m : Str} {j : Nat} {apos pos : Pos} {pl : Sem Bool} (hr : Room j X.A) (he : PE X o te)
    (ht : eval (.Call (.Attribute o m apos) [] [] pos) X.env = (do
      let ov ← eval o X.env
      standAt apos.atName
      let (f, first) ← holding [ov] (getMethod ov m pl)
      callWith pos f first (backTo pos (starEach [] X.env)) (backToKw pos (keywordEach [] X.env))) := by rfl) :
    PE X (.Call (.Attribute o m apos) [] [] pos) (tErrM X m j te) := by
  refine ⟨fun pins s σ H Q I h => ?_⟩
  refine PySem.W.methodCall_KW (pl := pl) (thn (he.run pins s σ H _ I h) fun u s1 ⟨x, H1, I1, rx, a, C, f, fs, fd, ps, k, sp, ex, ea, E, nl, hf, fn, kp, F, kj, hb, q⟩ => ?_) ht
  subst ex
  obtain rfl : u = Value.ref a := rx
  obtain ⟨ox, od, J, sh⟩ := err_inst I1 ea
  obtain ⟨m', fr⟩ := I1.fr
  refine PySem.W.method_exc fr I1.ok.mod.kin J E.ga E.gg hf fn (sh m nl) ?_
  exact PySem.W.callWith_K0 (first := [.ref a]) I1.kIn kp (run_fn (us := [.ref a]) (vs := [.ref a]) (dvs := []) (ds := []) F (hr.mono kj) hb .nil pass0 I1 (.cons rfl .nil) q)
end QT

/-! C() of an own error class without an __init__; T('x') of a built-in one: kept -/
namespace QT
open PySem PySem.Spec PyProof.Rows L2
section
variable {X : Cx} {p pos : Pos}
theorem pe_exc0 {C : Addr} {bmB : List Value} {B newId initId : String} {x : Str} (F : ExcBaseFacts B newId initId bmB) (q : PySem.W.excIn X.K C bmB newId = true) (gC : X.mg x = some (.ref C)) (kC : PySem.W.keepIn X.K (.ref C) = true) (hg : Gl X x)
    (hdb : (x == ("__debug__" : Str)) = false := by decide) :
    PE X (.Call (.Name x p) [] [] pos) (fun σ H Q => ∀ a, H a = none → Q (.ref a) (upd H a (ExO (.ref C) a))) := by
  refine ⟨fun pins s σ H Q I h => ?_⟩
  refine wpAny_Call_Name_kw (ld_glob I hg gC ?_ hdb)
  refine PySem.W.callWith_K0 I.kIn kC ?_
  show wpAny _ _ (call (.ref C) []) _ _ _
  obtain ⟨bm, N, nm, qn, bs, hdct, sn, sub, ab, col, dd, k0, k1, k2, k3, k5, mN, hC, hN, hni, T⟩ := exc_obj I.kIn q
  refine wpAny_call_exc_subT F T hC hN hni (fun h' a hm => ?_) (Nat.zero_le _)
  have hn : H a = none := I.hok.gone hm.new
  obtain ⟨t, ht, _, _⟩ := hm.there
  exact ⟨.ref a, upd H a (ExO (.ref C) a), I.laidN hm.keeps hm.new hn (exO_ok ht ⟨rfl, rfl⟩ rfl rfl rfl (show 4 < 6 by decide)), rfl, h a hn⟩
/-- an exception of a built-in class stands at a -/
def BexO (T : String) (a : Addr) : HO := .ext fun h => ∃ o, h.get? a = some o ∧ o.cls = .type T
theorem bexO_ok {P : Program} {w : World} {H : Hp} {h : Heap} {a : Addr} {T : String} {o : Obj} (e : h.get? a = some o) (c : o.cls = .type T) : ObjOk P w H h a (BexO T a) :=
  ⟨⟨o, e, c⟩, ⟨o, e⟩, fun _ _ ⟨u, q, r⟩ k => ⟨u, k u q, r⟩⟩
/-- T(e, ..) -/
theorem pe_bex {T N I' : String} {x : Str} {e : Expr} {es : List Expr} {t : TA} (F : ExcB T N I') (hg : Gl X x) (hm : X.mg x = none) (hv : bootBuiltins x = some (.type T)) (ha : PA X (e :: es) t) (hn : x ≠ "__name__" := by decide) (hdb : (x == ("__debug__" : Str)) = false := by decide)
    (hs : starEach (e :: es) X.env = (false, eval e X.env) :: starEach es X.env := by rfl) (hpl : (backTo pos (starEach es X.env)).any (·.1) = false := by rfl) :
    PE X (.Call (.Name x p) (e :: es) [] pos) (fun σ H Q => t σ H fun vs H1 => vs.length ≤ sizeLine ∧ ∀ a, H1 a = none → Q (.ref a) (upd H1 a (BexO T a))) := by
  refine ⟨fun pins s σ H Q J h => ?_⟩
  refine wpAny_Call_Name_kw (ld_blt J hg hm hv ?_ hn hdb)
  refine PyProof.Rows.callWith_type1 (thn (ha.run pos pins s σ H _ J h) fun us s1 hh => ?_) hs hpl
  obtain ⟨vs, H1, I1, r1, q0, q1⟩ := hh
  obtain ⟨hp1, g1, d1, tk1, os1⟩ := s1
  refine wpAny_call_exc F.call (fun h' a mk => ?_) (Nat.le_trans (Nat.le_of_eq r1.length.symm) q0)
  have m := PySem.Heap.MadeExc.of mk
  have free : H1 a = none := I1.hok.gone mk.new
  obtain ⟨t0, ht, _, _⟩ := m.there
  exact ⟨.ref a, upd H1 a (BexO T a), I1.laidN m.keeps m.new free (bexO_ok ht rfl), rfl, q1 a free⟩
/-- isinstance of such -/
def rIsVE (K : PySem.W.Frag) : List V → Hp → VK → Prop := fun xs H Q => ∃ (a : Addr) (c : V) (cv : Value) (b : Bool), xs = [.ref a, c] ∧ H a = some (BexO "ValueError" a) ∧ (∀ u, RelV c u → u = cv) ∧ PySem.W.kitOne K (.type "ValueError") cv = some b ∧ Q (.bl b) H
theorem call_isVE : CallR X (.builtin "isinstance") (rIsVE X.K) := by
  intro pins s σ H xs us Q I r h
  obtain ⟨a, c, cv, b, rfl, ea, hcv, e, q⟩ := h
  cases r with
  | cons rx rr =>
    cases rr with
    | cons rt rr =>
      cases rr
      cases rx
      have ec := hcv _ rt
      subst ec
      have z : ObjOk X.prog X.w H s.heap a (BexO "ValueError" a) := I.hok a _ ea
      exact PySem.W.kia_one (PySem.W.kitx_bexc PySem.F.excAttr_ValueError PySem.F.lkClass_ValueError PySem.F.soClass_ValueError (by decide)) I.kIn z.1 e (fun z => nomatch z) fun tk => ⟨.bl b, H, I.kept (t' := tk) fun _ _ z => z, rfl, q⟩
end
end QT

/-! defs that are called where no repr is under way, so that they may ask repr -/
namespace QT
open PySem PySem.Spec PyProof.Rows L2
structure FnOkG (P : Program) (w : World) (K : PySem.W.Frag) (mg : Str → Option Value) (base : Heap) (k : Nat) (f : Addr) (fd : FuncData) (ps : List Str) (sp : Sp) : Prop where
  len : ∀ vs H Q E, sp vs H Q E → vs.length = ps.length
  run : ∀ (A : Around) (outer : List Env) (s : Shared) (H : Hp) (args : Args) (us : List Value) (vs : List V) (Q : VK) (E : XK), A.guards = some [] → Room k A → Env0 P w K mg base A outer s H → BindsTo s fd args (ps.zip us) → Vals vs us → sp vs H Q E →
    codeAny (model P w) A (.call (.ref f) args) (CR CX0 outer P w H s Q E) s
section
variable {P : Program} {w : World} {K : PySem.W.Frag} {mg : Str → Option Value} {base : Heap} {f : Addr} {fd : FuncData} {ps : List Str} {sp : Sp}
/-- a def by its body, where no repr is under way -/
theorem okG {x qual : Str} {st : Stmt} {k : Nat} {N : List Str} (F : Fun K x qual st f fd) (S : FnScope N ps (defScope st)) (len : ∀ vs H Q E, sp vs H Q E → vs.length = ps.length)
    (body : ∀ (cdv : Value) (A : Around) (outer : List Env) (s : Shared) (H : Hp) (vs : List V) (Q : VK) (E : XK), A.guards = some [] → Room k (A.deeper (envOfC qual (defScope st) s.heap.objs.size f cdv)) → sp vs H Q E →
      ∃ t, PSs (cxOf CX0 P w K mg base N qual (defScope st) f cdv A outer s H E).nox (defBody st) t ∧ t { nx := fun _ H' => Q .non H', rt := Q } (start N vs) H) : FnOkG P w K mg base (k + 1) f fd ps sp := by
  obtain ⟨oc, od, kV, doc, pm, an, cdv, ct, osl, rfl, atF, code⟩ := F.ex
  refine ⟨len, fun A outer s H args us vs Q E free room e0 bind vals promise => ?_⟩
  have count := len _ _ _ _ promise
  have inK : K.In s.heap := e0.mod.kin.keeps fun b o e => (e0.bs b o e).1
  have lim : s.heap.NoLimit := e0.mod.nolimit.keeps fun b o e => (e0.bs b o e).1
  have kinds : ∀ y ∈ ps.zip us, (defScope st).names.lookup y.1 = some .local ∨ ((defScope st).names.lookup y.1 = some .cell ∧ ((cellsFrom (s.heap.objs.size + 1) (defScope st).names []).lookup y.1).isSome = true) := fun ⟨n, v⟩ mem => by
    rcases S.par n (List.of_mem_zip mem).1 with q | q
    · exact .inl q
    · exact .inr ⟨q, PySem.W.cellsFrom_some _ _ _ (.inl q)⟩
  refine codeAny_call_function room.depth (inK _ _ atF) rfl S.co S.gen rfl (PySem.W.codeRec_of inK code) (bind _ _ _ _ ?_)
  refine wpAny_newFunctionEnv_cells S.kind kinds fun env same s1 inCall => ?_
  subst same
  refine ⟨lim.keeps inCall.toInCall.keep, codeAny_func ?_⟩
  obtain ⟨t, ht0, reads⟩ := body cdv A outer s H vs Q E free (room.deeper _) promise
  have ht := ht0.nox
  have I : Inv (cxOf CX0 P w K mg base N qual (defScope st) f cdv A outer s H E) [] (start N vs) H s1 := inv_start S room.hd e0 count vals inCall
  have fin : ∀ {σ' : L2.St} {H' : Hp} {v : V} {u : Value} {s' : Shared}, Inv (cxOf CX0 P w K mg base N qual (defScope st) f cdv A outer s H E) [] σ' H' s' → RelV v u → Q v H' → CE outer P w H s Q u s' :=
    fun {σ' H' v u s'} J rv q => ⟨v, H', J.os, J.bare, J.base, J.hok, rv, q⟩
  refine wpAny_mono (ht.run [] s1 (start N vs) H _ I reads) (fun fl s' ends => ?_) fun e s' ends => ends
  cases fl with
  | ret u =>
    obtain ⟨v, σ', H', J, rv, q⟩ := ends
    exact fin J rv q
  | next =>
    obtain ⟨σ', H', J, q⟩ := ends
    exact fin (v := V.non) (u := Value.none) J rfl q
  | brk | cont =>
    obtain ⟨_, _, _, q⟩ := ends
    exact False.elim q
end
structure CalG (P : Program) (w : World) (K : PySem.W.Frag) (mg : Str → Option Value) (base : Heap) (k : Nat) (x : Str) (sp : Sp) : Prop where
  ex : ∃ (f : Addr) (fd : FuncData) (ps : List Str), FnOkG P w K mg base k f fd ps sp ∧ mg x = some (.ref f) ∧ PySem.W.keepIn K (.ref f) = true ∧ Binds K fd ps []
section
variable {X : Cx} {k j : Nat} {x : Str} {sp : Sp} {p pos : Pos} {e : Expr} {es : List Expr} {t : TA}
theorem pe_cG (c : CalG X.prog X.w X.K X.mg X.base k x sp) (free : X.A.guards = some []) (hr : Room j X.A) (hk : k ≤ j) (hg : Gl X x) (ha : PA X (e :: es) t)
    (hdb : (x == ("__debug__" : Str)) = false := by decide) (he : starEach (e :: es) X.env = (false, eval e X.env) :: starEach es X.env := by rfl) (hpl : (backTo pos (starEach es X.env)).any (·.1) = false := by rfl) :
    PE X (.Call (.Name x p) (e :: es) [] pos) (tCall sp [] E0 t) := by
  obtain ⟨f, fd, ps, F, hm, kp, b⟩ := c.ex
  refine ⟨fun pins s σ H Q I h => ?_⟩
  refine wpAny_Call_Name_kw (ld_glob I hg hm ?_ hdb)
  refine PySem.W.callWith_K (h₀ := X.base) I.ok.mod.kin kp (thn (ha.run pos pins s σ H _ I h) fun us s1 ⟨vs, H1, I1, r, q⟩ => ⟨I1.kIn, ?_⟩) he hpl
  have q2 : sp vs H1 Q E0 := by
    have z : sp (vs ++ []) H1 Q E0 := q
    rw [List.append_nil] at z
    exact z
  have count : us.length = ps.length := by
    rw [← r.length]
    exact F.len _ _ _ _ q2
  have bound := b s1 us I1.kIn (by rw [List.append_nil]; exact count)
  rw [List.append_nil] at bound
  refine wpAny_call (codeAny_mono (F.run X.A X.stack s1 H1 ⟨us, []⟩ us vs Q E0 free (hr.mono hk) I1.env0 bound r q2) fun r s' back => ?_)
  cases r with
  | error e => exact False.elim back
  | ok fl =>
    cases fl with
    | ret u => exact I1.after back
    | next => exact False.elim back
    | brk => exact False.elim back
    | cont => exact False.elim back
/-- repr of a list or a tuple of data -/
def rReprD (K : PySem.W.Frag) : List V → Hp → VK → Prop := fun xs H Q => ∃ (a : Addr) (d : PyData), xs = [.ref a] ∧ Dp K H (.ref a) d ∧ d.showable = true ∧ d.hasDict = false ∧ d.shown.length ≤ sizeLine ∧ d.depth ≤ 60 ∧ Q (.str d.shown) H
theorem call_reprD (free : X.A.guards = some []) (hu : X.A.units + 64 < cLine) : CallR X (.builtin "repr") (rReprD X.K) := by
  intro pins s σ H xs us Q I r h
  obtain ⟨a, d, rfl, hd, sh, nd, len, dep, q⟩ := h
  cases r with
  | cons rx rr =>
    cases rr
    cases rx
    obtain ⟨as, reads⟩ := Dp.reads I d (.ref a) (.ref a) hd rfl
    refine repr_of_reads' reads sh (PySem.PyData.noDict_hsm nd) free (by omega) (fun b o z => z) (fun h' u tk k => ?_) len
    exact ⟨.str d.shown, H, I.kept (t' := tk) k, ⟨_, rfl⟩, q⟩
end
/-- the end: the law's promise from where nothing is under way -/
theorem law_callG {P : Program} {w : World} {K : PySem.W.Frag} {mg mb : Str → Option Value} {k : Nat} {fa a : Addr} {fd : FuncData} {x : Str} {sp : Sp} {s₁ : Shared} {vs : List Value} {ns : List Int}
    (KX : K.In s₁.heap) (hns : s₁.heap.Ns mainGlobals mg) (hb : s₁.heap.Ns builtinsNs mb) (hbb : ∀ x : Str, x ≠ "__name__" → mb x = bootBuiltins x) (hlim : s₁.heap.NoLimit) (hg : s₁.gens = #[])
    (ha : s₁.heap.get? a = some { cls := .type "list", data := .seq vs.toArray }) (hi : IntsAre vs ns) (hl : ns.length ≤ sizeLine) (hr : Room k callerA)
    (F : ∀ base : Heap, K.In base → base.Ns mainGlobals mg → FnOkG P w K mg base k fa fd [x] sp) (hbind : ∀ (s : Shared) (u : Value), BindsTo s fd ⟨[u], []⟩ [(x, u)])
    (hsp : ∀ H : Hp, Only H → SqL K H a (ns.map V.int) → sp [.ref a] H (fun v _ => v = .bl true) fun _ _ _ => False) :
    codeAny (model P w) callerA (.call (.ref fa) ⟨[.ref a], []⟩) (fun r s' => r = .ok (.ret (.bool true)) ∧ OldK s₁.heap s'.heap ∧ s'.os = s₁.os ∧ AllBare s'.gens) s₁ := by
  have vals := vals_ints hi
  have count := hi.length
  -- from a heap in which the script alone may be told of
  have from_ : ∀ H : Hp, Only H → SqL K H a (ns.map V.int) → HOk P w H s₁.heap → (∀ b, H b ≠ none → b = a) → (H a ≠ none → K.lookup a = none) →
      codeAny (model P w) callerA (.call (.ref fa) ⟨[.ref a], []⟩) (fun r s' => r = .ok (.ret (.bool true)) ∧ OldK s₁.heap s'.heap ∧ s'.os = s₁.os ∧ AllBare s'.gens) s₁ := by
    intro H only sq hok alone off
    have base_ : ∀ {b : Addr} {o : Obj}, s₁.heap.get? b = some o → H b = none → (hidT s₁.heap H).get? b = some o := fun e n => hidT_get e n
    have untold : ∀ {b : Addr} {o : Obj} {es : Array DictEntry} {ep : Nat}, s₁.heap.get? b = some o → o.data = .dict es ep → H b = none := fun {b o es ep} e d => by
      cases q : H b with
      | none => rfl
      | some u =>
        have eb : b = a := alone b (by rw [q]; simp)
        rw [eb, ha] at e
        cases e
        have z : Data.seq vs.toArray _ = Data.dict es ep := d
        cases z
    have ns_ : ∀ {b : Addr} {m : Str → Option Value}, s₁.heap.Ns b m → (hidT s₁.heap H).Ns b m := fun {b m} ⟨o, es, ep, e, d, r⟩ => ⟨o, es, ep, base_ e (untold e d), d, r⟩
    have inBase : K.In (hidT s₁.heap H) := fun b o e => base_ (KX b o e) (by
      cases q : H b with
      | none => rfl
      | some u =>
        have eb : b = a := alone b (by rw [q]; simp)
        rw [eb, off (by rw [← eb, q]; simp)] at e
        cases e)
    have modOk : Mod K mg (hidT s₁.heap H) := ⟨inBase, ns_ hns, ⟨mb, ns_ hb, hbb⟩, let ⟨mc, h1, h2⟩ := hlim; ⟨mc, ns_ h1, h2⟩⟩
    have e0 : Env0 P w K mg (hidT s₁.heap H) callerA [] s₁ H := ⟨rfl, modOk, fun b o e => of_hidT e, Nat.le_of_eq (hidT_size _ _), trivial, fun b z => absurd (show b ∈ ([] : List Addr) from z) (by simp), hok, .of_eq hg⟩
    refine codeAny_mono ((F _ inBase (ns_ hns)).run callerA [] s₁ H ⟨[.ref a], []⟩ [.ref a] [.ref a] _ _ rfl hr e0 (hbind s₁ (.ref a)) (.cons rfl .nil) (hsp H only sq)) fun r s' back => ?_
    cases r with
    | error e => exact False.elim back
    | ok fl =>
      cases fl with
      | next | brk | cont => exact False.elim back
      | ret u =>
        obtain ⟨v, H', os, bare, un, hok2, rv, q⟩ := back
        have qv : v = .bl true := q
        subst qv
        obtain rfl : u = Value.bool true := rv
        refine ⟨rfl, OldK.of_keep fun b o e => ?_, os, bare⟩
        cases q : H b with
        | none => exact un.keep b o e q (by intro z; exact absurd (show b ∈ ([] : List Addr) from z) (by simp)) (by simp)
        | some u =>
          rcases only b with z | ⟨ob, xs, z⟩
          · rw [q] at z
            cases z
          · obtain ⟨y1, _⟩ := hok b _ z
            obtain ⟨y2, _⟩ := hok2 b _ (un.frzs b ob _ z)
            rw [e] at y1
            cases y1
            exact y2
  cases hk : K.lookup a with
  | some o =>
    have e := KX a o hk
    rw [ha] at e
    cases e
    exact from_ (fun _ => none) (fun _ => .inl rfl) (.inr ⟨_, vs.toArray, _, hk, rfl, rfl, rfl, by rw [List.size_toArray, count]; exact hl, by simpa using vals⟩) (fun b u z => by cases (show (none : Option HO) = some u from z)) (fun b z => absurd rfl z) fun z => absurd rfl z
  | none =>
    refine from_ (fun b => if b = a then some (.frz { cls := .type "list", data := .seq vs.toArray } (.lst (ns.map V.int))) else none) (fun b => ?_) (.inl (.inr ⟨{ cls := .type "list", data := .seq vs.toArray }, if_pos rfl⟩)) (fun b u z => ?_) (fun b z => ?_) fun _ => hk
    · by_cases y : b = a
      · exact .inr ⟨_, _, if_pos y⟩
      · exact .inl (if_neg y)
    · by_cases y : b = a
      · have zz := (if_pos y).symm.trans z
        cases zz
        subst y
        exact ⟨ha, by rw [List.length_map]; exact hl, vs, _, vals, ha⟩
      · have zz := (if_neg y).symm.trans z
        cases zz
    · by_cases y : b = a
      · exact y
      · exact absurd (if_neg y) z
theorem walk_ofG {l : PySem.W.OpenLaw} {n k : Nat} {q : Program} {loose : List Str} {XP : (Str → Option Value) → Heap → Prop} {YP : World → Heap → Prop} {d : DefRec} {K : Params → PySem.W.Frag} {sp : World → Sp} {x : Str}
    (hn : l.most = some n) (hn2 : n ≤ sizeLine) (hdf : d.params.defaults = []) (hr : Room k callerA)
    (hY : ∀ (w : World) (h : Heap), YP w h → (K w.params).In h)
    (F : ∀ (w : World) (mg : Str → Option Value) (fa : Addr) (h : Heap), (K w.params).In h → h.Ns mainGlobals mg → mg d.name = some (.ref fa) →
      ∃ fd : FuncData, (∀ (s : Shared) (u : Value), BindsTo s fd ⟨[u], []⟩ [(x, u)]) ∧
        ∀ base : Heap, (K w.params).In base → base.Ns mainGlobals mg → FnOkG l.prog w (K w.params) mg base k fa fd [x] (sp w))
    (hsp : ∀ (w : World) (H : Hp) (a : Addr) (ns : List Int), ns.length ≤ n → (∀ z ∈ ns, Builtin.Int.intBits z ≤ 1048576) → Only H → SqL (K w.params) H a (ns.map V.int) → sp w [.ref a] H (fun v _ => v = .bl true) fun _ _ _ => False) :
    PySem.W.WalkO q loose XP YP l.row.toRowW d [] (fun f vs => PySem.call f vs) := by
  refine Att.attach_callB hn hdf fun w s₀ s₁ mg mb fa o pm cd doc a vs ns G Y ho hd hcd hmg hobj hints hlen hbits hg => ?_
  obtain ⟨fd, binds, ok⟩ := F w mg fa _ (hY w _ Y) G.T.g hmg
  exact law_callG (hY w _ Y) G.T.g G.T.b G.T.builtins G.T.nolimit hg hobj hints (Nat.le_trans hlen hn2) hr ok binds fun H hO hS => hsp w H a ns hlen hbits hO hS
end QT

/-! draws -/
namespace Q05
open PySem PySem.Spec PyProof.Rows L2 QT
def top (i : Nat) : Stmt := PySem.Challenge.pw_nestfile_k05_errors.main.body.getD i (.Pass ⟨0, 0, 0, 0⟩)
structure Txt (K : PySem.W.Frag) (mg : Str → Option Value) : Prop where
  z_len : mg "len" = none
  z_abs : mg "abs" = none
  z_int : mg "int" = none
  z_tuple : mg "tuple" = none
  z_isinstance : mg "isinstance" = none
  z_zip : mg "zip" = none
  z_repr : mg "repr" = none
  z_ValueError : mg "ValueError" = none
theorem same_new {H : Hp} {p : Addr} {o : HO} (h : H p = none) : Same H (upd H p o) := fun b u e => by
  rw [upd_ne (ne_of_none e h)]
  exact e
theorem sz {n : Nat} (h : n ≤ 100000) : n ≤ sizeLine := Nat.le_trans h (by decide)
theorem szl {n : Nat} (h : n ≤ 100000) : n < sizeLine := Nat.lt_of_le_of_lt h (by decide)
theorem b01 {c : Prop} [Decidable c] : (0 : Int) ≤ (if c then 1 else 0) ∧ (if c then (1 : Int) else 0) ≤ 1 := by split <;> decide
theorem b64 {i : Int} (h : 0 ≤ i ∧ i ≤ 1) : -(2 ^ 64) < i ∧ i < 2 ^ 64 := ⟨by omega, by omega⟩
/-- a state of draws stands at s -/
def Stt (H : Hp) (s : Addr) : Prop := ∃ x y z : Int, H s = some (.lst [.int x, .int y, .int z]) ∧ 0 ≤ x ∧ 0 ≤ y ∧ y < 4294967296 ∧ 0 ≤ z
/-- all stays but at s, where a state stands -/
structure Ext (s : Addr) (H H' : Hp) : Prop where
  keep : ∀ b o, b ≠ s → H b = some o → H' b = some o
  st : Stt H' s
theorem Ext.trans {s : Addr} {H H1 H2 : Hp} (a : Ext s H H1) (b : Ext s H1 H2) : Ext s H H2 := ⟨fun x o n e => b.keep x o n (a.keep x o n e), b.st⟩
theorem Ext.refl {s : Addr} {H : Hp} (h : Stt H s) : Ext s H H := ⟨fun _ _ _ e => e, h⟩
theorem Stt.ex {s : Addr} {H H' : Hp} (h : Stt H s) (e : Same H H') : Stt H' s := by
  obtain ⟨x, y, z, a, b⟩ := h
  exact ⟨x, y, z, e _ _ a, b⟩
theorem Ext.of {s : Addr} {H H' : Hp} (e : Same H H') (h : Stt H s) : Ext s H H' := ⟨fun b o _ q => e b o q, h.ex e⟩
theorem Ext.ex {s : Addr} {H H1 H2 : Hp} (a : Ext s H H1) (e : Same H1 H2) : Ext s H H2 := ⟨fun b o n q => e b o (a.keep b o n q), a.st.ex e⟩
theorem Ext.new {s : Addr} {H H1 : Hp} {p : Addr} {o : HO} (a : Ext s H H1) (h : H1 p = none) : Ext s H (upd H1 p o) := a.ex (same_new h)
theorem Stt.ne {s p : Addr} {H : Hp} (h : Stt H s) (q : H p = none) : p ≠ s := fun e => by
  obtain ⟨_, _, _, a, _⟩ := h
  rw [← e, q] at a
  cases a
theorem same_of_ext {s : Addr} {H0 H1 H2 : Hp} (n : H0 s = none) (a : Same H0 H1) (b : Ext s H1 H2) : Same H0 H2 := fun x o e => b.keep x o (ne_of_none e n) (a x o e)
def spSource : Sp := fun vs H Q _ => ∃ n : Int, vs = [.int n] ∧ ∀ (H' : Hp) (p : Addr), H p = none → Same H H' → Stt H' p → Q (.ref p) H'
def spDraw : Sp := fun vs H Q _ => ∃ (s : Addr) (b : Int), vs = [.ref s, .int b] ∧ Stt H s ∧ 0 < b ∧ b ≤ 1000000000 ∧ ∀ (H' : Hp) (d : Int), Ext s H H' → 0 ≤ d → d < b → Q (.int d) H'
def spPick (K : PySem.W.Frag) : Sp := fun vs H Q _ => ∃ (s p : Addr) (xs : List V), vs = [.ref s, .ref p] ∧ Stt H s ∧ p ≠ s ∧ SqL K H p xs ∧ 0 < xs.length ∧ xs.length ≤ 1000 ∧ ∀ (H' : Hp) (v : V), Ext s H H' → v ∈ xs → Q v H'
theorem Ext.seq {s p : Addr} {K : PySem.W.Frag} {H H' : Hp} {xs : List V} (e : Ext s H H') (n : p ≠ s) (h : SqL K H p xs) : SqL K H' p xs := by
  rcases h with (h | ⟨o, h⟩) | h
  · exact .inl (.inl (e.keep _ _ n h))
  · exact .inl (.inr ⟨o, e.keep _ _ n h⟩)
  · exact .inr h
theorem ix_set {n : Nat} {d : Int} (h0 : 0 ≤ d) (h1 : d < (n : Int)) : ixN n d = some d.toNat := by
  unfold ixN
  rw [if_pos h0, if_pos h1]
theorem at_ix {xs : List V} {d : Int} (h0 : 0 ≤ d) (h1 : d.toNat < xs.length) : atI xs d = some xs[d.toNat] := by
  unfold atI
  rw [ix_set h0 (by omega)]
  show xs[d.toNat]? = _
  rw [List.getElem?_eq_getElem h1]
theorem ifT {c : Bool} {A B : Prop} (h : c = true) (a : A) : if c = true then A else B := by
  rw [if_pos h]
  exact a
theorem ifF {c : Bool} {A B : Prop} (h : c = false) (b : B) : if c = true then A else B := by
  rw [h, if_neg Bool.false_ne_true]
  exact b
/-- side conditions; and the plain steps of a reading -/
local macro_rules | `(tactic| walk_at "sd") => `(tactic| first
  | assumption | decide | omega | exact b64 b01 | (show (0 : Int) < _; first | decide | omega) | exact ⟨by decide, by decide, by decide⟩ | exact ⟨by decide, by decide⟩ | exact ⟨by omega, by omega⟩
  | exact .inl ⟨by omega, by omega⟩ | exact .inr ⟨by omega, by omega⟩ | exact sz (by simp) | exact szl (by simp))
local macro_rules | `(tactic| walk_at "rd") => `(tactic| repeat (first
  | refine ⟨_, rfl, ?_⟩
  | refine ⟨_, _, rfl, rfl, ?_⟩
  | refine ⟨_, _, _, _, rfl, rfl, SqL.of (by first | assumption | exact upd_same), rfl, ?_⟩
  | refine .inl ⟨_, rfl, ?_⟩
  | refine .inr ⟨_, rfl, ?_⟩
  | refine ⟨_, _, _, _, rfl, rfl, (by first | assumption | exact upd_same), rfl, ?_⟩
  | refine And.intro (by walk_at "sd") ?_))
section
variable {P : Program} {w : World} {K : PySem.W.Frag} {mg : Str → Option Value} {base : Heap} {f : Addr} {fd : FuncData}
abbrev s__law_source : Stmt := top 16
theorem sc__law_source : FnScope ["_law_cell"] ["_law_cell"] (defScope s__law_source) := ⟨rfl, rfl, rfl, by decide +kernel, rfl, by decide +kernel, by decide +kernel⟩
theorem ok_source (F : Fun K "_law_source" "_law_source" s__law_source f fd) (T : Txt K mg) : FnOk P w K mg base CX0 1 f fd ["_law_cell"] spSource := by
  refine F.ok sc__law_source (fun vs H Q E h => ?_) (fun cdv A outer s H vs Q E hr h => ?_)
  · obtain ⟨n, rfl, _⟩ := h
    rfl
  · obtain ⟨n, rfl, k⟩ := h
    refine ⟨_, (pss_one (ps_ret (pe_lst (pa_cons (pe_callB call_abs (by rfl) T.z_abs (by decide +kernel) (pa_cons (pv 0) pa_nil)) (pa_cons (pe_op op_mod (pe_callTy call_int1 (by rfl) T.z_int (by decide +kernel) (pa_cons (pv 0) pa_nil)) pe_int) (pa_cons pe_int pa_nil)))))), ?_⟩
    walk_at "rd"
    intro p hp
    refine k _ p hp (same_new hp) ⟨_, _, _, upd_same, ?_, Int.emod_nonneg _ (by decide), ?_, by decide⟩
    · split <;> omega
    · have := Int.emod_lt_of_pos n (b := 2147483629) (by decide)
      show n % 2147483629 < _
      omega
abbrev s__law_draw : Stmt := top 17
theorem sc__law_draw : FnScope ["_law_source_here", "_law_many", "_law_found", "_law_mixed"] ["_law_source_here", "_law_many"] (defScope s__law_draw) := ⟨rfl, rfl, rfl, by decide +kernel, rfl, by decide +kernel, by decide +kernel⟩
theorem ok_draw (F : Fun K "_law_draw" "_law_draw" s__law_draw f fd) (T : Txt K mg) : FnOk P w K mg base CX0 1 f fd ["_law_source_here", "_law_many"] spDraw := by
  refine F.ok sc__law_draw (fun vs H Q E h => ?_) (fun cdv A outer s H vs Q E hr h => ?_)
  · obtain ⟨s, b, rfl, _⟩ := h
    rfl
  · obtain ⟨p, b, rfl, ⟨x, y, z, hs, hx, hy, hy2, hz⟩, hb, hb2, k⟩ := h
    refine ⟨_, (pss_cons (ps_if (pt_cmpR op_ge (pe_ix ix_list (pv 0) pe_int (fun _ _ => rfl)) (pe_op op_pow pe_int pe_int) (nomark _))
      (pss_cons (ps_set (i := 2) sc__law_draw.nd rfl (Or.inl rfl) (pe_op op_mod (pe_callTy call_int1 (by rfl) T.z_int (by decide +kernel) (pa_cons (pe_ix ix_list (pv 0) pe_int (fun _ _ => rfl)) pa_nil)) (pv 1)))
        (pss_cons (ps_asg (pe_op op_fdiv (pe_ix ix_list (pv 0) pe_int (fun _ _ => rfl)) (pv 1)) (pg_sub (pv 0) pe_int set_list))
        (pss_one (ps_ret (pv 2)))))
      pss_nil)
      (pss_cons (ps_asg (pe_op op_add (pe_ix ix_list (pv 0) pe_int (fun _ _ => rfl)) pe_int) (pg_sub (pv 0) pe_int set_list))
      (pss_cons (ps_set (i := 3) sc__law_draw.nd rfl (Or.inl rfl) (pe_op op_mod (pe_callTy call_int1 (by rfl) T.z_int (by decide +kernel) (pa_cons (pe_op op_mul (pe_op op_add (pe_op op_add (pe_ix ix_list (pv 0) pe_int (fun _ _ => rfl)) (pe_op op_mul pe_int (pe_ix ix_list (pv 0) pe_int (fun _ _ => rfl)))) pe_int) pe_int) pa_nil)) pe_int))
      (pss_cons (ps_set (i := 3) sc__law_draw.nd rfl (Or.inl rfl) (pe_op op_mod (pe_callTy call_int1 (by rfl) T.z_int (by decide +kernel) (pa_cons (pe_op op_mul (pv 3) (pe_op op_add (pe_op op_fdiv (pv 3) pe_int) pe_int)) pa_nil)) pe_int))
      (pss_one (ps_ret (pe_op op_mod (pe_callTy call_int1 (by rfl) T.z_int (by decide +kernel) (pa_cons (pe_op op_mod (pe_callTy call_int1 (by rfl) T.z_int (by decide +kernel) (pa_cons (pe_op op_add (pe_op op_fdiv (pv 3) pe_int) (pe_op op_mul (pe_op op_mod (pe_callTy call_int1 (by rfl) T.z_int (by decide +kernel) (pa_cons (pv 3) pa_nil)) pe_int) pe_int)) pa_nil)) pe_int) pa_nil)) (pv 1)))))))), ?_⟩
    walk_at "rd"
    by_cases big : (10 : Int) ^ Int.toNat 18 ≤ x
    · refine ifT (decide_eq_true big) ?_
      walk_at "rd"
      refine k _ _ ⟨fun a o n e => by rw [upd_ne n]; exact e, _, _, _, upd_same, ?_, hy, hy2, hz⟩ (Int.emod_nonneg _ (by omega)) (Int.emod_lt_of_pos _ hb)
      exact Int.ediv_nonneg hx (by omega)
    · refine ifF (decide_eq_false big) ?_
      walk_at "rd"
      refine k _ _ ⟨fun a o n e => by rw [upd_ne n]; exact e, _, _, _, upd_same, hx, hy, hy2, ?_⟩ (Int.emod_nonneg _ (by omega)) (Int.emod_lt_of_pos _ hb)
      show (0 : Int) ≤ z + 1
      omega
abbrev s__law_pick : Stmt := top 18
theorem sc__law_pick : FnScope ["_law_source_here", "_law_items"] ["_law_source_here", "_law_items"] (defScope s__law_pick) := ⟨rfl, rfl, rfl, by decide +kernel, rfl, by decide +kernel, by decide +kernel⟩
theorem ok_pick (F : Fun K "_law_pick" "_law_pick" s__law_pick f fd) (T : Txt K mg) (c_draw : Cal P w K mg base 1 "_law_draw" spDraw) : FnOk P w K mg base CX0 2 f fd ["_law_source_here", "_law_items"] (spPick K) := by
  refine F.ok sc__law_pick (fun vs H Q E h => ?_) (fun cdv A outer s H vs Q E hr h => ?_)
  · obtain ⟨s, p, xs, rfl, _⟩ := h
    rfl
  · obtain ⟨s, p, xs, rfl, hs, hps, hl, h0, h1, k⟩ := h
    refine ⟨_, (pss_one (ps_ret (pe_ix ix_list (pv 1) (pe_c c_draw hr (by decide) (by rfl) (pa_cons (pv 0) (pa_cons (pe_callB call_len_seq (by rfl) T.z_len PySem.boot_len (pa_cons (pv 1) pa_nil)) pa_nil))) (fun _ _ => rfl)))), ?_⟩
    refine ⟨_, rfl, _, rfl, _, rfl, p, _, rfl, .inl hl, ?_⟩
    refine ⟨s, _, rfl, hs, by omega, by omega, fun H1 d e d0 d1 => ?_⟩
    have lt : d.toNat < xs.length := by omega
    exact ⟨p, xs, d, _, rfl, rfl, e.seq hps hl, at_ix d0 lt, k H1 _ e (List.getElem_mem lt)⟩
end
end Q05


/-! the thirteen classes: __init__ and told -/
namespace Q05
open PySem PySem.Spec PyProof.Rows L2 QT
/-- __init__ that keeps one field -/
def spInit1 (fld : Str) (C : Addr) : Sp := fun vs H Q _ => ∃ (a : Addr) (v : V), vs = [.ref a, v] ∧ H a = some (exo a C none) ∧ ∀ dx, H dx = none → dx ≠ a → Q .non (upd (upd H dx (exd dx [(fld, v)])) a (exo a C (some dx)))
/-- .. a tuple, as it is -/
def spInitP (K : PySem.W.Frag) (fld : Str) (C : Addr) : Sp := fun vs H Q _ => ∃ (a p : Addr) (xs : List V), vs = [.ref a, .ref p] ∧ SqT K H p xs ∧ H a = some (exo a C none) ∧ ∀ dx, H dx = none → dx ≠ a → Q .non (upd (upd H dx (exd dx [(fld, .ref p)])) a (exo a C (some dx)))
/-- .. two fields -/
def spInit2 (f1 f2 : Str) (C : Addr) : Sp := fun vs H Q _ => ∃ (a : Addr) (v u : V), vs = [.ref a, v, u] ∧ H a = some (exo a C none) ∧
  ∀ dx, H dx = none → dx ≠ a → Q .non (upd (upd (upd H dx (exd dx [(f1, v)])) a (exo a C (some dx))) dx (exd dx [(f2, u), (f1, v)]))
/-- told() -/
def spTold (t : Str) : Sp := fun vs H Q _ => ∃ a : Addr, vs = [.ref a] ∧ Q (.str t) H
/-- side conditions; and the plain steps of a reading -/
local macro_rules | `(tactic| walk_at "sd") => `(tactic| first
  | assumption | decide | omega | exact b64 b01 | (show (0 : Int) < _; first | decide | omega) | exact ⟨by decide, by decide, by decide⟩ | exact ⟨by decide, by decide⟩ | exact ⟨by omega, by omega⟩
  | exact .inl ⟨by omega, by omega⟩ | exact .inr ⟨by omega, by omega⟩ | exact sz (by simp) | exact szl (by simp))
local macro_rules | `(tactic| walk_at "rd") => `(tactic| repeat (first
  | refine ⟨_, rfl, ?_⟩
  | refine ⟨_, _, rfl, rfl, ?_⟩
  | refine ⟨_, _, _, _, rfl, rfl, SqL.of (by first | assumption | exact upd_same), rfl, ?_⟩
  | refine .inl ⟨_, rfl, ?_⟩
  | refine .inr ⟨_, rfl, ?_⟩
  | refine ⟨_, _, _, _, rfl, rfl, (by first | assumption | exact upd_same), rfl, ?_⟩
  | refine And.intro (by walk_at "sd") ?_))
section
variable {P : Program} {w : World} {K : PySem.W.Frag} {mg : Str → Option Value} {base : Heap} {f : Addr} {fd : FuncData}

abbrev s_NoValue_told : Stmt := inClass (top 2) 1
theorem sc_NoValue_told : FnScope ["self"] ["self"] (defScope s_NoValue_told) := ⟨rfl, rfl, rfl, by decide +kernel, rfl, by decide +kernel, by decide +kernel⟩
theorem told_NoValue (F : Fun K "told" "NoValue.told" s_NoValue_told f fd) : FnOk P w K mg base CX0 1 f fd ["self"] (spTold "refused novalue") := by
  refine F.ok sc_NoValue_told (fun vs H Q E h => ?_) (fun cdv A outer st H vs Q E hr h => ?_)
  · obtain ⟨a, rfl, _⟩ := h
    rfl
  · obtain ⟨a, rfl, k⟩ := h
    exact ⟨_, pss_one (ps_ret pe_str), k⟩
abbrev s_NoValue___init__ : Stmt := inClass (top 2) 0
theorem sc_NoValue___init__ : FnScope ["self", "path"] ["self", "path"] (defScope s_NoValue___init__) := ⟨rfl, rfl, rfl, by decide +kernel, rfl, by decide +kernel, by decide +kernel⟩
theorem ini_NoValue {C : Addr} (F : Fun K "__init__" "NoValue.__init__" s_NoValue___init__ f fd) (T : Txt K mg) (O : OexC K C) (nf : PySem.W.findIn K (.ref C) "path" = some none) : FnOk P w K mg base CX0 1 f fd ["self", "path"] (spInitP K "path" C) := by
  refine F.ok sc_NoValue___init__ (fun vs H Q E h => ?_) (fun cdv A outer st H vs Q E hr h => ?_)
  · obtain ⟨a, v, _, rfl, _⟩ := h
    rfl
  · obtain ⟨a, p, xs, rfl, hp, ha, k⟩ := h
    refine ⟨_, pss_one (ps_ost (pv 0) (pe_callTy call_tuple_of (by rfl) T.z_tuple (by decide +kernel) (pa_cons (pv 1) pa_nil))), ?_⟩
    exact ⟨_, rfl, p, xs, rfl, .inr ⟨hp, _, rfl, a, C, rfl, O, nf, .inl ⟨ha, fun dx n ne => k dx n ne⟩⟩⟩
abbrev s_Large_told : Stmt := inClass (top 3) 1
theorem sc_Large_told : FnScope ["self"] ["self"] (defScope s_Large_told) := ⟨rfl, rfl, rfl, by decide +kernel, rfl, by decide +kernel, by decide +kernel⟩
theorem told_Large (F : Fun K "told" "Large.told" s_Large_told f fd) : FnOk P w K mg base CX0 1 f fd ["self"] (spTold "refused large") := by
  refine F.ok sc_Large_told (fun vs H Q E h => ?_) (fun cdv A outer st H vs Q E hr h => ?_)
  · obtain ⟨a, rfl, _⟩ := h
    rfl
  · obtain ⟨a, rfl, k⟩ := h
    exact ⟨_, pss_one (ps_ret pe_str), k⟩
abbrev s_Large___init__ : Stmt := inClass (top 3) 0
theorem sc_Large___init__ : FnScope ["self", "what"] ["self", "what"] (defScope s_Large___init__) := ⟨rfl, rfl, rfl, by decide +kernel, rfl, by decide +kernel, by decide +kernel⟩
theorem ini_Large {C : Addr} (F : Fun K "__init__" "Large.__init__" s_Large___init__ f fd) (O : OexC K C) (nf : PySem.W.findIn K (.ref C) "what" = some none) : FnOk P w K mg base CX0 1 f fd ["self", "what"] (spInit1 "what" C) := by
  refine F.ok sc_Large___init__ (fun vs H Q E h => ?_) (fun cdv A outer st H vs Q E hr h => ?_)
  · obtain ⟨a, v, rfl, _⟩ := h
    rfl
  · obtain ⟨a, v, rfl, ha, k⟩ := h
    refine ⟨_, pss_one (ps_ost (pv 0) (pv 1)), ?_⟩
    exact ⟨_, rfl, _, rfl, a, C, rfl, O, nf, .inl ⟨ha, fun dx n ne => k dx n ne⟩⟩
abbrev s_NoBytes_told : Stmt := inClass (top 4) 1
theorem sc_NoBytes_told : FnScope ["self"] ["self"] (defScope s_NoBytes_told) := ⟨rfl, rfl, rfl, by decide +kernel, rfl, by decide +kernel, by decide +kernel⟩
theorem told_NoBytes (F : Fun K "told" "NoBytes.told" s_NoBytes_told f fd) : FnOk P w K mg base CX0 1 f fd ["self"] (spTold "refused nobytes") := by
  refine F.ok sc_NoBytes_told (fun vs H Q E h => ?_) (fun cdv A outer st H vs Q E hr h => ?_)
  · obtain ⟨a, rfl, _⟩ := h
    rfl
  · obtain ⟨a, rfl, k⟩ := h
    exact ⟨_, pss_one (ps_ret pe_str), k⟩
abbrev s_NoBytes___init__ : Stmt := inClass (top 4) 0
theorem sc_NoBytes___init__ : FnScope ["self", "place"] ["self", "place"] (defScope s_NoBytes___init__) := ⟨rfl, rfl, rfl, by decide +kernel, rfl, by decide +kernel, by decide +kernel⟩
theorem ini_NoBytes {C : Addr} (F : Fun K "__init__" "NoBytes.__init__" s_NoBytes___init__ f fd) (O : OexC K C) (nf : PySem.W.findIn K (.ref C) "place" = some none) : FnOk P w K mg base CX0 1 f fd ["self", "place"] (spInit1 "place" C) := by
  refine F.ok sc_NoBytes___init__ (fun vs H Q E h => ?_) (fun cdv A outer st H vs Q E hr h => ?_)
  · obtain ⟨a, v, rfl, _⟩ := h
    rfl
  · obtain ⟨a, v, rfl, ha, k⟩ := h
    refine ⟨_, pss_one (ps_ost (pv 0) (pv 1)), ?_⟩
    exact ⟨_, rfl, _, rfl, a, C, rfl, O, nf, .inl ⟨ha, fun dx n ne => k dx n ne⟩⟩
abbrev s_Torn_told : Stmt := inClass (top 5) 1
theorem sc_Torn_told : FnScope ["self"] ["self"] (defScope s_Torn_told) := ⟨rfl, rfl, rfl, by decide +kernel, rfl, by decide +kernel, by decide +kernel⟩
theorem told_Torn (F : Fun K "told" "Torn.told" s_Torn_told f fd) : FnOk P w K mg base CX0 1 f fd ["self"] (spTold "refused torn") := by
  refine F.ok sc_Torn_told (fun vs H Q E h => ?_) (fun cdv A outer st H vs Q E hr h => ?_)
  · obtain ⟨a, rfl, _⟩ := h
    rfl
  · obtain ⟨a, rfl, k⟩ := h
    exact ⟨_, pss_one (ps_ret pe_str), k⟩
abbrev s_Torn___init__ : Stmt := inClass (top 5) 0
theorem sc_Torn___init__ : FnScope ["self", "word", "place"] ["self", "word", "place"] (defScope s_Torn___init__) := ⟨rfl, rfl, rfl, by decide +kernel, rfl, by decide +kernel, by decide +kernel⟩
theorem ini_Torn {C : Addr} (F : Fun K "__init__" "Torn.__init__" s_Torn___init__ f fd) (O : OexC K C) (nw : PySem.W.findIn K (.ref C) "word" = some none) (np : PySem.W.findIn K (.ref C) "place" = some none) : FnOk P w K mg base CX0 1 f fd ["self", "word", "place"] (spInit2 "word" "place" C) := by
  refine F.ok sc_Torn___init__ (fun vs H Q E h => ?_) (fun cdv A outer st H vs Q E hr h => ?_)
  · obtain ⟨a, v, u, rfl, _⟩ := h
    rfl
  · obtain ⟨a, v, u, rfl, ha, k⟩ := h
    refine ⟨_, pss_cons (ps_ost (pv 0) (pv 1)) (pss_one (ps_ost (pv 0) (pv 2))), ?_⟩
    refine ⟨_, rfl, _, rfl, a, C, rfl, O, nw, .inl ⟨ha, fun dx n ne => ?_⟩⟩
    exact ⟨_, rfl, _, rfl, a, C, rfl, O, np, .inr ⟨dx, _, upd_same, by rw [upd_ne ne, upd_same], by show 1 ≤ 900; decide, k dx n ne⟩⟩
abbrev s_NoPart_told : Stmt := inClass (top 6) 1
theorem sc_NoPart_told : FnScope ["self"] ["self"] (defScope s_NoPart_told) := ⟨rfl, rfl, rfl, by decide +kernel, rfl, by decide +kernel, by decide +kernel⟩
theorem told_NoPart (F : Fun K "told" "NoPart.told" s_NoPart_told f fd) : FnOk P w K mg base CX0 1 f fd ["self"] (spTold "refused nopart") := by
  refine F.ok sc_NoPart_told (fun vs H Q E h => ?_) (fun cdv A outer st H vs Q E hr h => ?_)
  · obtain ⟨a, rfl, _⟩ := h
    rfl
  · obtain ⟨a, rfl, k⟩ := h
    exact ⟨_, pss_one (ps_ret pe_str), k⟩
abbrev s_NoPart___init__ : Stmt := inClass (top 6) 0
theorem sc_NoPart___init__ : FnScope ["self", "length"] ["self", "length"] (defScope s_NoPart___init__) := ⟨rfl, rfl, rfl, by decide +kernel, rfl, by decide +kernel, by decide +kernel⟩
theorem ini_NoPart {C : Addr} (F : Fun K "__init__" "NoPart.__init__" s_NoPart___init__ f fd) (O : OexC K C) (nf : PySem.W.findIn K (.ref C) "length" = some none) : FnOk P w K mg base CX0 1 f fd ["self", "length"] (spInit1 "length" C) := by
  refine F.ok sc_NoPart___init__ (fun vs H Q E h => ?_) (fun cdv A outer st H vs Q E hr h => ?_)
  · obtain ⟨a, v, rfl, _⟩ := h
    rfl
  · obtain ⟨a, v, rfl, ha, k⟩ := h
    refine ⟨_, pss_one (ps_ost (pv 0) (pv 1)), ?_⟩
    exact ⟨_, rfl, _, rfl, a, C, rfl, O, nf, .inl ⟨ha, fun dx n ne => k dx n ne⟩⟩
abbrev s_NoPlace_told : Stmt := inClass (top 7) 1
theorem sc_NoPlace_told : FnScope ["self"] ["self"] (defScope s_NoPlace_told) := ⟨rfl, rfl, rfl, by decide +kernel, rfl, by decide +kernel, by decide +kernel⟩
theorem told_NoPlace (F : Fun K "told" "NoPlace.told" s_NoPlace_told f fd) : FnOk P w K mg base CX0 1 f fd ["self"] (spTold "refused noplace") := by
  refine F.ok sc_NoPlace_told (fun vs H Q E h => ?_) (fun cdv A outer st H vs Q E hr h => ?_)
  · obtain ⟨a, rfl, _⟩ := h
    rfl
  · obtain ⟨a, rfl, k⟩ := h
    exact ⟨_, pss_one (ps_ret pe_str), k⟩
abbrev s_NoPlace___init__ : Stmt := inClass (top 7) 0
theorem sc_NoPlace___init__ : FnScope ["self", "place"] ["self", "place"] (defScope s_NoPlace___init__) := ⟨rfl, rfl, rfl, by decide +kernel, rfl, by decide +kernel, by decide +kernel⟩
theorem ini_NoPlace {C : Addr} (F : Fun K "__init__" "NoPlace.__init__" s_NoPlace___init__ f fd) (O : OexC K C) (nf : PySem.W.findIn K (.ref C) "place" = some none) : FnOk P w K mg base CX0 1 f fd ["self", "place"] (spInit1 "place" C) := by
  refine F.ok sc_NoPlace___init__ (fun vs H Q E h => ?_) (fun cdv A outer st H vs Q E hr h => ?_)
  · obtain ⟨a, v, rfl, _⟩ := h
    rfl
  · obtain ⟨a, v, rfl, ha, k⟩ := h
    refine ⟨_, pss_one (ps_ost (pv 0) (pv 1)), ?_⟩
    exact ⟨_, rfl, _, rfl, a, C, rfl, O, nf, .inl ⟨ha, fun dx n ne => k dx n ne⟩⟩
abbrev s_NoObject_told : Stmt := inClass (top 8) 1
theorem sc_NoObject_told : FnScope ["self"] ["self"] (defScope s_NoObject_told) := ⟨rfl, rfl, rfl, by decide +kernel, rfl, by decide +kernel, by decide +kernel⟩
theorem told_NoObject (F : Fun K "told" "NoObject.told" s_NoObject_told f fd) : FnOk P w K mg base CX0 1 f fd ["self"] (spTold "refused noobject") := by
  refine F.ok sc_NoObject_told (fun vs H Q E h => ?_) (fun cdv A outer st H vs Q E hr h => ?_)
  · obtain ⟨a, rfl, _⟩ := h
    rfl
  · obtain ⟨a, rfl, k⟩ := h
    exact ⟨_, pss_one (ps_ret pe_str), k⟩
abbrev s_NoObject___init__ : Stmt := inClass (top 8) 0
theorem sc_NoObject___init__ : FnScope ["self", "number"] ["self", "number"] (defScope s_NoObject___init__) := ⟨rfl, rfl, rfl, by decide +kernel, rfl, by decide +kernel, by decide +kernel⟩
theorem ini_NoObject {C : Addr} (F : Fun K "__init__" "NoObject.__init__" s_NoObject___init__ f fd) (O : OexC K C) (nf : PySem.W.findIn K (.ref C) "number" = some none) : FnOk P w K mg base CX0 1 f fd ["self", "number"] (spInit1 "number" C) := by
  refine F.ok sc_NoObject___init__ (fun vs H Q E h => ?_) (fun cdv A outer st H vs Q E hr h => ?_)
  · obtain ⟨a, v, rfl, _⟩ := h
    rfl
  · obtain ⟨a, v, rfl, ha, k⟩ := h
    refine ⟨_, pss_one (ps_ost (pv 0) (pv 1)), ?_⟩
    exact ⟨_, rfl, _, rfl, a, C, rfl, O, nf, .inl ⟨ha, fun dx n ne => k dx n ne⟩⟩
abbrev s_NoFit_told : Stmt := inClass (top 9) 1
theorem sc_NoFit_told : FnScope ["self"] ["self"] (defScope s_NoFit_told) := ⟨rfl, rfl, rfl, by decide +kernel, rfl, by decide +kernel, by decide +kernel⟩
theorem told_NoFit (F : Fun K "told" "NoFit.told" s_NoFit_told f fd) : FnOk P w K mg base CX0 1 f fd ["self"] (spTold "refused nofit") := by
  refine F.ok sc_NoFit_told (fun vs H Q E h => ?_) (fun cdv A outer st H vs Q E hr h => ?_)
  · obtain ⟨a, rfl, _⟩ := h
    rfl
  · obtain ⟨a, rfl, k⟩ := h
    exact ⟨_, pss_one (ps_ret pe_str), k⟩
abbrev s_NoFit___init__ : Stmt := inClass (top 9) 0
theorem sc_NoFit___init__ : FnScope ["self", "length"] ["self", "length"] (defScope s_NoFit___init__) := ⟨rfl, rfl, rfl, by decide +kernel, rfl, by decide +kernel, by decide +kernel⟩
theorem ini_NoFit {C : Addr} (F : Fun K "__init__" "NoFit.__init__" s_NoFit___init__ f fd) (O : OexC K C) (nf : PySem.W.findIn K (.ref C) "length" = some none) : FnOk P w K mg base CX0 1 f fd ["self", "length"] (spInit1 "length" C) := by
  refine F.ok sc_NoFit___init__ (fun vs H Q E h => ?_) (fun cdv A outer st H vs Q E hr h => ?_)
  · obtain ⟨a, v, rfl, _⟩ := h
    rfl
  · obtain ⟨a, v, rfl, ha, k⟩ := h
    refine ⟨_, pss_one (ps_ost (pv 0) (pv 1)), ?_⟩
    exact ⟨_, rfl, _, rfl, a, C, rfl, O, nf, .inl ⟨ha, fun dx n ne => k dx n ne⟩⟩
abbrev s_BadCount_told : Stmt := inClass (top 10) 1
theorem sc_BadCount_told : FnScope ["self"] ["self"] (defScope s_BadCount_told) := ⟨rfl, rfl, rfl, by decide +kernel, rfl, by decide +kernel, by decide +kernel⟩
theorem told_BadCount (F : Fun K "told" "BadCount.told" s_BadCount_told f fd) : FnOk P w K mg base CX0 1 f fd ["self"] (spTold "refused badcount") := by
  refine F.ok sc_BadCount_told (fun vs H Q E h => ?_) (fun cdv A outer st H vs Q E hr h => ?_)
  · obtain ⟨a, rfl, _⟩ := h
    rfl
  · obtain ⟨a, rfl, k⟩ := h
    exact ⟨_, pss_one (ps_ret pe_str), k⟩
abbrev s_BadCount___init__ : Stmt := inClass (top 10) 0
theorem sc_BadCount___init__ : FnScope ["self", "what", "count"] ["self", "what", "count"] (defScope s_BadCount___init__) := ⟨rfl, rfl, rfl, by decide +kernel, rfl, by decide +kernel, by decide +kernel⟩
theorem ini_BadCount {C : Addr} (F : Fun K "__init__" "BadCount.__init__" s_BadCount___init__ f fd) (O : OexC K C) (nw : PySem.W.findIn K (.ref C) "what" = some none) (np : PySem.W.findIn K (.ref C) "count" = some none) : FnOk P w K mg base CX0 1 f fd ["self", "what", "count"] (spInit2 "what" "count" C) := by
  refine F.ok sc_BadCount___init__ (fun vs H Q E h => ?_) (fun cdv A outer st H vs Q E hr h => ?_)
  · obtain ⟨a, v, u, rfl, _⟩ := h
    rfl
  · obtain ⟨a, v, u, rfl, ha, k⟩ := h
    refine ⟨_, pss_cons (ps_ost (pv 0) (pv 1)) (pss_one (ps_ost (pv 0) (pv 2))), ?_⟩
    refine ⟨_, rfl, _, rfl, a, C, rfl, O, nw, .inl ⟨ha, fun dx n ne => ?_⟩⟩
    exact ⟨_, rfl, _, rfl, a, C, rfl, O, np, .inr ⟨dx, _, upd_same, by rw [upd_ne ne, upd_same], by show 1 ≤ 900; decide, k dx n ne⟩⟩
abbrev s_NoName_told : Stmt := inClass (top 11) 1
theorem sc_NoName_told : FnScope ["self"] ["self"] (defScope s_NoName_told) := ⟨rfl, rfl, rfl, by decide +kernel, rfl, by decide +kernel, by decide +kernel⟩
theorem told_NoName (F : Fun K "told" "NoName.told" s_NoName_told f fd) : FnOk P w K mg base CX0 1 f fd ["self"] (spTold "refused noname") := by
  refine F.ok sc_NoName_told (fun vs H Q E h => ?_) (fun cdv A outer st H vs Q E hr h => ?_)
  · obtain ⟨a, rfl, _⟩ := h
    rfl
  · obtain ⟨a, rfl, k⟩ := h
    exact ⟨_, pss_one (ps_ret pe_str), k⟩
abbrev s_NoName___init__ : Stmt := inClass (top 11) 0
theorem sc_NoName___init__ : FnScope ["self", "name"] ["self", "name"] (defScope s_NoName___init__) := ⟨rfl, rfl, rfl, by decide +kernel, rfl, by decide +kernel, by decide +kernel⟩
theorem ini_NoName {C : Addr} (F : Fun K "__init__" "NoName.__init__" s_NoName___init__ f fd) (O : OexC K C) (nf : PySem.W.findIn K (.ref C) "name" = some none) : FnOk P w K mg base CX0 1 f fd ["self", "name"] (spInit1 "name" C) := by
  refine F.ok sc_NoName___init__ (fun vs H Q E h => ?_) (fun cdv A outer st H vs Q E hr h => ?_)
  · obtain ⟨a, v, rfl, _⟩ := h
    rfl
  · obtain ⟨a, v, rfl, ha, k⟩ := h
    refine ⟨_, pss_one (ps_ost (pv 0) (pv 1)), ?_⟩
    exact ⟨_, rfl, _, rfl, a, C, rfl, O, nf, .inl ⟨ha, fun dx n ne => k dx n ne⟩⟩
abbrev s_NoFile_told : Stmt := inClass (top 12) 1
theorem sc_NoFile_told : FnScope ["self"] ["self"] (defScope s_NoFile_told) := ⟨rfl, rfl, rfl, by decide +kernel, rfl, by decide +kernel, by decide +kernel⟩
theorem told_NoFile (F : Fun K "told" "NoFile.told" s_NoFile_told f fd) : FnOk P w K mg base CX0 1 f fd ["self"] (spTold "refused nofile") := by
  refine F.ok sc_NoFile_told (fun vs H Q E h => ?_) (fun cdv A outer st H vs Q E hr h => ?_)
  · obtain ⟨a, rfl, _⟩ := h
    rfl
  · obtain ⟨a, rfl, k⟩ := h
    exact ⟨_, pss_one (ps_ret pe_str), k⟩
abbrev s_NoFile___init__ : Stmt := inClass (top 12) 0
theorem sc_NoFile___init__ : FnScope ["self", "name"] ["self", "name"] (defScope s_NoFile___init__) := ⟨rfl, rfl, rfl, by decide +kernel, rfl, by decide +kernel, by decide +kernel⟩
theorem ini_NoFile {C : Addr} (F : Fun K "__init__" "NoFile.__init__" s_NoFile___init__ f fd) (O : OexC K C) (nf : PySem.W.findIn K (.ref C) "name" = some none) : FnOk P w K mg base CX0 1 f fd ["self", "name"] (spInit1 "name" C) := by
  refine F.ok sc_NoFile___init__ (fun vs H Q E h => ?_) (fun cdv A outer st H vs Q E hr h => ?_)
  · obtain ⟨a, v, rfl, _⟩ := h
    rfl
  · obtain ⟨a, v, rfl, ha, k⟩ := h
    refine ⟨_, pss_one (ps_ost (pv 0) (pv 1)), ?_⟩
    exact ⟨_, rfl, _, rfl, a, C, rfl, O, nf, .inl ⟨ha, fun dx n ne => k dx n ne⟩⟩
abbrev s_NoBack_told : Stmt := inClass (top 13) 0
theorem sc_NoBack_told : FnScope ["self"] ["self"] (defScope s_NoBack_told) := ⟨rfl, rfl, rfl, by decide +kernel, rfl, by decide +kernel, by decide +kernel⟩
theorem told_NoBack (F : Fun K "told" "NoBack.told" s_NoBack_told f fd) : FnOk P w K mg base CX0 1 f fd ["self"] (spTold "refused noback") := by
  refine F.ok sc_NoBack_told (fun vs H Q E h => ?_) (fun cdv A outer st H vs Q E hr h => ?_)
  · obtain ⟨a, rfl, _⟩ := h
    rfl
  · obtain ⟨a, rfl, k⟩ := h
    exact ⟨_, pss_one (ps_ret pe_str), k⟩
abbrev s_BadText_told : Stmt := inClass (top 14) 1
theorem sc_BadText_told : FnScope ["self"] ["self"] (defScope s_BadText_told) := ⟨rfl, rfl, rfl, by decide +kernel, rfl, by decide +kernel, by decide +kernel⟩
theorem told_BadText (F : Fun K "told" "BadText.told" s_BadText_told f fd) : FnOk P w K mg base CX0 1 f fd ["self"] (spTold "refused badtext") := by
  refine F.ok sc_BadText_told (fun vs H Q E h => ?_) (fun cdv A outer st H vs Q E hr h => ?_)
  · obtain ⟨a, rfl, _⟩ := h
    rfl
  · obtain ⟨a, rfl, k⟩ := h
    exact ⟨_, pss_one (ps_ret pe_str), k⟩
abbrev s_BadText___init__ : Stmt := inClass (top 14) 0
theorem sc_BadText___init__ : FnScope ["self", "place"] ["self", "place"] (defScope s_BadText___init__) := ⟨rfl, rfl, rfl, by decide +kernel, rfl, by decide +kernel, by decide +kernel⟩
theorem ini_BadText {C : Addr} (F : Fun K "__init__" "BadText.__init__" s_BadText___init__ f fd) (O : OexC K C) (nf : PySem.W.findIn K (.ref C) "place" = some none) : FnOk P w K mg base CX0 1 f fd ["self", "place"] (spInit1 "place" C) := by
  refine F.ok sc_BadText___init__ (fun vs H Q E h => ?_) (fun cdv A outer st H vs Q E hr h => ?_)
  · obtain ⟨a, v, rfl, _⟩ := h
    rfl
  · obtain ⟨a, v, rfl, ha, k⟩ := h
    refine ⟨_, pss_one (ps_ost (pv 0) (pv 1)), ?_⟩
    exact ⟨_, rfl, _, rfl, a, C, rfl, O, nf, .inl ⟨ha, fun dx n ne => k dx n ne⟩⟩
end
end Q05


/-! rows of errors -/
namespace Q05
open PySem PySem.Spec PyProof.Rows L2 QT
/-- the two last, the other way round -/
def sw {α : Type} : List α → List α
  | [x, y] => [y, x]
  | l => l
theorem vals_sw {zs : List V} {ws : List Value} (h : Vals zs ws) : Vals (sw zs) (sw ws) := by
  cases h with
  | nil => exact .nil
  | cons r h =>
    cases h with
    | nil => exact .cons r .nil
    | cons r2 h =>
      cases h with
      | nil => exact .cons r2 (.cons r .nil)
      | cons r3 h => exact .cons r (.cons r2 (.cons r3 h))
def nmE : Fin 13 → Str
  | ⟨0, _⟩ => "NoValue"
  | ⟨1, _⟩ => "Large"
  | ⟨2, _⟩ => "NoBytes"
  | ⟨3, _⟩ => "Torn"
  | ⟨4, _⟩ => "NoPart"
  | ⟨5, _⟩ => "NoPlace"
  | ⟨6, _⟩ => "NoObject"
  | ⟨7, _⟩ => "NoFit"
  | ⟨8, _⟩ => "BadCount"
  | ⟨9, _⟩ => "NoName"
  | ⟨10, _⟩ => "NoFile"
  | ⟨11, _⟩ => "NoBack"
  | ⟨12, _⟩ => "BadText"
def clE : Fin 13 → Str
  | ⟨0, _⟩ => "novalue"
  | ⟨1, _⟩ => "large"
  | ⟨2, _⟩ => "nobytes"
  | ⟨3, _⟩ => "torn"
  | ⟨4, _⟩ => "nopart"
  | ⟨5, _⟩ => "noplace"
  | ⟨6, _⟩ => "noobject"
  | ⟨7, _⟩ => "nofit"
  | ⟨8, _⟩ => "badcount"
  | ⟨9, _⟩ => "noname"
  | ⟨10, _⟩ => "nofile"
  | ⟨11, _⟩ => "noback"
  | ⟨12, _⟩ => "badtext"
def tdE : Fin 13 → Str
  | ⟨0, _⟩ => "refused novalue"
  | ⟨1, _⟩ => "refused large"
  | ⟨2, _⟩ => "refused nobytes"
  | ⟨3, _⟩ => "refused torn"
  | ⟨4, _⟩ => "refused nopart"
  | ⟨5, _⟩ => "refused noplace"
  | ⟨6, _⟩ => "refused noobject"
  | ⟨7, _⟩ => "refused nofit"
  | ⟨8, _⟩ => "refused badcount"
  | ⟨9, _⟩ => "refused noname"
  | ⟨10, _⟩ => "refused nofile"
  | ⟨11, _⟩ => "refused noback"
  | ⟨12, _⟩ => "refused badtext"
def dueE (way wd m : V) : Fin 13 → List V
  | ⟨0, _⟩ => [way]
  | ⟨1, _⟩ => [wd]
  | ⟨2, _⟩ => [m]
  | ⟨3, _⟩ => [wd, m]
  | ⟨4, _⟩ => [m]
  | ⟨5, _⟩ => [m]
  | ⟨6, _⟩ => [m]
  | ⟨7, _⟩ => [m]
  | ⟨8, _⟩ => [wd, m]
  | ⟨9, _⟩ => [wd]
  | ⟨10, _⟩ => [wd]
  | ⟨11, _⟩ => []
  | ⟨12, _⟩ => [m]
def fdE (way wd m : V) : Fin 13 → List (Str × V)
  | ⟨0, _⟩ => [("path", way)]
  | ⟨1, _⟩ => [("what", wd)]
  | ⟨2, _⟩ => [("place", m)]
  | ⟨3, _⟩ => [("place", m), ("word", wd)]
  | ⟨4, _⟩ => [("length", m)]
  | ⟨5, _⟩ => [("place", m)]
  | ⟨6, _⟩ => [("number", m)]
  | ⟨7, _⟩ => [("length", m)]
  | ⟨8, _⟩ => [("count", m), ("what", wd)]
  | ⟨9, _⟩ => [("name", wd)]
  | ⟨10, _⟩ => [("name", wd)]
  | ⟨11, _⟩ => []
  | ⟨12, _⟩ => [("place", m)]
/-- a class with its __init__ -/
structure Ini (P : Program) (w : World) (K : PySem.W.Frag) (mg : Str → Option Value) (base : Heap) (x : Str) (C : Addr) (ps : List Str) (sp : Sp) (fI : Addr) (fd : FuncData) : Prop where
  oex : OexC K C
  ini : PySem.W.findIn K (.ref C) "__init__" = some (some (.ref fI))
  tI : PySem.W.typeIn K (.ref fI) = some (.type "function")
  init : FnOk P w K mg base CX0 1 fI fd ps sp
  bi : Binds K fd ps []
  mgC : mg x = some (.ref C)
  kb1 : ∀ k, ps = [("self" : Str), k] → KwB fd ps [k] id
  kb2 : ∀ k j, ps = [("self" : Str), k, j] → KwB fd ps [j, k] sw
abbrev IniE (P : Program) (w : World) (K : PySem.W.Frag) (mg : Str → Option Value) (base : Heap) (x : Str) (C : Addr) (ps : List Str) (sp : Sp) : Prop := ∃ fI fd, Ini P w K mg base x C ps sp fI fd
/-- what the rows of errors rest on -/
structure Cls (P : Program) (w : World) (K : PySem.W.Frag) (mg : Str → Option Value) (base : Heap) (cs : Fin 13 → Addr) : Prop where
  i0 : IniE P w K mg base "NoValue" (cs 0) ["self", "path"] (spInitP K "path" (cs 0))
  i1 : IniE P w K mg base "Large" (cs 1) ["self", "what"] (spInit1 "what" (cs 1))
  i2 : IniE P w K mg base "NoBytes" (cs 2) ["self", "place"] (spInit1 "place" (cs 2))
  i3 : IniE P w K mg base "Torn" (cs 3) ["self", "word", "place"] (spInit2 "word" "place" (cs 3))
  i4 : IniE P w K mg base "NoPart" (cs 4) ["self", "length"] (spInit1 "length" (cs 4))
  i5 : IniE P w K mg base "NoPlace" (cs 5) ["self", "place"] (spInit1 "place" (cs 5))
  i6 : IniE P w K mg base "NoObject" (cs 6) ["self", "number"] (spInit1 "number" (cs 6))
  i7 : IniE P w K mg base "NoFit" (cs 7) ["self", "length"] (spInit1 "length" (cs 7))
  i8 : IniE P w K mg base "BadCount" (cs 8) ["self", "what", "count"] (spInit2 "what" "count" (cs 8))
  i9 : IniE P w K mg base "NoName" (cs 9) ["self", "name"] (spInit1 "name" (cs 9))
  i10 : IniE P w K mg base "NoFile" (cs 10) ["self", "name"] (spInit1 "name" (cs 10))
  i12 : IniE P w K mg base "BadText" (cs 12) ["self", "place"] (spInit1 "place" (cs 12))
  back : PySem.W.excIn K (cs 11) [.type "ValueError", .type "Exception", .type "BaseException", .type "object"] "ValueError.__new__" = true
  mgB : mg "NoBack" = some (.ref (cs 11))
  keB : PySem.W.keepIn K (.ref (cs 11)) = true
/-- a row: the error, its name, what it is due -/
def RowU (H : Hp) (v : V) (e u C : Addr) (cl : Str) (fs : List (Str × V)) (du : List V) : Prop := ∃ t : Addr, v = .ref t ∧ H t = some (.tup [.ref e, .str cl, .ref u]) ∧ H u = some (.lst du) ∧ ErrAt H e C fs
theorem errAt_same {H H' : Hp} {e C : Addr} {fs : List (Str × V)} (h : ErrAt H e C fs) (s : Same H H') : ErrAt H' e C fs := by
  rcases h with ⟨d, e1, e2⟩ | ⟨e1, e2⟩
  · exact .inl ⟨d, s _ _ e1, s _ _ e2⟩
  · exact .inr ⟨s _ _ e1, e2⟩
theorem RowU.same {H H' : Hp} {v : V} {e u C : Addr} {cl : Str} {fs : List (Str × V)} {du : List V} (h : RowU H v e u C cl fs du) (s : Same H H') : RowU H' v e u C cl fs du := by
  obtain ⟨t, a, b, c, d⟩ := h
  exact ⟨t, a, s _ _ b, s _ _ c, errAt_same d s⟩
theorem sqT_same {K : PySem.W.Frag} {H H' : Hp} {a : Addr} {xs : List V} (h : SqT K H a xs) (e : Same H H') : SqT K H' a xs := by
  rcases h with (h | ⟨o, h⟩) | h
  · exact .inl (.inl (e _ _ h))
  · exact .inl (.inr ⟨o, e _ _ h⟩)
  · exact .inr h
def RowI (cs : Fin 13 → Addr) (way wd m : V) (H : Hp) (v : V) (e u : Addr) (i : Fin 13) : Prop := RowU H v e u (cs i) (clE i) (fdE way wd m i) (dueE way wd m i)
/-- the rows of a list; none of their own lists stands at q -/
def Rows (cs : Fin 13 → Addr) (way wd m : V) (H : Hp) (q : Option Addr) (L : List V) : Prop := ∀ v ∈ L, ∃ (i : Fin 13) (e u : Addr), (∀ a, q = some a → u ≠ a) ∧ RowI cs way wd m H v e u i
section
variable {cs : Fin 13 → Addr} {way wd m : V} {H H' : Hp} {L L2 : List V} {o : Option Addr} {q : Addr}
theorem Rows.same (h : Rows cs way wd m H o L) (s : Same H H') : Rows cs way wd m H' o L := fun v hv => by
  obtain ⟨i, e, u, n, r⟩ := h v hv
  exact ⟨i, e, u, n, RowU.same r s⟩
theorem Rows.drop (h : Rows cs way wd m H o L) : Rows cs way wd m H none L := fun v hv => by
  obtain ⟨i, e, u, n, r⟩ := h v hv
  exact ⟨i, e, u, (fun a z => nomatch z), r⟩
theorem Rows.app (h : Rows cs way wd m H o L) (h2 : Rows cs way wd m H o L2) : Rows cs way wd m H o (L ++ L2) := fun v hv => by
  rcases List.mem_append.mp hv with z | z
  · exact h v z
  · exact h2 v z
theorem Rows.one {v : V} {e u : Addr} {i : Fin 13} (r : RowI cs way wd m H v e u i) (n : ∀ a, o = some a → u ≠ a) : Rows cs way wd m H o [v] := fun x hx => by
  rw [List.mem_singleton.mp hx]
  exact ⟨i, e, u, n, r⟩
theorem Rows.new {b : HO} (h : Rows cs way wd m H none L) (n : H q = none) : Rows cs way wd m (upd H q b) (some q) L := fun v hv => by
  obtain ⟨i, e, u, _, r⟩ := h v hv
  obtain ⟨t, r1, r2, r3, r4⟩ := id r
  refine ⟨i, e, u, fun a z => ?_, RowU.same r (same_new n)⟩
  cases z
  exact ne_of_none r3 n
theorem Rows.upd {l l' : List V} (h : Rows cs way wd m H (some q) L) (n : H q = some (.lst l)) : Rows cs way wd m (upd H q (.lst l')) (some q) L := fun v hv => by
  obtain ⟨i, e, u, k, t, r1, r2, r3, r4⟩ := h v hv
  have nt : t ≠ q := fun z => by
    rw [z, n] at r2
    cases r2
  refine ⟨i, e, u, k, t, r1, by rw [upd_ne nt]; exact r2, by rw [upd_ne (k q rfl)]; exact r3, ?_⟩
  have off : ∀ {x : Addr} {b : HO}, (∀ xs, b ≠ .lst xs) → H x = some b → L2.upd H q (.lst l') x = some b := fun {x b} nb hx => by
    have nx : x ≠ q := fun z => by
      rw [z, n] at hx
      exact nb l (Option.some.inj hx).symm
    rw [upd_ne nx]
    exact hx
  rcases r4 with ⟨d, e1, e2⟩ | ⟨e1, e2⟩
  · exact .inl ⟨d, off (fun xs z => by unfold exo at z; cases z) e1, off (fun xs z => by unfold exd at z; cases z) e2⟩
  · exact .inr ⟨off (fun xs z => by unfold ExO at z; cases z) e1, e2⟩
end
/-- an error is made -/
def MK (σ : L2.St) (H : Hp) (C : Addr) (fs : List (Str × V)) (te : TE) : Prop := ∀ (H1 : Hp) (Q : VK), Same H H1 → (∀ (H2 : Hp) (a : Addr), Same H1 H2 → ErrAt H2 a C fs → Q (.ref a) H2) → te σ H1 Q
section
variable {σ : L2.St} {H : Hp} {C : Addr} {fld f1 f2 : Str} {i j : Nat} {v u : V}
theorem made1 {H1 : Hp} {Q : VK} (k : ∀ (H2 : Hp) (a : Addr), Same H1 H2 → ErrAt H2 a C [(fld, v)] → Q (.ref a) H2) (a : Addr) (na : H1 a = none) :
    spInit1 fld C [.ref a, v] (upd H1 a (exo a C none)) (fun x H2 => x = .non ∧ Q (.ref a) H2) E0 := by
  refine ⟨a, v, rfl, upd_same, fun dx nd ne => ⟨rfl, k _ a (fun b o e => ?_) (.inl ⟨dx, upd_same, ?_⟩)⟩⟩
  · have n1 := ne_of_none e na
    rw [upd_ne n1]
    by_cases z : b = dx
    · rw [upd_ne ne] at nd
      rw [z, nd] at e
      cases e
    · rw [upd_ne z, upd_ne n1]
      exact e
  · rw [upd_ne ne, upd_same]
theorem made2 {H1 : Hp} {Q : VK} (k : ∀ (H2 : Hp) (a : Addr), Same H1 H2 → ErrAt H2 a C [(f2, u), (f1, v)] → Q (.ref a) H2) (a : Addr) (na : H1 a = none) :
    spInit2 f1 f2 C [.ref a, v, u] (upd H1 a (exo a C none)) (fun x H2 => x = .non ∧ Q (.ref a) H2) E0 := by
  refine ⟨a, v, u, rfl, upd_same, fun dx nd ne => ⟨rfl, k _ a (fun b o e => ?_) (.inl ⟨dx, ?_, upd_same⟩)⟩⟩
  · have n1 := ne_of_none e na
    by_cases z : b = dx
    · rw [upd_ne ne] at nd
      rw [z, nd] at e
      cases e
    · rw [upd_ne z, upd_ne n1, upd_ne z, upd_ne n1]
      exact e
  · rw [upd_ne ne.symm, upd_same]
theorem madeP {K : PySem.W.Frag} {p : Addr} {xs : List V} {H1 : Hp} {Q : VK} (hp : SqT K H1 p xs) (k : ∀ (H2 : Hp) (a : Addr), Same H1 H2 → ErrAt H2 a C [(fld, .ref p)] → Q (.ref a) H2) (a : Addr) (na : H1 a = none) :
    spInitP K fld C [.ref a, .ref p] (upd H1 a (exo a C none)) (fun x H2 => x = .non ∧ Q (.ref a) H2) E0 := by
  obtain ⟨a', v', e1, e2, e3⟩ := made1 k a na
  cases e1
  exact ⟨a, p, xs, rfl, sqT_same hp (same_new na), e2, e3⟩
theorem mk1 (e : σ[j]? = some (some v)) : MK σ H C [(fld, v)] (tOex C (spInit1 fld C) (tCons (tVar j) tNil)) := fun H1 Q s k => ⟨v, e, by show 1 ≤ 1000; decide, fun a na => made1 k a na⟩
theorem mk1K (e : σ[j]? = some (some v)) : MK σ H C [(fld, v)] (tOexK C 1 (spInit1 fld C) id (tCons (tVar j) tNil)) := fun H1 Q s k => ⟨v, e, rfl, fun a na => made1 k a na⟩
theorem mkP {K : PySem.W.Frag} {p : Addr} {xs : List V} (hp : SqT K H p xs) (e : σ[j]? = some (some (.ref p))) : MK σ H C [(fld, .ref p)] (tOex C (spInitP K fld C) (tCons (tVar j) tNil)) := fun H1 Q s k => ⟨_, e, by show 1 ≤ 1000; decide, fun a na => madeP (sqT_same hp s) k a na⟩
theorem mkPK {K : PySem.W.Frag} {p : Addr} {xs : List V} (hp : SqT K H p xs) (e : σ[j]? = some (some (.ref p))) : MK σ H C [(fld, .ref p)] (tOexK C 1 (spInitP K fld C) id (tCons (tVar j) tNil)) := fun H1 Q s k => ⟨_, e, rfl, fun a na => madeP (sqT_same hp s) k a na⟩
theorem mk2 (e1 : σ[i]? = some (some v)) (e2 : σ[j]? = some (some u)) : MK σ H C [(f2, u), (f1, v)] (tOex C (spInit2 f1 f2 C) (tCons (tVar i) (tCons (tVar j) tNil))) := fun H1 Q s k => ⟨v, e1, u, e2, by show 2 ≤ 1000; decide, fun a na => made2 k a na⟩
theorem mk2K (e1 : σ[i]? = some (some v)) (e2 : σ[j]? = some (some u)) : MK σ H C [(f2, u), (f1, v)] (tOexK C 2 (spInit2 f1 f2 C) sw (tCons (tVar j) (tCons (tVar i) tNil))) := fun H1 Q s k => ⟨u, e2, v, e1, rfl, fun a na => made2 k a na⟩
theorem mk0 : MK σ H C [] (fun σ H Q => ∀ a, H a = none → Q (.ref a) (upd H a (ExO (.ref C) a))) := fun H1 Q s k a na => k _ a (same_new na) (.inr ⟨upd_same, rfl⟩)
/-- a row is written -/
def RR (cs : Fin 13 → Addr) (way wd m : V) (σ : L2.St) (H : Hp) (i : Fin 13) (te : TE) : Prop := ∀ (H1 : Hp) (Q : VK), Same H H1 → (∀ (H2 : Hp) (v : V) (e u : Addr), Same H1 H2 → H1 u = none → RowI cs way wd m H2 v e u i → Q v H2) → te σ H1 Q
theorem row_of {cs : Fin 13 → Addr} {way wd m : V} {i : Fin 13} {cl : Str} {te : TE} {ta : TA} (mk : MK σ H (cs i) (fdE way wd m i) te) (hc : clE i = cl) (l : ∀ (H1 : Hp) (QA : List V → Hp → Prop), QA (dueE way wd m i) H1 → ta σ H1 QA) (n : (dueE way wd m i).length ≤ 2) :
    RR cs way wd m σ H i (tTup (tCons te (tCons (tC (.str cl)) (tCons (tLst ta) tNil)))) := by
  intro H1 Q s k
  refine mk H1 _ s fun H2 a s2 ea => ?_
  refine l H2 _ ⟨sz (by omega), fun u nu => ⟨sz (by simp), fun t nt => ?_⟩⟩
  have s3 := same_new (o := .lst (dueE way wd m i)) nu
  have s4 := same_new (o := .tup [.ref a, .str cl, .ref u]) nt
  refine k _ _ a u ((s2.trans s3).trans s4) (s2.free nu) ⟨t, rfl, ?_, s4 _ _ upd_same, errAt_same ea (s3.trans s4)⟩
  rw [hc, upd_same]
/-- a list of two rows -/
theorem lit2 {cs : Fin 13 → Addr} {way wd m : V} {i j : Fin 13} {ta tb : TE} {H1 : Hp} {Q : VK} (A : RR cs way wd m σ H i ta) (B : RR cs way wd m σ H j tb) (s : Same H H1)
    (k : ∀ (H2 : Hp) (q : Addr) (v u : V), H1 q = none → Same H1 H2 → H2 q = some (.lst [v, u]) → Rows cs way wd m H2 (some q) [v, u] → Q (.ref q) H2) : tLst (tCons ta (tCons tb tNil)) σ H1 Q := by
  refine A H1 _ s fun H2 v e u s2 nu r => ?_
  refine B H2 _ (s.trans s2) fun H3 v' e' u' s3 nu' r' => ?_
  refine ⟨sz (by simp), fun q nq => ?_⟩
  have R : Rows cs way wd m H3 none [v, v'] := Rows.app (L := [v]) (L2 := [v']) (Rows.one (RowU.same r s3) (fun a z => nomatch z)) (Rows.one r' (fun a z => nomatch z))
  exact k _ q v v' ((s2.trans s3).free nq) ((s2.trans s3).trans (same_new nq)) upd_same (R.new nq)
end
/-- the list so far -/
structure Fnd (cs : Fin 13 → Addr) (way wd m : V) (H H1 : Hp) (q : Addr) (n : Nat) : Prop where
  sm : Same H H1
  nq : H q = none
  ex : ∃ L : List V, H1 q = some (.lst L) ∧ Rows cs way wd m H1 (some q) L ∧ L.length = n
section
variable {K : PySem.W.Frag} {cs : Fin 13 → Addr} {way wd m : V} {σ : L2.St} {H H1 : Hp} {q : Addr} {i j : Fin 13} {ta tb : TE} {Q : VK} {n : Nat}
theorem first2 (A : RR cs way wd m σ H i ta) (B : RR cs way wd m σ H j tb) (k : ∀ (H2 : Hp) (q : Addr), Fnd cs way wd m H H2 q 2 → Q (.ref q) H2) : tLst (tCons ta (tCons tb tNil)) σ H Q :=
  lit2 A B (Same.refl _) fun H2 q v u nq s hq r => k H2 q ⟨s, nq, _, hq, r, rfl⟩
theorem cat2 (A : RR cs way wd m σ H i ta) (B : RR cs way wd m σ H j tb) (I : Fnd cs way wd m H H1 q n) (hn : n ≤ 30) (e : σ[3]? = some (some (.ref q))) (k : ∀ (H2 : Hp) (q2 : Addr), Fnd cs way wd m H H2 q2 (n + 2) → Q (.ref q2) H2) :
    tOp (rCatS K) (tVar 3) (tLst (tCons ta (tCons tb tNil))) σ H1 Q := by
  obtain ⟨sm, nq, L, hq, r, hl⟩ := I
  refine use_op (use_var e (lit2 A B sm fun H2 q2 v u nq2 s hq2 r2 => ?_))
  have hq3 := s _ _ hq
  refine ⟨q, q2, L, [v, u], rfl, rfl, SqL.of hq3, SqL.of hq2, sz (by simp; omega), fun q4 nq4 => k _ q4 ⟨(sm.trans s).trans (same_new nq4), (sm.trans s).free nq4, _, upd_same, Rows.new (Rows.app (r.same s).drop r2.drop) nq4, ?_⟩⟩
  rw [List.length_append, hl]
  rfl
theorem app1 (A : RR cs way wd m σ H i ta) (I : Fnd cs way wd m H H1 q n) (hn : n ≤ 30) (e : σ[3]? = some (some (.ref q))) (k : ∀ (v : V) (H2 : Hp), Fnd cs way wd m H H2 q (n + 1) → Q v H2) :
    tBM K "list" rAppend (tVar 3) (tCons ta tNil) σ H1 Q := by
  obtain ⟨sm, nq, L, hq, r, hl⟩ := I
  refine ⟨_, e, .inl ⟨rfl, _, SqL.of hq⟩, ?_⟩
  refine A H1 _ sm fun H2 v e u S2 nu rr => ?_
  have hq2 := S2 _ _ hq
  have un : u ≠ q := (ne_of_none hq nu).symm
  refine ⟨q, _, _, rfl, rfl, hq2, szl (by omega), k _ _ ⟨fun b o e => ?_, nq, _, upd_same, (Rows.app (r.same S2) (Rows.one rr (fun a z => by cases z; exact un))).upd hq2, ?_⟩⟩
  · rw [upd_ne (ne_of_none e nq)]
    exact S2 _ _ (sm _ _ e)
  · rw [List.length_append, hl]
    rfl
end
/-- the rows, by place or by name -/
def spRows (K : PySem.W.Frag) (cs : Fin 13 → Addr) : Sp := fun vs H Q _ => ∃ (p : Addr) (xs : List V) (wd : Str) (m : Int), vs = [.ref p, .str wd, .int m] ∧ SqT K H p xs ∧
  ∀ (H' : Hp) (q : Addr) (L : List V), H q = none → Same H H' → H' q = some (.lst L) → Rows cs (.ref p) (.str wd) (.int m) H' none L → L.length ≤ 13 → Q (.ref q) H'
/-- side conditions; and the plain steps of a reading -/
local macro_rules | `(tactic| walk_at "sd") => `(tactic| first
  | assumption | decide | omega | exact b64 b01 | (show (0 : Int) < _; first | decide | omega) | exact ⟨by decide, by decide, by decide⟩ | exact ⟨by decide, by decide⟩ | exact ⟨by omega, by omega⟩
  | exact .inl ⟨by omega, by omega⟩ | exact .inr ⟨by omega, by omega⟩ | exact sz (by simp) | exact szl (by simp))
local macro_rules | `(tactic| walk_at "rd") => `(tactic| repeat (first
  | refine ⟨_, rfl, ?_⟩
  | refine ⟨_, _, rfl, rfl, ?_⟩
  | refine ⟨_, _, _, _, rfl, rfl, SqL.of (by first | assumption | exact upd_same), rfl, ?_⟩
  | refine .inl ⟨_, rfl, ?_⟩
  | refine .inr ⟨_, rfl, ?_⟩
  | refine ⟨_, _, _, _, rfl, rfl, (by first | assumption | exact upd_same), rfl, ?_⟩
  | refine And.intro (by walk_at "sd") ?_))
section
variable {P : Program} {w : World} {K : PySem.W.Frag} {mg : Str → Option Value} {base : Heap} {f : Addr} {fd : FuncData}

abbrev s__law_by_place : Stmt := top 19
theorem sc__law_by_place : FnScope ["_law_way", "_law_some_word", "_law_many", "_law_found"] ["_law_way", "_law_some_word", "_law_many"] (defScope s__law_by_place) := ⟨rfl, rfl, rfl, by decide +kernel, rfl, by decide +kernel, by decide +kernel⟩
theorem ok_by_place {cs : Fin 13 → Addr} (F : Fun K "_law_by_place" "_law_by_place" s__law_by_place f fd) (al : Cls P w K mg base cs) : FnOk P w K mg base CX0 3 f fd ["_law_way", "_law_some_word", "_law_many"] (spRows K cs) := by
  refine F.ok sc__law_by_place (fun vs H Q E h => ?_) (fun cdv A outer st H vs Q E hr h => ?_)
  · obtain ⟨p, xs, wd, m, rfl, _⟩ := h
    rfl
  · obtain ⟨p, xs, wd, m, rfl, hp, k⟩ := h
    obtain ⟨f0, g0, n0⟩ := al.i0
    obtain ⟨f1, g1, n1⟩ := al.i1
    obtain ⟨f2, g2, n2⟩ := al.i2
    obtain ⟨f3, g3, n3⟩ := al.i3
    obtain ⟨f4, g4, n4⟩ := al.i4
    obtain ⟨f5, g5, n5⟩ := al.i5
    obtain ⟨f6, g6, n6⟩ := al.i6
    obtain ⟨f7, g7, n7⟩ := al.i7
    obtain ⟨f8, g8, n8⟩ := al.i8
    obtain ⟨f9, g9, n9⟩ := al.i9
    obtain ⟨f10, g10, n10⟩ := al.i10
    obtain ⟨f12, g12, n12⟩ := al.i12
    refine ⟨_, (pss_cons (ps_set (i := 3) sc__law_by_place.nd rfl (Or.inl rfl) (pe_lst (pa_cons (pe_tup (pa_cons (pe_oex n0.oex n0.ini n0.tI n0.init hr n0.bi (by rfl) n0.mgC (pa_cons (pv 0) pa_nil)) (pa_cons pe_str (pa_cons (pe_lst (pa_cons (pv 0) pa_nil)) pa_nil)))) (pa_cons (pe_tup (pa_cons (pe_oex n1.oex n1.ini n1.tI n1.init hr n1.bi (by rfl) n1.mgC (pa_cons (pv 1) pa_nil)) (pa_cons pe_str (pa_cons (pe_lst (pa_cons (pv 1) pa_nil)) pa_nil)))) pa_nil))))
      (pss_cons (ps_set (i := 3) sc__law_by_place.nd rfl (Or.inl rfl) (pe_op op_catS (pv 3) (pe_lst (pa_cons (pe_tup (pa_cons (pe_oex n2.oex n2.ini n2.tI n2.init hr n2.bi (by rfl) n2.mgC (pa_cons (pv 2) pa_nil)) (pa_cons pe_str (pa_cons (pe_lst (pa_cons (pv 2) pa_nil)) pa_nil)))) (pa_cons (pe_tup (pa_cons (pe_oex n3.oex n3.ini n3.tI n3.init hr n3.bi (by rfl) n3.mgC (pa_cons (pv 1) (pa_cons (pv 2) pa_nil))) (pa_cons pe_str (pa_cons (pe_lst (pa_cons (pv 1) (pa_cons (pv 2) pa_nil))) pa_nil)))) pa_nil)))))
      (pss_cons (ps_expr (pe_bm PySem.F.plainAttrs_list PySem.F.slot_list_append PySem.F.type_list_append mt_append (pv 3) (pa_cons (pe_tup (pa_cons (pe_oex n4.oex n4.ini n4.tI n4.init hr n4.bi (by rfl) n4.mgC (pa_cons (pv 2) pa_nil)) (pa_cons pe_str (pa_cons (pe_lst (pa_cons (pv 2) pa_nil)) pa_nil)))) pa_nil)))
      (pss_cons (ps_set (i := 3) sc__law_by_place.nd rfl (Or.inl rfl) (pe_op op_catS (pv 3) (pe_lst (pa_cons (pe_tup (pa_cons (pe_oex n5.oex n5.ini n5.tI n5.init hr n5.bi (by rfl) n5.mgC (pa_cons (pv 2) pa_nil)) (pa_cons pe_str (pa_cons (pe_lst (pa_cons (pv 2) pa_nil)) pa_nil)))) (pa_cons (pe_tup (pa_cons (pe_oex n6.oex n6.ini n6.tI n6.init hr n6.bi (by rfl) n6.mgC (pa_cons (pv 2) pa_nil)) (pa_cons pe_str (pa_cons (pe_lst (pa_cons (pv 2) pa_nil)) pa_nil)))) pa_nil)))))
      (pss_cons (ps_set (i := 3) sc__law_by_place.nd rfl (Or.inl rfl) (pe_op op_catS (pv 3) (pe_lst (pa_cons (pe_tup (pa_cons (pe_oex n7.oex n7.ini n7.tI n7.init hr n7.bi (by rfl) n7.mgC (pa_cons (pv 2) pa_nil)) (pa_cons pe_str (pa_cons (pe_lst (pa_cons (pv 2) pa_nil)) pa_nil)))) (pa_cons (pe_tup (pa_cons (pe_oex n8.oex n8.ini n8.tI n8.init hr n8.bi (by rfl) n8.mgC (pa_cons (pv 1) (pa_cons (pv 2) pa_nil))) (pa_cons pe_str (pa_cons (pe_lst (pa_cons (pv 1) (pa_cons (pv 2) pa_nil))) pa_nil)))) pa_nil)))))
      (pss_cons (ps_set (i := 3) sc__law_by_place.nd rfl (Or.inl rfl) (pe_op op_catS (pv 3) (pe_lst (pa_cons (pe_tup (pa_cons (pe_oex n9.oex n9.ini n9.tI n9.init hr n9.bi (by rfl) n9.mgC (pa_cons (pv 1) pa_nil)) (pa_cons pe_str (pa_cons (pe_lst (pa_cons (pv 1) pa_nil)) pa_nil)))) (pa_cons (pe_tup (pa_cons (pe_oex n10.oex n10.ini n10.tI n10.init hr n10.bi (by rfl) n10.mgC (pa_cons (pv 1) pa_nil)) (pa_cons pe_str (pa_cons (pe_lst (pa_cons (pv 1) pa_nil)) pa_nil)))) pa_nil)))))
      (pss_one (ps_ret (pe_op op_catS (pv 3) (pe_lst (pa_cons (pe_tup (pa_cons (pe_exc0 PySem.F.excBase_ValueError al.back al.mgB al.keB (by rfl)) (pa_cons pe_str (pa_cons (pe_lst pa_nil) pa_nil)))) (pa_cons (pe_tup (pa_cons (pe_oex n12.oex n12.ini n12.tI n12.init hr n12.bi (by rfl) n12.mgC (pa_cons (pv 2) pa_nil)) (pa_cons pe_str (pa_cons (pe_lst (pa_cons (pv 2) pa_nil)) pa_nil)))) pa_nil)))))))))))), ?_⟩
    refine use_seq (use_set ?_)
    refine first2 (H := H) (cs := cs) (way := .ref p) (wd := .str wd) (m := .int m) (row_of (i := 0) (mkP hp rfl) rfl (fun _ _ h => ⟨_, rfl, h⟩) (Nat.le_of_ble_eq_true rfl)) (row_of (i := 1) (mk1 rfl) rfl (fun _ _ h => ⟨_, rfl, h⟩) (Nat.le_of_ble_eq_true rfl)) fun H1 q I1 => ?_
    dsimp only
    refine use_seq (use_set ?_)
    refine cat2 (row_of (i := 2) (mk1 rfl) rfl (fun _ _ h => ⟨_, rfl, h⟩) (Nat.le_of_ble_eq_true rfl)) (row_of (i := 3) (mk2 rfl rfl) rfl (fun _ _ h => ⟨_, rfl, _, rfl, h⟩) (Nat.le_of_ble_eq_true rfl)) I1 (by decide) rfl fun H2 q I2 => ?_
    dsimp only
    refine use_seq (use_drop ?_)
    refine app1 (row_of (i := 4) (mk1 rfl) rfl (fun _ _ h => ⟨_, rfl, h⟩) (Nat.le_of_ble_eq_true rfl)) I2 (by decide) rfl fun _ H3 I3 => ?_
    dsimp only
    refine use_seq (use_set ?_)
    refine cat2 (row_of (i := 5) (mk1 rfl) rfl (fun _ _ h => ⟨_, rfl, h⟩) (Nat.le_of_ble_eq_true rfl)) (row_of (i := 6) (mk1 rfl) rfl (fun _ _ h => ⟨_, rfl, h⟩) (Nat.le_of_ble_eq_true rfl)) I3 (by decide) rfl fun H4 q I4 => ?_
    dsimp only
    refine use_seq (use_set ?_)
    refine cat2 (row_of (i := 7) (mk1 rfl) rfl (fun _ _ h => ⟨_, rfl, h⟩) (Nat.le_of_ble_eq_true rfl)) (row_of (i := 8) (mk2 rfl rfl) rfl (fun _ _ h => ⟨_, rfl, _, rfl, h⟩) (Nat.le_of_ble_eq_true rfl)) I4 (by decide) rfl fun H5 q I5 => ?_
    dsimp only
    refine use_seq (use_set ?_)
    refine cat2 (row_of (i := 9) (mk1 rfl) rfl (fun _ _ h => ⟨_, rfl, h⟩) (Nat.le_of_ble_eq_true rfl)) (row_of (i := 10) (mk1 rfl) rfl (fun _ _ h => ⟨_, rfl, h⟩) (Nat.le_of_ble_eq_true rfl)) I5 (by decide) rfl fun H6 q I6 => ?_
    dsimp only
    refine use_ret ?_
    refine cat2 (row_of (i := 11) mk0 rfl (fun _ _ h => h) (Nat.le_of_ble_eq_true rfl)) (row_of (i := 12) (mk1 rfl) rfl (fun _ _ h => ⟨_, rfl, h⟩) (Nat.le_of_ble_eq_true rfl)) I6 (by decide) rfl fun Hz qz Iz => ?_
    obtain ⟨sm, nq, L, hq, R, hl⟩ := Iz
    exact k Hz qz L nq sm hq R.drop (by omega)
abbrev s__law_by_name : Stmt := top 20
theorem sc__law_by_name : FnScope ["_law_way", "_law_some_word", "_law_many", "_law_found"] ["_law_way", "_law_some_word", "_law_many"] (defScope s__law_by_name) := ⟨rfl, rfl, rfl, by decide +kernel, rfl, by decide +kernel, by decide +kernel⟩
theorem ok_by_name {cs : Fin 13 → Addr} (F : Fun K "_law_by_name" "_law_by_name" s__law_by_name f fd) (al : Cls P w K mg base cs) : FnOk P w K mg base CX0 3 f fd ["_law_way", "_law_some_word", "_law_many"] (spRows K cs) := by
  refine F.ok sc__law_by_name (fun vs H Q E h => ?_) (fun cdv A outer st H vs Q E hr h => ?_)
  · obtain ⟨p, xs, wd, m, rfl, _⟩ := h
    rfl
  · obtain ⟨p, xs, wd, m, rfl, hp, k⟩ := h
    obtain ⟨f0, g0, n0⟩ := al.i0
    obtain ⟨f1, g1, n1⟩ := al.i1
    obtain ⟨f2, g2, n2⟩ := al.i2
    obtain ⟨f3, g3, n3⟩ := al.i3
    obtain ⟨f4, g4, n4⟩ := al.i4
    obtain ⟨f5, g5, n5⟩ := al.i5
    obtain ⟨f6, g6, n6⟩ := al.i6
    obtain ⟨f7, g7, n7⟩ := al.i7
    obtain ⟨f8, g8, n8⟩ := al.i8
    obtain ⟨f9, g9, n9⟩ := al.i9
    obtain ⟨f10, g10, n10⟩ := al.i10
    obtain ⟨f12, g12, n12⟩ := al.i12
    refine ⟨_, (pss_cons (ps_set (i := 3) sc__law_by_name.nd rfl (Or.inl rfl) (pe_lst (pa_cons (pe_tup (pa_cons (pe_oexk n0.oex n0.ini n0.tI n0.init hr (n0.kb1 _ rfl) (g := id) (gV := id) (fun h => h) (by rfl) n0.mgC (pk_cons (pv 0) pk_nil)) (pa_cons pe_str (pa_cons (pe_lst (pa_cons (pv 0) pa_nil)) pa_nil)))) (pa_cons (pe_tup (pa_cons (pe_oexk n1.oex n1.ini n1.tI n1.init hr (n1.kb1 _ rfl) (g := id) (gV := id) (fun h => h) (by rfl) n1.mgC (pk_cons (pv 1) pk_nil)) (pa_cons pe_str (pa_cons (pe_lst (pa_cons (pv 1) pa_nil)) pa_nil)))) pa_nil))))
      (pss_cons (ps_expr (pe_bm PySem.F.plainAttrs_list PySem.F.slot_list_append PySem.F.type_list_append mt_append (pv 3) (pa_cons (pe_tup (pa_cons (pe_oexk n2.oex n2.ini n2.tI n2.init hr (n2.kb1 _ rfl) (g := id) (gV := id) (fun h => h) (by rfl) n2.mgC (pk_cons (pv 2) pk_nil)) (pa_cons pe_str (pa_cons (pe_lst (pa_cons (pv 2) pa_nil)) pa_nil)))) pa_nil)))
      (pss_cons (ps_expr (pe_bm PySem.F.plainAttrs_list PySem.F.slot_list_append PySem.F.type_list_append mt_append (pv 3) (pa_cons (pe_tup (pa_cons (pe_oexk n3.oex n3.ini n3.tI n3.init hr (n3.kb2 _ _ rfl) (g := sw) (gV := sw) (vals_sw) (by rfl) n3.mgC (pk_cons (pv 2) (pk_cons (pv 1) pk_nil))) (pa_cons pe_str (pa_cons (pe_lst (pa_cons (pv 1) (pa_cons (pv 2) pa_nil))) pa_nil)))) pa_nil)))
      (pss_cons (ps_set (i := 3) sc__law_by_name.nd rfl (Or.inl rfl) (pe_op op_catS (pv 3) (pe_lst (pa_cons (pe_tup (pa_cons (pe_oexk n4.oex n4.ini n4.tI n4.init hr (n4.kb1 _ rfl) (g := id) (gV := id) (fun h => h) (by rfl) n4.mgC (pk_cons (pv 2) pk_nil)) (pa_cons pe_str (pa_cons (pe_lst (pa_cons (pv 2) pa_nil)) pa_nil)))) (pa_cons (pe_tup (pa_cons (pe_oexk n5.oex n5.ini n5.tI n5.init hr (n5.kb1 _ rfl) (g := id) (gV := id) (fun h => h) (by rfl) n5.mgC (pk_cons (pv 2) pk_nil)) (pa_cons pe_str (pa_cons (pe_lst (pa_cons (pv 2) pa_nil)) pa_nil)))) pa_nil)))))
      (pss_cons (ps_set (i := 3) sc__law_by_name.nd rfl (Or.inl rfl) (pe_op op_catS (pv 3) (pe_lst (pa_cons (pe_tup (pa_cons (pe_oexk n6.oex n6.ini n6.tI n6.init hr (n6.kb1 _ rfl) (g := id) (gV := id) (fun h => h) (by rfl) n6.mgC (pk_cons (pv 2) pk_nil)) (pa_cons pe_str (pa_cons (pe_lst (pa_cons (pv 2) pa_nil)) pa_nil)))) (pa_cons (pe_tup (pa_cons (pe_oexk n7.oex n7.ini n7.tI n7.init hr (n7.kb1 _ rfl) (g := id) (gV := id) (fun h => h) (by rfl) n7.mgC (pk_cons (pv 2) pk_nil)) (pa_cons pe_str (pa_cons (pe_lst (pa_cons (pv 2) pa_nil)) pa_nil)))) pa_nil)))))
      (pss_cons (ps_expr (pe_bm PySem.F.plainAttrs_list PySem.F.slot_list_append PySem.F.type_list_append mt_append (pv 3) (pa_cons (pe_tup (pa_cons (pe_oexk n8.oex n8.ini n8.tI n8.init hr (n8.kb2 _ _ rfl) (g := sw) (gV := sw) (vals_sw) (by rfl) n8.mgC (pk_cons (pv 2) (pk_cons (pv 1) pk_nil))) (pa_cons pe_str (pa_cons (pe_lst (pa_cons (pv 1) (pa_cons (pv 2) pa_nil))) pa_nil)))) pa_nil)))
      (pss_cons (ps_expr (pe_bm PySem.F.plainAttrs_list PySem.F.slot_list_append PySem.F.type_list_append mt_append (pv 3) (pa_cons (pe_tup (pa_cons (pe_oexk n9.oex n9.ini n9.tI n9.init hr (n9.kb1 _ rfl) (g := id) (gV := id) (fun h => h) (by rfl) n9.mgC (pk_cons (pv 1) pk_nil)) (pa_cons pe_str (pa_cons (pe_lst (pa_cons (pv 1) pa_nil)) pa_nil)))) pa_nil)))
      (pss_one (ps_ret (pe_op op_catS (pv 3) (pe_lst (pa_cons (pe_tup (pa_cons (pe_oexk n10.oex n10.ini n10.tI n10.init hr (n10.kb1 _ rfl) (g := id) (gV := id) (fun h => h) (by rfl) n10.mgC (pk_cons (pv 1) pk_nil)) (pa_cons pe_str (pa_cons (pe_lst (pa_cons (pv 1) pa_nil)) pa_nil)))) (pa_cons (pe_tup (pa_cons (pe_oexk n12.oex n12.ini n12.tI n12.init hr (n12.kb1 _ rfl) (g := id) (gV := id) (fun h => h) (by rfl) n12.mgC (pk_cons (pv 2) pk_nil)) (pa_cons pe_str (pa_cons (pe_lst (pa_cons (pv 2) pa_nil)) pa_nil)))) pa_nil))))))))))))), ?_⟩
    refine use_seq (use_set ?_)
    refine first2 (H := H) (cs := cs) (way := .ref p) (wd := .str wd) (m := .int m) (row_of (i := 0) (mkPK hp rfl) rfl (fun _ _ h => ⟨_, rfl, h⟩) (Nat.le_of_ble_eq_true rfl)) (row_of (i := 1) (mk1K rfl) rfl (fun _ _ h => ⟨_, rfl, h⟩) (Nat.le_of_ble_eq_true rfl)) fun H1 q I1 => ?_
    dsimp only
    refine use_seq (use_drop ?_)
    refine app1 (row_of (i := 2) (mk1K rfl) rfl (fun _ _ h => ⟨_, rfl, h⟩) (Nat.le_of_ble_eq_true rfl)) I1 (by decide) rfl fun _ H2 I2 => ?_
    dsimp only
    refine use_seq (use_drop ?_)
    refine app1 (row_of (i := 3) (mk2K rfl rfl) rfl (fun _ _ h => ⟨_, rfl, _, rfl, h⟩) (Nat.le_of_ble_eq_true rfl)) I2 (by decide) rfl fun _ H3 I3 => ?_
    dsimp only
    refine use_seq (use_set ?_)
    refine cat2 (row_of (i := 4) (mk1K rfl) rfl (fun _ _ h => ⟨_, rfl, h⟩) (Nat.le_of_ble_eq_true rfl)) (row_of (i := 5) (mk1K rfl) rfl (fun _ _ h => ⟨_, rfl, h⟩) (Nat.le_of_ble_eq_true rfl)) I3 (by decide) rfl fun H4 q I4 => ?_
    dsimp only
    refine use_seq (use_set ?_)
    refine cat2 (row_of (i := 6) (mk1K rfl) rfl (fun _ _ h => ⟨_, rfl, h⟩) (Nat.le_of_ble_eq_true rfl)) (row_of (i := 7) (mk1K rfl) rfl (fun _ _ h => ⟨_, rfl, h⟩) (Nat.le_of_ble_eq_true rfl)) I4 (by decide) rfl fun H5 q I5 => ?_
    dsimp only
    refine use_seq (use_drop ?_)
    refine app1 (row_of (i := 8) (mk2K rfl rfl) rfl (fun _ _ h => ⟨_, rfl, _, rfl, h⟩) (Nat.le_of_ble_eq_true rfl)) I5 (by decide) rfl fun _ H6 I6 => ?_
    dsimp only
    refine use_seq (use_drop ?_)
    refine app1 (row_of (i := 9) (mk1K rfl) rfl (fun _ _ h => ⟨_, rfl, h⟩) (Nat.le_of_ble_eq_true rfl)) I6 (by decide) rfl fun _ H7 I7 => ?_
    dsimp only
    refine use_ret ?_
    refine cat2 (row_of (i := 10) (mk1K rfl) rfl (fun _ _ h => ⟨_, rfl, h⟩) (Nat.le_of_ble_eq_true rfl)) (row_of (i := 12) (mk1K rfl) rfl (fun _ _ h => ⟨_, rfl, h⟩) (Nat.le_of_ble_eq_true rfl)) I7 (by decide) rfl fun Hz qz Iz => ?_
    obtain ⟨sm, nq, L, hq, R, hl⟩ := Iz
    exact k Hz qz L nq sm hq R.drop (by omega)
end
end Q05


/-! fields, classes -/
namespace Q05
open PySem PySem.Spec PyProof.Rows L2 QT
/-- what asking of the classes rests on -/
structure Ask (K : PySem.W.Frag) (mg : Str → Option Value) (cs : Fin 13 → Addr) : Prop where
  mg : ∀ i, mg (nmE i) = some (.ref (cs i))
  xf : ∀ i, XfC K (cs i)
  err : ∀ i, ErrK K (cs i)
  is : ∀ i j, PySem.W.kitOne K (.ref (cs i)) (.ref (cs j)) = some (decide (i = j))
  f0_path : PySem.W.findIn K (.ref (cs 0)) "path" = some none
  f1_what : PySem.W.findIn K (.ref (cs 1)) "what" = some none
  f2_place : PySem.W.findIn K (.ref (cs 2)) "place" = some none
  f3_word : PySem.W.findIn K (.ref (cs 3)) "word" = some none
  f3_place : PySem.W.findIn K (.ref (cs 3)) "place" = some none
  f4_length : PySem.W.findIn K (.ref (cs 4)) "length" = some none
  f5_place : PySem.W.findIn K (.ref (cs 5)) "place" = some none
  f6_number : PySem.W.findIn K (.ref (cs 6)) "number" = some none
  f7_length : PySem.W.findIn K (.ref (cs 7)) "length" = some none
  f8_what : PySem.W.findIn K (.ref (cs 8)) "what" = some none
  f8_count : PySem.W.findIn K (.ref (cs 8)) "count" = some none
  f9_name : PySem.W.findIn K (.ref (cs 9)) "name" = some none
  f10_name : PySem.W.findIn K (.ref (cs 10)) "name" = some none
  f12_place : PySem.W.findIn K (.ref (cs 12)) "place" = some none
def spFields (cs : Fin 13 → Addr) : Sp := fun vs H Q _ => ∃ (e : Addr) (i : Fin 13) (way wd m : V) (cl : Str), vs = [.ref e, .str cl] ∧ cl = clE i ∧ ErrAt H e (cs i) (fdE way wd m i) ∧
  ∀ (H' : Hp) (q : Addr), Same H H' → H' q = some (.lst (dueE way wd m i)) → Q (.ref q) H'
theorem use_next {σ : L2.St} {H : Hp} {D : Ends} (h : D.nx σ H) : tNext D σ H := h
/-- its field is asked -/
theorem use_oxf {K : PySem.W.Frag} {σ : L2.St} {H : Hp} {Q : VK} {e C : Addr} {fs : List (Str × V)} {f : Str} {v : V} {j : Nat} (hj : σ[j]? = some (some (.ref e))) (h : ErrAt H e C fs) (x : XfC K C) (n : PySem.W.findIn K (.ref C) f = some none) (l : fs.lookup f = some v) (q : Q v H) : tOxf K f (tVar j) σ H Q := by
  refine use_var hj ?_
  rcases h with ⟨d, e1, e2⟩ | ⟨_, e2⟩
  · exact ⟨e, C, d, fs, v, rfl, e1, e2, x, n, l, q⟩
  · rw [e2] at l
    cases l
theorem look0 {f : Str} {v : V} : List.lookup f [(f, v)] = some v := by
  rw [lookup_put, if_pos rfl]
theorem look2a {f g : Str} {v u : V} : List.lookup f [(f, v), (g, u)] = some v := by
  rw [lookup_put, if_pos rfl]
theorem look2b {f g : Str} {v u : V} (h : ¬ g = f) : List.lookup g [(f, v), (g, u)] = some u := by
  rw [lookup_put, if_neg h, lookup_put, if_pos rfl]
/-- side conditions; and the plain steps of a reading -/
local macro_rules | `(tactic| walk_at "sd") => `(tactic| first
  | assumption | decide | omega | exact b64 b01 | (show (0 : Int) < _; first | decide | omega) | exact ⟨by decide, by decide, by decide⟩ | exact ⟨by decide, by decide⟩ | exact ⟨by omega, by omega⟩
  | exact .inl ⟨by omega, by omega⟩ | exact .inr ⟨by omega, by omega⟩ | exact sz (by simp) | exact szl (by simp))
local macro_rules | `(tactic| walk_at "rd") => `(tactic| repeat (first
  | refine ⟨_, rfl, ?_⟩
  | refine ⟨_, _, rfl, rfl, ?_⟩
  | refine ⟨_, _, _, _, rfl, rfl, SqL.of (by first | assumption | exact upd_same), rfl, ?_⟩
  | refine .inl ⟨_, rfl, ?_⟩
  | refine .inr ⟨_, rfl, ?_⟩
  | refine ⟨_, _, _, _, rfl, rfl, (by first | assumption | exact upd_same), rfl, ?_⟩
  | refine And.intro (by walk_at "sd") ?_))
section
variable {P : Program} {w : World} {K : PySem.W.Frag} {mg : Str → Option Value} {base : Heap} {f : Addr} {fd : FuncData}
abbrev s__law_fields : Stmt := top 21
theorem sc__law_fields : FnScope ["_law_e", "_law_called"] ["_law_e", "_law_called"] (defScope s__law_fields) := ⟨rfl, rfl, rfl, by decide +kernel, rfl, by decide +kernel, by decide +kernel⟩
theorem ok_fields {cs : Fin 13 → Addr} (F : Fun K "_law_fields" "_law_fields" s__law_fields f fd) (al : Ask K mg cs) : FnOk P w K mg base CX0 1 f fd ["_law_e", "_law_called"] (spFields cs) := by
  refine F.ok sc__law_fields (fun vs H Q E h => ?_) (fun cdv A outer st H vs Q E hr h => ?_)
  · obtain ⟨e, i, way, wd, m, cl, rfl, _⟩ := h
    rfl
  · obtain ⟨e, i, way, wd, m, cl, rfl, hcl, he, k⟩ := h
    refine ⟨_, (pss_cons (ps_if (pt_cmpR op_eq (pv 1) pe_str (nomark _))
      (pss_one (ps_ret (pe_lst (pa_cons (pe_oxf (pv 0)) pa_nil))))
      pss_nil)
      (pss_cons (ps_if (pt_cmpR op_eq (pv 1) pe_str (nomark _))
      (pss_one (ps_ret (pe_lst (pa_cons (pe_oxf (pv 0)) pa_nil))))
      pss_nil)
      (pss_cons (ps_if (pt_cmpR op_in_seq (pv 1) (pe_tup (pa_cons pe_str (pa_cons pe_str (pa_cons pe_str pa_nil)))) (by with_unfolding_all rfl))
      (pss_one (ps_ret (pe_lst (pa_cons (pe_oxf (pv 0)) pa_nil))))
      pss_nil)
      (pss_cons (ps_if (pt_cmpR op_eq (pv 1) pe_str (nomark _))
      (pss_one (ps_ret (pe_lst (pa_cons (pe_oxf (pv 0)) (pa_cons (pe_oxf (pv 0)) pa_nil)))))
      pss_nil)
      (pss_cons (ps_if (pt_cmpR op_in_seq (pv 1) (pe_tup (pa_cons pe_str (pa_cons pe_str pa_nil))) (by with_unfolding_all rfl))
      (pss_one (ps_ret (pe_lst (pa_cons (pe_oxf (pv 0)) pa_nil))))
      pss_nil)
      (pss_cons (ps_if (pt_cmpR op_eq (pv 1) pe_str (nomark _))
      (pss_one (ps_ret (pe_lst (pa_cons (pe_oxf (pv 0)) pa_nil))))
      pss_nil)
      (pss_cons (ps_if (pt_cmpR op_eq (pv 1) pe_str (nomark _))
      (pss_one (ps_ret (pe_lst (pa_cons (pe_oxf (pv 0)) (pa_cons (pe_oxf (pv 0)) pa_nil)))))
      pss_nil)
      (pss_one (ps_ret (pe_ifExp (pt_cmpR op_in_seq (pv 1) (pe_tup (pa_cons pe_str (pa_cons pe_str pa_nil))) (by with_unfolding_all rfl)) (pe_lst (pa_cons (pe_oxf (pv 0)) pa_nil)) (pe_lst pa_nil))))))))))), ?_⟩
    have S0 := Same.refl H
    match i, he, k, hcl with
    | ⟨0, _⟩, he, k, hcl =>
      obtain rfl : cl = "novalue" := hcl
      try dsimp only
      refine use_seq (use_if ?_)
      refine ⟨_, rfl, rfl, _, rfl, ifT (by decide +kernel) ?_⟩
      try dsimp only
      refine use_ret ?_
      refine use_oxf (C := cs 0) rfl (errAt_same he S0) (al.xf 0) al.f0_path look0 ⟨sz (by simp), fun q nq => k _ q (S0.trans (same_new nq)) upd_same⟩
    | ⟨1, _⟩, he, k, hcl =>
      obtain rfl : cl = "large" := hcl
      try dsimp only
      refine use_seq (use_if ?_)
      refine ⟨_, rfl, rfl, _, rfl, ifF (by decide +kernel) ?_⟩
      refine use_next ?_
      try dsimp only
      refine use_seq (use_if ?_)
      refine ⟨_, rfl, rfl, _, rfl, ifT (by decide +kernel) ?_⟩
      try dsimp only
      refine use_ret ?_
      refine use_oxf (C := cs 1) rfl (errAt_same he S0) (al.xf 1) al.f1_what look0 ⟨sz (by simp), fun q nq => k _ q (S0.trans (same_new nq)) upd_same⟩
    | ⟨2, _⟩, he, k, hcl =>
      obtain rfl : cl = "nobytes" := hcl
      try dsimp only
      refine use_seq (use_if ?_)
      refine ⟨_, rfl, rfl, _, rfl, ifF (by decide +kernel) ?_⟩
      refine use_next ?_
      try dsimp only
      refine use_seq (use_if ?_)
      refine ⟨_, rfl, rfl, _, rfl, ifF (by decide +kernel) ?_⟩
      refine use_next ?_
      try dsimp only
      refine use_seq (use_if ?_)
      refine ⟨_, rfl, sz (by simp), fun p2 np2 => ⟨p2, _, rfl, .inr (.inl (.inl upd_same)), rfl, by decide +kernel, _, rfl, ifT (by decide +kernel) ?_⟩⟩
      have S3 := S0.trans (same_new (o := .tup [.str "nobytes", .str "noplace", .str "badtext"]) np2)
      clear S0
      have S0 := S3
      clear S3
      try dsimp only
      refine use_ret ?_
      refine use_oxf (C := cs 2) rfl (errAt_same he S0) (al.xf 2) al.f2_place look0 ⟨sz (by simp), fun q nq => k _ q (S0.trans (same_new nq)) upd_same⟩
    | ⟨3, _⟩, he, k, hcl =>
      obtain rfl : cl = "torn" := hcl
      try dsimp only
      refine use_seq (use_if ?_)
      refine ⟨_, rfl, rfl, _, rfl, ifF (by decide +kernel) ?_⟩
      refine use_next ?_
      try dsimp only
      refine use_seq (use_if ?_)
      refine ⟨_, rfl, rfl, _, rfl, ifF (by decide +kernel) ?_⟩
      refine use_next ?_
      try dsimp only
      refine use_seq (use_if ?_)
      refine ⟨_, rfl, sz (by simp), fun p2 np2 => ⟨p2, _, rfl, .inr (.inl (.inl upd_same)), rfl, by decide +kernel, _, rfl, ifF (by decide +kernel) ?_⟩⟩
      have S3 := S0.trans (same_new (o := .tup [.str "nobytes", .str "noplace", .str "badtext"]) np2)
      clear S0
      have S0 := S3
      clear S3
      refine use_next ?_
      try dsimp only
      refine use_seq (use_if ?_)
      refine ⟨_, rfl, rfl, _, rfl, ifT (by decide +kernel) ?_⟩
      try dsimp only
      refine use_ret ?_
      refine use_lst (use_cons (use_oxf (C := cs 3) rfl (errAt_same he S0) (al.xf 3) al.f3_word (look2b (by decide +kernel)) ?_))
      refine use_cons (use_oxf (C := cs 3) rfl (errAt_same he S0) (al.xf 3) al.f3_place look2a ?_)
      exact ⟨sz (by simp), fun q nq => k _ q (S0.trans (same_new nq)) upd_same⟩
    | ⟨4, _⟩, he, k, hcl =>
      obtain rfl : cl = "nopart" := hcl
      try dsimp only
      refine use_seq (use_if ?_)
      refine ⟨_, rfl, rfl, _, rfl, ifF (by decide +kernel) ?_⟩
      refine use_next ?_
      try dsimp only
      refine use_seq (use_if ?_)
      refine ⟨_, rfl, rfl, _, rfl, ifF (by decide +kernel) ?_⟩
      refine use_next ?_
      try dsimp only
      refine use_seq (use_if ?_)
      refine ⟨_, rfl, sz (by simp), fun p2 np2 => ⟨p2, _, rfl, .inr (.inl (.inl upd_same)), rfl, by decide +kernel, _, rfl, ifF (by decide +kernel) ?_⟩⟩
      have S3 := S0.trans (same_new (o := .tup [.str "nobytes", .str "noplace", .str "badtext"]) np2)
      clear S0
      have S0 := S3
      clear S3
      refine use_next ?_
      try dsimp only
      refine use_seq (use_if ?_)
      refine ⟨_, rfl, rfl, _, rfl, ifF (by decide +kernel) ?_⟩
      refine use_next ?_
      try dsimp only
      refine use_seq (use_if ?_)
      refine ⟨_, rfl, sz (by simp), fun p4 np4 => ⟨p4, _, rfl, .inr (.inl (.inl upd_same)), rfl, by decide +kernel, _, rfl, ifT (by decide +kernel) ?_⟩⟩
      have S5 := S0.trans (same_new (o := .tup [.str "nopart", .str "nofit"]) np4)
      clear S0
      have S0 := S5
      clear S5
      try dsimp only
      refine use_ret ?_
      refine use_oxf (C := cs 4) rfl (errAt_same he S0) (al.xf 4) al.f4_length look0 ⟨sz (by simp), fun q nq => k _ q (S0.trans (same_new nq)) upd_same⟩
    | ⟨5, _⟩, he, k, hcl =>
      obtain rfl : cl = "noplace" := hcl
      try dsimp only
      refine use_seq (use_if ?_)
      refine ⟨_, rfl, rfl, _, rfl, ifF (by decide +kernel) ?_⟩
      refine use_next ?_
      try dsimp only
      refine use_seq (use_if ?_)
      refine ⟨_, rfl, rfl, _, rfl, ifF (by decide +kernel) ?_⟩
      refine use_next ?_
      try dsimp only
      refine use_seq (use_if ?_)
      refine ⟨_, rfl, sz (by simp), fun p2 np2 => ⟨p2, _, rfl, .inr (.inl (.inl upd_same)), rfl, by decide +kernel, _, rfl, ifT (by decide +kernel) ?_⟩⟩
      have S3 := S0.trans (same_new (o := .tup [.str "nobytes", .str "noplace", .str "badtext"]) np2)
      clear S0
      have S0 := S3
      clear S3
      try dsimp only
      refine use_ret ?_
      refine use_oxf (C := cs 5) rfl (errAt_same he S0) (al.xf 5) al.f5_place look0 ⟨sz (by simp), fun q nq => k _ q (S0.trans (same_new nq)) upd_same⟩
    | ⟨6, _⟩, he, k, hcl =>
      obtain rfl : cl = "noobject" := hcl
      try dsimp only
      refine use_seq (use_if ?_)
      refine ⟨_, rfl, rfl, _, rfl, ifF (by decide +kernel) ?_⟩
      refine use_next ?_
      try dsimp only
      refine use_seq (use_if ?_)
      refine ⟨_, rfl, rfl, _, rfl, ifF (by decide +kernel) ?_⟩
      refine use_next ?_
      try dsimp only
      refine use_seq (use_if ?_)
      refine ⟨_, rfl, sz (by simp), fun p2 np2 => ⟨p2, _, rfl, .inr (.inl (.inl upd_same)), rfl, by decide +kernel, _, rfl, ifF (by decide +kernel) ?_⟩⟩
      have S3 := S0.trans (same_new (o := .tup [.str "nobytes", .str "noplace", .str "badtext"]) np2)
      clear S0
      have S0 := S3
      clear S3
      refine use_next ?_
      try dsimp only
      refine use_seq (use_if ?_)
      refine ⟨_, rfl, rfl, _, rfl, ifF (by decide +kernel) ?_⟩
      refine use_next ?_
      try dsimp only
      refine use_seq (use_if ?_)
      refine ⟨_, rfl, sz (by simp), fun p4 np4 => ⟨p4, _, rfl, .inr (.inl (.inl upd_same)), rfl, by decide +kernel, _, rfl, ifF (by decide +kernel) ?_⟩⟩
      have S5 := S0.trans (same_new (o := .tup [.str "nopart", .str "nofit"]) np4)
      clear S0
      have S0 := S5
      clear S5
      refine use_next ?_
      try dsimp only
      refine use_seq (use_if ?_)
      refine ⟨_, rfl, rfl, _, rfl, ifT (by decide +kernel) ?_⟩
      try dsimp only
      refine use_ret ?_
      refine use_oxf (C := cs 6) rfl (errAt_same he S0) (al.xf 6) al.f6_number look0 ⟨sz (by simp), fun q nq => k _ q (S0.trans (same_new nq)) upd_same⟩
    | ⟨7, _⟩, he, k, hcl =>
      obtain rfl : cl = "nofit" := hcl
      try dsimp only
      refine use_seq (use_if ?_)
      refine ⟨_, rfl, rfl, _, rfl, ifF (by decide +kernel) ?_⟩
      refine use_next ?_
      try dsimp only
      refine use_seq (use_if ?_)
      refine ⟨_, rfl, rfl, _, rfl, ifF (by decide +kernel) ?_⟩
      refine use_next ?_
      try dsimp only
      refine use_seq (use_if ?_)
      refine ⟨_, rfl, sz (by simp), fun p2 np2 => ⟨p2, _, rfl, .inr (.inl (.inl upd_same)), rfl, by decide +kernel, _, rfl, ifF (by decide +kernel) ?_⟩⟩
      have S3 := S0.trans (same_new (o := .tup [.str "nobytes", .str "noplace", .str "badtext"]) np2)
      clear S0
      have S0 := S3
      clear S3
      refine use_next ?_
      try dsimp only
      refine use_seq (use_if ?_)
      refine ⟨_, rfl, rfl, _, rfl, ifF (by decide +kernel) ?_⟩
      refine use_next ?_
      try dsimp only
      refine use_seq (use_if ?_)
      refine ⟨_, rfl, sz (by simp), fun p4 np4 => ⟨p4, _, rfl, .inr (.inl (.inl upd_same)), rfl, by decide +kernel, _, rfl, ifT (by decide +kernel) ?_⟩⟩
      have S5 := S0.trans (same_new (o := .tup [.str "nopart", .str "nofit"]) np4)
      clear S0
      have S0 := S5
      clear S5
      try dsimp only
      refine use_ret ?_
      refine use_oxf (C := cs 7) rfl (errAt_same he S0) (al.xf 7) al.f7_length look0 ⟨sz (by simp), fun q nq => k _ q (S0.trans (same_new nq)) upd_same⟩
    | ⟨8, _⟩, he, k, hcl =>
      obtain rfl : cl = "badcount" := hcl
      try dsimp only
      refine use_seq (use_if ?_)
      refine ⟨_, rfl, rfl, _, rfl, ifF (by decide +kernel) ?_⟩
      refine use_next ?_
      try dsimp only
      refine use_seq (use_if ?_)
      refine ⟨_, rfl, rfl, _, rfl, ifF (by decide +kernel) ?_⟩
      refine use_next ?_
      try dsimp only
      refine use_seq (use_if ?_)
      refine ⟨_, rfl, sz (by simp), fun p2 np2 => ⟨p2, _, rfl, .inr (.inl (.inl upd_same)), rfl, by decide +kernel, _, rfl, ifF (by decide +kernel) ?_⟩⟩
      have S3 := S0.trans (same_new (o := .tup [.str "nobytes", .str "noplace", .str "badtext"]) np2)
      clear S0
      have S0 := S3
      clear S3
      refine use_next ?_
      try dsimp only
      refine use_seq (use_if ?_)
      refine ⟨_, rfl, rfl, _, rfl, ifF (by decide +kernel) ?_⟩
      refine use_next ?_
      try dsimp only
      refine use_seq (use_if ?_)
      refine ⟨_, rfl, sz (by simp), fun p4 np4 => ⟨p4, _, rfl, .inr (.inl (.inl upd_same)), rfl, by decide +kernel, _, rfl, ifF (by decide +kernel) ?_⟩⟩
      have S5 := S0.trans (same_new (o := .tup [.str "nopart", .str "nofit"]) np4)
      clear S0
      have S0 := S5
      clear S5
      refine use_next ?_
      try dsimp only
      refine use_seq (use_if ?_)
      refine ⟨_, rfl, rfl, _, rfl, ifF (by decide +kernel) ?_⟩
      refine use_next ?_
      try dsimp only
      refine use_seq (use_if ?_)
      refine ⟨_, rfl, rfl, _, rfl, ifT (by decide +kernel) ?_⟩
      try dsimp only
      refine use_ret ?_
      refine use_lst (use_cons (use_oxf (C := cs 8) rfl (errAt_same he S0) (al.xf 8) al.f8_what (look2b (by decide +kernel)) ?_))
      refine use_cons (use_oxf (C := cs 8) rfl (errAt_same he S0) (al.xf 8) al.f8_count look2a ?_)
      exact ⟨sz (by simp), fun q nq => k _ q (S0.trans (same_new nq)) upd_same⟩
    | ⟨9, _⟩, he, k, hcl =>
      obtain rfl : cl = "noname" := hcl
      try dsimp only
      refine use_seq (use_if ?_)
      refine ⟨_, rfl, rfl, _, rfl, ifF (by decide +kernel) ?_⟩
      refine use_next ?_
      try dsimp only
      refine use_seq (use_if ?_)
      refine ⟨_, rfl, rfl, _, rfl, ifF (by decide +kernel) ?_⟩
      refine use_next ?_
      try dsimp only
      refine use_seq (use_if ?_)
      refine ⟨_, rfl, sz (by simp), fun p2 np2 => ⟨p2, _, rfl, .inr (.inl (.inl upd_same)), rfl, by decide +kernel, _, rfl, ifF (by decide +kernel) ?_⟩⟩
      have S3 := S0.trans (same_new (o := .tup [.str "nobytes", .str "noplace", .str "badtext"]) np2)
      clear S0
      have S0 := S3
      clear S3
      refine use_next ?_
      try dsimp only
      refine use_seq (use_if ?_)
      refine ⟨_, rfl, rfl, _, rfl, ifF (by decide +kernel) ?_⟩
      refine use_next ?_
      try dsimp only
      refine use_seq (use_if ?_)
      refine ⟨_, rfl, sz (by simp), fun p4 np4 => ⟨p4, _, rfl, .inr (.inl (.inl upd_same)), rfl, by decide +kernel, _, rfl, ifF (by decide +kernel) ?_⟩⟩
      have S5 := S0.trans (same_new (o := .tup [.str "nopart", .str "nofit"]) np4)
      clear S0
      have S0 := S5
      clear S5
      refine use_next ?_
      try dsimp only
      refine use_seq (use_if ?_)
      refine ⟨_, rfl, rfl, _, rfl, ifF (by decide +kernel) ?_⟩
      refine use_next ?_
      try dsimp only
      refine use_seq (use_if ?_)
      refine ⟨_, rfl, rfl, _, rfl, ifF (by decide +kernel) ?_⟩
      refine use_next ?_
      try dsimp only
      refine use_ret ?_
      refine ⟨_, rfl, sz (by simp), fun p7 np7 => ⟨p7, _, rfl, .inr (.inl (.inl upd_same)), rfl, by decide +kernel, _, rfl, ifT (by decide +kernel) ?_⟩⟩
      have S8 := S0.trans (same_new (o := .tup [.str "noname", .str "nofile"]) np7)
      clear S0
      have S0 := S8
      clear S8
      refine use_oxf (C := cs 9) rfl (errAt_same he S0) (al.xf 9) al.f9_name look0 ⟨sz (by simp), fun q nq => k _ q (S0.trans (same_new nq)) upd_same⟩
    | ⟨10, _⟩, he, k, hcl =>
      obtain rfl : cl = "nofile" := hcl
      try dsimp only
      refine use_seq (use_if ?_)
      refine ⟨_, rfl, rfl, _, rfl, ifF (by decide +kernel) ?_⟩
      refine use_next ?_
      try dsimp only
      refine use_seq (use_if ?_)
      refine ⟨_, rfl, rfl, _, rfl, ifF (by decide +kernel) ?_⟩
      refine use_next ?_
      try dsimp only
      refine use_seq (use_if ?_)
      refine ⟨_, rfl, sz (by simp), fun p2 np2 => ⟨p2, _, rfl, .inr (.inl (.inl upd_same)), rfl, by decide +kernel, _, rfl, ifF (by decide +kernel) ?_⟩⟩
      have S3 := S0.trans (same_new (o := .tup [.str "nobytes", .str "noplace", .str "badtext"]) np2)
      clear S0
      have S0 := S3
      clear S3
      refine use_next ?_
      try dsimp only
      refine use_seq (use_if ?_)
      refine ⟨_, rfl, rfl, _, rfl, ifF (by decide +kernel) ?_⟩
      refine use_next ?_
      try dsimp only
      refine use_seq (use_if ?_)
      refine ⟨_, rfl, sz (by simp), fun p4 np4 => ⟨p4, _, rfl, .inr (.inl (.inl upd_same)), rfl, by decide +kernel, _, rfl, ifF (by decide +kernel) ?_⟩⟩
      have S5 := S0.trans (same_new (o := .tup [.str "nopart", .str "nofit"]) np4)
      clear S0
      have S0 := S5
      clear S5
      refine use_next ?_
      try dsimp only
      refine use_seq (use_if ?_)
      refine ⟨_, rfl, rfl, _, rfl, ifF (by decide +kernel) ?_⟩
      refine use_next ?_
      try dsimp only
      refine use_seq (use_if ?_)
      refine ⟨_, rfl, rfl, _, rfl, ifF (by decide +kernel) ?_⟩
      refine use_next ?_
      try dsimp only
      refine use_ret ?_
      refine ⟨_, rfl, sz (by simp), fun p7 np7 => ⟨p7, _, rfl, .inr (.inl (.inl upd_same)), rfl, by decide +kernel, _, rfl, ifT (by decide +kernel) ?_⟩⟩
      have S8 := S0.trans (same_new (o := .tup [.str "noname", .str "nofile"]) np7)
      clear S0
      have S0 := S8
      clear S8
      refine use_oxf (C := cs 10) rfl (errAt_same he S0) (al.xf 10) al.f10_name look0 ⟨sz (by simp), fun q nq => k _ q (S0.trans (same_new nq)) upd_same⟩
    | ⟨11, _⟩, he, k, hcl =>
      obtain rfl : cl = "noback" := hcl
      try dsimp only
      refine use_seq (use_if ?_)
      refine ⟨_, rfl, rfl, _, rfl, ifF (by decide +kernel) ?_⟩
      refine use_next ?_
      try dsimp only
      refine use_seq (use_if ?_)
      refine ⟨_, rfl, rfl, _, rfl, ifF (by decide +kernel) ?_⟩
      refine use_next ?_
      try dsimp only
      refine use_seq (use_if ?_)
      refine ⟨_, rfl, sz (by simp), fun p2 np2 => ⟨p2, _, rfl, .inr (.inl (.inl upd_same)), rfl, by decide +kernel, _, rfl, ifF (by decide +kernel) ?_⟩⟩
      have S3 := S0.trans (same_new (o := .tup [.str "nobytes", .str "noplace", .str "badtext"]) np2)
      clear S0
      have S0 := S3
      clear S3
      refine use_next ?_
      try dsimp only
      refine use_seq (use_if ?_)
      refine ⟨_, rfl, rfl, _, rfl, ifF (by decide +kernel) ?_⟩
      refine use_next ?_
      try dsimp only
      refine use_seq (use_if ?_)
      refine ⟨_, rfl, sz (by simp), fun p4 np4 => ⟨p4, _, rfl, .inr (.inl (.inl upd_same)), rfl, by decide +kernel, _, rfl, ifF (by decide +kernel) ?_⟩⟩
      have S5 := S0.trans (same_new (o := .tup [.str "nopart", .str "nofit"]) np4)
      clear S0
      have S0 := S5
      clear S5
      refine use_next ?_
      try dsimp only
      refine use_seq (use_if ?_)
      refine ⟨_, rfl, rfl, _, rfl, ifF (by decide +kernel) ?_⟩
      refine use_next ?_
      try dsimp only
      refine use_seq (use_if ?_)
      refine ⟨_, rfl, rfl, _, rfl, ifF (by decide +kernel) ?_⟩
      refine use_next ?_
      try dsimp only
      refine use_ret ?_
      refine ⟨_, rfl, sz (by simp), fun p7 np7 => ⟨p7, _, rfl, .inr (.inl (.inl upd_same)), rfl, by decide +kernel, _, rfl, ifF (by decide +kernel) ?_⟩⟩
      have S8 := S0.trans (same_new (o := .tup [.str "noname", .str "nofile"]) np7)
      clear S0
      have S0 := S8
      clear S8
      exact ⟨sz (by simp), fun q nq => k _ q (S0.trans (same_new nq)) upd_same⟩
    | ⟨12, _⟩, he, k, hcl =>
      obtain rfl : cl = "badtext" := hcl
      try dsimp only
      refine use_seq (use_if ?_)
      refine ⟨_, rfl, rfl, _, rfl, ifF (by decide +kernel) ?_⟩
      refine use_next ?_
      try dsimp only
      refine use_seq (use_if ?_)
      refine ⟨_, rfl, rfl, _, rfl, ifF (by decide +kernel) ?_⟩
      refine use_next ?_
      try dsimp only
      refine use_seq (use_if ?_)
      refine ⟨_, rfl, sz (by simp), fun p2 np2 => ⟨p2, _, rfl, .inr (.inl (.inl upd_same)), rfl, by decide +kernel, _, rfl, ifT (by decide +kernel) ?_⟩⟩
      have S3 := S0.trans (same_new (o := .tup [.str "nobytes", .str "noplace", .str "badtext"]) np2)
      clear S0
      have S0 := S3
      clear S3
      try dsimp only
      refine use_ret ?_
      refine use_oxf (C := cs 12) rfl (errAt_same he S0) (al.xf 12) al.f12_place look0 ⟨sz (by simp), fun q nq => k _ q (S0.trans (same_new nq)) upd_same⟩
def spClasses (cs : Fin 13 → Addr) : Sp := fun vs H Q _ => ∃ (e : Addr) (i : Fin 13) (fs : List (Str × V)), vs = [.ref e] ∧ ErrAt H e (cs i) fs ∧
  ∀ (H' : Hp) (q : Addr), Same H H' → H' q = some (.lst [.str (clE i)]) → Q (.ref q) H'
theorem use_isE {cs : Fin 13 → Addr} (al : Ask K mg cs) {σ : L2.St} {H : Hp} {Q : VK} {e : Addr} {i j : Fin 13} {fs : List (Str × V)} (he : ErrAt H e (cs i) fs) (hj : σ[0]? = some (some (.ref e))) (q : Q (.bl (decide (i = j))) H) : tCB (rIsErr K) (tCons (tVar 0) (tCons (tC (.ref (cs j))) tNil)) σ H Q :=
  ⟨_, hj, e, cs i, fs, .ref (cs j), .ref (cs j), _, rfl, he, al.err i, fun _ r => r, al.is i j, q⟩
theorem marks4 {cs : Fin 13 → Addr} (al : Ask K mg cs) {σ : L2.St} {H : Hp} {Q : VK} {e : Addr} {i j1 j2 j3 j4 : Fin 13} {fs : List (Str × V)} (he : ErrAt H e (cs i) fs) (hj : σ[0]? = some (some (.ref e)))
    (k : ∀ p, H p = none → Q (.ref p) (upd H p (.lst [.bl (decide (i = j1)), .bl (decide (i = j2)), .bl (decide (i = j3)), .bl (decide (i = j4))]))) :
    tLst (tCons (tCB (rIsErr K) (tCons (tVar 0) (tCons (tC (.ref (cs j1))) tNil))) (tCons (tCB (rIsErr K) (tCons (tVar 0) (tCons (tC (.ref (cs j2))) tNil))) (tCons (tCB (rIsErr K) (tCons (tVar 0) (tCons (tC (.ref (cs j3))) tNil)))
      (tCons (tCB (rIsErr K) (tCons (tVar 0) (tCons (tC (.ref (cs j4))) tNil))) tNil)))) σ H Q :=
  use_lst (use_cons (use_isE al he hj (use_cons (use_isE al he hj (use_cons (use_isE al he hj (use_cons (use_isE al he hj (use_nil ⟨sz (by simp), k⟩)))))))))
def all13 : List (Fin 13) := [0, 1, 2, 3, 4, 5, 6, 7, 8, 9, 10, 11, 12]
theorem only13 (i : Fin 13) : ((all13.take 13).filter fun j => decide (i = j)).map (fun j => V.str (clE j)) = [V.str (clE i)] := by
  have h : ∀ i : Fin 13, (all13.take 13).filter (fun j => decide (i = j)) = [i] := by decide
  rw [h]
  rfl
abbrev s__law_classes : Stmt := top 22
theorem sc__law_classes : FnScope ["_law_e", "_law_marks", "_law_all_called", "_law_called", "_law_mark"] ["_law_e"] (defScope s__law_classes) := ⟨rfl, rfl, rfl, by decide +kernel, rfl, by decide +kernel, by decide +kernel⟩
theorem ok_classes {cs : Fin 13 → Addr} (F : Fun K "_law_classes" "_law_classes" s__law_classes f fd) (T : Txt K mg) (al : Ask K mg cs) : FnOk P w K mg base CX0 1 f fd ["_law_e"] (spClasses cs) := by
  refine F.ok sc__law_classes (fun vs H Q E h => ?_) (fun cdv A outer st H vs Q E hr h => ?_)
  · obtain ⟨e, i, fs, rfl, _⟩ := h
    rfl
  · obtain ⟨e, i, fs, rfl, he, k⟩ := h
    refine ⟨_, (pss_cons (ps_set (i := 1) sc__law_classes.nd rfl (Or.inl rfl) (pe_lst (pa_cons (pe_callB call_isErr (by rfl) T.z_isinstance (by decide +kernel) (pa_cons (pv 0) (pa_cons (pe_glob (v := .ref (cs 0)) (by rfl) (al.mg 0) rfl) pa_nil))) (pa_cons (pe_callB call_isErr (by rfl) T.z_isinstance (by decide +kernel) (pa_cons (pv 0) (pa_cons (pe_glob (v := .ref (cs 1)) (by rfl) (al.mg 1) rfl) pa_nil))) (pa_cons (pe_callB call_isErr (by rfl) T.z_isinstance (by decide +kernel) (pa_cons (pv 0) (pa_cons (pe_glob (v := .ref (cs 2)) (by rfl) (al.mg 2) rfl) pa_nil))) (pa_cons (pe_callB call_isErr (by rfl) T.z_isinstance (by decide +kernel) (pa_cons (pv 0) (pa_cons (pe_glob (v := .ref (cs 3)) (by rfl) (al.mg 3) rfl) pa_nil))) pa_nil))))))
      (pss_cons (ps_set (i := 1) sc__law_classes.nd rfl (Or.inl rfl) (pe_op op_catS (pv 1) (pe_lst (pa_cons (pe_callB call_isErr (by rfl) T.z_isinstance (by decide +kernel) (pa_cons (pv 0) (pa_cons (pe_glob (v := .ref (cs 4)) (by rfl) (al.mg 4) rfl) pa_nil))) (pa_cons (pe_callB call_isErr (by rfl) T.z_isinstance (by decide +kernel) (pa_cons (pv 0) (pa_cons (pe_glob (v := .ref (cs 5)) (by rfl) (al.mg 5) rfl) pa_nil))) (pa_cons (pe_callB call_isErr (by rfl) T.z_isinstance (by decide +kernel) (pa_cons (pv 0) (pa_cons (pe_glob (v := .ref (cs 6)) (by rfl) (al.mg 6) rfl) pa_nil))) (pa_cons (pe_callB call_isErr (by rfl) T.z_isinstance (by decide +kernel) (pa_cons (pv 0) (pa_cons (pe_glob (v := .ref (cs 7)) (by rfl) (al.mg 7) rfl) pa_nil))) pa_nil)))))))
      (pss_cons (ps_set (i := 1) sc__law_classes.nd rfl (Or.inl rfl) (pe_op op_catS (pv 1) (pe_lst (pa_cons (pe_callB call_isErr (by rfl) T.z_isinstance (by decide +kernel) (pa_cons (pv 0) (pa_cons (pe_glob (v := .ref (cs 8)) (by rfl) (al.mg 8) rfl) pa_nil))) (pa_cons (pe_callB call_isErr (by rfl) T.z_isinstance (by decide +kernel) (pa_cons (pv 0) (pa_cons (pe_glob (v := .ref (cs 9)) (by rfl) (al.mg 9) rfl) pa_nil))) (pa_cons (pe_callB call_isErr (by rfl) T.z_isinstance (by decide +kernel) (pa_cons (pv 0) (pa_cons (pe_glob (v := .ref (cs 10)) (by rfl) (al.mg 10) rfl) pa_nil))) (pa_cons (pe_callB call_isErr (by rfl) T.z_isinstance (by decide +kernel) (pa_cons (pv 0) (pa_cons (pe_glob (v := .ref (cs 11)) (by rfl) (al.mg 11) rfl) pa_nil))) pa_nil)))))))
      (pss_cons (ps_set (i := 2) sc__law_classes.nd rfl (Or.inl rfl) (pe_lst (pa_cons pe_str (pa_cons pe_str (pa_cons pe_str (pa_cons pe_str (pa_cons pe_str (pa_cons pe_str (pa_cons pe_str (pa_cons pe_str (pa_cons pe_str (pa_cons pe_str pa_nil))))))))))))
      (pss_cons (ps_set (i := 2) sc__law_classes.nd rfl (Or.inl rfl) (pe_op op_catS (pv 2) (pe_lst (pa_cons pe_str (pa_cons pe_str (pa_cons pe_str pa_nil))))))
      (pss_one (ps_ret (pe_lc (own := [("_law_called", 3), ("_law_mark", 4)]) (g := (gTup K 2 (gCons (gName 3) (gCons (gName 4) gNil)))) rfl sc__law_classes.nd (pi_zip (by rfl) T.z_zip (pa_cons (pv 2) (pa_cons (pe_op op_catS (pv 1) (pe_lst (pa_cons (pe_callB call_isErr (by rfl) T.z_isinstance (by decide +kernel) (pa_cons (pv 0) (pa_cons (pe_glob (v := .ref (cs 12)) (by rfl) (al.mg 12) rfl) pa_nil))) pa_nil))) pa_nil))) (blkOk_by (N := ["_law_e", "_law_marks", "_law_all_called", "_law_called", "_law_mark"]) (sc := defScope s__law_classes) (by decide +kernel)) (fun _ _ _ _ _ => (pg_tup rfl (pgs_cons (pg_name (i := 3) sc__law_classes.nd rfl (Or.inl rfl)) (pgs_cons (pg_name (i := 4) sc__law_classes.nd rfl (Or.inl rfl)) pgs_nil)))) (fun _ _ _ _ _ => (pts_one (pt_val (pv 4)))) (fun _ _ _ _ _ => (pv 3)))))))))), ?_⟩
    refine use_seq (use_set (marks4 al he rfl fun p1 n1 => ?_))
    have S1 := same_new (o := .lst [.bl (decide (i = 0)), .bl (decide (i = 1)), .bl (decide (i = 2)), .bl (decide (i = 3))]) n1
    try dsimp only
    refine use_seq (use_set (use_op (use_var rfl (marks4 al (errAt_same he S1) rfl fun p2 n2 => ?_))))
    have S2 := S1.trans (same_new (o := .lst [.bl (decide (i = 4)), .bl (decide (i = 5)), .bl (decide (i = 6)), .bl (decide (i = 7))]) n2)
    refine ⟨p1, p2, _, _, rfl, rfl, SqL.of (same_new n2 _ _ upd_same), SqL.of upd_same, sz (by simp), fun p3 n3 => ?_⟩
    have S3 := S2.trans (same_new (o := .lst ([.bl (decide (i = 0)), .bl (decide (i = 1)), .bl (decide (i = 2)), .bl (decide (i = 3))] ++ [.bl (decide (i = 4)), .bl (decide (i = 5)), .bl (decide (i = 6)), .bl (decide (i = 7))])) n3)
    try dsimp only
    refine use_seq (use_set (use_op (use_var rfl (marks4 al (errAt_same he S3) rfl fun p4 n4 => ?_))))
    have S4 := S3.trans (same_new (o := .lst [.bl (decide (i = 8)), .bl (decide (i = 9)), .bl (decide (i = 10)), .bl (decide (i = 11))]) n4)
    refine ⟨p3, p4, _, _, rfl, rfl, SqL.of (same_new n4 _ _ upd_same), SqL.of upd_same, sz (by simp), fun p5 n5 => ?_⟩
    obtain ⟨H5, S5, e5, eH5⟩ : ∃ H5 : Hp, Same H H5 ∧ H5 p5 = some (.lst (([.bl (decide (i = 0)), .bl (decide (i = 1)), .bl (decide (i = 2)), .bl (decide (i = 3))] ++ [.bl (decide (i = 4)), .bl (decide (i = 5)), .bl (decide (i = 6)), .bl (decide (i = 7))]) ++ [.bl (decide (i = 8)), .bl (decide (i = 9)), .bl (decide (i = 10)), .bl (decide (i = 11))])) ∧ H5 = upd _ p5 (.lst (([.bl (decide (i = 0)), .bl (decide (i = 1)), .bl (decide (i = 2)), .bl (decide (i = 3))] ++ [.bl (decide (i = 4)), .bl (decide (i = 5)), .bl (decide (i = 6)), .bl (decide (i = 7))]) ++ [.bl (decide (i = 8)), .bl (decide (i = 9)), .bl (decide (i = 10)), .bl (decide (i = 11))])) := ⟨_, S4.trans (same_new (o := .lst (([.bl (decide (i = 0)), .bl (decide (i = 1)), .bl (decide (i = 2)), .bl (decide (i = 3))] ++ [.bl (decide (i = 4)), .bl (decide (i = 5)), .bl (decide (i = 6)), .bl (decide (i = 7))]) ++ [.bl (decide (i = 8)), .bl (decide (i = 9)), .bl (decide (i = 10)), .bl (decide (i = 11))])) n5), upd_same, rfl⟩
    rw [← eH5]
    replace e5 : H5 p5 = some (.lst ((all13.take 12).map fun j => V.bl (decide (i = j)))) := e5
    clear eH5 n5 S4 n4 S3 n3 S2 n2 S1 n1
    try dsimp only
    refine use_seq (use_set ⟨sz (by simp), fun p6 n6 => ?_⟩)
    try dsimp only
    refine use_seq (use_set (use_op (use_var rfl ⟨sz (by simp), fun p7 n7 => ⟨p6, p7, _, _, rfl, rfl, SqL.of (same_new n7 _ _ upd_same), SqL.of upd_same, sz (by simp), fun p8 n8 => ?_⟩⟩)))
    obtain ⟨H8, S8, e8, eH8⟩ : ∃ H8 : Hp, Same H5 H8 ∧ H8 p8 = some (.lst ([.str "novalue", .str "large", .str "nobytes", .str "torn", .str "nopart", .str "noplace", .str "noobject", .str "nofit", .str "badcount", .str "noname"] ++ [.str "nofile", .str "noback", .str "badtext"])) ∧ H8 = upd _ p8 (.lst ([.str "novalue", .str "large", .str "nobytes", .str "torn", .str "nopart", .str "noplace", .str "noobject", .str "nofit", .str "badcount", .str "noname"] ++ [.str "nofile", .str "noback", .str "badtext"])) := ⟨_, ((same_new n6).trans (same_new n7)).trans (same_new n8), upd_same, rfl⟩
    rw [← eH8]
    replace e8 : H8 p8 = some (.lst (all13.map fun j => V.str (clE j))) := e8
    clear eH8 n8 n7 n6
    have e58 := S8 _ _ e5
    have S58 := S5.trans S8
    try dsimp only
    refine use_ret ?_
    refine ⟨_, rfl, use_op (use_var rfl ?_)⟩
    refine use_lst (use_cons (use_isE al (errAt_same he S58) rfl (use_nil ⟨sz (by simp), fun p9 n9 => ?_⟩)))
    refine ⟨p5, p9, _, _, rfl, rfl, SqL.of (same_new n9 _ _ e58), SqL.of upd_same, sz (by simp [all13]), fun p10 n10 => ?_⟩
    have S10 := (same_new (o := .lst [.bl (decide (i = 12))]) n9).trans (same_new (o := .lst (((all13.take 12).map fun j => V.bl (decide (i = j))) ++ [.bl (decide (i = 12))])) n10)
    obtain ⟨H10, T10, e10, eH⟩ : ∃ H10 : Hp, Same H8 H10 ∧ H10 p10 = some (.lst (((all13.take 12).map fun j => V.bl (decide (i = j))) ++ [.bl (decide (i = 12))])) ∧ H10 = upd _ p10 (.lst (((all13.take 12).map fun j => V.bl (decide (i = j))) ++ [.bl (decide (i = 12))])) := ⟨_, S10, upd_same, rfl⟩
    rw [← eH]
    replace e10 : H10 p10 = some (.lst (all13.map fun j => V.bl (decide (i = j)))) := e10
    have e8' := T10 _ _ e8
    have S1 := S58.trans T10
    refine ⟨p8, p10, all13.map (fun j => V.str (clE j)), all13.map (fun j => V.bl (decide (i = j))), rfl, SqL.of e8', SqL.of e10, fun D nD => ?_⟩
    refine lc_it (walk_zip (K := K) (a := p8) (b := p10) (xs := all13.map fun j => V.str (clE j)) (ys := all13.map fun j => V.bl (decide (i = j))) (n := 13) rfl)
      (fun k H' => Same H10 H' ∧ H' D = some (.lst (((all13.take k).filter fun j => decide (i = j)).map fun j => V.str (clE j)))) ⟨same_new nD, upd_same⟩ (fun k H' _ ⟨sm, _⟩ => ⟨SqL.of (sm _ _ e8'), SqL.of (sm _ _ e10)⟩) ?_ ?_
    · rintro n x W1 W2 hn ⟨sm, hD⟩ ⟨t, u0, v0, rfl, nt, rfl, eu, ev⟩
      replace eu : (all13.map fun j => V.str (clE j))[n]? = some u0 := eu
      replace ev : (all13.map fun j => V.bl (decide (i = j)))[n]? = some v0 := ev
      obtain ⟨j, hj⟩ : ∃ j, all13[n]? = some j := ⟨_, List.getElem?_eq_getElem (show n < all13.length from hn)⟩
      rw [List.getElem?_map, hj] at eu ev
      cases eu
      cases ev
      have sm2 := sm.trans (same_new (o := .tup [V.str (clE j), V.bl (decide (i = j))]) nt)
      have hD2 := same_new (o := .tup [V.str (clE j), V.bl (decide (i = j))]) nt _ _ hD
      refine ⟨t, _, rfl, .inl (.inl upd_same), rfl, _, _, rfl, _, _, rfl, rfl, rfl, ?_⟩
      refine ⟨_, rfl, _, rfl, ?_⟩
      have tk : all13.take (n + 1) = all13.take n ++ [j] := by
        rw [List.take_succ, hj]
        rfl
      by_cases c : i = j
      · refine ifT (decide_eq_true c) ?_
        refine ⟨_, rfl, _, hD2, szl (by rw [List.length_map]; exact Nat.le_trans (List.length_filter_le ..) (Nat.le_trans (List.length_take_le ..) (by omega))), fun x o ex => ?_, ?_⟩
        · rw [upd_ne (ne_of_none ex nD)]
          exact sm2 x o ex
        · rw [upd_same, tk, List.filter_append, List.map_append, List.filter_cons_of_pos (by simpa using c)]
          rfl
      · refine ifF (decide_eq_false c) ⟨sm2, ?_⟩
        rw [hD2, tk, List.filter_append, List.filter_cons_of_neg (by simpa using c), List.filter_nil, List.append_nil]
    · rintro W1 ⟨sm, hD⟩
      refine k _ D (S1.trans sm) ?_
      rw [hD, only13]
end
end Q05


/-! values that are shown -/
namespace Q05
open PySem PySem.Spec PyProof.Rows L2 QT
/-- a small datum -/
structure Sm (d : PyData) : Prop where
  sh : d.showable = true
  nd : d.hasDict = false
  len : d.shown.length ≤ 1000
  dep : d.depth ≤ 10
structure Good (d : PyData) : Prop where
  sh : d.showable = true
  nd : d.hasDict = false
  len : d.shown.length ≤ sizeLine
  dep : d.depth ≤ 60
theorem good0 : Good (.list []) := ⟨by decide +kernel, by decide +kernel, by decide +kernel, by decide +kernel⟩
theorem good1 {d : PyData} (h : Sm d) : Good (.list [d]) := by
  refine ⟨?_, ?_, ?_, ?_⟩
  · show (d.showable && true) = true
    rw [h.sh]
    rfl
  · show (d.hasDict || false) = false
    rw [h.nd]
    rfl
  · refine Nat.le_trans (listText_len_le [d.shown]) ?_
    have := h.len
    rw [sizeLine_eq]
    show d.shown.length + 0 + 2 * 1 + 3 ≤ 16777216
    omega
  · have := h.dep
    show max d.depth 0 + 1 ≤ 60
    omega
theorem good2 {d e : PyData} (h : Sm d) (k : Sm e) : Good (.list [d, e]) := by
  refine ⟨?_, ?_, ?_, ?_⟩
  · show (d.showable && (e.showable && true)) = true
    rw [h.sh, k.sh]
    rfl
  · show (d.hasDict || (e.hasDict || false)) = false
    rw [h.nd, k.nd]
    rfl
  · refine Nat.le_trans (listText_len_le [d.shown, e.shown]) ?_
    have := h.len
    have := k.len
    rw [sizeLine_eq]
    show d.shown.length + (e.shown.length + 0) + 2 * 2 + 3 ≤ 16777216
    omega
  · have := h.dep
    have := k.dep
    show max d.depth (max e.depth 0) + 1 ≤ 60
    omega
theorem sm_int {n : Int} (h : 0 ≤ n) (h2 : n < 1000000000) : Sm (.int n) := by
  refine ⟨?_, rfl, ?_, ?_⟩
  · show decide (n.natAbs.log2 < 1920) = true
    rw [decide_eq_true_eq]
    by_cases z : n.natAbs = 0
    · rw [z]
      decide
    · refine Nat.lt_of_lt_of_le ((Nat.log2_lt z).mpr (show n.natAbs < 2 ^ 30 by omega)) (by decide)
  · exact Nat.le_trans (PyData.shown_int_le (by omega)) (by decide)
  · show 0 ≤ 10
    decide
/-- ints and texts -/
def toD : V → PyData
  | .int i => .int i
  | .str x => .str x
  | _ => .none
def isS : V → Bool
  | .int _ => true
  | .str _ => true
  | _ => false
theorem dpS {K : PySem.W.Frag} {H : Hp} {v : V} (h : isS v = true) : Dp K H v (toD v) := by
  cases v with
  | int i => exact .int i
  | str x => exact .str x
  | _ => cases h
theorem dpAllS {K : PySem.W.Frag} {H : Hp} : ∀ {xs : List V}, xs.all isS = true → DpAll K H xs (xs.map toD)
  | [], _ => .nil
  | v :: r, h => by
    rw [List.all_cons, Bool.and_eq_true] at h
    exact .cons (dpS h.1) (dpAllS h.2)
/-- a path that is drawn -/
def WayOK (K : PySem.W.Frag) (H : Hp) (v : V) : Prop := ∃ (p : Addr) (xs : List V), v = .ref p ∧ SqT K H p xs ∧ xs.all isS = true ∧ Sm (.tuple (xs.map toD))
theorem WayOK.same {K : PySem.W.Frag} {H H' : Hp} {v : V} (h : WayOK K H v) (s : Same H H') : WayOK K H' v := by
  obtain ⟨p, xs, a, b, c⟩ := h
  exact ⟨p, xs, a, sqT_same b s, c⟩
/-- what an error is due, as data -/
def dueD (way wd m : PyData) : Fin 13 → List PyData
  | ⟨0, _⟩ => [way]
  | ⟨1, _⟩ => [wd]
  | ⟨2, _⟩ => [m]
  | ⟨3, _⟩ => [wd, m]
  | ⟨4, _⟩ => [m]
  | ⟨5, _⟩ => [m]
  | ⟨6, _⟩ => [m]
  | ⟨7, _⟩ => [m]
  | ⟨8, _⟩ => [wd, m]
  | ⟨9, _⟩ => [wd]
  | ⟨10, _⟩ => [wd]
  | ⟨11, _⟩ => []
  | ⟨12, _⟩ => [m]
theorem due_dp {K : PySem.W.Frag} {H : Hp} {way wd m : V} {a b c : PyData} (h1 : Dp K H way a) (h2 : Dp K H wd b) (h3 : Dp K H m c) : ∀ i, DpAll K H (dueE way wd m i) (dueD a b c i)
  | ⟨0, _⟩ => .cons h1 .nil
  | ⟨1, _⟩ => .cons h2 .nil
  | ⟨2, _⟩ => .cons h3 .nil
  | ⟨3, _⟩ => .cons h2 (.cons h3 .nil)
  | ⟨4, _⟩ => .cons h3 .nil
  | ⟨5, _⟩ => .cons h3 .nil
  | ⟨6, _⟩ => .cons h3 .nil
  | ⟨7, _⟩ => .cons h3 .nil
  | ⟨8, _⟩ => .cons h2 (.cons h3 .nil)
  | ⟨9, _⟩ => .cons h2 .nil
  | ⟨10, _⟩ => .cons h2 .nil
  | ⟨11, _⟩ => .nil
  | ⟨12, _⟩ => .cons h3 .nil
theorem due_good {a b c : PyData} (h1 : Sm a) (h2 : Sm b) (h3 : Sm c) : ∀ i, Good (.list (dueD a b c i))
  | ⟨0, _⟩ => good1 h1
  | ⟨1, _⟩ => good1 h2
  | ⟨2, _⟩ => good1 h3
  | ⟨3, _⟩ => good2 h2 h3
  | ⟨4, _⟩ => good1 h3
  | ⟨5, _⟩ => good1 h3
  | ⟨6, _⟩ => good1 h3
  | ⟨7, _⟩ => good1 h3
  | ⟨8, _⟩ => good2 h2 h3
  | ⟨9, _⟩ => good1 h2
  | ⟨10, _⟩ => good1 h2
  | ⟨11, _⟩ => good0
  | ⟨12, _⟩ => good1 h3
theorem sm_w1 : Sm (.tuple (([] : List V).map toD)) := ⟨by decide +kernel, by decide +kernel, by decide +kernel, by decide +kernel⟩
theorem sm_w2 : Sm (.tuple ([V.int 0].map toD)) := ⟨by decide +kernel, by decide +kernel, by decide +kernel, by decide +kernel⟩
theorem sm_w3 : Sm (.tuple ([V.str "a", V.int 3].map toD)) := ⟨by decide +kernel, by decide +kernel, by decide +kernel, by decide +kernel⟩
theorem sm_w4 : Sm (.tuple ([V.str "", V.str "", V.int (10 ^ 20)].map toD)) := ⟨by decide +kernel, by decide +kernel, by decide +kernel, by decide +kernel⟩
theorem sm_w5 : Sm (.tuple (((List.replicate 3 [V.int 2, V.str "b"]).flatten).map toD)) := ⟨by decide +kernel, by decide +kernel, by decide +kernel, by decide +kernel⟩
theorem sm_big : Sm (.int (10 ^ 30)) := ⟨by decide +kernel, by decide +kernel, by decide +kernel, by decide +kernel⟩
def words7 : List Str := ["depth", "parts", "ring", "size", "nests", "a1", ""]
theorem sm_word : ∀ x ∈ words7, Sm (.str x) := by
  have h : ∀ x ∈ words7, (PyData.str x).shown.length ≤ 1000 := by decide +kernel
  exact fun x hx => ⟨rfl, rfl, h x hx, by show 0 ≤ 10; decide⟩
/-- side conditions; and the plain steps of a reading -/
local macro_rules | `(tactic| walk_at "sd") => `(tactic| first
  | assumption | decide | omega | exact b64 b01 | (show (0 : Int) < _; first | decide | omega) | exact ⟨by decide, by decide, by decide⟩ | exact ⟨by decide, by decide⟩ | exact ⟨by omega, by omega⟩
  | exact .inl ⟨by omega, by omega⟩ | exact .inr ⟨by omega, by omega⟩ | exact sz (by simp) | exact szl (by simp))
local macro_rules | `(tactic| walk_at "rd") => `(tactic| repeat (first
  | refine ⟨_, rfl, ?_⟩
  | refine ⟨_, _, rfl, rfl, ?_⟩
  | refine ⟨_, _, _, _, rfl, rfl, SqL.of (by first | assumption | exact upd_same), rfl, ?_⟩
  | refine .inl ⟨_, rfl, ?_⟩
  | refine .inr ⟨_, rfl, ?_⟩
  | refine ⟨_, _, _, _, rfl, rfl, (by first | assumption | exact upd_same), rfl, ?_⟩
  | refine And.intro (by walk_at "sd") ?_))
section
variable {P : Program}
end
end Q05


/-! right, the law -/
namespace Q05
open PySem PySem.Spec PyProof.Rows L2 QT
/-- told, of all classes -/
def Tolds (P : Program) (w : World) (K : PySem.W.Frag) (mg : Str → Option Value) (base : Heap) (cs : Fin 13 → Addr) : Prop := ∀ i, ∃ (f : Addr) (fd : FuncData), PySem.W.findIn K (.ref (cs i)) "told" = some (some (.ref f)) ∧ PySem.W.isFn K (.ref f) = true ∧ PySem.W.keepIn K (.ref f) = true ∧
  FnOk P w K mg base CX0 1 f fd ["self"] (spTold (tdE i)) ∧ Binds K fd ["self"] []
structure Top (K : PySem.W.Frag) (cs : Fin 13 → Addr) (CN : Addr) : Prop where
  isN : ∀ i, PySem.W.kitOne K (.ref (cs i)) (.ref CN) = some true
  isV : ∀ i, PySem.W.kitOne K (.ref (cs i)) (.type "ValueError") = some true
  veN : PySem.W.kitOne K (.type "ValueError") (.ref CN) = some false
def spRight : Sp := fun vs H Q _ => ∃ s : Addr, vs = [.ref s] ∧ Stt H s ∧ ∀ H' : Hp, Ext s H H' → Q (.bl true) H'
theorem shaped_cl : ∀ j, SeqAt.shaped (.list [.str (clE j)]) = true := by decide +kernel
theorem eq_cl : ∀ j, (!PyData.eqv (.list [.str (clE j)]) (.list [.str (clE j)])) = false := by decide +kernel
theorem len_cl : ∀ j, ("refused " : Str).length + (clE j).length ≤ sizeLine := by decide +kernel
theorem td_cl : ∀ j, tdE j = ("refused " : Str) ++ clE j := by decide +kernel
theorem eq_told (j : Fin 13) : (!decide (V.str (tdE j) = V.str (("refused " : Str) ++ clE j))) = false := by
  rw [td_cl j]
  simp
theorem look_told {way wd m : V} (j : Fin 13) : List.lookup ("told" : Str) (fdE way wd m j) = none := by
  match j with
  | ⟨0, _⟩ | ⟨1, _⟩ | ⟨2, _⟩ | ⟨4, _⟩ | ⟨5, _⟩ | ⟨6, _⟩ | ⟨7, _⟩ | ⟨9, _⟩ | ⟨10, _⟩ | ⟨12, _⟩ => exact (lookup_put _ _ _ _).trans (if_neg (by decide +kernel))
  | ⟨3, _⟩ | ⟨8, _⟩ => exact (lookup_put _ _ _ _).trans ((if_neg (by decide +kernel)).trans ((lookup_put _ _ _ _).trans (if_neg (by decide +kernel))))
  | ⟨11, _⟩ => rfl
theorem cut_ints (ms : List Int) (lo hi : Option Int) : ∃ ks : List Int, cutV (ms.map V.int) lo hi = ks.map V.int ∧ ks.length ≤ ms.length := by
  refine ⟨(ms.drop (HT.sIx (ms.map V.int).length 0 lo)).take (HT.sIx (ms.map V.int).length (ms.map V.int).length hi - HT.sIx (ms.map V.int).length 0 lo), ?_, ?_⟩
  · unfold cutV
    rw [List.map_take, List.map_drop]
  · rw [List.length_take, List.length_drop]
    omega
/-- a path that is drawn, apart from the state -/
def WayS (s : Addr) (H : Hp) (v : V) : Prop := ∃ (p : Addr) (xs : List V), v = .ref p ∧ p ≠ s ∧ H p = some (.tup xs) ∧ xs.all isS = true ∧ Sm (.tuple (xs.map toD))
theorem WayS.ext {s : Addr} {H H' : Hp} {v : V} (h : WayS s H v) (e : Ext s H H') : WayS s H' v := by
  obtain ⟨p, xs, a, n, b, c⟩ := h
  exact ⟨p, xs, a, n, e.keep _ _ n b, c⟩
/-- side conditions; and the plain steps of a reading -/
local macro_rules | `(tactic| walk_at "sd") => `(tactic| first
  | assumption | decide | omega | exact b64 b01 | (show (0 : Int) < _; first | decide | omega) | exact ⟨by decide, by decide, by decide⟩ | exact ⟨by decide, by decide⟩ | exact ⟨by omega, by omega⟩
  | exact .inl ⟨by omega, by omega⟩ | exact .inr ⟨by omega, by omega⟩ | exact sz (by simp) | exact szl (by simp))
local macro_rules | `(tactic| walk_at "rd") => `(tactic| repeat (first
  | refine ⟨_, rfl, ?_⟩
  | refine ⟨_, _, rfl, rfl, ?_⟩
  | refine ⟨_, _, _, _, rfl, rfl, SqL.of (by first | assumption | exact upd_same), rfl, ?_⟩
  | refine .inl ⟨_, rfl, ?_⟩
  | refine .inr ⟨_, rfl, ?_⟩
  | refine ⟨_, _, _, _, rfl, rfl, (by first | assumption | exact upd_same), rfl, ?_⟩
  | refine And.intro (by walk_at "sd") ?_))
section
variable {P : Program} {w : World} {K : PySem.W.Frag} {mg : Str → Option Value} {base : Heap} {f : Addr} {fd : FuncData}
abbrev s__law_right : Stmt := top 23
theorem sc__law_right : FnScope ["_law_source_here", "_law_way", "_law_some", "_law_many", "_law_e", "_law_called", "_law_due"] ["_law_source_here"] (defScope s__law_right) := ⟨rfl, rfl, rfl, by decide +kernel, rfl, by decide +kernel, by decide +kernel⟩
theorem ok_right {cs : Fin 13 → Addr} {CN : Addr} (F : Fun K "_law_right" "_law_right" s__law_right f fd) (T : Txt K mg) (mN : mg "NestError" = some (.ref CN)) (al : Ask K mg cs) (tp : Top K cs CN) (td : Tolds P w K mg base cs)
    (c_draw : Cal P w K mg base 1 "_law_draw" spDraw) (c_pick : Cal P w K mg base 2 "_law_pick" (spPick K)) (c_by_place : Cal P w K mg base 3 "_law_by_place" (spRows K cs)) (c_by_name : Cal P w K mg base 3 "_law_by_name" (spRows K cs))
    (c_classes : Cal P w K mg base 1 "_law_classes" (spClasses cs)) (c_fields : Cal P w K mg base 1 "_law_fields" (spFields cs)) : FnOkG P w K mg base 4 f fd ["_law_source_here"] spRight := by
  refine okG F sc__law_right (fun vs H Q E h => ?_) (fun cdv A outer st H vs Q E free hr h => ?_)
  · obtain ⟨s, rfl, _⟩ := h
    rfl
  · obtain ⟨s, rfl, hs, k⟩ := h
    have hu := hr.units
    refine ⟨_, (pss_cons (ps_set (i := 1) sc__law_right.nd rfl (Or.inl rfl) (pe_c c_pick hr (by decide) (by rfl) (pa_cons (pv 0) (pa_cons (pe_lst (pa_cons (pe_tup pa_nil) (pa_cons (pe_tup (pa_cons pe_int pa_nil)) (pa_cons (pe_tup (pa_cons pe_str (pa_cons pe_int pa_nil))) (pa_cons (pe_tup (pa_cons pe_str (pa_cons pe_str (pa_cons (pe_op op_pow pe_int pe_int) pa_nil)))) (pa_cons (pe_op op_repT (pe_tup (pa_cons pe_int (pa_cons pe_str pa_nil))) pe_int) pa_nil)))))) pa_nil))))
      (pss_cons (ps_set (i := 2) sc__law_right.nd rfl (Or.inl rfl) (pe_c c_pick hr (by decide) (by rfl) (pa_cons (pv 0) (pa_cons (pe_lst (pa_cons pe_str (pa_cons pe_str (pa_cons pe_str (pa_cons pe_str (pa_cons pe_str (pa_cons pe_str (pa_cons pe_str pa_nil)))))))) pa_nil))))
      (pss_cons (ps_set (i := 3) sc__law_right.nd rfl (Or.inl rfl) (pe_c c_pick hr (by decide) (by rfl) (pa_cons (pv 0) (pa_cons (pe_lst (pa_cons pe_int (pa_cons pe_int (pa_cons pe_int (pa_cons (pe_op op_pow pe_int pe_int) (pa_cons (pe_c c_draw hr (by decide) (by rfl) (pa_cons (pv 0) (pa_cons (pe_op op_pow pe_int pe_int) pa_nil))) pa_nil)))))) pa_nil))))
      (pss_cons (ps_for PassesOwn.never rfl (pi_list (pe_op op_catS (pe_c c_by_place hr (by decide) (by rfl) (pa_cons (pv 1) (pa_cons (pv 2) (pa_cons (pv 3) pa_nil)))) (pe_c c_by_name hr (by decide) (by rfl) (pa_cons (pv 1) (pa_cons (pv 2) (pa_cons (pv 3) pa_nil)))))) (pg_tup rfl (pgs_cons (pg_name (i := 4) sc__law_right.nd rfl (Or.inl rfl)) (pgs_cons (pg_name (i := 5) sc__law_right.nd rfl (Or.inl rfl)) (pgs_cons (pg_name (i := 6) sc__law_right.nd rfl (Or.inl rfl)) pgs_nil))))
      (pss_cons (ps_if (PW.pt (pw_or (pt_cmpR (op_neD hr.units) (pe_c c_classes hr (by decide) (by rfl) (pa_cons (pv 4) pa_nil)) (pe_lst (pa_cons (pv 5) pa_nil)) (nomark _)) (pw_or (pt_not (pt_val (pe_callB call_isErr (by rfl) T.z_isinstance (by decide +kernel) (pa_cons (pv 4) (pa_cons (pe_glob (v := .ref CN) (by rfl) mN rfl) pa_nil))))) (pw_or1 (pt_not (pt_val (pe_callB call_isErr (by rfl) T.z_isinstance (by decide +kernel) (pa_cons (pv 4) (pa_cons (pe_bltn (v := .ty "ValueError") (u := .type "ValueError") (by rfl) T.z_ValueError (by decide +kernel) rfl) pa_nil)))))))))
        (pss_one (ps_ret pe_bl))
        pss_nil)
        (pss_one (ps_if (PW.pt (pw_or (pt_cmpR op_ne (pe_callB (call_reprD free hu) (by rfl) T.z_repr (by decide +kernel) (pa_cons (pe_c c_fields hr (by decide) (by rfl) (pa_cons (pv 4) (pa_cons (pv 5) pa_nil))) pa_nil)) (pe_callB (call_reprD free hu) (by rfl) T.z_repr (by decide +kernel) (pa_cons (pv 6) pa_nil)) (nomark _)) (pw_or1 (pt_cmpR op_ne (pe_errM hr (pv 4)) (pe_op op_add_str pe_str (pv 5)) (nomark _)))))
        (pss_one (ps_ret pe_bl))
        pss_nil))))
      (pss_one (ps_ret (pe_not (pe_callB call_isVE (by rfl) T.z_isinstance (by decide +kernel) (pa_cons (pe_bex exb_ValueError (by rfl) T.z_ValueError (by decide +kernel) (pa_cons pe_str pa_nil)) (pa_cons (pe_glob (v := .ref CN) (by rfl) mN rfl) pa_nil)))))))))), ?_⟩
    try dsimp only
    refine use_seq (use_set (use_call (use_cons (use_var rfl (use_cons ?_)))))
    refine use_lst (use_cons ⟨sz (by simp), fun w1 m1 => use_cons ⟨sz (by simp), fun w2 m2 => use_cons ⟨sz (by simp), fun w3 m3 => use_cons ?_⟩⟩⟩)
    refine ⟨_, _, rfl, rfl, by walk_at "sd", sz (by simp), fun w4 m4 => use_cons ?_⟩
    refine ⟨sz (by simp), fun w5 m5 => ⟨w5, 3, _, rfl, rfl, .inl (.inl upd_same), by simp, by decide, by decide, by decide, fun w6 m6 => use_nil ⟨sz (by simp), fun l ml => ?_⟩⟩⟩
    have a1 := same_new (o := .tup []) m1
    have a2 := same_new (o := .tup [.int 0]) m2
    have a3 := same_new (o := .tup [.str "a", .int 3]) m3
    have a4 := same_new (o := .tup [.str "", .str "", .int (10 ^ 20)]) m4
    have a5 := same_new (o := .tup [.int 2, .str "b"]) m5
    have a6 := same_new (o := .tup ((List.replicate 3 [V.int 2, V.str "b"]).flatten)) m6
    have a7 := same_new (o := .lst [.ref w1, .ref w2, .ref w3, .ref w4, .ref w6]) ml
    have b6 := a6.trans a7
    have b5 := a5.trans b6
    have b4 := a4.trans b5
    have b3 := a3.trans b4
    have b2 := a2.trans b3
    have b1 := a1.trans b2
    have h1 : Stt _ s := hs.ex b1
    refine ⟨s, l, _, rfl, h1, (hs.ex ((((a1.trans a2).trans a3).trans a4).trans (a5.trans a6))).ne ml, SqL.of upd_same, by simp, by simp, fun G1 wv x1 hv => ?_⟩
    have n1 : w1 ≠ s := hs.ne m1
    have n2 : w2 ≠ s := (hs.ex a1).ne m2
    have n3 : w3 ≠ s := (hs.ex (a1.trans a2)).ne m3
    have n4 : w4 ≠ s := (hs.ex ((a1.trans a2).trans a3)).ne m4
    have n6 : w6 ≠ s := (hs.ex ((((a1.trans a2).trans a3).trans a4).trans a5)).ne m6
    have hw : WayS s G1 wv := by
      rcases List.mem_cons.mp hv with rfl | hv
      · exact ⟨w1, _, rfl, n1, x1.keep _ _ n1 (b2 _ _ upd_same), by decide, sm_w1⟩
      rcases List.mem_cons.mp hv with rfl | hv
      · exact ⟨w2, _, rfl, n2, x1.keep _ _ n2 (b3 _ _ upd_same), by decide, sm_w2⟩
      rcases List.mem_cons.mp hv with rfl | hv
      · exact ⟨w3, _, rfl, n3, x1.keep _ _ n3 (b4 _ _ upd_same), by decide, sm_w3⟩
      rcases List.mem_cons.mp hv with rfl | hv
      · exact ⟨w4, _, rfl, n4, x1.keep _ _ n4 (b5 _ _ upd_same), by decide, sm_w4⟩
      · rw [List.mem_singleton.mp hv]
        exact ⟨w6, _, rfl, n6, x1.keep _ _ n6 (a7 _ _ upd_same), by decide, sm_w5⟩
    have X1 := (Ext.of b1 hs).trans x1
    clear hv n1 n2 n3 n4 n6 h1 b1 b2 b3 b4 b5 b6 a1 a2 a3 a4 a5 a6 a7 x1 m1 m2 m3 m4 m5 m6 ml
    try dsimp only
    refine use_seq (use_set (use_call (use_cons (use_var rfl (use_cons ⟨sz (by simp), fun l2 ml2 => ?_⟩)))))
    refine ⟨s, l2, _, rfl, X1.st.ex (same_new ml2), X1.st.ne ml2, SqL.of upd_same, by simp, by simp, fun G2 sv x2 hv => ?_⟩
    obtain ⟨wd, hwd, rfl⟩ : ∃ wd, wd ∈ words7 ∧ sv = V.str wd := by
      have z : sv ∈ words7.map V.str := hv
      obtain ⟨y, y1, y2⟩ := List.mem_map.mp z
      exact ⟨y, y1, y2.symm⟩
    have e2 := ((Ext.refl X1.st).new ml2).trans x2
    have hw2 := hw.ext e2
    have X2 := X1.trans e2
    clear hw e2 X1 x2 hv ml2
    try dsimp only
    refine use_seq (use_set (use_call (use_cons (use_var rfl (use_cons ?_)))))
    refine use_lst (use_cons (use_c (use_cons (use_c (use_cons (use_c (use_cons ?_)))))))
    refine ⟨_, _, rfl, rfl, by walk_at "sd", use_cons (use_call ⟨_, rfl, _, _, rfl, rfl, by walk_at "sd", ?_⟩)⟩
    refine ⟨s, _, rfl, X2.st, by decide, by decide, fun G3 d x3 d0 d1 => ?_⟩
    replace d1 : d < 1000000000 := d1
    refine use_nil ⟨sz (by simp), fun l3 ml3 => ?_⟩
    refine ⟨s, l3, _, rfl, x3.st.ex (same_new ml3), x3.st.ne ml3, SqL.of upd_same, by simp, by simp, fun G4 mv x4 hv => ?_⟩
    obtain ⟨m, hm, rfl⟩ : ∃ m, Sm (.int m) ∧ mv = V.int m := by
      rcases List.mem_cons.mp hv with rfl | hv
      · exact ⟨_, sm_int (by decide) (by decide), rfl⟩
      rcases List.mem_cons.mp hv with rfl | hv
      · exact ⟨_, sm_int (by decide) (by decide), rfl⟩
      rcases List.mem_cons.mp hv with rfl | hv
      · exact ⟨_, sm_int (by decide) (by decide), rfl⟩
      rcases List.mem_cons.mp hv with rfl | hv
      · exact ⟨_, sm_big, rfl⟩
      · rw [List.mem_singleton.mp hv]
        exact ⟨_, sm_int d0 d1, rfl⟩
    have e4 := (x3.new ml3).trans x4
    have hw4 := hw2.ext e4
    have X4 := X2.trans e4
    clear hw2 e4 X2 x3 x4 hv ml3 d0 d1
    obtain ⟨p, xs, rfl, ps, hp, hx, smw⟩ := hw4
    try dsimp only
    refine use_seq ?_
    refine ⟨_, rfl, _, rfl, _, rfl, p, xs, wd, m, rfl, .inl (.inl hp), fun G5 q1 L1 nq1 S1 eq1 R1 l1 => ?_⟩
    refine ⟨_, rfl, _, rfl, _, rfl, p, xs, wd, m, rfl, .inl (.inl (S1 _ _ hp)), fun G6 q2 L2 nq2 S2 eq2 R2 l2' => ?_⟩
    refine ⟨q1, q2, L1, L2, rfl, rfl, SqL.of (S2 _ _ eq1), SqL.of eq2, sz (by omega), fun q3 nq3 => ?_⟩
    refine ⟨q3, rfl, ⟨_, SqL.of upd_same⟩, ?_⟩
    have S3 := (S1.trans S2).trans (same_new (o := .lst (L1 ++ L2)) nq3)
    have R : Rows cs (.ref p) (.str wd) (.int m) (upd G6 q3 (.lst (L1 ++ L2))) none (L1 ++ L2) := ((R1.same S2).app R2).same (same_new nq3)
    have e3 : (upd G6 q3 (.lst (L1 ++ L2))) q3 = some (.lst (L1 ++ L2)) := upd_same
    have hll : (L1 ++ L2).length ≤ 26 := by
      rw [List.length_append]
      omega
    generalize upd G6 q3 (.lst (L1 ++ L2)) = Hs at S3 R e3 ⊢
    generalize L1 ++ L2 = LL at R e3 hll ⊢
    have XH := X4.ex S3
    have hps := S3 _ _ hp
    clear R1 R2 eq1 eq2 nq1 nq2 nq3 l1 l2' S1 S2
    refine for_it (walk_list (K := K) (a := q3) (xs := LL)) (fun i σ H' => ∃ o4 o5 o6 : Option V, σ = [some (.ref s), some (.ref p), some (.str wd), some (.int m), o4, o5, o6] ∧ Same Hs H')
      ⟨none, none, none, rfl, Same.refl _⟩ (fun _ _ _ _ ⟨_, _, _, _, sm⟩ => SqL.of (sm _ _ e3)) ?_ ?_
    · rintro i x σ G0 G1' hi ⟨o4, o5, o6, rfl, sm0⟩ ⟨rfl, hx0⟩
      obtain ⟨j, e, u, _, t, rfl, r2, r3, r4⟩ := (R.same sm0) x (List.mem_of_getElem? hx0)
      refine ⟨t, _, rfl, .inl (.inl r2), rfl, _, _, rfl, _, _, rfl, _, _, rfl, rfl, ?_⟩
      try dsimp only
      refine use_seq (use_if ?_)
      refine ⟨_, rfl, e, j, _, rfl, r4, fun H2 q S2 hq => ⟨_, rfl, sz (by simp), fun q' nq' => ?_⟩⟩
      have T2 := S2.trans (same_new (o := .lst [.str (clE j)]) nq')
      refine ⟨.list [.str (clE j)], .list [.str (clE j)], .lst (SqL.of (same_new nq' _ _ hq)) (.cons (.str _) .nil), .lst (SqL.of upd_same) (.cons (.str _) .nil), shaped_cl j, shaped_cl j, _, rfl, ifF (eq_cl j) ?_⟩
      have r4' := errAt_same r4 T2
      refine ⟨_, rfl, e, cs j, _, .ref CN, .ref CN, true, rfl, r4', al.err j, fun _ r => r, tp.isN j, true, rfl, ifF rfl ?_⟩
      refine ⟨_, rfl, e, cs j, _, .ty "ValueError", .type "ValueError", true, rfl, r4', al.err j, fun _ r => r, tp.isV j, true, rfl, ifF rfl ?_⟩
      refine use_next ?_
      try dsimp only
      refine use_if ?_
      have smb := sm_word wd hwd
      have good := due_good smw smb hm j
      refine ⟨_, rfl, _, rfl, e, j, .ref p, .str wd, .int m, _, rfl, rfl, r4', fun H3 q3' S3' hq3 => ?_⟩
      have T3 := T2.trans S3'
      have hp3 := T3 _ _ (sm0 _ _ hps)
      have dp3 : DpAll K H3 (dueE (.ref p) (.str wd) (.int m) j) (dueD (.tuple (xs.map toD)) (.str wd) (.int m) j) := due_dp (.tup (.inl (.inl hp3)) (dpAllS hx)) (.str wd) (.int m) j
      refine ⟨q3', .list (dueD (.tuple (xs.map toD)) (.str wd) (.int m) j), rfl, .lst (SqL.of hq3) dp3, good.sh, good.nd, good.len, good.dep, ?_⟩
      refine ⟨_, rfl, u, .list (dueD (.tuple (xs.map toD)) (.str wd) (.int m) j), rfl, .lst (SqL.of (T3 _ _ r3)) dp3, good.sh, good.nd, good.len, good.dep, ?_⟩
      refine ⟨rfl, _, rfl, ifF (by simp) ?_⟩
      obtain ⟨fT, gT, t1, t2, t3, t4, t5⟩ := td j
      refine ⟨_, rfl, e, cs j, fT, _, gT, _, 1, _, rfl, errAt_same r4 T3, al.err j, look_told j, t1, t2, t3, t4, by decide, t5, e, rfl, ?_⟩
      refine ⟨_, rfl, _, _, rfl, rfl, len_cl j, rfl, _, rfl, ifF (eq_told j) ?_⟩
      refine use_next ?_
      exact ⟨_, _, _, rfl, sm0.trans T3⟩
    · rintro σ G0 ⟨o4, o5, o6, rfl, sm0⟩
      try dsimp only
      refine use_ret ?_
      refine ⟨sz (by simp), fun a na => ⟨a, .ref CN, .ref CN, false, rfl, upd_same, fun _ r => r, tp.veN, _, rfl, ?_⟩⟩
      exact k _ ((XH.ex sm0).new na)
def spLaw (K : PySem.W.Frag) : Sp := fun vs H Q _ => ∃ (a : Addr) (ns : List Int), vs = [.ref a] ∧ SqL K H a (ns.map V.int) ∧ ns.length ≤ 63 ∧ ∀ H', Q (.bl true) H'
abbrev s_law : Stmt := top 24
theorem sc_law : FnScope ["_law_script", "_law_cell", "_law_source_here"] ["_law_script"] (defScope s_law) := ⟨rfl, rfl, rfl, by decide +kernel, rfl, by decide +kernel, by decide +kernel⟩
theorem ok_law (F : Fun K "law" "law" s_law f fd) (T : Txt K mg) (c_source : Cal P w K mg base 1 "_law_source" spSource) (c_right : CalG P w K mg base 4 "_law_right" spRight) : FnOkG P w K mg base 5 f fd ["_law_script"] (spLaw K) := by
  refine okG F sc_law (fun vs H Q E h => ?_) (fun cdv A outer st H vs Q E free hr h => ?_)
  · obtain ⟨a, ns, rfl, _⟩ := h
    rfl
  · obtain ⟨a, ns, rfl, hs, hl, k⟩ := h
    refine ⟨_, (pss_cons (ps_for PassesOwn.never rfl (pi_list (pe_slice sl_list (pe_op op_catS (pv 0) (pe_lst (pa_cons pe_int pa_nil))) po_none (po_some pe_int))) (pg_name (i := 1) sc_law.nd rfl (Or.inl rfl))
      (pss_cons (ps_set (i := 2) sc_law.nd rfl (Or.inl rfl) (pe_c c_source hr (by decide) (by rfl) (pa_cons (pv 1) pa_nil)))
        (pss_one (ps_if (pt_not (pt_val (pe_cG c_right free hr (by decide) (by rfl) (pa_cons (pv 2) pa_nil))))
        (pss_one (ps_ret pe_bl))
        pss_nil))))
      (pss_one (ps_ret pe_bl))), ?_⟩
    refine use_seq ?_
    refine ⟨_, rfl, sz (by simp), fun l1 n1 => ⟨a, l1, _, _, rfl, rfl, (same_new n1).seq hs, SqL.of upd_same, sz (by rw [List.length_map]; simp; omega), fun l2 n2 => ⟨_, rfl, l2, _, rfl, SqL.of upd_same, fun u nu => ?_⟩⟩⟩
    have e1 : ns.map V.int ++ [V.int 0] = (ns ++ [0]).map V.int := by
      rw [List.map_append]
      rfl
    rw [e1]
    obtain ⟨ks, ek, kl⟩ := cut_ints (ns ++ [0]) none (some 4)
    rw [ek]
    refine ⟨u, rfl, ⟨_, SqL.of upd_same⟩, ?_⟩
    generalize hH0 : upd (upd (upd H l1 (.lst [.int 0])) l2 (.lst ((ns ++ [0]).map V.int))) u (.lst (ks.map V.int)) = Hs
    have hu : Hs u = some (.lst (ks.map V.int)) := by
      rw [← hH0]
      exact upd_same
    refine for_it (walk_list (K := K) (a := u) (xs := ks.map V.int)) (fun i σ H' => ∃ o1 o2 : Option V, σ = [some (.ref a), o1, o2] ∧ Same Hs H')
      ⟨none, none, rfl, Same.refl _⟩ (fun _ _ _ _ ⟨_, _, _, sm⟩ => SqL.of (sm _ _ hu)) ?_ ?_
    · rintro i x σ G0 G1 hi ⟨o1, o2, rfl, sm0⟩ ⟨rfl, hx⟩
      rw [List.length_map] at hi
      obtain ⟨n, rfl⟩ : ∃ n, x = V.int n := by
        rw [List.getElem?_map, List.getElem?_eq_getElem hi] at hx
        exact ⟨_, (Option.some.inj hx).symm⟩
      try dsimp only
      refine use_seq ?_
      refine ⟨_, rfl, n, rfl, fun G2 s ns2 s2 st2 => ?_⟩
      have s0 : Hs s = none := sm0.free ns2
      have sm2 : Same Hs G2 := sm0.trans s2
      try dsimp only
      refine use_if ?_
      refine ⟨_, rfl, s, rfl, st2, fun G3 x3 => ⟨_, rfl, ifF rfl ?_⟩⟩
      refine use_next ?_
      exact ⟨_, _, rfl, same_of_ext s0 sm2 x3⟩
    · rintro σ G0 ⟨o1, o2, rfl, sm0⟩
      exact k _
end
end Q05


/-! the end -/
namespace Q05
open PySem PySem.Spec PyProof.Rows L2 QT
def mkcs (a0 a1 a2 a3 a4 a5 a6 a7 a8 a9 a10 a11 a12 : Addr) : Fin 13 → Addr
  | ⟨0, _⟩ => a0
  | ⟨1, _⟩ => a1
  | ⟨2, _⟩ => a2
  | ⟨3, _⟩ => a3
  | ⟨4, _⟩ => a4
  | ⟨5, _⟩ => a5
  | ⟨6, _⟩ => a6
  | ⟨7, _⟩ => a7
  | ⟨8, _⟩ => a8
  | ⟨9, _⟩ => a9
  | ⟨10, _⟩ => a10
  | ⟨11, _⟩ => a11
  | ⟨12, _⟩ => a12
theorem mem13 : ∀ j : Fin 13, j ∈ all13 := by decide
theorem row13 {K : PySem.W.Frag} {cs : Fin 13 → Addr} {i : Fin 13} (h : (all13.map fun j => PySem.W.subIn K (.ref (cs i)) (.ref (cs j))) = all13.map fun j => some (decide (i = j))) (j : Fin 13) : PySem.W.subIn K (.ref (cs i)) (.ref (cs j)) = some (decide (i = j)) :=
  List.map_inj_left.mp h j (mem13 j)
theorem all_of13 {α : Type} {f : Fin 13 → α} {y : α} (h : all13.map f = all13.map fun _ => y) (j : Fin 13) : f j = y := List.map_inj_left.mp h j (mem13 j)
theorem isT {K : PySem.W.Frag} {C : Addr} (h2 : PySem.W.isClsIn K C = true) (h3 : PySem.W.typeIn K (.ref C) = some (.type "type")) : ((PySem.W.clsIn K C).isSome && PySem.W.typeIn K (.ref C) == some (.type "type")) = true := by
  have y3 : (PySem.W.clsIn K C).isSome = true := h2
  rw [y3, h3]
  rfl
theorem kit_ref {K : PySem.W.Frag} {v : Value} {C : Addr} (h2 : PySem.W.isClsIn K C = true) (h3 : PySem.W.typeIn K (.ref C) = some (.type "type")) (h4 : PySem.W.subIn K v (.ref C) = some true) : PySem.W.kitOne K v (.ref C) = some true := by
  unfold PySem.W.kitOne PySem.W.kitCls
  split
  · rfl
  · dsimp only
    rw [if_pos (isT h2 h3)]
    exact h4
theorem kit_ve {K : PySem.W.Frag} {C : Addr} (h4 : PySem.W.subIn K (.ref C) (.type "ValueError") = some true) : PySem.W.kitOne K (.ref C) (.type "ValueError") = some true := by
  unfold PySem.W.kitOne PySem.W.kitCls
  split
  · rfl
  · dsimp only
    rw [if_pos (by decide +kernel)]
    exact h4
theorem kit_veN {K : PySem.W.Frag} {C : Addr} (h2 : PySem.W.isClsIn K C = true) (h3 : PySem.W.typeIn K (.ref C) = some (.type "type")) (h4 : PySem.W.subIn K (.type "ValueError") (.ref C) = some false) : PySem.W.kitOne K (.type "ValueError") (.ref C) = some false := by
  unfold PySem.W.kitOne PySem.W.kitCls
  rw [if_neg (by simp)]
  dsimp only
  rw [if_pos (isT h2 h3)]
  exact h4
theorem kit13 {K : PySem.W.Frag} {cs : Fin 13 → Addr} (su : ∀ i j, PySem.W.subIn K (.ref (cs i)) (.ref (cs j)) = some (decide (i = j))) (hic : ∀ i, PySem.W.isClsIn K (cs i) = true) (hty : ∀ i, PySem.W.typeIn K (.ref (cs i)) = some (.type "type")) (i j : Fin 13) :
    PySem.W.kitOne K (.ref (cs i)) (.ref (cs j)) = some (decide (i = j)) := by
  by_cases e : i = j
  · subst e
    rw [decide_eq_true rfl]
    exact kit_ref (hic i) (hty i) (by rw [su, decide_eq_true rfl])
  · rw [decide_eq_false e]
    unfold PySem.W.kitOne PySem.W.kitCls
    rw [if_neg]
    · dsimp only
      rw [if_pos (isT (hic j) (hty j)), su, decide_eq_false e]
    · intro z
      have z' : Value.ref (cs i) = Value.ref (cs j) := by simpa using z
      have w1 := su i j
      rw [← z', su i i, decide_eq_true rfl, decide_eq_false e] at w1
      cases w1
theorem fn_is {K : PySem.W.Frag} {v : Value} (h : PySem.W.typeIn K v = some (.type "function")) : PySem.W.isFn K v = true := by
  unfold PySem.W.isFn
  rw [h]
  rfl
theorem kb_of1 {fd : FuncData} {k : Str} (h : ∀ (s : Shared) (v u : Value), BindsTo s fd ⟨[v], [(k, u)]⟩ [("self", v), (k, u)]) : ∀ k', [("self" : Str), k] = [("self" : Str), k'] → KwB fd ["self", k] [k'] id := fun k' e => by
  cases e
  intro s v ws hl
  match ws, hl with
  | [u], _ => exact h s v u
theorem kb_no1 {fd : FuncData} {k : Str} : ∀ k' j, [("self" : Str), k] = [("self" : Str), k', j] → KwB fd ["self", k] [j, k'] sw := fun k' j e => by cases e
theorem kb_of2 {fd : FuncData} {k j : Str} (h : ∀ (s : Shared) (v u z : Value), BindsTo s fd ⟨[v], [(j, u), (k, z)]⟩ [("self", v), (k, z), (j, u)]) : ∀ k' j', [("self" : Str), k, j] = [("self" : Str), k', j'] → KwB fd ["self", k, j] [j', k'] sw := fun k' j' e => by
  cases e
  intro s v ws hl
  match ws, hl with
  | [u, z], _ => exact h s v u z
theorem kb_no2 {fd : FuncData} {k j : Str} : ∀ k', [("self" : Str), k, j] = [("self" : Str), k'] → KwB fd ["self", k, j] [k'] id := fun k' e => by cases e
theorem all_mk {P : Program} {w : World} {K : PySem.W.Frag} {h : Heap} {mg : Str → Option Value} {fa fSo fDr fPi fBp fBn fFi fCl fRi fLa fTA fIA fTB fIB fTC fIC fTD fID fTE fIE fTF fIF fTG fIG fTH fIH fTI fII fTJ fIJ fTK fIK fTL fTM fIM CN CA CB CC CD CE CF CG CH CI CJ CK CL CM : Addr} (X : K.In h) (G : h.Ns mainGlobals mg) (hfa : mg "law" = some (.ref fa))
    {odSo anSo odDr anDr odPi anPi odBp anBp odBn anBn odFi anFi odCl anCl odRi anRi odLa anLa odTA anTA odIA anIA odTB anTB odIB anIB odTC anTC odIC anIC odTD anTD odID anID odTE anTE odIE anIE odTF anTF odIF anIF odTG anTG odIG anIG odTH anTH odIH anIH odTI anTI odII anII odTJ anTJ odIJ anIJ odTK anTK odIK anIK odTL anTL odTM anTM odIM anIM : Option Addr} {slSo slDr slPi slBp slBn slFi slCl slRi slLa slTA slIA slTB slIB slTC slIC slTD slID slTE slIE slTF slIF slTG slIG slTH slIH slTI slII slTJ slIJ slTK slIK slTL slTM slIM : Array (Option Value)} {ocSo kVSo dcSo pmSo cdSo ctSo ocDr kVDr dcDr pmDr cdDr ctDr ocPi kVPi dcPi pmPi cdPi ctPi ocBp kVBp dcBp pmBp cdBp ctBp ocBn kVBn dcBn pmBn cdBn ctBn ocFi kVFi dcFi pmFi cdFi ctFi ocCl kVCl dcCl pmCl cdCl ctCl ocRi kVRi dcRi pmRi cdRi ctRi ocLa kVLa dcLa pmLa cdLa ctLa ocTA kVTA dcTA pmTA cdTA ctTA ocIA kVIA dcIA pmIA cdIA ctIA ocTB kVTB dcTB pmTB cdTB ctTB ocIB kVIB dcIB pmIB cdIB ctIB ocTC kVTC dcTC pmTC cdTC ctTC ocIC kVIC dcIC pmIC cdIC ctIC ocTD kVTD dcTD pmTD cdTD ctTD ocID kVID dcID pmID cdID ctID ocTE kVTE dcTE pmTE cdTE ctTE ocIE kVIE dcIE pmIE cdIE ctIE ocTF kVTF dcTF pmTF cdTF ctTF ocIF kVIF dcIF pmIF cdIF ctIF ocTG kVTG dcTG pmTG cdTG ctTG ocIG kVIG dcIG pmIG cdIG ctIG ocTH kVTH dcTH pmTH cdTH ctTH ocIH kVIH dcIH pmIH cdIH ctIH ocTI kVTI dcTI pmTI cdTI ctTI ocII kVII dcII pmII cdII ctII ocTJ kVTJ dcTJ pmTJ cdTJ ctTJ ocIJ kVIJ dcIJ pmIJ cdIJ ctIJ ocTK kVTK dcTK pmTK cdTK ctTK ocIK kVIK dcIK pmIK cdIK ctIK ocTL kVTL dcTL pmTL cdTL ctTL ocTM kVTM dcTM pmTM cdTM ctTM ocIM kVIM dcIM pmIM cdIM ctIM : Value}
    {nmN qN : Str} {NN : Addr} {bsN subN bmN : List Value} {snN : List Str} {abN : Bool} {colN : Option Bool} {ddN : Option Addr} {m0N m1N m2N m3N m5N : Option Value}
    {nmA qA : Str} {NA : Addr} {bsA subA bmA : List Value} {snA : List Str} {abA : Bool} {colA : Option Bool} {ddA : Option Addr} {m0A m1A m2A m3A m5A : Option Value}
    {nmB qB : Str} {NB : Addr} {bsB subB bmB : List Value} {snB : List Str} {abB : Bool} {colB : Option Bool} {ddB : Option Addr} {m0B m1B m2B m3B m5B : Option Value}
    {nmC qC : Str} {NC : Addr} {bsC subC bmC : List Value} {snC : List Str} {abC : Bool} {colC : Option Bool} {ddC : Option Addr} {m0C m1C m2C m3C m5C : Option Value}
    {nmD qD : Str} {ND : Addr} {bsD subD bmD : List Value} {snD : List Str} {abD : Bool} {colD : Option Bool} {ddD : Option Addr} {m0D m1D m2D m3D m5D : Option Value}
    {nmE qE : Str} {NE : Addr} {bsE subE bmE : List Value} {snE : List Str} {abE : Bool} {colE : Option Bool} {ddE : Option Addr} {m0E m1E m2E m3E m5E : Option Value}
    {nmF qF : Str} {NF : Addr} {bsF subF bmF : List Value} {snF : List Str} {abF : Bool} {colF : Option Bool} {ddF : Option Addr} {m0F m1F m2F m3F m5F : Option Value}
    {nmG qG : Str} {NG : Addr} {bsG subG bmG : List Value} {snG : List Str} {abG : Bool} {colG : Option Bool} {ddG : Option Addr} {m0G m1G m2G m3G m5G : Option Value}
    {nmH qH : Str} {NH : Addr} {bsH subH bmH : List Value} {snH : List Str} {abH : Bool} {colH : Option Bool} {ddH : Option Addr} {m0H m1H m2H m3H m5H : Option Value}
    {nmI qI : Str} {NI : Addr} {bsI subI bmI : List Value} {snI : List Str} {abI : Bool} {colI : Option Bool} {ddI : Option Addr} {m0I m1I m2I m3I m5I : Option Value}
    {nmJ qJ : Str} {NJ : Addr} {bsJ subJ bmJ : List Value} {snJ : List Str} {abJ : Bool} {colJ : Option Bool} {ddJ : Option Addr} {m0J m1J m2J m3J m5J : Option Value}
    {nmK qK : Str} {NK : Addr} {bsK subK bmK : List Value} {snK : List Str} {abK : Bool} {colK : Option Bool} {ddK : Option Addr} {m0K m1K m2K m3K m5K : Option Value}
    {nmL qL : Str} {NL : Addr} {bsL subL bmL : List Value} {snL : List Str} {abL : Bool} {colL : Option Bool} {ddL : Option Addr} {m0L m1L m2L m3L m5L : Option Value}
    {nmM qM : Str} {NM : Addr} {bsM subM bmM : List Value} {snM : List Str} {abM : Bool} {colM : Option Bool} {ddM : Option Addr} {m0M m1M m2M m3M m5M : Option Value}
    (gN : PySem.W.nsIn K mainGlobals "NestError" = some (some (.ref CN)))
    (xN : K.lookup CN = some (excClassObj nmN qN CN NN bsN bmN true snN subN abN colN ddN m0N m1N m2N m3N m5N "ValueError.__new__"))
    (rN : PySem.HandSPX.refsVE bmN = true)
    (saN : PySem.W.findIn K (.ref CN) "__setattr__" = some (some (.builtin "object.__setattr__")))
    (gaN : PySem.W.findIn K (.ref CN) "__getattribute__" = some (some (.builtin "BaseException.__getattribute__")))
    (ggN : PySem.W.findIn K (.ref CN) "__getattr__" = some none)
    (keN : PySem.W.keepIn K (.ref CN) = true)
    (beN : PySem.W.subIn K (.ref CN) (.type "BaseException") = some true)
    (tyN : PySem.W.typeIn K (.ref CN) = some (.type "type"))
    (hdN : PySem.W.hasDictIn K CN = true)
    (icN : PySem.W.isClsIn K CN = true)
    (gA : PySem.W.nsIn K mainGlobals "NoValue" = some (some (.ref CA)))
    (xA : K.lookup CA = some (excClassObj nmA qA CA NA bsA bmA true snA subA abA colA ddA m0A m1A m2A m3A m5A "ValueError.__new__"))
    (rA : PySem.HandSPX.refsVE bmA = true)
    (saA : PySem.W.findIn K (.ref CA) "__setattr__" = some (some (.builtin "object.__setattr__")))
    (gaA : PySem.W.findIn K (.ref CA) "__getattribute__" = some (some (.builtin "BaseException.__getattribute__")))
    (ggA : PySem.W.findIn K (.ref CA) "__getattr__" = some none)
    (keA : PySem.W.keepIn K (.ref CA) = true)
    (beA : PySem.W.subIn K (.ref CA) (.type "BaseException") = some true)
    (tyA : PySem.W.typeIn K (.ref CA) = some (.type "type"))
    (hdA : PySem.W.hasDictIn K CA = true)
    (icA : PySem.W.isClsIn K CA = true)
    (nA_path : PySem.W.findIn K (.ref CA) "path" = some none)
    (gB : PySem.W.nsIn K mainGlobals "Large" = some (some (.ref CB)))
    (xB : K.lookup CB = some (excClassObj nmB qB CB NB bsB bmB true snB subB abB colB ddB m0B m1B m2B m3B m5B "ValueError.__new__"))
    (rB : PySem.HandSPX.refsVE bmB = true)
    (saB : PySem.W.findIn K (.ref CB) "__setattr__" = some (some (.builtin "object.__setattr__")))
    (gaB : PySem.W.findIn K (.ref CB) "__getattribute__" = some (some (.builtin "BaseException.__getattribute__")))
    (ggB : PySem.W.findIn K (.ref CB) "__getattr__" = some none)
    (keB : PySem.W.keepIn K (.ref CB) = true)
    (beB : PySem.W.subIn K (.ref CB) (.type "BaseException") = some true)
    (tyB : PySem.W.typeIn K (.ref CB) = some (.type "type"))
    (hdB : PySem.W.hasDictIn K CB = true)
    (icB : PySem.W.isClsIn K CB = true)
    (nB_what : PySem.W.findIn K (.ref CB) "what" = some none)
    (gC : PySem.W.nsIn K mainGlobals "NoBytes" = some (some (.ref CC)))
    (xC : K.lookup CC = some (excClassObj nmC qC CC NC bsC bmC true snC subC abC colC ddC m0C m1C m2C m3C m5C "ValueError.__new__"))
    (rC : PySem.HandSPX.refsVE bmC = true)
    (saC : PySem.W.findIn K (.ref CC) "__setattr__" = some (some (.builtin "object.__setattr__")))
    (gaC : PySem.W.findIn K (.ref CC) "__getattribute__" = some (some (.builtin "BaseException.__getattribute__")))
    (ggC : PySem.W.findIn K (.ref CC) "__getattr__" = some none)
    (keC : PySem.W.keepIn K (.ref CC) = true)
    (beC : PySem.W.subIn K (.ref CC) (.type "BaseException") = some true)
    (tyC : PySem.W.typeIn K (.ref CC) = some (.type "type"))
    (hdC : PySem.W.hasDictIn K CC = true)
    (icC : PySem.W.isClsIn K CC = true)
    (nC_place : PySem.W.findIn K (.ref CC) "place" = some none)
    (gD : PySem.W.nsIn K mainGlobals "Torn" = some (some (.ref CD)))
    (xD : K.lookup CD = some (excClassObj nmD qD CD ND bsD bmD true snD subD abD colD ddD m0D m1D m2D m3D m5D "ValueError.__new__"))
    (rD : PySem.HandSPX.refsVE bmD = true)
    (saD : PySem.W.findIn K (.ref CD) "__setattr__" = some (some (.builtin "object.__setattr__")))
    (gaD : PySem.W.findIn K (.ref CD) "__getattribute__" = some (some (.builtin "BaseException.__getattribute__")))
    (ggD : PySem.W.findIn K (.ref CD) "__getattr__" = some none)
    (keD : PySem.W.keepIn K (.ref CD) = true)
    (beD : PySem.W.subIn K (.ref CD) (.type "BaseException") = some true)
    (tyD : PySem.W.typeIn K (.ref CD) = some (.type "type"))
    (hdD : PySem.W.hasDictIn K CD = true)
    (icD : PySem.W.isClsIn K CD = true)
    (nD_word : PySem.W.findIn K (.ref CD) "word" = some none)
    (nD_place : PySem.W.findIn K (.ref CD) "place" = some none)
    (gE : PySem.W.nsIn K mainGlobals "NoPart" = some (some (.ref CE)))
    (xE : K.lookup CE = some (excClassObj nmE qE CE NE bsE bmE true snE subE abE colE ddE m0E m1E m2E m3E m5E "ValueError.__new__"))
    (rE : PySem.HandSPX.refsVE bmE = true)
    (saE : PySem.W.findIn K (.ref CE) "__setattr__" = some (some (.builtin "object.__setattr__")))
    (gaE : PySem.W.findIn K (.ref CE) "__getattribute__" = some (some (.builtin "BaseException.__getattribute__")))
    (ggE : PySem.W.findIn K (.ref CE) "__getattr__" = some none)
    (keE : PySem.W.keepIn K (.ref CE) = true)
    (beE : PySem.W.subIn K (.ref CE) (.type "BaseException") = some true)
    (tyE : PySem.W.typeIn K (.ref CE) = some (.type "type"))
    (hdE : PySem.W.hasDictIn K CE = true)
    (icE : PySem.W.isClsIn K CE = true)
    (nE_length : PySem.W.findIn K (.ref CE) "length" = some none)
    (gF : PySem.W.nsIn K mainGlobals "NoPlace" = some (some (.ref CF)))
    (xF : K.lookup CF = some (excClassObj nmF qF CF NF bsF bmF true snF subF abF colF ddF m0F m1F m2F m3F m5F "ValueError.__new__"))
    (rF : PySem.HandSPX.refsVE bmF = true)
    (saF : PySem.W.findIn K (.ref CF) "__setattr__" = some (some (.builtin "object.__setattr__")))
    (gaF : PySem.W.findIn K (.ref CF) "__getattribute__" = some (some (.builtin "BaseException.__getattribute__")))
    (ggF : PySem.W.findIn K (.ref CF) "__getattr__" = some none)
    (keF : PySem.W.keepIn K (.ref CF) = true)
    (beF : PySem.W.subIn K (.ref CF) (.type "BaseException") = some true)
    (tyF : PySem.W.typeIn K (.ref CF) = some (.type "type"))
    (hdF : PySem.W.hasDictIn K CF = true)
    (icF : PySem.W.isClsIn K CF = true)
    (nF_place : PySem.W.findIn K (.ref CF) "place" = some none)
    (gG : PySem.W.nsIn K mainGlobals "NoObject" = some (some (.ref CG)))
    (xG : K.lookup CG = some (excClassObj nmG qG CG NG bsG bmG true snG subG abG colG ddG m0G m1G m2G m3G m5G "ValueError.__new__"))
    (rG : PySem.HandSPX.refsVE bmG = true)
    (saG : PySem.W.findIn K (.ref CG) "__setattr__" = some (some (.builtin "object.__setattr__")))
    (gaG : PySem.W.findIn K (.ref CG) "__getattribute__" = some (some (.builtin "BaseException.__getattribute__")))
    (ggG : PySem.W.findIn K (.ref CG) "__getattr__" = some none)
    (keG : PySem.W.keepIn K (.ref CG) = true)
    (beG : PySem.W.subIn K (.ref CG) (.type "BaseException") = some true)
    (tyG : PySem.W.typeIn K (.ref CG) = some (.type "type"))
    (hdG : PySem.W.hasDictIn K CG = true)
    (icG : PySem.W.isClsIn K CG = true)
    (nG_number : PySem.W.findIn K (.ref CG) "number" = some none)
    (gH : PySem.W.nsIn K mainGlobals "NoFit" = some (some (.ref CH)))
    (xH : K.lookup CH = some (excClassObj nmH qH CH NH bsH bmH true snH subH abH colH ddH m0H m1H m2H m3H m5H "ValueError.__new__"))
    (rH : PySem.HandSPX.refsVE bmH = true)
    (saH : PySem.W.findIn K (.ref CH) "__setattr__" = some (some (.builtin "object.__setattr__")))
    (gaH : PySem.W.findIn K (.ref CH) "__getattribute__" = some (some (.builtin "BaseException.__getattribute__")))
    (ggH : PySem.W.findIn K (.ref CH) "__getattr__" = some none)
    (keH : PySem.W.keepIn K (.ref CH) = true)
    (beH : PySem.W.subIn K (.ref CH) (.type "BaseException") = some true)
    (tyH : PySem.W.typeIn K (.ref CH) = some (.type "type"))
    (hdH : PySem.W.hasDictIn K CH = true)
    (icH : PySem.W.isClsIn K CH = true)
    (nH_length : PySem.W.findIn K (.ref CH) "length" = some none)
    (gI : PySem.W.nsIn K mainGlobals "BadCount" = some (some (.ref CI)))
    (xI : K.lookup CI = some (excClassObj nmI qI CI NI bsI bmI true snI subI abI colI ddI m0I m1I m2I m3I m5I "ValueError.__new__"))
    (rI : PySem.HandSPX.refsVE bmI = true)
    (saI : PySem.W.findIn K (.ref CI) "__setattr__" = some (some (.builtin "object.__setattr__")))
    (gaI : PySem.W.findIn K (.ref CI) "__getattribute__" = some (some (.builtin "BaseException.__getattribute__")))
    (ggI : PySem.W.findIn K (.ref CI) "__getattr__" = some none)
    (keI : PySem.W.keepIn K (.ref CI) = true)
    (beI : PySem.W.subIn K (.ref CI) (.type "BaseException") = some true)
    (tyI : PySem.W.typeIn K (.ref CI) = some (.type "type"))
    (hdI : PySem.W.hasDictIn K CI = true)
    (icI : PySem.W.isClsIn K CI = true)
    (nI_what : PySem.W.findIn K (.ref CI) "what" = some none)
    (nI_count : PySem.W.findIn K (.ref CI) "count" = some none)
    (gJ : PySem.W.nsIn K mainGlobals "NoName" = some (some (.ref CJ)))
    (xJ : K.lookup CJ = some (excClassObj nmJ qJ CJ NJ bsJ bmJ true snJ subJ abJ colJ ddJ m0J m1J m2J m3J m5J "ValueError.__new__"))
    (rJ : PySem.HandSPX.refsVE bmJ = true)
    (saJ : PySem.W.findIn K (.ref CJ) "__setattr__" = some (some (.builtin "object.__setattr__")))
    (gaJ : PySem.W.findIn K (.ref CJ) "__getattribute__" = some (some (.builtin "BaseException.__getattribute__")))
    (ggJ : PySem.W.findIn K (.ref CJ) "__getattr__" = some none)
    (keJ : PySem.W.keepIn K (.ref CJ) = true)
    (beJ : PySem.W.subIn K (.ref CJ) (.type "BaseException") = some true)
    (tyJ : PySem.W.typeIn K (.ref CJ) = some (.type "type"))
    (hdJ : PySem.W.hasDictIn K CJ = true)
    (icJ : PySem.W.isClsIn K CJ = true)
    (nJ_name : PySem.W.findIn K (.ref CJ) "name" = some none)
    (gK : PySem.W.nsIn K mainGlobals "NoFile" = some (some (.ref CK)))
    (xK : K.lookup CK = some (excClassObj nmK qK CK NK bsK bmK true snK subK abK colK ddK m0K m1K m2K m3K m5K "ValueError.__new__"))
    (rK : PySem.HandSPX.refsVE bmK = true)
    (saK : PySem.W.findIn K (.ref CK) "__setattr__" = some (some (.builtin "object.__setattr__")))
    (gaK : PySem.W.findIn K (.ref CK) "__getattribute__" = some (some (.builtin "BaseException.__getattribute__")))
    (ggK : PySem.W.findIn K (.ref CK) "__getattr__" = some none)
    (keK : PySem.W.keepIn K (.ref CK) = true)
    (beK : PySem.W.subIn K (.ref CK) (.type "BaseException") = some true)
    (tyK : PySem.W.typeIn K (.ref CK) = some (.type "type"))
    (hdK : PySem.W.hasDictIn K CK = true)
    (icK : PySem.W.isClsIn K CK = true)
    (nK_name : PySem.W.findIn K (.ref CK) "name" = some none)
    (gL : PySem.W.nsIn K mainGlobals "NoBack" = some (some (.ref CL)))
    (xL : K.lookup CL = some (excClassObj nmL qL CL NL bsL bmL true snL subL abL colL ddL m0L m1L m2L m3L m5L "ValueError.__new__"))
    (rL : PySem.HandSPX.refsVE bmL = true)
    (saL : PySem.W.findIn K (.ref CL) "__setattr__" = some (some (.builtin "object.__setattr__")))
    (gaL : PySem.W.findIn K (.ref CL) "__getattribute__" = some (some (.builtin "BaseException.__getattribute__")))
    (ggL : PySem.W.findIn K (.ref CL) "__getattr__" = some none)
    (keL : PySem.W.keepIn K (.ref CL) = true)
    (beL : PySem.W.subIn K (.ref CL) (.type "BaseException") = some true)
    (tyL : PySem.W.typeIn K (.ref CL) = some (.type "type"))
    (hdL : PySem.W.hasDictIn K CL = true)
    (icL : PySem.W.isClsIn K CL = true)
    (gM : PySem.W.nsIn K mainGlobals "BadText" = some (some (.ref CM)))
    (xM : K.lookup CM = some (excClassObj nmM qM CM NM bsM bmM true snM subM abM colM ddM m0M m1M m2M m3M m5M "ValueError.__new__"))
    (rM : PySem.HandSPX.refsVE bmM = true)
    (saM : PySem.W.findIn K (.ref CM) "__setattr__" = some (some (.builtin "object.__setattr__")))
    (gaM : PySem.W.findIn K (.ref CM) "__getattribute__" = some (some (.builtin "BaseException.__getattribute__")))
    (ggM : PySem.W.findIn K (.ref CM) "__getattr__" = some none)
    (keM : PySem.W.keepIn K (.ref CM) = true)
    (beM : PySem.W.subIn K (.ref CM) (.type "BaseException") = some true)
    (tyM : PySem.W.typeIn K (.ref CM) = some (.type "type"))
    (hdM : PySem.W.hasDictIn K CM = true)
    (icM : PySem.W.isClsIn K CM = true)
    (nM_place : PySem.W.findIn K (.ref CM) "place" = some none)
    (z_len : PySem.W.nsIn K mainGlobals "len" = some none)
    (z_abs : PySem.W.nsIn K mainGlobals "abs" = some none)
    (z_int : PySem.W.nsIn K mainGlobals "int" = some none)
    (z_tuple : PySem.W.nsIn K mainGlobals "tuple" = some none)
    (z_isinstance : PySem.W.nsIn K mainGlobals "isinstance" = some none)
    (z_zip : PySem.W.nsIn K mainGlobals "zip" = some none)
    (z_repr : PySem.W.nsIn K mainGlobals "repr" = some none)
    (z_ValueError : PySem.W.nsIn K mainGlobals "ValueError" = some none)
    (srA : [PySem.W.subIn K (.ref CA) (.ref CA), PySem.W.subIn K (.ref CA) (.ref CB), PySem.W.subIn K (.ref CA) (.ref CC), PySem.W.subIn K (.ref CA) (.ref CD), PySem.W.subIn K (.ref CA) (.ref CE), PySem.W.subIn K (.ref CA) (.ref CF), PySem.W.subIn K (.ref CA) (.ref CG), PySem.W.subIn K (.ref CA) (.ref CH), PySem.W.subIn K (.ref CA) (.ref CI), PySem.W.subIn K (.ref CA) (.ref CJ), PySem.W.subIn K (.ref CA) (.ref CK), PySem.W.subIn K (.ref CA) (.ref CL), PySem.W.subIn K (.ref CA) (.ref CM)] = [some true, some false, some false, some false, some false, some false, some false, some false, some false, some false, some false, some false, some false])
    (srB : [PySem.W.subIn K (.ref CB) (.ref CA), PySem.W.subIn K (.ref CB) (.ref CB), PySem.W.subIn K (.ref CB) (.ref CC), PySem.W.subIn K (.ref CB) (.ref CD), PySem.W.subIn K (.ref CB) (.ref CE), PySem.W.subIn K (.ref CB) (.ref CF), PySem.W.subIn K (.ref CB) (.ref CG), PySem.W.subIn K (.ref CB) (.ref CH), PySem.W.subIn K (.ref CB) (.ref CI), PySem.W.subIn K (.ref CB) (.ref CJ), PySem.W.subIn K (.ref CB) (.ref CK), PySem.W.subIn K (.ref CB) (.ref CL), PySem.W.subIn K (.ref CB) (.ref CM)] = [some false, some true, some false, some false, some false, some false, some false, some false, some false, some false, some false, some false, some false])
    (srC : [PySem.W.subIn K (.ref CC) (.ref CA), PySem.W.subIn K (.ref CC) (.ref CB), PySem.W.subIn K (.ref CC) (.ref CC), PySem.W.subIn K (.ref CC) (.ref CD), PySem.W.subIn K (.ref CC) (.ref CE), PySem.W.subIn K (.ref CC) (.ref CF), PySem.W.subIn K (.ref CC) (.ref CG), PySem.W.subIn K (.ref CC) (.ref CH), PySem.W.subIn K (.ref CC) (.ref CI), PySem.W.subIn K (.ref CC) (.ref CJ), PySem.W.subIn K (.ref CC) (.ref CK), PySem.W.subIn K (.ref CC) (.ref CL), PySem.W.subIn K (.ref CC) (.ref CM)] = [some false, some false, some true, some false, some false, some false, some false, some false, some false, some false, some false, some false, some false])
    (srD : [PySem.W.subIn K (.ref CD) (.ref CA), PySem.W.subIn K (.ref CD) (.ref CB), PySem.W.subIn K (.ref CD) (.ref CC), PySem.W.subIn K (.ref CD) (.ref CD), PySem.W.subIn K (.ref CD) (.ref CE), PySem.W.subIn K (.ref CD) (.ref CF), PySem.W.subIn K (.ref CD) (.ref CG), PySem.W.subIn K (.ref CD) (.ref CH), PySem.W.subIn K (.ref CD) (.ref CI), PySem.W.subIn K (.ref CD) (.ref CJ), PySem.W.subIn K (.ref CD) (.ref CK), PySem.W.subIn K (.ref CD) (.ref CL), PySem.W.subIn K (.ref CD) (.ref CM)] = [some false, some false, some false, some true, some false, some false, some false, some false, some false, some false, some false, some false, some false])
    (srE : [PySem.W.subIn K (.ref CE) (.ref CA), PySem.W.subIn K (.ref CE) (.ref CB), PySem.W.subIn K (.ref CE) (.ref CC), PySem.W.subIn K (.ref CE) (.ref CD), PySem.W.subIn K (.ref CE) (.ref CE), PySem.W.subIn K (.ref CE) (.ref CF), PySem.W.subIn K (.ref CE) (.ref CG), PySem.W.subIn K (.ref CE) (.ref CH), PySem.W.subIn K (.ref CE) (.ref CI), PySem.W.subIn K (.ref CE) (.ref CJ), PySem.W.subIn K (.ref CE) (.ref CK), PySem.W.subIn K (.ref CE) (.ref CL), PySem.W.subIn K (.ref CE) (.ref CM)] = [some false, some false, some false, some false, some true, some false, some false, some false, some false, some false, some false, some false, some false])
    (srF : [PySem.W.subIn K (.ref CF) (.ref CA), PySem.W.subIn K (.ref CF) (.ref CB), PySem.W.subIn K (.ref CF) (.ref CC), PySem.W.subIn K (.ref CF) (.ref CD), PySem.W.subIn K (.ref CF) (.ref CE), PySem.W.subIn K (.ref CF) (.ref CF), PySem.W.subIn K (.ref CF) (.ref CG), PySem.W.subIn K (.ref CF) (.ref CH), PySem.W.subIn K (.ref CF) (.ref CI), PySem.W.subIn K (.ref CF) (.ref CJ), PySem.W.subIn K (.ref CF) (.ref CK), PySem.W.subIn K (.ref CF) (.ref CL), PySem.W.subIn K (.ref CF) (.ref CM)] = [some false, some false, some false, some false, some false, some true, some false, some false, some false, some false, some false, some false, some false])
    (srG : [PySem.W.subIn K (.ref CG) (.ref CA), PySem.W.subIn K (.ref CG) (.ref CB), PySem.W.subIn K (.ref CG) (.ref CC), PySem.W.subIn K (.ref CG) (.ref CD), PySem.W.subIn K (.ref CG) (.ref CE), PySem.W.subIn K (.ref CG) (.ref CF), PySem.W.subIn K (.ref CG) (.ref CG), PySem.W.subIn K (.ref CG) (.ref CH), PySem.W.subIn K (.ref CG) (.ref CI), PySem.W.subIn K (.ref CG) (.ref CJ), PySem.W.subIn K (.ref CG) (.ref CK), PySem.W.subIn K (.ref CG) (.ref CL), PySem.W.subIn K (.ref CG) (.ref CM)] = [some false, some false, some false, some false, some false, some false, some true, some false, some false, some false, some false, some false, some false])
    (srH : [PySem.W.subIn K (.ref CH) (.ref CA), PySem.W.subIn K (.ref CH) (.ref CB), PySem.W.subIn K (.ref CH) (.ref CC), PySem.W.subIn K (.ref CH) (.ref CD), PySem.W.subIn K (.ref CH) (.ref CE), PySem.W.subIn K (.ref CH) (.ref CF), PySem.W.subIn K (.ref CH) (.ref CG), PySem.W.subIn K (.ref CH) (.ref CH), PySem.W.subIn K (.ref CH) (.ref CI), PySem.W.subIn K (.ref CH) (.ref CJ), PySem.W.subIn K (.ref CH) (.ref CK), PySem.W.subIn K (.ref CH) (.ref CL), PySem.W.subIn K (.ref CH) (.ref CM)] = [some false, some false, some false, some false, some false, some false, some false, some true, some false, some false, some false, some false, some false])
    (srI : [PySem.W.subIn K (.ref CI) (.ref CA), PySem.W.subIn K (.ref CI) (.ref CB), PySem.W.subIn K (.ref CI) (.ref CC), PySem.W.subIn K (.ref CI) (.ref CD), PySem.W.subIn K (.ref CI) (.ref CE), PySem.W.subIn K (.ref CI) (.ref CF), PySem.W.subIn K (.ref CI) (.ref CG), PySem.W.subIn K (.ref CI) (.ref CH), PySem.W.subIn K (.ref CI) (.ref CI), PySem.W.subIn K (.ref CI) (.ref CJ), PySem.W.subIn K (.ref CI) (.ref CK), PySem.W.subIn K (.ref CI) (.ref CL), PySem.W.subIn K (.ref CI) (.ref CM)] = [some false, some false, some false, some false, some false, some false, some false, some false, some true, some false, some false, some false, some false])
    (srJ : [PySem.W.subIn K (.ref CJ) (.ref CA), PySem.W.subIn K (.ref CJ) (.ref CB), PySem.W.subIn K (.ref CJ) (.ref CC), PySem.W.subIn K (.ref CJ) (.ref CD), PySem.W.subIn K (.ref CJ) (.ref CE), PySem.W.subIn K (.ref CJ) (.ref CF), PySem.W.subIn K (.ref CJ) (.ref CG), PySem.W.subIn K (.ref CJ) (.ref CH), PySem.W.subIn K (.ref CJ) (.ref CI), PySem.W.subIn K (.ref CJ) (.ref CJ), PySem.W.subIn K (.ref CJ) (.ref CK), PySem.W.subIn K (.ref CJ) (.ref CL), PySem.W.subIn K (.ref CJ) (.ref CM)] = [some false, some false, some false, some false, some false, some false, some false, some false, some false, some true, some false, some false, some false])
    (srK : [PySem.W.subIn K (.ref CK) (.ref CA), PySem.W.subIn K (.ref CK) (.ref CB), PySem.W.subIn K (.ref CK) (.ref CC), PySem.W.subIn K (.ref CK) (.ref CD), PySem.W.subIn K (.ref CK) (.ref CE), PySem.W.subIn K (.ref CK) (.ref CF), PySem.W.subIn K (.ref CK) (.ref CG), PySem.W.subIn K (.ref CK) (.ref CH), PySem.W.subIn K (.ref CK) (.ref CI), PySem.W.subIn K (.ref CK) (.ref CJ), PySem.W.subIn K (.ref CK) (.ref CK), PySem.W.subIn K (.ref CK) (.ref CL), PySem.W.subIn K (.ref CK) (.ref CM)] = [some false, some false, some false, some false, some false, some false, some false, some false, some false, some false, some true, some false, some false])
    (srL : [PySem.W.subIn K (.ref CL) (.ref CA), PySem.W.subIn K (.ref CL) (.ref CB), PySem.W.subIn K (.ref CL) (.ref CC), PySem.W.subIn K (.ref CL) (.ref CD), PySem.W.subIn K (.ref CL) (.ref CE), PySem.W.subIn K (.ref CL) (.ref CF), PySem.W.subIn K (.ref CL) (.ref CG), PySem.W.subIn K (.ref CL) (.ref CH), PySem.W.subIn K (.ref CL) (.ref CI), PySem.W.subIn K (.ref CL) (.ref CJ), PySem.W.subIn K (.ref CL) (.ref CK), PySem.W.subIn K (.ref CL) (.ref CL), PySem.W.subIn K (.ref CL) (.ref CM)] = [some false, some false, some false, some false, some false, some false, some false, some false, some false, some false, some false, some true, some false])
    (srM : [PySem.W.subIn K (.ref CM) (.ref CA), PySem.W.subIn K (.ref CM) (.ref CB), PySem.W.subIn K (.ref CM) (.ref CC), PySem.W.subIn K (.ref CM) (.ref CD), PySem.W.subIn K (.ref CM) (.ref CE), PySem.W.subIn K (.ref CM) (.ref CF), PySem.W.subIn K (.ref CM) (.ref CG), PySem.W.subIn K (.ref CM) (.ref CH), PySem.W.subIn K (.ref CM) (.ref CI), PySem.W.subIn K (.ref CM) (.ref CJ), PySem.W.subIn K (.ref CM) (.ref CK), PySem.W.subIn K (.ref CM) (.ref CL), PySem.W.subIn K (.ref CM) (.ref CM)] = [some false, some false, some false, some false, some false, some false, some false, some false, some false, some false, some false, some false, some true])
    (sn : [PySem.W.subIn K (.ref CA) (.ref CN), PySem.W.subIn K (.ref CB) (.ref CN), PySem.W.subIn K (.ref CC) (.ref CN), PySem.W.subIn K (.ref CD) (.ref CN), PySem.W.subIn K (.ref CE) (.ref CN), PySem.W.subIn K (.ref CF) (.ref CN), PySem.W.subIn K (.ref CG) (.ref CN), PySem.W.subIn K (.ref CH) (.ref CN), PySem.W.subIn K (.ref CI) (.ref CN), PySem.W.subIn K (.ref CJ) (.ref CN), PySem.W.subIn K (.ref CK) (.ref CN), PySem.W.subIn K (.ref CL) (.ref CN), PySem.W.subIn K (.ref CM) (.ref CN)] = [some true, some true, some true, some true, some true, some true, some true, some true, some true, some true, some true, some true, some true])
    (sv : [PySem.W.subIn K (.ref CA) (.type "ValueError"), PySem.W.subIn K (.ref CB) (.type "ValueError"), PySem.W.subIn K (.ref CC) (.type "ValueError"), PySem.W.subIn K (.ref CD) (.type "ValueError"), PySem.W.subIn K (.ref CE) (.type "ValueError"), PySem.W.subIn K (.ref CF) (.type "ValueError"), PySem.W.subIn K (.ref CG) (.type "ValueError"), PySem.W.subIn K (.ref CH) (.type "ValueError"), PySem.W.subIn K (.ref CI) (.type "ValueError"), PySem.W.subIn K (.ref CJ) (.type "ValueError"), PySem.W.subIn K (.ref CK) (.type "ValueError"), PySem.W.subIn K (.ref CL) (.type "ValueError"), PySem.W.subIn K (.ref CM) (.type "ValueError")] = [some true, some true, some true, some true, some true, some true, some true, some true, some true, some true, some true, some true, some true])
    (so : [PySem.W.mroIn K CA (.type "object"), PySem.W.mroIn K CB (.type "object"), PySem.W.mroIn K CC (.type "object"), PySem.W.mroIn K CD (.type "object"), PySem.W.mroIn K CE (.type "object"), PySem.W.mroIn K CF (.type "object"), PySem.W.mroIn K CG (.type "object"), PySem.W.mroIn K CH (.type "object"), PySem.W.mroIn K CI (.type "object"), PySem.W.mroIn K CJ (.type "object"), PySem.W.mroIn K CK (.type "object"), PySem.W.mroIn K CL (.type "object"), PySem.W.mroIn K CM (.type "object")] = [some true, some true, some true, some true, some true, some true, some true, some true, some true, some true, some true, some true, some true])
    (sc : [PySem.W.findIn K (.ref CA) "__class__", PySem.W.findIn K (.ref CB) "__class__", PySem.W.findIn K (.ref CC) "__class__", PySem.W.findIn K (.ref CD) "__class__", PySem.W.findIn K (.ref CE) "__class__", PySem.W.findIn K (.ref CF) "__class__", PySem.W.findIn K (.ref CG) "__class__", PySem.W.findIn K (.ref CH) "__class__", PySem.W.findIn K (.ref CI) "__class__", PySem.W.findIn K (.ref CJ) "__class__", PySem.W.findIn K (.ref CK) "__class__", PySem.W.findIn K (.ref CL) "__class__", PySem.W.findIn K (.ref CM) "__class__"] = [some (some (.builtin "object.__class__")), some (some (.builtin "object.__class__")), some (some (.builtin "object.__class__")), some (some (.builtin "object.__class__")), some (some (.builtin "object.__class__")), some (some (.builtin "object.__class__")), some (some (.builtin "object.__class__")), some (some (.builtin "object.__class__")), some (some (.builtin "object.__class__")), some (some (.builtin "object.__class__")), some (some (.builtin "object.__class__")), some (some (.builtin "object.__class__")), some (some (.builtin "object.__class__"))])
    (sg : PySem.W.specialIn K (.builtin "object.__class__") "__get__" = some (some (.builtin "getset_descriptor.__get__")))
    (sk : PySem.W.takesIn K (.builtin "object.__class__") = some true)
    (sw : PySem.W.subIn K (.type "ValueError") (.ref CN) = some false)
    (sb : PySem.W.excIn K CL [.type "ValueError", .type "Exception", .type "BaseException", .type "object"] "ValueError.__new__" = true)
    (aSo : PySem.W.nsIn K mainGlobals "_law_source" = some (some (.ref fSo)))
    (lSo : K.lookup fSo = some ⟨ocSo, odSo, .func (PySem.W.fnOf "_law_source" "_law_source" (defArgs s__law_source) (defBody s__law_source) (defScope s__law_source) .none kVSo dcSo pmSo anSo cdSo ctSo), slSo⟩)
    (cSo : PySem.W.codeIn K cdSo "_law_source" = true)
    (kSo : PySem.W.keepIn K (.ref fSo) = true)
    (aDr : PySem.W.nsIn K mainGlobals "_law_draw" = some (some (.ref fDr)))
    (lDr : K.lookup fDr = some ⟨ocDr, odDr, .func (PySem.W.fnOf "_law_draw" "_law_draw" (defArgs s__law_draw) (defBody s__law_draw) (defScope s__law_draw) .none kVDr dcDr pmDr anDr cdDr ctDr), slDr⟩)
    (cDr : PySem.W.codeIn K cdDr "_law_draw" = true)
    (kDr : PySem.W.keepIn K (.ref fDr) = true)
    (aPi : PySem.W.nsIn K mainGlobals "_law_pick" = some (some (.ref fPi)))
    (lPi : K.lookup fPi = some ⟨ocPi, odPi, .func (PySem.W.fnOf "_law_pick" "_law_pick" (defArgs s__law_pick) (defBody s__law_pick) (defScope s__law_pick) .none kVPi dcPi pmPi anPi cdPi ctPi), slPi⟩)
    (cPi : PySem.W.codeIn K cdPi "_law_pick" = true)
    (kPi : PySem.W.keepIn K (.ref fPi) = true)
    (aBp : PySem.W.nsIn K mainGlobals "_law_by_place" = some (some (.ref fBp)))
    (lBp : K.lookup fBp = some ⟨ocBp, odBp, .func (PySem.W.fnOf "_law_by_place" "_law_by_place" (defArgs s__law_by_place) (defBody s__law_by_place) (defScope s__law_by_place) .none kVBp dcBp pmBp anBp cdBp ctBp), slBp⟩)
    (cBp : PySem.W.codeIn K cdBp "_law_by_place" = true)
    (kBp : PySem.W.keepIn K (.ref fBp) = true)
    (aBn : PySem.W.nsIn K mainGlobals "_law_by_name" = some (some (.ref fBn)))
    (lBn : K.lookup fBn = some ⟨ocBn, odBn, .func (PySem.W.fnOf "_law_by_name" "_law_by_name" (defArgs s__law_by_name) (defBody s__law_by_name) (defScope s__law_by_name) .none kVBn dcBn pmBn anBn cdBn ctBn), slBn⟩)
    (cBn : PySem.W.codeIn K cdBn "_law_by_name" = true)
    (kBn : PySem.W.keepIn K (.ref fBn) = true)
    (aFi : PySem.W.nsIn K mainGlobals "_law_fields" = some (some (.ref fFi)))
    (lFi : K.lookup fFi = some ⟨ocFi, odFi, .func (PySem.W.fnOf "_law_fields" "_law_fields" (defArgs s__law_fields) (defBody s__law_fields) (defScope s__law_fields) .none kVFi dcFi pmFi anFi cdFi ctFi), slFi⟩)
    (cFi : PySem.W.codeIn K cdFi "_law_fields" = true)
    (kFi : PySem.W.keepIn K (.ref fFi) = true)
    (aCl : PySem.W.nsIn K mainGlobals "_law_classes" = some (some (.ref fCl)))
    (lCl : K.lookup fCl = some ⟨ocCl, odCl, .func (PySem.W.fnOf "_law_classes" "_law_classes" (defArgs s__law_classes) (defBody s__law_classes) (defScope s__law_classes) .none kVCl dcCl pmCl anCl cdCl ctCl), slCl⟩)
    (cCl : PySem.W.codeIn K cdCl "_law_classes" = true)
    (kCl : PySem.W.keepIn K (.ref fCl) = true)
    (aRi : PySem.W.nsIn K mainGlobals "_law_right" = some (some (.ref fRi)))
    (lRi : K.lookup fRi = some ⟨ocRi, odRi, .func (PySem.W.fnOf "_law_right" "_law_right" (defArgs s__law_right) (defBody s__law_right) (defScope s__law_right) .none kVRi dcRi pmRi anRi cdRi ctRi), slRi⟩)
    (cRi : PySem.W.codeIn K cdRi "_law_right" = true)
    (kRi : PySem.W.keepIn K (.ref fRi) = true)
    (aLa : PySem.W.nsIn K mainGlobals "law" = some (some (.ref fLa)))
    (lLa : K.lookup fLa = some ⟨ocLa, odLa, .func (PySem.W.fnOf "law" "law" (defArgs s_law) (defBody s_law) (defScope s_law) .none kVLa dcLa pmLa anLa cdLa ctLa), slLa⟩)
    (cLa : PySem.W.codeIn K cdLa "law" = true)
    (kLa : PySem.W.keepIn K (.ref fLa) = true)
    (aTA : PySem.W.findIn K (.ref CA) "told" = some (some (.ref fTA)))
    (tTA : PySem.W.typeIn K (.ref fTA) = some (.type "function"))
    (lTA : K.lookup fTA = some ⟨ocTA, odTA, .func (PySem.W.fnOf "told" "NoValue.told" (defArgs s_NoValue_told) (defBody s_NoValue_told) (defScope s_NoValue_told) .none kVTA dcTA pmTA anTA cdTA ctTA), slTA⟩)
    (cTA : PySem.W.codeIn K cdTA "NoValue.told" = true)
    (kTA : PySem.W.keepIn K (.ref fTA) = true)
    (aIA : PySem.W.findIn K (.ref CA) "__init__" = some (some (.ref fIA)))
    (tIA : PySem.W.typeIn K (.ref fIA) = some (.type "function"))
    (lIA : K.lookup fIA = some ⟨ocIA, odIA, .func (PySem.W.fnOf "__init__" "NoValue.__init__" (defArgs s_NoValue___init__) (defBody s_NoValue___init__) (defScope s_NoValue___init__) .none kVIA dcIA pmIA anIA cdIA ctIA), slIA⟩)
    (cIA : PySem.W.codeIn K cdIA "NoValue.__init__" = true)
    (kIA : PySem.W.keepIn K (.ref fIA) = true)
    (aTB : PySem.W.findIn K (.ref CB) "told" = some (some (.ref fTB)))
    (tTB : PySem.W.typeIn K (.ref fTB) = some (.type "function"))
    (lTB : K.lookup fTB = some ⟨ocTB, odTB, .func (PySem.W.fnOf "told" "Large.told" (defArgs s_Large_told) (defBody s_Large_told) (defScope s_Large_told) .none kVTB dcTB pmTB anTB cdTB ctTB), slTB⟩)
    (cTB : PySem.W.codeIn K cdTB "Large.told" = true)
    (kTB : PySem.W.keepIn K (.ref fTB) = true)
    (aIB : PySem.W.findIn K (.ref CB) "__init__" = some (some (.ref fIB)))
    (tIB : PySem.W.typeIn K (.ref fIB) = some (.type "function"))
    (lIB : K.lookup fIB = some ⟨ocIB, odIB, .func (PySem.W.fnOf "__init__" "Large.__init__" (defArgs s_Large___init__) (defBody s_Large___init__) (defScope s_Large___init__) .none kVIB dcIB pmIB anIB cdIB ctIB), slIB⟩)
    (cIB : PySem.W.codeIn K cdIB "Large.__init__" = true)
    (kIB : PySem.W.keepIn K (.ref fIB) = true)
    (aTC : PySem.W.findIn K (.ref CC) "told" = some (some (.ref fTC)))
    (tTC : PySem.W.typeIn K (.ref fTC) = some (.type "function"))
    (lTC : K.lookup fTC = some ⟨ocTC, odTC, .func (PySem.W.fnOf "told" "NoBytes.told" (defArgs s_NoBytes_told) (defBody s_NoBytes_told) (defScope s_NoBytes_told) .none kVTC dcTC pmTC anTC cdTC ctTC), slTC⟩)
    (cTC : PySem.W.codeIn K cdTC "NoBytes.told" = true)
    (kTC : PySem.W.keepIn K (.ref fTC) = true)
    (aIC : PySem.W.findIn K (.ref CC) "__init__" = some (some (.ref fIC)))
    (tIC : PySem.W.typeIn K (.ref fIC) = some (.type "function"))
    (lIC : K.lookup fIC = some ⟨ocIC, odIC, .func (PySem.W.fnOf "__init__" "NoBytes.__init__" (defArgs s_NoBytes___init__) (defBody s_NoBytes___init__) (defScope s_NoBytes___init__) .none kVIC dcIC pmIC anIC cdIC ctIC), slIC⟩)
    (cIC : PySem.W.codeIn K cdIC "NoBytes.__init__" = true)
    (kIC : PySem.W.keepIn K (.ref fIC) = true)
    (aTD : PySem.W.findIn K (.ref CD) "told" = some (some (.ref fTD)))
    (tTD : PySem.W.typeIn K (.ref fTD) = some (.type "function"))
    (lTD : K.lookup fTD = some ⟨ocTD, odTD, .func (PySem.W.fnOf "told" "Torn.told" (defArgs s_Torn_told) (defBody s_Torn_told) (defScope s_Torn_told) .none kVTD dcTD pmTD anTD cdTD ctTD), slTD⟩)
    (cTD : PySem.W.codeIn K cdTD "Torn.told" = true)
    (kTD : PySem.W.keepIn K (.ref fTD) = true)
    (aID : PySem.W.findIn K (.ref CD) "__init__" = some (some (.ref fID)))
    (tID : PySem.W.typeIn K (.ref fID) = some (.type "function"))
    (lID : K.lookup fID = some ⟨ocID, odID, .func (PySem.W.fnOf "__init__" "Torn.__init__" (defArgs s_Torn___init__) (defBody s_Torn___init__) (defScope s_Torn___init__) .none kVID dcID pmID anID cdID ctID), slID⟩)
    (cID : PySem.W.codeIn K cdID "Torn.__init__" = true)
    (kID : PySem.W.keepIn K (.ref fID) = true)
    (aTE : PySem.W.findIn K (.ref CE) "told" = some (some (.ref fTE)))
    (tTE : PySem.W.typeIn K (.ref fTE) = some (.type "function"))
    (lTE : K.lookup fTE = some ⟨ocTE, odTE, .func (PySem.W.fnOf "told" "NoPart.told" (defArgs s_NoPart_told) (defBody s_NoPart_told) (defScope s_NoPart_told) .none kVTE dcTE pmTE anTE cdTE ctTE), slTE⟩)
    (cTE : PySem.W.codeIn K cdTE "NoPart.told" = true)
    (kTE : PySem.W.keepIn K (.ref fTE) = true)
    (aIE : PySem.W.findIn K (.ref CE) "__init__" = some (some (.ref fIE)))
    (tIE : PySem.W.typeIn K (.ref fIE) = some (.type "function"))
    (lIE : K.lookup fIE = some ⟨ocIE, odIE, .func (PySem.W.fnOf "__init__" "NoPart.__init__" (defArgs s_NoPart___init__) (defBody s_NoPart___init__) (defScope s_NoPart___init__) .none kVIE dcIE pmIE anIE cdIE ctIE), slIE⟩)
    (cIE : PySem.W.codeIn K cdIE "NoPart.__init__" = true)
    (kIE : PySem.W.keepIn K (.ref fIE) = true)
    (aTF : PySem.W.findIn K (.ref CF) "told" = some (some (.ref fTF)))
    (tTF : PySem.W.typeIn K (.ref fTF) = some (.type "function"))
    (lTF : K.lookup fTF = some ⟨ocTF, odTF, .func (PySem.W.fnOf "told" "NoPlace.told" (defArgs s_NoPlace_told) (defBody s_NoPlace_told) (defScope s_NoPlace_told) .none kVTF dcTF pmTF anTF cdTF ctTF), slTF⟩)
    (cTF : PySem.W.codeIn K cdTF "NoPlace.told" = true)
    (kTF : PySem.W.keepIn K (.ref fTF) = true)
    (aIF : PySem.W.findIn K (.ref CF) "__init__" = some (some (.ref fIF)))
    (tIF : PySem.W.typeIn K (.ref fIF) = some (.type "function"))
    (lIF : K.lookup fIF = some ⟨ocIF, odIF, .func (PySem.W.fnOf "__init__" "NoPlace.__init__" (defArgs s_NoPlace___init__) (defBody s_NoPlace___init__) (defScope s_NoPlace___init__) .none kVIF dcIF pmIF anIF cdIF ctIF), slIF⟩)
    (cIF : PySem.W.codeIn K cdIF "NoPlace.__init__" = true)
    (kIF : PySem.W.keepIn K (.ref fIF) = true)
    (aTG : PySem.W.findIn K (.ref CG) "told" = some (some (.ref fTG)))
    (tTG : PySem.W.typeIn K (.ref fTG) = some (.type "function"))
    (lTG : K.lookup fTG = some ⟨ocTG, odTG, .func (PySem.W.fnOf "told" "NoObject.told" (defArgs s_NoObject_told) (defBody s_NoObject_told) (defScope s_NoObject_told) .none kVTG dcTG pmTG anTG cdTG ctTG), slTG⟩)
    (cTG : PySem.W.codeIn K cdTG "NoObject.told" = true)
    (kTG : PySem.W.keepIn K (.ref fTG) = true)
    (aIG : PySem.W.findIn K (.ref CG) "__init__" = some (some (.ref fIG)))
    (tIG : PySem.W.typeIn K (.ref fIG) = some (.type "function"))
    (lIG : K.lookup fIG = some ⟨ocIG, odIG, .func (PySem.W.fnOf "__init__" "NoObject.__init__" (defArgs s_NoObject___init__) (defBody s_NoObject___init__) (defScope s_NoObject___init__) .none kVIG dcIG pmIG anIG cdIG ctIG), slIG⟩)
    (cIG : PySem.W.codeIn K cdIG "NoObject.__init__" = true)
    (kIG : PySem.W.keepIn K (.ref fIG) = true)
    (aTH : PySem.W.findIn K (.ref CH) "told" = some (some (.ref fTH)))
    (tTH : PySem.W.typeIn K (.ref fTH) = some (.type "function"))
    (lTH : K.lookup fTH = some ⟨ocTH, odTH, .func (PySem.W.fnOf "told" "NoFit.told" (defArgs s_NoFit_told) (defBody s_NoFit_told) (defScope s_NoFit_told) .none kVTH dcTH pmTH anTH cdTH ctTH), slTH⟩)
    (cTH : PySem.W.codeIn K cdTH "NoFit.told" = true)
    (kTH : PySem.W.keepIn K (.ref fTH) = true)
    (aIH : PySem.W.findIn K (.ref CH) "__init__" = some (some (.ref fIH)))
    (tIH : PySem.W.typeIn K (.ref fIH) = some (.type "function"))
    (lIH : K.lookup fIH = some ⟨ocIH, odIH, .func (PySem.W.fnOf "__init__" "NoFit.__init__" (defArgs s_NoFit___init__) (defBody s_NoFit___init__) (defScope s_NoFit___init__) .none kVIH dcIH pmIH anIH cdIH ctIH), slIH⟩)
    (cIH : PySem.W.codeIn K cdIH "NoFit.__init__" = true)
    (kIH : PySem.W.keepIn K (.ref fIH) = true)
    (aTI : PySem.W.findIn K (.ref CI) "told" = some (some (.ref fTI)))
    (tTI : PySem.W.typeIn K (.ref fTI) = some (.type "function"))
    (lTI : K.lookup fTI = some ⟨ocTI, odTI, .func (PySem.W.fnOf "told" "BadCount.told" (defArgs s_BadCount_told) (defBody s_BadCount_told) (defScope s_BadCount_told) .none kVTI dcTI pmTI anTI cdTI ctTI), slTI⟩)
    (cTI : PySem.W.codeIn K cdTI "BadCount.told" = true)
    (kTI : PySem.W.keepIn K (.ref fTI) = true)
    (aII : PySem.W.findIn K (.ref CI) "__init__" = some (some (.ref fII)))
    (tII : PySem.W.typeIn K (.ref fII) = some (.type "function"))
    (lII : K.lookup fII = some ⟨ocII, odII, .func (PySem.W.fnOf "__init__" "BadCount.__init__" (defArgs s_BadCount___init__) (defBody s_BadCount___init__) (defScope s_BadCount___init__) .none kVII dcII pmII anII cdII ctII), slII⟩)
    (cII : PySem.W.codeIn K cdII "BadCount.__init__" = true)
    (kII : PySem.W.keepIn K (.ref fII) = true)
    (aTJ : PySem.W.findIn K (.ref CJ) "told" = some (some (.ref fTJ)))
    (tTJ : PySem.W.typeIn K (.ref fTJ) = some (.type "function"))
    (lTJ : K.lookup fTJ = some ⟨ocTJ, odTJ, .func (PySem.W.fnOf "told" "NoName.told" (defArgs s_NoName_told) (defBody s_NoName_told) (defScope s_NoName_told) .none kVTJ dcTJ pmTJ anTJ cdTJ ctTJ), slTJ⟩)
    (cTJ : PySem.W.codeIn K cdTJ "NoName.told" = true)
    (kTJ : PySem.W.keepIn K (.ref fTJ) = true)
    (aIJ : PySem.W.findIn K (.ref CJ) "__init__" = some (some (.ref fIJ)))
    (tIJ : PySem.W.typeIn K (.ref fIJ) = some (.type "function"))
    (lIJ : K.lookup fIJ = some ⟨ocIJ, odIJ, .func (PySem.W.fnOf "__init__" "NoName.__init__" (defArgs s_NoName___init__) (defBody s_NoName___init__) (defScope s_NoName___init__) .none kVIJ dcIJ pmIJ anIJ cdIJ ctIJ), slIJ⟩)
    (cIJ : PySem.W.codeIn K cdIJ "NoName.__init__" = true)
    (kIJ : PySem.W.keepIn K (.ref fIJ) = true)
    (aTK : PySem.W.findIn K (.ref CK) "told" = some (some (.ref fTK)))
    (tTK : PySem.W.typeIn K (.ref fTK) = some (.type "function"))
    (lTK : K.lookup fTK = some ⟨ocTK, odTK, .func (PySem.W.fnOf "told" "NoFile.told" (defArgs s_NoFile_told) (defBody s_NoFile_told) (defScope s_NoFile_told) .none kVTK dcTK pmTK anTK cdTK ctTK), slTK⟩)
    (cTK : PySem.W.codeIn K cdTK "NoFile.told" = true)
    (kTK : PySem.W.keepIn K (.ref fTK) = true)
    (aIK : PySem.W.findIn K (.ref CK) "__init__" = some (some (.ref fIK)))
    (tIK : PySem.W.typeIn K (.ref fIK) = some (.type "function"))
    (lIK : K.lookup fIK = some ⟨ocIK, odIK, .func (PySem.W.fnOf "__init__" "NoFile.__init__" (defArgs s_NoFile___init__) (defBody s_NoFile___init__) (defScope s_NoFile___init__) .none kVIK dcIK pmIK anIK cdIK ctIK), slIK⟩)
    (cIK : PySem.W.codeIn K cdIK "NoFile.__init__" = true)
    (kIK : PySem.W.keepIn K (.ref fIK) = true)
    (aTL : PySem.W.findIn K (.ref CL) "told" = some (some (.ref fTL)))
    (tTL : PySem.W.typeIn K (.ref fTL) = some (.type "function"))
    (lTL : K.lookup fTL = some ⟨ocTL, odTL, .func (PySem.W.fnOf "told" "NoBack.told" (defArgs s_NoBack_told) (defBody s_NoBack_told) (defScope s_NoBack_told) .none kVTL dcTL pmTL anTL cdTL ctTL), slTL⟩)
    (cTL : PySem.W.codeIn K cdTL "NoBack.told" = true)
    (kTL : PySem.W.keepIn K (.ref fTL) = true)
    (aTM : PySem.W.findIn K (.ref CM) "told" = some (some (.ref fTM)))
    (tTM : PySem.W.typeIn K (.ref fTM) = some (.type "function"))
    (lTM : K.lookup fTM = some ⟨ocTM, odTM, .func (PySem.W.fnOf "told" "BadText.told" (defArgs s_BadText_told) (defBody s_BadText_told) (defScope s_BadText_told) .none kVTM dcTM pmTM anTM cdTM ctTM), slTM⟩)
    (cTM : PySem.W.codeIn K cdTM "BadText.told" = true)
    (kTM : PySem.W.keepIn K (.ref fTM) = true)
    (aIM : PySem.W.findIn K (.ref CM) "__init__" = some (some (.ref fIM)))
    (tIM : PySem.W.typeIn K (.ref fIM) = some (.type "function"))
    (lIM : K.lookup fIM = some ⟨ocIM, odIM, .func (PySem.W.fnOf "__init__" "BadText.__init__" (defArgs s_BadText___init__) (defBody s_BadText___init__) (defScope s_BadText___init__) .none kVIM dcIM pmIM anIM cdIM ctIM), slIM⟩)
    (cIM : PySem.W.codeIn K cdIM "BadText.__init__" = true)
    (kIM : PySem.W.keepIn K (.ref fIM) = true)
    : ∃ fd : FuncData, (∀ (s : Shared) (v : Value), BindsTo s fd ⟨[v], []⟩ [("_law_script", v)]) ∧ ∀ base : Heap, K.In base → base.Ns mainGlobals mg → FnOkG P w K mg base 5 fa fd ["_law_script"] (spLaw K) := by
  have e := hfa.symm.trans (PySem.W.mg_of X G aLa)
  cases e
  have FSo := fun_mk (st := s__law_source) lSo cSo kSo
  have bSo := FSo.binds (ps := ["_law_cell"]) fun _ _ _ _ _ _ us hl => match us, hl with | [_], _ => rfl
  have FDr := fun_mk (st := s__law_draw) lDr cDr kDr
  have bDr := FDr.binds (ps := ["_law_source_here", "_law_many"]) fun _ _ _ _ _ _ us hl => match us, hl with | [_, _], _ => rfl
  have FPi := fun_mk (st := s__law_pick) lPi cPi kPi
  have bPi := FPi.binds (ps := ["_law_source_here", "_law_items"]) fun _ _ _ _ _ _ us hl => match us, hl with | [_, _], _ => rfl
  have FBp := fun_mk (st := s__law_by_place) lBp cBp kBp
  have bBp := FBp.binds (ps := ["_law_way", "_law_some_word", "_law_many"]) fun _ _ _ _ _ _ us hl => match us, hl with | [_, _, _], _ => rfl
  have FBn := fun_mk (st := s__law_by_name) lBn cBn kBn
  have bBn := FBn.binds (ps := ["_law_way", "_law_some_word", "_law_many"]) fun _ _ _ _ _ _ us hl => match us, hl with | [_, _, _], _ => rfl
  have FFi := fun_mk (st := s__law_fields) lFi cFi kFi
  have bFi := FFi.binds (ps := ["_law_e", "_law_called"]) fun _ _ _ _ _ _ us hl => match us, hl with | [_, _], _ => rfl
  have FCl := fun_mk (st := s__law_classes) lCl cCl kCl
  have bCl := FCl.binds (ps := ["_law_e"]) fun _ _ _ _ _ _ us hl => match us, hl with | [_], _ => rfl
  have FRi := fun_mk (st := s__law_right) lRi cRi kRi
  have bRi := FRi.binds (ps := ["_law_source_here"]) fun _ _ _ _ _ _ us hl => match us, hl with | [_], _ => rfl
  have FLa := fun_mk (st := s_law) lLa cLa kLa
  have FTA := fun_mk (st := s_NoValue_told) lTA cTA kTA
  have bTA := FTA.binds (ps := ["self"]) fun _ _ _ _ _ _ us hl => match us, hl with | [_], _ => rfl
  have FIA := fun_mk (st := s_NoValue___init__) lIA cIA kIA
  have bIA := FIA.binds (ps := ["self", "path"]) fun _ _ _ _ _ _ us hl => match us, hl with | [_, _], _ => rfl
  have FTB := fun_mk (st := s_Large_told) lTB cTB kTB
  have bTB := FTB.binds (ps := ["self"]) fun _ _ _ _ _ _ us hl => match us, hl with | [_], _ => rfl
  have FIB := fun_mk (st := s_Large___init__) lIB cIB kIB
  have bIB := FIB.binds (ps := ["self", "what"]) fun _ _ _ _ _ _ us hl => match us, hl with | [_, _], _ => rfl
  have FTC := fun_mk (st := s_NoBytes_told) lTC cTC kTC
  have bTC := FTC.binds (ps := ["self"]) fun _ _ _ _ _ _ us hl => match us, hl with | [_], _ => rfl
  have FIC := fun_mk (st := s_NoBytes___init__) lIC cIC kIC
  have bIC := FIC.binds (ps := ["self", "place"]) fun _ _ _ _ _ _ us hl => match us, hl with | [_, _], _ => rfl
  have FTD := fun_mk (st := s_Torn_told) lTD cTD kTD
  have bTD := FTD.binds (ps := ["self"]) fun _ _ _ _ _ _ us hl => match us, hl with | [_], _ => rfl
  have FID := fun_mk (st := s_Torn___init__) lID cID kID
  have bID := FID.binds (ps := ["self", "word", "place"]) fun _ _ _ _ _ _ us hl => match us, hl with | [_, _, _], _ => rfl
  have FTE := fun_mk (st := s_NoPart_told) lTE cTE kTE
  have bTE := FTE.binds (ps := ["self"]) fun _ _ _ _ _ _ us hl => match us, hl with | [_], _ => rfl
  have FIE := fun_mk (st := s_NoPart___init__) lIE cIE kIE
  have bIE := FIE.binds (ps := ["self", "length"]) fun _ _ _ _ _ _ us hl => match us, hl with | [_, _], _ => rfl
  have FTF := fun_mk (st := s_NoPlace_told) lTF cTF kTF
  have bTF := FTF.binds (ps := ["self"]) fun _ _ _ _ _ _ us hl => match us, hl with | [_], _ => rfl
  have FIF := fun_mk (st := s_NoPlace___init__) lIF cIF kIF
  have bIF := FIF.binds (ps := ["self", "place"]) fun _ _ _ _ _ _ us hl => match us, hl with | [_, _], _ => rfl
  have FTG := fun_mk (st := s_NoObject_told) lTG cTG kTG
  have bTG := FTG.binds (ps := ["self"]) fun _ _ _ _ _ _ us hl => match us, hl with | [_], _ => rfl
  have FIG := fun_mk (st := s_NoObject___init__) lIG cIG kIG
  have bIG := FIG.binds (ps := ["self", "number"]) fun _ _ _ _ _ _ us hl => match us, hl with | [_, _], _ => rfl
  have FTH := fun_mk (st := s_NoFit_told) lTH cTH kTH
  have bTH := FTH.binds (ps := ["self"]) fun _ _ _ _ _ _ us hl => match us, hl with | [_], _ => rfl
  have FIH := fun_mk (st := s_NoFit___init__) lIH cIH kIH
  have bIH := FIH.binds (ps := ["self", "length"]) fun _ _ _ _ _ _ us hl => match us, hl with | [_, _], _ => rfl
  have FTI := fun_mk (st := s_BadCount_told) lTI cTI kTI
  have bTI := FTI.binds (ps := ["self"]) fun _ _ _ _ _ _ us hl => match us, hl with | [_], _ => rfl
  have FII := fun_mk (st := s_BadCount___init__) lII cII kII
  have bII := FII.binds (ps := ["self", "what", "count"]) fun _ _ _ _ _ _ us hl => match us, hl with | [_, _, _], _ => rfl
  have FTJ := fun_mk (st := s_NoName_told) lTJ cTJ kTJ
  have bTJ := FTJ.binds (ps := ["self"]) fun _ _ _ _ _ _ us hl => match us, hl with | [_], _ => rfl
  have FIJ := fun_mk (st := s_NoName___init__) lIJ cIJ kIJ
  have bIJ := FIJ.binds (ps := ["self", "name"]) fun _ _ _ _ _ _ us hl => match us, hl with | [_, _], _ => rfl
  have FTK := fun_mk (st := s_NoFile_told) lTK cTK kTK
  have bTK := FTK.binds (ps := ["self"]) fun _ _ _ _ _ _ us hl => match us, hl with | [_], _ => rfl
  have FIK := fun_mk (st := s_NoFile___init__) lIK cIK kIK
  have bIK := FIK.binds (ps := ["self", "name"]) fun _ _ _ _ _ _ us hl => match us, hl with | [_, _], _ => rfl
  have FTL := fun_mk (st := s_NoBack_told) lTL cTL kTL
  have bTL := FTL.binds (ps := ["self"]) fun _ _ _ _ _ _ us hl => match us, hl with | [_], _ => rfl
  have FTM := fun_mk (st := s_BadText_told) lTM cTM kTM
  have bTM := FTM.binds (ps := ["self"]) fun _ _ _ _ _ _ us hl => match us, hl with | [_], _ => rfl
  have FIM := fun_mk (st := s_BadText___init__) lIM cIM kIM
  have bIM := FIM.binds (ps := ["self", "place"]) fun _ _ _ _ _ _ us hl => match us, hl with | [_, _], _ => rfl
  have T : Txt K mg := ⟨PySem.W.mg_none_of X G z_len, PySem.W.mg_none_of X G z_abs, PySem.W.mg_none_of X G z_int, PySem.W.mg_none_of X G z_tuple, PySem.W.mg_none_of X G z_isinstance, PySem.W.mg_none_of X G z_zip, PySem.W.mg_none_of X G z_repr, PySem.W.mg_none_of X G z_ValueError⟩
  have OA : OexC K CA := ⟨⟨_, _, _, _, _, _, _, _, _, _, _, _, _, _, _, xA, rA⟩, saA, beA, tyA, keA⟩
  have OB : OexC K CB := ⟨⟨_, _, _, _, _, _, _, _, _, _, _, _, _, _, _, xB, rB⟩, saB, beB, tyB, keB⟩
  have OC : OexC K CC := ⟨⟨_, _, _, _, _, _, _, _, _, _, _, _, _, _, _, xC, rC⟩, saC, beC, tyC, keC⟩
  have OD : OexC K CD := ⟨⟨_, _, _, _, _, _, _, _, _, _, _, _, _, _, _, xD, rD⟩, saD, beD, tyD, keD⟩
  have OE : OexC K CE := ⟨⟨_, _, _, _, _, _, _, _, _, _, _, _, _, _, _, xE, rE⟩, saE, beE, tyE, keE⟩
  have OF : OexC K CF := ⟨⟨_, _, _, _, _, _, _, _, _, _, _, _, _, _, _, xF, rF⟩, saF, beF, tyF, keF⟩
  have OG : OexC K CG := ⟨⟨_, _, _, _, _, _, _, _, _, _, _, _, _, _, _, xG, rG⟩, saG, beG, tyG, keG⟩
  have OH : OexC K CH := ⟨⟨_, _, _, _, _, _, _, _, _, _, _, _, _, _, _, xH, rH⟩, saH, beH, tyH, keH⟩
  have OI : OexC K CI := ⟨⟨_, _, _, _, _, _, _, _, _, _, _, _, _, _, _, xI, rI⟩, saI, beI, tyI, keI⟩
  have OJ : OexC K CJ := ⟨⟨_, _, _, _, _, _, _, _, _, _, _, _, _, _, _, xJ, rJ⟩, saJ, beJ, tyJ, keJ⟩
  have OK : OexC K CK := ⟨⟨_, _, _, _, _, _, _, _, _, _, _, _, _, _, _, xK, rK⟩, saK, beK, tyK, keK⟩
  have OL : OexC K CL := ⟨⟨_, _, _, _, _, _, _, _, _, _, _, _, _, _, _, xL, rL⟩, saL, beL, tyL, keL⟩
  have OM : OexC K CM := ⟨⟨_, _, _, _, _, _, _, _, _, _, _, _, _, _, _, xM, rM⟩, saM, beM, tyM, keM⟩
  have su : ∀ i j, PySem.W.subIn K (.ref (mkcs CA CB CC CD CE CF CG CH CI CJ CK CL CM i)) (.ref (mkcs CA CB CC CD CE CF CG CH CI CJ CK CL CM j)) = some (decide (i = j)) := (fun
      | ⟨0, _⟩ => row13 (cs := mkcs CA CB CC CD CE CF CG CH CI CJ CK CL CM) (i := 0) srA
      | ⟨1, _⟩ => row13 (cs := mkcs CA CB CC CD CE CF CG CH CI CJ CK CL CM) (i := 1) srB
      | ⟨2, _⟩ => row13 (cs := mkcs CA CB CC CD CE CF CG CH CI CJ CK CL CM) (i := 2) srC
      | ⟨3, _⟩ => row13 (cs := mkcs CA CB CC CD CE CF CG CH CI CJ CK CL CM) (i := 3) srD
      | ⟨4, _⟩ => row13 (cs := mkcs CA CB CC CD CE CF CG CH CI CJ CK CL CM) (i := 4) srE
      | ⟨5, _⟩ => row13 (cs := mkcs CA CB CC CD CE CF CG CH CI CJ CK CL CM) (i := 5) srF
      | ⟨6, _⟩ => row13 (cs := mkcs CA CB CC CD CE CF CG CH CI CJ CK CL CM) (i := 6) srG
      | ⟨7, _⟩ => row13 (cs := mkcs CA CB CC CD CE CF CG CH CI CJ CK CL CM) (i := 7) srH
      | ⟨8, _⟩ => row13 (cs := mkcs CA CB CC CD CE CF CG CH CI CJ CK CL CM) (i := 8) srI
      | ⟨9, _⟩ => row13 (cs := mkcs CA CB CC CD CE CF CG CH CI CJ CK CL CM) (i := 9) srJ
      | ⟨10, _⟩ => row13 (cs := mkcs CA CB CC CD CE CF CG CH CI CJ CK CL CM) (i := 10) srK
      | ⟨11, _⟩ => row13 (cs := mkcs CA CB CC CD CE CF CG CH CI CJ CK CL CM) (i := 11) srL
      | ⟨12, _⟩ => row13 (cs := mkcs CA CB CC CD CE CF CG CH CI CJ CK CL CM) (i := 12) srM)
  have hic : ∀ i, PySem.W.isClsIn K (mkcs CA CB CC CD CE CF CG CH CI CJ CK CL CM i) = true := (fun
      | ⟨0, _⟩ => icA
      | ⟨1, _⟩ => icB
      | ⟨2, _⟩ => icC
      | ⟨3, _⟩ => icD
      | ⟨4, _⟩ => icE
      | ⟨5, _⟩ => icF
      | ⟨6, _⟩ => icG
      | ⟨7, _⟩ => icH
      | ⟨8, _⟩ => icI
      | ⟨9, _⟩ => icJ
      | ⟨10, _⟩ => icK
      | ⟨11, _⟩ => icL
      | ⟨12, _⟩ => icM)
  have hty : ∀ i, PySem.W.typeIn K (.ref (mkcs CA CB CC CD CE CF CG CH CI CJ CK CL CM i)) = some (.type "type") := (fun
      | ⟨0, _⟩ => tyA
      | ⟨1, _⟩ => tyB
      | ⟨2, _⟩ => tyC
      | ⟨3, _⟩ => tyD
      | ⟨4, _⟩ => tyE
      | ⟨5, _⟩ => tyF
      | ⟨6, _⟩ => tyG
      | ⟨7, _⟩ => tyH
      | ⟨8, _⟩ => tyI
      | ⟨9, _⟩ => tyJ
      | ⟨10, _⟩ => tyK
      | ⟨11, _⟩ => tyL
      | ⟨12, _⟩ => tyM)
  have AL : Ask K mg (mkcs CA CB CC CD CE CF CG CH CI CJ CK CL CM) := ⟨(fun
      | ⟨0, _⟩ => PySem.W.mg_of X G gA
      | ⟨1, _⟩ => PySem.W.mg_of X G gB
      | ⟨2, _⟩ => PySem.W.mg_of X G gC
      | ⟨3, _⟩ => PySem.W.mg_of X G gD
      | ⟨4, _⟩ => PySem.W.mg_of X G gE
      | ⟨5, _⟩ => PySem.W.mg_of X G gF
      | ⟨6, _⟩ => PySem.W.mg_of X G gG
      | ⟨7, _⟩ => PySem.W.mg_of X G gH
      | ⟨8, _⟩ => PySem.W.mg_of X G gI
      | ⟨9, _⟩ => PySem.W.mg_of X G gJ
      | ⟨10, _⟩ => PySem.W.mg_of X G gK
      | ⟨11, _⟩ => PySem.W.mg_of X G gL
      | ⟨12, _⟩ => PySem.W.mg_of X G gM),
    (fun
      | ⟨0, _⟩ => ⟨gaA, ggA, beA, hdA⟩
      | ⟨1, _⟩ => ⟨gaB, ggB, beB, hdB⟩
      | ⟨2, _⟩ => ⟨gaC, ggC, beC, hdC⟩
      | ⟨3, _⟩ => ⟨gaD, ggD, beD, hdD⟩
      | ⟨4, _⟩ => ⟨gaE, ggE, beE, hdE⟩
      | ⟨5, _⟩ => ⟨gaF, ggF, beF, hdF⟩
      | ⟨6, _⟩ => ⟨gaG, ggG, beG, hdG⟩
      | ⟨7, _⟩ => ⟨gaH, ggH, beH, hdH⟩
      | ⟨8, _⟩ => ⟨gaI, ggI, beI, hdI⟩
      | ⟨9, _⟩ => ⟨gaJ, ggJ, beJ, hdJ⟩
      | ⟨10, _⟩ => ⟨gaK, ggK, beK, hdK⟩
      | ⟨11, _⟩ => ⟨gaL, ggL, beL, hdL⟩
      | ⟨12, _⟩ => ⟨gaM, ggM, beM, hdM⟩),
    fun i => ⟨(show ∀ i, PySem.W.findIn K (.ref (mkcs CA CB CC CD CE CF CG CH CI CJ CK CL CM i)) "__getattribute__" = some (some (.builtin "BaseException.__getattribute__")) from fun
      | ⟨0, _⟩ => gaA
      | ⟨1, _⟩ => gaB
      | ⟨2, _⟩ => gaC
      | ⟨3, _⟩ => gaD
      | ⟨4, _⟩ => gaE
      | ⟨5, _⟩ => gaF
      | ⟨6, _⟩ => gaG
      | ⟨7, _⟩ => gaH
      | ⟨8, _⟩ => gaI
      | ⟨9, _⟩ => gaJ
      | ⟨10, _⟩ => gaK
      | ⟨11, _⟩ => gaL
      | ⟨12, _⟩ => gaM) i, (show ∀ i, PySem.W.findIn K (.ref (mkcs CA CB CC CD CE CF CG CH CI CJ CK CL CM i)) "__getattr__" = some none from fun
      | ⟨0, _⟩ => ggA
      | ⟨1, _⟩ => ggB
      | ⟨2, _⟩ => ggC
      | ⟨3, _⟩ => ggD
      | ⟨4, _⟩ => ggE
      | ⟨5, _⟩ => ggF
      | ⟨6, _⟩ => ggG
      | ⟨7, _⟩ => ggH
      | ⟨8, _⟩ => ggI
      | ⟨9, _⟩ => ggJ
      | ⟨10, _⟩ => ggK
      | ⟨11, _⟩ => ggL
      | ⟨12, _⟩ => ggM) i, hic i, all_of13 (f := fun j => PySem.W.findIn K (.ref ((mkcs CA CB CC CD CE CF CG CH CI CJ CK CL CM) j)) "__class__") sc i, sg, sk, all_of13 (f := fun j => PySem.W.mroIn K ((mkcs CA CB CC CD CE CF CG CH CI CJ CK CL CM) j) (.type "object")) so i, (show ∀ i, PySem.W.subIn K (.ref (mkcs CA CB CC CD CE CF CG CH CI CJ CK CL CM i)) (.type "BaseException") = some true from fun
      | ⟨0, _⟩ => beA
      | ⟨1, _⟩ => beB
      | ⟨2, _⟩ => beC
      | ⟨3, _⟩ => beD
      | ⟨4, _⟩ => beE
      | ⟨5, _⟩ => beF
      | ⟨6, _⟩ => beG
      | ⟨7, _⟩ => beH
      | ⟨8, _⟩ => beI
      | ⟨9, _⟩ => beJ
      | ⟨10, _⟩ => beK
      | ⟨11, _⟩ => beL
      | ⟨12, _⟩ => beM) i⟩, kit13 su hic hty, nA_path, nB_what, nC_place, nD_word, nD_place, nE_length, nF_place, nG_number, nH_length, nI_what, nI_count, nJ_name, nK_name, nM_place⟩
  have TP : Top K (mkcs CA CB CC CD CE CF CG CH CI CJ CK CL CM) CN := ⟨fun i => kit_ref icN tyN (all_of13 (f := fun j => PySem.W.subIn K (.ref (mkcs CA CB CC CD CE CF CG CH CI CJ CK CL CM j)) (.ref CN)) sn i), fun i => kit_ve (all_of13 (f := fun j => PySem.W.subIn K (.ref (mkcs CA CB CC CD CE CF CG CH CI CJ CK CL CM j)) (.type "ValueError")) sv i), kit_veN icN tyN sw⟩
  refine ⟨PySem.W.fnOf "law" "law" (defArgs s_law) (defBody s_law) (defScope s_law) .none kVLa dcLa pmLa anLa cdLa ctLa, fun s v => .of_eq rfl, fun base _ _ => ?_⟩
  have TD : Tolds P w K mg base (mkcs CA CB CC CD CE CF CG CH CI CJ CK CL CM) := (fun
      | ⟨0, _⟩ => ⟨fTA, _, aTA, fn_is tTA, kTA, told_NoValue FTA, bTA⟩
      | ⟨1, _⟩ => ⟨fTB, _, aTB, fn_is tTB, kTB, told_Large FTB, bTB⟩
      | ⟨2, _⟩ => ⟨fTC, _, aTC, fn_is tTC, kTC, told_NoBytes FTC, bTC⟩
      | ⟨3, _⟩ => ⟨fTD, _, aTD, fn_is tTD, kTD, told_Torn FTD, bTD⟩
      | ⟨4, _⟩ => ⟨fTE, _, aTE, fn_is tTE, kTE, told_NoPart FTE, bTE⟩
      | ⟨5, _⟩ => ⟨fTF, _, aTF, fn_is tTF, kTF, told_NoPlace FTF, bTF⟩
      | ⟨6, _⟩ => ⟨fTG, _, aTG, fn_is tTG, kTG, told_NoObject FTG, bTG⟩
      | ⟨7, _⟩ => ⟨fTH, _, aTH, fn_is tTH, kTH, told_NoFit FTH, bTH⟩
      | ⟨8, _⟩ => ⟨fTI, _, aTI, fn_is tTI, kTI, told_BadCount FTI, bTI⟩
      | ⟨9, _⟩ => ⟨fTJ, _, aTJ, fn_is tTJ, kTJ, told_NoName FTJ, bTJ⟩
      | ⟨10, _⟩ => ⟨fTK, _, aTK, fn_is tTK, kTK, told_NoFile FTK, bTK⟩
      | ⟨11, _⟩ => ⟨fTL, _, aTL, fn_is tTL, kTL, told_NoBack FTL, bTL⟩
      | ⟨12, _⟩ => ⟨fTM, _, aTM, fn_is tTM, kTM, told_BadText FTM, bTM⟩)
  have CS : Cls P w K mg base (mkcs CA CB CC CD CE CF CG CH CI CJ CK CL CM) := ⟨⟨fIA, _, OA, aIA, tIA, ini_NoValue FIA T OA nA_path, bIA, PySem.W.mg_of X G gA, kb_of1 fun s v u => .of_eq rfl, kb_no1⟩,
    ⟨fIB, _, OB, aIB, tIB, ini_Large FIB OB nB_what, bIB, PySem.W.mg_of X G gB, kb_of1 fun s v u => .of_eq rfl, kb_no1⟩,
    ⟨fIC, _, OC, aIC, tIC, ini_NoBytes FIC OC nC_place, bIC, PySem.W.mg_of X G gC, kb_of1 fun s v u => .of_eq rfl, kb_no1⟩,
    ⟨fID, _, OD, aID, tID, ini_Torn FID OD nD_word nD_place, bID, PySem.W.mg_of X G gD, kb_no2, kb_of2 fun s v u z => .of_eq rfl⟩,
    ⟨fIE, _, OE, aIE, tIE, ini_NoPart FIE OE nE_length, bIE, PySem.W.mg_of X G gE, kb_of1 fun s v u => .of_eq rfl, kb_no1⟩,
    ⟨fIF, _, OF, aIF, tIF, ini_NoPlace FIF OF nF_place, bIF, PySem.W.mg_of X G gF, kb_of1 fun s v u => .of_eq rfl, kb_no1⟩,
    ⟨fIG, _, OG, aIG, tIG, ini_NoObject FIG OG nG_number, bIG, PySem.W.mg_of X G gG, kb_of1 fun s v u => .of_eq rfl, kb_no1⟩,
    ⟨fIH, _, OH, aIH, tIH, ini_NoFit FIH OH nH_length, bIH, PySem.W.mg_of X G gH, kb_of1 fun s v u => .of_eq rfl, kb_no1⟩,
    ⟨fII, _, OI, aII, tII, ini_BadCount FII OI nI_what nI_count, bII, PySem.W.mg_of X G gI, kb_no2, kb_of2 fun s v u z => .of_eq rfl⟩,
    ⟨fIJ, _, OJ, aIJ, tIJ, ini_NoName FIJ OJ nJ_name, bIJ, PySem.W.mg_of X G gJ, kb_of1 fun s v u => .of_eq rfl, kb_no1⟩,
    ⟨fIK, _, OK, aIK, tIK, ini_NoFile FIK OK nK_name, bIK, PySem.W.mg_of X G gK, kb_of1 fun s v u => .of_eq rfl, kb_no1⟩,
    ⟨fIM, _, OM, aIM, tIM, ini_BadText FIM OM nM_place, bIM, PySem.W.mg_of X G gM, kb_of1 fun s v u => .of_eq rfl, kb_no1⟩, sb, PySem.W.mg_of X G gL, keL⟩
  have c_source : Cal P w K mg base 1 "_law_source" spSource := ⟨_, _, _, ok_source FSo T, PySem.W.mg_of X G aSo, kSo, bSo⟩
  have c_draw : Cal P w K mg base 1 "_law_draw" spDraw := ⟨_, _, _, ok_draw FDr T, PySem.W.mg_of X G aDr, kDr, bDr⟩
  have c_pick : Cal P w K mg base 2 "_law_pick" (spPick K) := ⟨_, _, _, ok_pick FPi T c_draw, PySem.W.mg_of X G aPi, kPi, bPi⟩
  have c_by_place : Cal P w K mg base 3 "_law_by_place" (spRows K (mkcs CA CB CC CD CE CF CG CH CI CJ CK CL CM)) := ⟨_, _, _, ok_by_place FBp CS, PySem.W.mg_of X G aBp, kBp, bBp⟩
  have c_by_name : Cal P w K mg base 3 "_law_by_name" (spRows K (mkcs CA CB CC CD CE CF CG CH CI CJ CK CL CM)) := ⟨_, _, _, ok_by_name FBn CS, PySem.W.mg_of X G aBn, kBn, bBn⟩
  have c_classes : Cal P w K mg base 1 "_law_classes" (spClasses (mkcs CA CB CC CD CE CF CG CH CI CJ CK CL CM)) := ⟨_, _, _, ok_classes FCl T AL, PySem.W.mg_of X G aCl, kCl, bCl⟩
  have c_fields : Cal P w K mg base 1 "_law_fields" (spFields (mkcs CA CB CC CD CE CF CG CH CI CJ CK CL CM)) := ⟨_, _, _, ok_fields FFi AL, PySem.W.mg_of X G aFi, kFi, bFi⟩
  have c_right : CalG P w K mg base 4 "_law_right" spRight := ⟨_, _, _, ok_right FRi T (PySem.W.mg_of X G gN) AL TP TD c_draw c_pick c_by_place c_by_name c_classes c_fields, PySem.W.mg_of X G aRi, kRi, bRi⟩
  exact ok_law FLa T c_source c_right
theorem walk {l : PySem.W.OpenLaw} {q : Program} {loose : List Str} {XP : (Str → Option Value) → Heap → Prop} {YP : World → Heap → Prop} {d : DefRec} {K : Params → PySem.W.Frag} (hn : l.most = some 63) (hdf : d.params.defaults = [])
    (hY : ∀ (w : World) (h : Heap), YP w h → (K w.params).In h)
    (F : ∀ (w : World) (mg : Str → Option Value) (fa : Addr) (h : Heap), (K w.params).In h → h.Ns mainGlobals mg → mg d.name = some (.ref fa) →
      ∃ fd : FuncData, (∀ (s : Shared) (u : Value), BindsTo s fd ⟨[u], []⟩ [("_law_script", u)]) ∧ ∀ base : Heap, (K w.params).In base → base.Ns mainGlobals mg → FnOkG l.prog w (K w.params) mg base 5 fa fd ["_law_script"] (spLaw (K w.params))) :
    PySem.W.WalkO q loose XP YP l.row.toRowW d [] (fun f vs => PySem.call f vs) :=
  QT.walk_ofG (n := 63) (k := 5) (x := "_law_script") (sp := fun w => spLaw (K w.params)) hn (by decide) hdf ⟨rfl, by decide, by decide⟩ hY F (fun _ _ a ns hl _ _ hS => ⟨a, ns, rfl, hS, hl, fun _ => rfl⟩)
end Q05
open PySem PySem.W PyProof.Rows in
set_option maxRecDepth 100000 in
set_option maxHeartbeats 0 in
theorem PySem.Challenge.cw_nestfile_k05_errors_holds : PySem.Challenge.rw_nestfile_k05_errors.Holds := by
  w_on; o_law; k_head; (case hw => w_witness2)
  k_fill
  refine Q05.walk (l := PySem.Challenge.rw_nestfile_k05_errors) rfl rfl (fun w h Y => PySem.W.kIn_of Y) ?F
  case F =>
    intro w mg fa h KX G hmg
    refine' Q05.all_mk KX G hmg ?gN ?xN ?rN ?saN ?gaN ?ggN ?keN ?beN ?tyN ?hdN ?icN ?gA ?xA ?rA ?saA ?gaA ?ggA ?keA ?beA ?tyA ?hdA ?icA ?nA_path ?gB ?xB ?rB ?saB ?gaB ?ggB ?keB ?beB ?tyB ?hdB ?icB ?nB_what ?gC ?xC ?rC ?saC ?gaC ?ggC ?keC ?beC ?tyC ?hdC ?icC ?nC_place ?gD ?xD ?rD ?saD ?gaD ?ggD ?keD ?beD ?tyD ?hdD ?icD ?nD_word ?nD_place ?gE ?xE ?rE ?saE ?gaE ?ggE ?keE ?beE ?tyE ?hdE ?icE ?nE_length ?gF ?xF ?rF ?saF ?gaF ?ggF ?keF ?beF ?tyF ?hdF ?icF ?nF_place ?gG ?xG ?rG ?saG ?gaG ?ggG ?keG ?beG ?tyG ?hdG ?icG ?nG_number ?gH ?xH ?rH ?saH ?gaH ?ggH ?keH ?beH ?tyH ?hdH ?icH ?nH_length ?gI ?xI ?rI ?saI ?gaI ?ggI ?keI ?beI ?tyI ?hdI ?icI ?nI_what ?nI_count ?gJ ?xJ ?rJ ?saJ ?gaJ ?ggJ ?keJ ?beJ ?tyJ ?hdJ ?icJ ?nJ_name ?gK ?xK ?rK ?saK ?gaK ?ggK ?keK ?beK ?tyK ?hdK ?icK ?nK_name ?gL ?xL ?rL ?saL ?gaL ?ggL ?keL ?beL ?tyL ?hdL ?icL ?gM ?xM ?rM ?saM ?gaM ?ggM ?keM ?beM ?tyM ?hdM ?icM ?nM_place ?z_len ?z_abs ?z_int ?z_tuple ?z_isinstance ?z_zip ?z_repr ?z_ValueError ?srA ?srB ?srC ?srD ?srE ?srF ?srG ?srH ?srI ?srJ ?srK ?srL ?srM ?sn ?sv ?so ?sc ?sg ?sk ?sw ?sb ?aSo ?lSo ?cSo ?kSo ?aDr ?lDr ?cDr ?kDr ?aPi ?lPi ?cPi ?kPi ?aBp ?lBp ?cBp ?kBp ?aBn ?lBn ?cBn ?kBn ?aFi ?lFi ?cFi ?kFi ?aCl ?lCl ?cCl ?kCl ?aRi ?lRi ?cRi ?kRi ?aLa ?lLa ?cLa ?kLa ?aTA ?tTA ?lTA ?cTA ?kTA ?aIA ?tIA ?lIA ?cIA ?kIA ?aTB ?tTB ?lTB ?cTB ?kTB ?aIB ?tIB ?lIB ?cIB ?kIB ?aTC ?tTC ?lTC ?cTC ?kTC ?aIC ?tIC ?lIC ?cIC ?kIC ?aTD ?tTD ?lTD ?cTD ?kTD ?aID ?tID ?lID ?cID ?kID ?aTE ?tTE ?lTE ?cTE ?kTE ?aIE ?tIE ?lIE ?cIE ?kIE ?aTF ?tTF ?lTF ?cTF ?kTF ?aIF ?tIF ?lIF ?cIF ?kIF ?aTG ?tTG ?lTG ?cTG ?kTG ?aIG ?tIG ?lIG ?cIG ?kIG ?aTH ?tTH ?lTH ?cTH ?kTH ?aIH ?tIH ?lIH ?cIH ?kIH ?aTI ?tTI ?lTI ?cTI ?kTI ?aII ?tII ?lII ?cII ?kII ?aTJ ?tTJ ?lTJ ?cTJ ?kTJ ?aIJ ?tIJ ?lIJ ?cIJ ?kIJ ?aTK ?tTK ?lTK ?cTK ?kTK ?aIK ?tIK ?lIK ?cIK ?kIK ?aTL ?tTL ?lTL ?cTL ?kTL ?aTM ?tTM ?lTM ?cTM ?kTM ?aIM ?tIM ?lIM ?cIM ?kIM
    (case gN => k_is)
    (case xN => k_is)
    (case rN => decide +kernel)
    (case saN => k_is)
    (case gaN => k_is)
    (case ggN => k_is)
    (case keN => k_is)
    (case beN => k_is)
    (case tyN => k_is)
    (case hdN => k_is)
    (case icN => k_is)
    (case gA => k_is)
    (case xA => k_is)
    (case rA => decide +kernel)
    (case saA => k_is)
    (case gaA => k_is)
    (case ggA => k_is)
    (case keA => k_is)
    (case beA => k_is)
    (case tyA => k_is)
    (case hdA => k_is)
    (case icA => k_is)
    (case nA_path => k_is)
    (case gB => k_is)
    (case xB => k_is)
    (case rB => decide +kernel)
    (case saB => k_is)
    (case gaB => k_is)
    (case ggB => k_is)
    (case keB => k_is)
    (case beB => k_is)
    (case tyB => k_is)
    (case hdB => k_is)
    (case icB => k_is)
    (case nB_what => k_is)
    (case gC => k_is)
    (case xC => k_is)
    (case rC => decide +kernel)
    (case saC => k_is)
    (case gaC => k_is)
    (case ggC => k_is)
    (case keC => k_is)
    (case beC => k_is)
    (case tyC => k_is)
    (case hdC => k_is)
    (case icC => k_is)
    (case nC_place => k_is)
    (case gD => k_is)
    (case xD => k_is)
    (case rD => decide +kernel)
    (case saD => k_is)
    (case gaD => k_is)
    (case ggD => k_is)
    (case keD => k_is)
    (case beD => k_is)
    (case tyD => k_is)
    (case hdD => k_is)
    (case icD => k_is)
    (case nD_word => k_is)
    (case nD_place => k_is)
    (case gE => k_is)
    (case xE => k_is)
    (case rE => decide +kernel)
    (case saE => k_is)
    (case gaE => k_is)
    (case ggE => k_is)
    (case keE => k_is)
    (case beE => k_is)
    (case tyE => k_is)
    (case hdE => k_is)
    (case icE => k_is)
    (case nE_length => k_is)
    (case gF => k_is)
    (case xF => k_is)
    (case rF => decide +kernel)
    (case saF => k_is)
    (case gaF => k_is)
    (case ggF => k_is)
    (case keF => k_is)
    (case beF => k_is)
    (case tyF => k_is)
    (case hdF => k_is)
    (case icF => k_is)
    (case nF_place => k_is)
    (case gG => k_is)
    (case xG => k_is)
    (case rG => decide +kernel)
    (case saG => k_is)
    (case gaG => k_is)
    (case ggG => k_is)
    (case keG => k_is)
    (case beG => k_is)
    (case tyG => k_is)
    (case hdG => k_is)
    (case icG => k_is)
    (case nG_number => k_is)
    (case gH => k_is)
    (case xH => k_is)
    (case rH => decide +kernel)
    (case saH => k_is)
    (case gaH => k_is)
    (case ggH => k_is)
    (case keH => k_is)
    (case beH => k_is)
    (case tyH => k_is)
    (case hdH => k_is)
    (case icH => k_is)
    (case nH_length => k_is)
    (case gI => k_is)
    (case xI => k_is)
    (case rI => decide +kernel)
    (case saI => k_is)
    (case gaI => k_is)
    (case ggI => k_is)
    (case keI => k_is)
    (case beI => k_is)
    (case tyI => k_is)
    (case hdI => k_is)
    (case icI => k_is)
    (case nI_what => k_is)
    (case nI_count => k_is)
    (case gJ => k_is)
    (case xJ => k_is)
    (case rJ => decide +kernel)
    (case saJ => k_is)
    (case gaJ => k_is)
    (case ggJ => k_is)
    (case keJ => k_is)
    (case beJ => k_is)
    (case tyJ => k_is)
    (case hdJ => k_is)
    (case icJ => k_is)
    (case nJ_name => k_is)
    (case gK => k_is)
    (case xK => k_is)
    (case rK => decide +kernel)
    (case saK => k_is)
    (case gaK => k_is)
    (case ggK => k_is)
    (case keK => k_is)
    (case beK => k_is)
    (case tyK => k_is)
    (case hdK => k_is)
    (case icK => k_is)
    (case nK_name => k_is)
    (case gL => k_is)
    (case xL => k_is)
    (case rL => decide +kernel)
    (case saL => k_is)
    (case gaL => k_is)
    (case ggL => k_is)
    (case keL => k_is)
    (case beL => k_is)
    (case tyL => k_is)
    (case hdL => k_is)
    (case icL => k_is)
    (case gM => k_is)
    (case xM => k_is)
    (case rM => decide +kernel)
    (case saM => k_is)
    (case gaM => k_is)
    (case ggM => k_is)
    (case keM => k_is)
    (case beM => k_is)
    (case tyM => k_is)
    (case hdM => k_is)
    (case icM => k_is)
    (case nM_place => k_is)
    (case z_len => k_is)
    (case z_abs => k_is)
    (case z_int => k_is)
    (case z_tuple => k_is)
    (case z_isinstance => k_is)
    (case z_zip => k_is)
    (case z_repr => k_is)
    (case z_ValueError => k_is)
    (case srA => first | rfl | k_is)
    (case srB => first | rfl | k_is)
    (case srC => first | rfl | k_is)
    (case srD => first | rfl | k_is)
    (case srE => first | rfl | k_is)
    (case srF => first | rfl | k_is)
    (case srG => first | rfl | k_is)
    (case srH => first | rfl | k_is)
    (case srI => first | rfl | k_is)
    (case srJ => first | rfl | k_is)
    (case srK => first | rfl | k_is)
    (case srL => first | rfl | k_is)
    (case srM => first | rfl | k_is)
    (case sn => first | rfl | k_is)
    (case sv => first | rfl | k_is)
    (case so => first | rfl | k_is)
    (case sc => first | rfl | k_is)
    (case sg => first | rfl | k_is)
    (case sk => first | rfl | k_is)
    (case sw => first | rfl | k_is)
    (case sb => k_exc)
    (case aSo => k_is)
    (case lSo => k_is)
    (case cSo => k_is)
    (case kSo => k_is)
    (case aDr => k_is)
    (case lDr => k_is)
    (case cDr => k_is)
    (case kDr => k_is)
    (case aPi => k_is)
    (case lPi => k_is)
    (case cPi => k_is)
    (case kPi => k_is)
    (case aBp => k_is)
    (case lBp => k_is)
    (case cBp => k_is)
    (case kBp => k_is)
    (case aBn => k_is)
    (case lBn => k_is)
    (case cBn => k_is)
    (case kBn => k_is)
    (case aFi => k_is)
    (case lFi => k_is)
    (case cFi => k_is)
    (case kFi => k_is)
    (case aCl => k_is)
    (case lCl => k_is)
    (case cCl => k_is)
    (case kCl => k_is)
    (case aRi => k_is)
    (case lRi => k_is)
    (case cRi => k_is)
    (case kRi => k_is)
    (case aLa => k_is)
    (case lLa => k_is)
    (case cLa => k_is)
    (case kLa => k_is)
    (case aTA => k_is)
    (case tTA => k_is)
    (case lTA => k_is)
    (case cTA => k_is)
    (case kTA => k_is)
    (case aIA => k_is)
    (case tIA => k_is)
    (case lIA => k_is)
    (case cIA => k_is)
    (case kIA => k_is)
    (case aTB => k_is)
    (case tTB => k_is)
    (case lTB => k_is)
    (case cTB => k_is)
    (case kTB => k_is)
    (case aIB => k_is)
    (case tIB => k_is)
    (case lIB => k_is)
    (case cIB => k_is)
    (case kIB => k_is)
    (case aTC => k_is)
    (case tTC => k_is)
    (case lTC => k_is)
    (case cTC => k_is)
    (case kTC => k_is)
    (case aIC => k_is)
    (case tIC => k_is)
    (case lIC => k_is)
    (case cIC => k_is)
    (case kIC => k_is)
    (case aTD => k_is)
    (case tTD => k_is)
    (case lTD => k_is)
    (case cTD => k_is)
    (case kTD => k_is)
    (case aID => k_is)
    (case tID => k_is)
    (case lID => k_is)
    (case cID => k_is)
    (case kID => k_is)
    (case aTE => k_is)
    (case tTE => k_is)
    (case lTE => k_is)
    (case cTE => k_is)
    (case kTE => k_is)
    (case aIE => k_is)
    (case tIE => k_is)
    (case lIE => k_is)
    (case cIE => k_is)
    (case kIE => k_is)
    (case aTF => k_is)
    (case tTF => k_is)
    (case lTF => k_is)
    (case cTF => k_is)
    (case kTF => k_is)
    (case aIF => k_is)
    (case tIF => k_is)
    (case lIF => k_is)
    (case cIF => k_is)
    (case kIF => k_is)
    (case aTG => k_is)
    (case tTG => k_is)
    (case lTG => k_is)
    (case cTG => k_is)
    (case kTG => k_is)
    (case aIG => k_is)
    (case tIG => k_is)
    (case lIG => k_is)
    (case cIG => k_is)
    (case kIG => k_is)
    (case aTH => k_is)
    (case tTH => k_is)
    (case lTH => k_is)
    (case cTH => k_is)
    (case kTH => k_is)
    (case aIH => k_is)
    (case tIH => k_is)
    (case lIH => k_is)
    (case cIH => k_is)
    (case kIH => k_is)
    (case aTI => k_is)
    (case tTI => k_is)
    (case lTI => k_is)
    (case cTI => k_is)
    (case kTI => k_is)
    (case aII => k_is)
    (case tII => k_is)
    (case lII => k_is)
    (case cII => k_is)
    (case kII => k_is)
    (case aTJ => k_is)
    (case tTJ => k_is)
    (case lTJ => k_is)
    (case cTJ => k_is)
    (case kTJ => k_is)
    (case aIJ => k_is)
    (case tIJ => k_is)
    (case lIJ => k_is)
    (case cIJ => k_is)
    (case kIJ => k_is)
    (case aTK => k_is)
    (case tTK => k_is)
    (case lTK => k_is)
    (case cTK => k_is)
    (case kTK => k_is)
    (case aIK => k_is)
    (case tIK => k_is)
    (case lIK => k_is)
    (case cIK => k_is)
    (case kIK => k_is)
    (case aTL => k_is)
    (case tTL => k_is)
    (case lTL => k_is)
    (case cTL => k_is)
    (case kTL => k_is)
    (case aTM => k_is)
    (case tTM => k_is)
    (case lTM => k_is)
    (case cTM => k_is)
    (case kTM => k_is)
    (case aIM => k_is)
    (case tIM => k_is)
    (case lIM => k_is)
    (case cIM => k_is)
    (case kIM => k_is)
