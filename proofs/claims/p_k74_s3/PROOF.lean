import PyProof.Rows.All
import Wide.All
import OpenK.AllK
import Wide.FinOn
import HandS.ForMost
import HandS.Exc
import HandS.TryMany
import HandS.Walk
import KE.GoesMore
import PyProof.Draws
import HandS.ForExc
import HandS.ExcInit
import HandS.ExcField
import HandS.IsInst
import HandS.EndBits
import HandS.Style
import HandS.WordsExc
import HandS.SortKw
import KE.DataMinMax
import HandS.ExcValue
import HandS.ExcIs
import HandS.MakeKw
import KE.KExcMore
import KE.KExcIs
import PyProof.ReprRoads
import HandS.ExcBuiltin
import HandS.Lambda
import HandS.EndTab
import KE.KNestM
import HandS.More
import KE.KRevSl
import HandS.HeadHook3
import HandS.Text
import HandS.Codes
import HandS.Conv
import HandS.Wide
import PySem.Challenge.RW_nestfile_k74_bytes_as_texts
set_option Elab.async false
set_option linter.all false
set_option maxRecDepth 100000
set_option maxHeartbeats 2000000
/-! try with several clauses, each with a name or without. -/
namespace QT
open PySem PySem.Spec PyProof.Rows L2
/-- a suite whose clause keeps the exception under slot i -/
def tsAs (i : Nat) (ts : Addr → Value → Option Addr → TS) : Addr → Value → Option Addr → TS := fun a cls d D σ H =>
  ts a cls d { nx := fun σq Hq => D.nx (σq.set i none) Hq, rt := D.rt, bk := fun σq Hq => D.bk (σq.set i none) Hq, ct := fun σq Hq => D.ct (σq.set i none) Hq } (σ.set i (some (.ref a))) H
inductive Clauses (X : Cx) : List ExceptHandler → List (Value × (Addr → Value → Option Addr → TS)) → Prop
  | done : Clauses X [] []
  | bare {x : Str} {c : Value} {ts : Addr → Value → Option Addr → TS} {b : Stmt} {bs : List Stmt} {p q : Pos} {hs : List ExceptHandler} {l : List (Value × (Addr → Value → Option Addr → TS))} (names : Names X x c)
      (su : ∀ (a : Addr) (oe : Obj) (cls : Value) (d : Option Addr) (pn : List (Addr × Obj)), Zc cls d oe → (∃ vs, oe.data = .fields vs) → PSs (X.suite a ((a, oe) :: pn)) (b :: bs) (ts a cls d)) (rest : Clauses X hs l) :
      Clauses X (.ExceptHandler (some (.Name x p)) none (b :: bs) q :: hs) ((c, ts) :: l)
  | named {x n : Str} {i : Nat} {c : Value} {ts : Addr → Value → Option Addr → TS} {b : Stmt} {bs : List Stmt} {p q : Pos} {hs : List ExceptHandler} {l : List (Value × (Addr → Value → Option Addr → TS))} (names : Names X x c)
      (hN : X.N.Nodup) (hi : X.N[i]? = some n) (hl : X.env.kindOf n = some .local)
      (su : ∀ (a : Addr) (oe : Obj) (cls : Value) (d : Option Addr) (pn : List (Addr × Obj)), Zc cls d oe → (∃ vs, oe.data = .fields vs) → PSs (X.suite a ((a, oe) :: pn)) (b :: bs) (ts a cls d)) (rest : Clauses X hs l) :
      Clauses X (.ExceptHandler (some (.Name x p)) (some n) (b :: bs) q :: hs) ((c, tsAs i ts) :: l)
section
variable {X : Cx} {body : List Stmt} {h0 : ExceptHandler} {hs : List ExceptHandler} {l : List (Value × (Addr → Value → Option Addr → TS))} {pos : Pos} {tb : WX → TS} {Wout : WX}
theorem ps_tryN (st : X.stack = X.env :: X.outer) (hf : X.env.frame = some X.env.locals) (tk : Takes X Wout)
    (hb : ∀ (W : WX) (pn : List (Addr × Obj)) (xe : Value → Shared → Prop), Takes (X.tr pn xe) W → PassesOwn (model X.prog X.w) X.A X.env xe → PSs (X.tr pn xe) body (tb W))
    (cl : Clauses X (h0 :: hs) l) : PS X (.Try body (h0 :: hs) [] [] pos) (fun D σ H => tb (wMany X.K Wout D l) D σ H) := by
  refine ⟨fun pins s σ H D I0 reading => ?_⟩
  have hok := I0.ok
  have frames : X.A.frames = some (X.env :: X.outer) := by rw [hok.frames, st]
  refine wpAny_Try_except ?_
  refine wpAny_mono ((hb (wMany X.K Wout D l) (X.pn ++ pins) (fun e s₁ => wpAny (model X.prog X.w) X.A (noteFrame e X.env) (fun _ s₂ => wpAny (model X.prog X.w) X.A (setFlight e none) (fun _ s₃ =>
    wpAny (model X.prog X.w) X.A (handleBy e X.env (h0 :: hs)) (SP X pins D) X.xe s₃) X.xe s₂) X.xe s₁) (fun u t caught => ?_) PassesOwn.looking).run [] s σ H D (I0.toTry _) reading) (fun f s1 through => ?_) (fun e s1 he => he)
  · obtain ⟨a, B, sI, pinsQ, σq, Hq, cls, d, rfl, I1, fresh, grown, sky, na, hos, agree, wish⟩ := caught
    have I2 : Inv X pins σq Hq sI := I1.ofTry hok
    have sky2 : Sky B (X.env :: X.outer) a (Zc cls d) X.env.locals t.heap := by rw [← st]; exact sky
    show wpAny (model X.prog X.w) X.A (noteFrame (.ref a) X.env) _ _ _
    refine Sky.land Zc.steady frames hf sky2 fun g3 flight grown3 => ?_
    have I3 : Inv X pins σq Hq { t with heap := g3 } := I2.landed fresh flight.1 (grown.trans grown3) hos agree
    obtain ⟨o3, fs3, at3, zc3, data3⟩ := flight.there
    have off : ∀ {h : Heap} {o : Obj} {vs : Array Value}, h.FunFrames B (X.env :: X.outer) → h.get? a = some o → o.data = .fields vs → a ∉ frs (X.env :: X.outer) := fun {h o vs} ff at_ dd mem => by
      obtain ⟨_, oo, at', nf⟩ := ff.mem mem
      rw [at_] at at'
      cases at'
      exact nf _ dd
    have offA := off flight.2.2.1 at3 data3
    have offL : a ≠ X.env.locals := fun z => offA (List.mem_filterMap.mpr ⟨X.env, List.mem_cons_self, by rw [hf, z]⟩)
    have offF : a ∉ X.fs := fun mem => by
      obtain ⟨en, hen, q⟩ := List.mem_filterMap.mp mem
      exact offA (List.mem_filterMap.mpr ⟨en, List.mem_cons_of_mem _ hen, q⟩)
    have IS := I3.suite at3 data3 na offL offF
    have tested : ∀ {x : Str} {c : Value} {np : Pos} {Q : Value → Shared → Prop} {E : Value → Shared → Prop}, Names X x c → Q c { t with heap := g3 } → wpAny (model X.prog X.w) (X.A.mark (some (.ref a))) (eval (.Name x np) X.env) Q E { t with heap := g3 } := fun {x c np Q E} nm q => by
      obtain ⟨hg, hdbg, hm | ⟨hm, hv, hnn⟩⟩ := nm
      · exact ld_glob (X := X.suite a ((a, o3) :: (X.pn ++ pins))) IS hg hm q hdbg
      · exact ld_blt (X := X.suite a ((a, o3) :: (X.pn ++ pins))) IS hg hm hv q hnn hdbg
    have typed : PySem.W.Looks (model X.prog X.w) g3 (typeOf (.ref a)) cls := fun A Q E s k q => wpAny_typeOf_ref (k _ _ at3) (by rw [zc3.1]; exact q)
    have walk : ∀ {hs' : List ExceptHandler} {l' : List (Value × (Addr → Value → Option Addr → TS))}, Clauses X hs' l' → wMany X.K Wout D l' cls d σq Hq →
        wpAny (model X.prog X.w) X.A (handleBy (.ref a) X.env hs') (SP X pins D) X.xe { t with heap := g3 } := by
      intro hs' l' hk
      induction hk with
      | done =>
        intro w
        refine wpAny_handleBy_nil ?_
        obtain ⟨_, _, _, oe, vs, T, oT, ts', he, hz, hd, h1, hr⟩ := id flight
        unfold PySem.passOn
        refine wpAny_bind (wpAny_field he hd h1 ?_)
        rw [if_neg (show ¬ ((Value.ref T == Value.none) = true) from by simp)]
        have onward : wpAny (model X.prog X.w) X.A (setFlight (.ref a) X.env.frame) (fun _ s4 => wpAny (model X.prog X.w) X.A (throw (.ref a) : Sem Flow) (SP X pins D) X.xe s4) X.xe { t with heap := g3 } := by
          rw [hf]
          refine HandSPX.setFlight_upZ flight fun g4 hg4 grown4 => wpAny_throw (tk _ _ ?_)
          exact ⟨a, B, sI, pins, σq, Hq, cls, d, rfl, I2, fresh, (grown.trans grown3).trans grown4, .inr (.inr (by rw [st]; exact hg4)), na, hos, agree, w⟩
        first
          | exact wpAny_bind (wpAny_pure (wpAny_bind onward))
          | exact wpAny_bind onward
      | @bare x c ts b bs p q hs2 l2 names su rest ih =>
        intro w
        obtain ⟨hit, hx, yes, no⟩ := w
        refine wpAny_handleBy_cons (codeAny_handlers_test ?_) (by intro z; cases z)
        refine tested names ((PySem.W.exm_one (M := model X.prog X.w) (I3.kIn) typed hx).here ?_)
        cases hit with
        | true =>
          refine codeAny_handlers_suite ?_
          refine HandSPX.lands_againZ flight fun g4 flight4 grown4 => ?_
          have I4 : Inv X pins σq Hq { t with heap := g4 } := I2.landed fresh flight4.1 ((grown.trans grown3).trans grown4) hos agree
          obtain ⟨o4, fs4, at4, zc4, data4⟩ := flight4.there
          refine wpAny_mono ((su a o4 cls d (X.pn ++ pins) zc4 ⟨_, data4⟩).run [] _ _ Hq _ (I4.suite at4 data4 na offL offF) (yes rfl a na)) (fun f s6 hsp => ?_) (fun _ _ z => False.elim z)
          cases f with
          | ret u =>
            obtain ⟨v6, σ6, H6, S6, r6, q6⟩ := hsp
            exact ⟨_, _, _, S6.unsuite hok, r6, q6⟩
          | next | brk | cont =>
            obtain ⟨σ6, H6, S6, q6⟩ := hsp
            exact ⟨_, _, S6.unsuite hok, q6⟩
        | false =>
          show wpAny _ X.A (handleBy (.ref a) X.env hs2) _ _ _
          exact ih (no rfl)
      | @named x n i c ts b bs p q hs2 l2 names hN hi hl su rest ih =>
        intro w
        obtain ⟨hit, hx, yes, no⟩ := w
        refine wpAny_handleBy_cons (codeAny_handlers_test ?_) (by intro z; cases z)
        refine tested names ((PySem.W.exm_one (M := model X.prog X.w) (I3.kIn) typed hx).here ?_)
        cases hit with
        | true =>
          refine codeAny_handlers_suite_as ?_
          refine HandSPX.lands_againZ flight fun g4 flight4 grown4 => ?_
          have I4 : Inv X pins σq Hq { t with heap := g4 } := I2.landed fresh flight4.1 ((grown.trans grown3).trans grown4) hos agree
          obtain ⟨o4, fs4, at4, zc4, data4⟩ := flight4.there
          refine store_ok (X := X.suite a ((a, o4) :: (X.pn ++ pins))) (v := .ref a) (I4.suite at4 data4 na offL offF) hN hi (.inl hl) rfl (fun s5 S5 => ?_) (.inr hl)
          refine wpAny_mono ((su a o4 cls d (X.pn ++ pins) zc4 ⟨_, data4⟩).run [] s5 _ Hq _ S5 (yes rfl a na)) (fun f s6 hsp => ?_) (fun _ _ z => False.elim z)
          have gone : ∀ {σ6 : L2.St} {H6 : Hp} {R : Shared → Prop}, Inv (X.suite a ((a, o4) :: (X.pn ++ pins))) [] σ6 H6 s6 → (∀ s7, Inv X pins (σ6.set i none) H6 s7 → R s7) →
              wpAny (model X.prog X.w) X.A (do bindName X.env n .none; unbindBehindTheSuite X.env n q) (fun _ s7 => R s7) X.xe s6 := fun {σ6 H6 R} S6 hq => gone_ok (S6.unsuite hok) hN hi hl hq
          cases f with
          | ret u =>
            obtain ⟨v6, σ6, H6, S6, r6, q6⟩ := hsp
            exact gone S6 fun s7 J7 => ⟨_, _, _, J7, r6, q6⟩
          | next | brk | cont =>
            obtain ⟨σ6, H6, S6, q6⟩ := hsp
            exact gone S6 fun s7 J7 => ⟨_, _, J7, q6⟩
        | false =>
          show wpAny _ X.A (handleBy (.ref a) X.env hs2) _ _ _
          exact ih (no rfl)
    exact walk cl wish
  · cases f with
    | ret u =>
      obtain ⟨v, σq, Hq, I1, r, q⟩ := through
      exact ⟨v, σq, Hq, I1.ofTry hok, r, q⟩
    | next =>
      obtain ⟨σq, Hq, I1, q⟩ := through
      exact wpAny_execs_nil ⟨σq, Hq, I1.ofTry hok, q⟩
    | brk | cont =>
      obtain ⟨σq, Hq, I1, q⟩ := through
      exact ⟨σq, Hq, I1.ofTry hok, q⟩
end
end QT

/-! list + list where either may be the script. -/
namespace QT
open PySem PySem.Spec PySem.P PyProof PyProof.Rows L2
theorem meets_cat (l b : Addr) (xs ys : Array Value) (n m : Nat) (sl sb : Array (Option Value)) (hc : xs.size + ys.size ≤ sizeLine) :
    Meets (Builtin.«list.__add__» ⟨[.ref l, .ref b], []⟩) (fun _ R s => s.heap.get? l = some (⟨.type "list", none, .seq xs n, sl⟩ : Obj) ∧ s.heap.get? b = some (⟨.type "list", none, .seq ys m, sb⟩ : Obj) ∧
      R (.ok (.ret (Value.ref s.heap.objs.size))) { s with heap := s.heap.push { cls := Value.type "list", data := Data.seq (xs ++ ys) } }) :=
  .of_wp fun prog w A R s h => by
    obtain ⟨hp, g, d, tk, os⟩ := s
    obtain ⟨hl, hb, h⟩ := h
    have g1 := PySem.AutoSeq1.idx_int
    have g2 := PySem.AutoSeq1.sub_tuple_tuple
    have g3 := PySem.AutoSeq1.sub_list_list
    have g4 := PySem.AutoSeq1.sub_tuple_list
    have g5 := PySem.AutoSeq1.sub_list_tuple
    wp_walk using PySem.AutoSeq1.wpAny_loadPart' hl, PySem.AutoSeq1.wpAny_loadPart' hb
    exact ⟨_, rfl, h⟩

/-- what an Inv says of a list that may be read -/
theorem list_at {X : Cx} {pins : List (Addr × Obj)} {σ : L2.St} {H : Hp} {s : Shared} {a : Addr} {xs : List V} (I : Inv X pins σ H s) (h : SqL X.K H a xs) :
    ∃ (its : List Value) (n : Nat) (sl : Array (Option Value)), Vals xs its ∧ s.heap.get? a = some (⟨.type "list", none, .seq its.toArray n, sl⟩ : Obj) := by
  obtain ⟨its, r, ⟨o, n, e, hc, hd, hs⟩, _⟩ := I.list h
  obtain ⟨c, d, dt, sl⟩ := o
  cases hc
  cases hd
  cases hs
  exact ⟨its, n, sl, r, e⟩
def rCatS (K : PySem.W.Frag) : R2 := fun x y H Q => ∃ a b xs ys, x = .ref a ∧ y = .ref b ∧ SqL K H a xs ∧ SqL K H b ys ∧ xs.length + ys.length ≤ sizeLine ∧
  ∀ p, H p = none → Q (.ref p) (upd H p (.lst (xs ++ ys)))
theorem op_catS {X : Cx} : OpR X (binaryOp .Add) (rCatS X.K) := by
  intro pins s σ H x y v u Q I rx ry h
  obtain ⟨a, b, xs, ys, rfl, rfl, ha, hb, hz, q⟩ := h
  cases rx
  cases ry
  obtain ⟨is, n, sl, ra, ea⟩ := list_at I ha
  obtain ⟨js, m, sb, rb, eb⟩ := list_at I hb
  have la := Paired.length ra
  have lb := Paired.length rb
  refine concat_meets ⟨_, ea, rfl⟩ ⟨_, eb, rfl⟩ noFill_list_add seq_list_add F.slot_list_add F.entry_list_add (F.args_list_add_2 _ _) (meets_cat a b is.toArray js.toArray n m sl sb (by rw [List.size_toArray, List.size_toArray]; omega)) ⟨ea, eb, ?_⟩
  have e2 : is.toArray ++ js.toArray = (is ++ js).toArray := by simp
  rw [e2]
  exact ⟨.ref _, _, I.lnew (t' := s.toks) (ra.append rb) (by rw [List.length_append]; omega), rfl, q _ I.fresh⟩
end QT

set_option maxHeartbeats 4000000
/-! for a, b in enumerate(t), t a tuple; and of either kind. -/
namespace QT
open PySem PySem.Spec PyProof.Rows L2
/-- enumerate's own making over a tuple -/
theorem meets_enumT (l : Addr) (items : Array Value) :
    Meets (Builtin.«enumerate.__new__» ⟨[.type "enumerate", .ref l], []⟩) (fun _ R s => s.heap.IsTuple l items ∧
      R (.ok (.ret (.ref (s.heap.push { cls := .type "tuple_iterator", data := .fields #[.ref l, .int 0 0] }).objs.size)))
        { s with heap := (s.heap.push { cls := .type "tuple_iterator", data := .fields #[.ref l, .int 0 0] }).push { cls := .type "enumerate", data := .fields #[.none, .bool false, .ref s.heap.objs.size, rawInt 0, .none, .none] } }) :=
  .of_wp fun prog w A R s h => by
    obtain ⟨hp, g, d, tk, os⟩ := s
    obtain ⟨hl, h⟩ := h
    have kind := sub_enumerate
    wp_walk
    refine wpAny_stack_any fun st => wpAny_pure ?_
    split
    · rename_i c _ _ _ _ _
      cases (c == Value.type "enumerate")
      · wp_walk using wpAny_pyIter_tuple hl
        exact ⟨_, rfl, h⟩
      · wp_walk using wpAny_pyIter_tuple hl
        exact ⟨_, rfl, h⟩
    · wp_walk using wpAny_pyIter_tuple hl
      exact ⟨_, rfl, h⟩
section
variable {prog : Program} {w : World} {A : Around} {E : Value → Shared → Prop} {s : Shared}
theorem call_enumT {l : Addr} {items : Array Value} {Q : Value → Shared → Prop} (hL : s.heap.IsTuple l items)
    (h : ∀ g, IsEnum g (s.heap.objs.size + 1) s.heap.objs.size 0 .none → g.IsTupleIter s.heap.objs.size l 0 → g.objs.size = s.heap.objs.size + 2 →
      (∀ b o, s.heap.get? b = some o → g.get? b = some o) → Q (.ref (s.heap.objs.size + 1)) { s with heap := g }) :
    wpAny (model prog w) A (call (.type "enumerate") [.ref l]) Q E s := by
  refine callType_new F.called_enumerate (by decide) (F.typeCall_enumerate_1 _) (F.newCall_enumerate_1 _) (fun obj => F.args_object_init_2 obj _) F.entry_enumerate_new (meets_enumT l items) ⟨hL, ?_⟩
  have big : (s.heap.push { cls := .type "tuple_iterator", data := .fields #[.ref l, .int 0 0] }).objs.size = s.heap.objs.size + 1 := Heap.size_push ..
  show _ ∧ _
  rw [big]
  have made : IsEnum ((s.heap.push { cls := .type "tuple_iterator", data := .fields #[.ref l, .int 0 0] }).push
      { cls := .type "enumerate", data := .fields #[.none, .bool false, .ref s.heap.objs.size, rawInt 0, .none, .none] }) (s.heap.objs.size + 1) s.heap.objs.size 0 .none := by
    have there := Heap.get?_push_size (s.heap.push { cls := .type "tuple_iterator", data := .fields #[.ref l, .int 0 0] })
      (o := { cls := .type "enumerate", data := .fields #[.none, .bool false, .ref s.heap.objs.size, rawInt 0, .none, .none] }) rfl
    rw [big] at there
    exact there
  exact ⟨⟨_, made, rfl⟩, h _ made ⟨_, Heap.get?_push_of_some _ (Heap.get?_push_size _ rfl), rfl, rfl⟩ (by rw [Heap.size_push, big]) fun b o x => Heap.get?_push_of_some _ (Heap.get?_push_of_some _ x)⟩
end
/-- the tuple at a as it stands, each item in a new pair -/
def IteT (K : PySem.W.Frag) (a : Addr) : It :=
  ⟨fun i H => ∃ (xs : List V) (x : V), SqT K H a xs ∧ xs[i]? = some x, fun i H v Hn => ∃ T x, v = .ref T ∧ H T = none ∧ Hn = upd H T (.tup [.int (i : Nat), x]) ∧ ∀ xs, SqT K H a xs → xs[i]? = some x, fun i H => ∃ xs : List V, SqT K H a xs ∧ xs.length ≤ i⟩
theorem isTuple_of {h : Heap} {a : Addr} {its : Array Value} (p : IsTup h a its) : h.IsTuple a its := p
theorem turn_enumT {P : Program} {w : World} {K : PySem.W.Frag} {elts : List Expr} {kk : Nat} {tpos : Pos} (a e it : Addr) :
    Turn P w K (.Tuple elts kk tpos) (IteT K a) [e, it] e (fun i h => (∃ old, IsEnum h e it ((i : Nat) : Int) old) ∧ h.IsTupleIter it a i ∧ e ≠ it) where
  mem := by simp
  obj := fun i h st b hb => by
    obtain ⟨⟨old, he⟩, ⟨o, ho, hc, hd⟩, _⟩ := st
    rcases (show b = e ∨ b = it by simpa using hb) with z | z
    · rw [z]
      exact ⟨_, he, fun v q => nomatch q⟩
    · rw [z]
      exact ⟨o, ho, fun v q => by rw [hd] at q; cases q⟩
  keep := fun i h h' st k => let ⟨⟨old, he⟩, ⟨o, ho, r⟩, hne⟩ := st; ⟨⟨old, k e (by simp) _ he⟩, ⟨o, k it (by simp) _ ho, r⟩, hne⟩
  item := by
    intro X hP hw hK hc i pins s σ H E I hf st hg
    subst hP hw hK
    obtain ⟨⟨old, he⟩, hit, hne⟩ := st
    obtain ⟨xs, x, hq, hx⟩ := hg
    obtain ⟨its, rv, p, hz⟩ := I.tuple hq
    obtain ⟨u, hu, ru⟩ := rv.get hx
    have sizeE : e < s.heap.objs.size := Heap.lt_size he
    have sizeI : it < s.heap.objs.size := by
      obtain ⟨_, q, _⟩ := hit
      exact Heap.lt_size q
    have T0 : s.heap.IsTuple a its.toArray := isTuple_of p
    have nat : a ≠ it := fun z => by
      obtain ⟨o1, e1, c1, _⟩ := hit
      obtain ⟨o2, e2, c2, _⟩ := T0
      rw [z, e1] at e2
      cases e2
      rw [c1] at c2
      exact absurd (Value.type.inj c2) (by decide)
    have nae : e ∉ [it, a] := by
      intro z
      rcases (show e = it ∨ e = a by simpa using z) with z | z
      · exact hne z
      · obtain ⟨o2, e2, c2, _⟩ := T0
        rw [← z, he] at e2
        cases e2
        exact absurd (Value.type.inj c2) (by decide)
    have lt : i < its.toArray.size := by
      have z := (List.getElem?_eq_some_iff.mp hu).1
      simpa using z
    refine wpAny_pyNext_enum_itemD (Draws.tuple (A := X.A.in1) (I.ok.hd hc) it a nat its.toArray) he ⟨hit, T0⟩ lt hne nae fun y g tk hy out st1 hT hsz hk => ?_
    have ey : y = u := by
      have z : its[i]? = some y := by simpa using hy
      rw [hu] at z
      exact (Option.some.inj z).symm
    subst ey
    refine ⟨_, rfl, wpAny_letOwnedTupleGo_enum (s := { s with heap := g, toks := tk + 1 }) out fun g2 he2 sb => ?_⟩
    have hT2 : g2.get? s.heap.objs.size = some { cls := .type "tuple", data := .seq #[.int i tk, y] } := (sb.2 _ (Nat.ne_of_gt sizeE)).trans hT
    have new : ObjOk X.prog X.w (upd H s.heap.objs.size (.tup [.int (i : Nat), x])) g2 s.heap.objs.size (.tup [.int (i : Nat), x]) :=
      ⟨by show 2 ≤ sizeLine; decide, [.int i tk, y], .cons ⟨_, rfl⟩ (.cons ru .nil), ⟨_, hT2, rfl, _, rfl⟩⟩
    have kept : ∀ b ob, b ∉ [e, it] → s.heap.get? b = some ob → g2.get? b = some ob := fun b ob hb q => (sb.2 b (fun z => hb (by simp [z]))).trans (hk b ob (fun z => hb (by simp [z])) (fun z => hb (by simp [z])) q)
    have I1 : Inv X pins σ (upd H s.heap.objs.size (.tup [.int (i : Nat), x])) { s with heap := g2, toks := tk + 1 } := I.turnedNew (ch := [e, it]) kept hf (Nat.le_refl _) new
    refine ⟨.ref s.heap.objs.size, _, I1, rfl, ⟨_, x, rfl, I.hok.fresh (Nat.le_refl _), rfl, fun ys hy2 => by rw [I.tuple_inj hy2 hq]; exact hx⟩, ⟨⟨y, ?_⟩, ?_, hne⟩, fun b hb => ?_⟩
    · have e1 : ((i + 1 : Nat) : Int) = (i : Int) + 1 := by omega
      rw [e1]
      exact he2
    · obtain ⟨⟨o, ho, r⟩, _⟩ := st1
      exact ⟨o, (sb.2 it (Ne.symm hne)).trans ho, r⟩
    · have hb2 : b < s.heap.objs.size := by
        rcases (show b = e ∨ b = it by simpa using hb) with z | z
        · rw [z]; exact sizeE
        · rw [z]; exact sizeI
      rw [upd_ne (Nat.ne_of_lt hb2)]
      exact (hf b hb).1
  done := by
    intro X hP hw hK hc i pins s σ H E I hf st hg
    subst hP hw hK
    obtain ⟨⟨old, he⟩, hit, hne⟩ := st
    obtain ⟨xs, hq, hx⟩ := hg
    obtain ⟨its, rv, p, hz⟩ := I.tuple hq
    obtain ⟨f0, f1, f2, f3, f4, f5⟩ := hf it (by simp)
    have T0 : s.heap.IsTuple a its.toArray := isTuple_of p
    have nat : a ≠ it := fun z => by
      obtain ⟨o1, e1, c1, _⟩ := hit
      obtain ⟨o2, e2, c2, _⟩ := T0
      rw [z, e1] at e2
      cases e2
      rw [c1] at c2
      exact absurd (Value.type.inj c2) (by decide)
    have hl := rv.length
    have none_ : its.toArray[i]? = none := by simp; omega
    have fin : ∀ g, Heap.ExtBut it s.heap g → (none : Option Value) = none ∧ Inv X pins σ H { s with heap := g } := fun g eb => ⟨rfl, I.turned (t' := s.toks) (fun b o hb q => eb b o hb q) f0 f1 f3 f4 f5⟩
    -- the end is met at any place behind the last
    have hT : s.TypeIs (.ref e) "enumerate" := ⟨_, he, rfl⟩
    unfold pyNext
    refine wpAny_bind (wpAny_attempt (wpAny_callSpecial?_slot (name := Str.ofString "__next__") hT F.slot_enumerate_next (wpAny_call_entry F.slot_enumerate_next hT F.entry_enumerate_next ?_ (F.args_enumerate_next_1 _))))
    show wpAny _ _ (field (.ref e) 2 >>= _) _ _ _
    refine wpAny_bind (wpAny_field he rfl (x := .ref it) rfl ?_)
    refine wpAny_bind (wpAny_nextOf_tuple_end (I.ok.hd hc) hit T0 none_ fun g x eb hx2 => ?_)
    obtain ⟨o, ho, hcl⟩ := hx2
    refine wpAny_bind (wpAny_isInstance (T := "StopIteration") (b := true) ⟨o, ho, hcl⟩ isSubtype_stop ?_)
    exact wpAny_pure (fin g eb)
  self := fun A i s Q E st h => let ⟨⟨_, he⟩, _⟩ := st; wpAny_pyIter_enum he h
/-- enumerate over a list or a tuple -/
def iEnumS (K : PySem.W.Frag) (ta : TA) : TI := fun σ H R => ta σ H fun vs H1 => ∃ a, vs = [.ref a] ∧ ((∃ xs, SqL K H1 a xs ∧ R (Ite K a) H1) ∨ ∃ xs, SqT K H1 a xs ∧ R (IteT K a) H1)
theorem pi_enumS {X : Cx} {e : Expr} {ta : TA} {p pos tpos : Pos} {elts : List Expr} {kk : Nat} (hg : Gl X "enumerate") (hm : X.mg "enumerate" = none) (ha : PA X [e] ta) (hs : starEach [e] X.env = [(false, eval e X.env)] := by rfl) :
    PI X (.Tuple elts kk tpos) (.Call (.Name "enumerate" p) [e] [] pos) (iEnumS X.K ta) := by
  refine ⟨fun pins s σ H R I h => ?_⟩
  refine Call_ (ld_blt I hg hm boot_enumerate (PyProof.Rows.callWith_type1 (thn (ha.run pos pins s σ H _ I h) fun us s1 ⟨vs, H1, I1, r1, q1⟩ => ?_) hs rfl))
  obtain ⟨a, ex, q⟩ := q1
  subst ex
  cases r1 with
  | cons r rr =>
    cases rr
    cases r
    have near : ∀ b, b ∈ [s1.heap.objs.size + 1, s1.heap.objs.size] → FpOk X pins H1 b := fun b hb => by
      have hle : s1.heap.objs.size ≤ b := by
        rcases (show b = s1.heap.objs.size + 1 ∨ b = s1.heap.objs.size by simpa using hb) with z | z
        · rw [z]; exact Nat.le_add_right _ _
        · rw [z]; exact Nat.le_refl _
      exact I1.fpOk hle (I1.hok.fresh hle)
    rcases q with ⟨xs, hq, q⟩ | ⟨xs, hq, q⟩
    · obtain ⟨its, rv, pl, hz⟩ := I1.list hq
      refine call_enumerate_list pl.isList fun g he hit hsz hk => wpAny_pyIter_enum he ?_
      exact ⟨_, [s1.heap.objs.size + 1, s1.heap.objs.size], _, _, H1, rfl, I1.kept (t' := s1.toks) hk, turn_enum a (s1.heap.objs.size + 1) s1.heap.objs.size, ⟨⟨.none, he⟩, hit, Nat.succ_ne_self _⟩, near, q⟩
    · obtain ⟨its, rv, pl, hz⟩ := I1.tuple hq
      refine call_enumT (isTuple_of pl) fun g he hit hsz hk => wpAny_pyIter_enum he ?_
      exact ⟨_, [s1.heap.objs.size + 1, s1.heap.objs.size], _, _, H1, rfl, I1.kept (t' := s1.toks) hk, turn_enumT a (s1.heap.objs.size + 1) s1.heap.objs.size, ⟨⟨.none, he⟩, hit, Nat.succ_ne_self _⟩, near, q⟩
theorem walk_enumT {K : PySem.W.Frag} {a : Addr} {xs : List V} : Walk (IteT K a) xs.length (fun H => SqT K H a xs) (YPair (fun i => some (.int (i : Nat))) (fun i => xs[i]?)) := by
  refine ⟨fun i _ hi q => ⟨xs, xs[i], q, by simp [hi]⟩, fun _ q => ⟨xs, q, Nat.le_refl _⟩, fun i H v Hn _ q y => ?_⟩
  obtain ⟨T, x, y1, y2, y3, y4⟩ := y
  exact ⟨T, .int (i : Nat), x, y1, y2, y3, rfl, y4 xs q⟩
end QT

/-! Words of my own: a def that may be called by its name. -/
namespace QT
open PySem PySem.Spec PyProof.Rows L2
structure Cal (P : Program) (w : World) (K : PySem.W.Frag) (mg : Str → Option Value) (base : Heap) (k : Nat) (x : Str) (sp : Sp) : Prop where
  ex : ∃ (f : Addr) (fd : FuncData) (ps : List Str), FnOk P w K mg base CX0 k f fd ps sp ∧ mg x = some (.ref f) ∧ PySem.W.keepIn K (.ref f) = true ∧ Binds K fd ps []
/-- one that may raise -/
structure CalX (P : Program) (w : World) (K : PySem.W.Frag) (mg : Str → Option Value) (base : Heap) (k : Nat) (x : Str) (sp : Sp) : Prop where
  ex : ∃ (f : Addr) (fd : FuncData) (ps : List Str), FnOk P w K mg base (L2.CX P w) k f fd ps sp ∧ mg x = some (.ref f) ∧ PySem.W.keepIn K (.ref f) = true ∧ Binds K fd ps []
section
variable {X : Cx} {k j : Nat} {x : Str} {sp : Sp} {p pos : Pos} {e : Expr} {es : List Expr} {t : TA} {W : WX}
theorem pe_c (c : Cal X.prog X.w X.K X.mg X.base k x sp) (hr : Room j X.A) (hk : k ≤ j) (hg : Gl X x) (ha : PA X (e :: es) t)
    (hdb : (x == ("__debug__" : Str)) = false := by decide) (he : starEach (e :: es) X.env = (false, eval e X.env) :: starEach es X.env := by rfl) (hpl : (backTo pos (starEach es X.env)).any (·.1) = false := by rfl) :
    PE X (.Call (.Name x p) (e :: es) [] pos) (tCall sp [] E0 t) := by
  obtain ⟨f, fd, ps, F, hm, kp, b⟩ := c.ex
  exact pe_call F (hr.mono hk) hg hm kp b .nil pass0 ha hdb he hpl
/-- what it raises goes to W, at the caller's slots -/
theorem pe_cX (tk : Takes X W) (c : CalX X.prog X.w X.K X.mg X.base k x sp) (hr : Room j X.A) (hk : k ≤ j) (hg : Gl X x) (ha : PA X (e :: es) t)
    (hdb : (x == ("__debug__" : Str)) = false := by decide) (he : starEach (e :: es) X.env = (false, eval e X.env) :: starEach es X.env := by rfl) (hpl : (backTo pos (starEach es X.env)).any (·.1) = false := by rfl) :
    PE X (.Call (.Name x p) (e :: es) [] pos) (tCallS sp (WE W) t) := by
  obtain ⟨f, fd, ps, F, hm, kp, b⟩ := c.ex
  exact pe_callS F (hr.mono hk) hg hm kp b (fun σ => passAt tk σ) ha hdb he hpl
end

/-! one step of a reading by its head -/
section
variable {σ : L2.St} {H : Hp} {D : Ends} {Q : VK} {QA : List V → Hp → Prop} {QT' : Bool → Hp → Prop}
theorem use_seq {t u : TS} (h : t { D with nx := u D } σ H) : tSeq t u D σ H := h
theorem use_asg {te : TE} {g : TG} (h : te σ H fun x H1 => g x σ H1 D.nx) : tAsg te g D σ H := h
theorem use_set {te : TE} {i : Nat} (h : te σ H fun x H1 => D.nx (σ.set i (some x)) H1) : tAsg te (gName i) D σ H := h
theorem use_drop {te : TE} (h : te σ H fun _ H1 => D.nx σ H1) : tDrop te D σ H := h
theorem use_ret {te : TE} (h : te σ H D.rt) : tRet te D σ H := h
theorem use_if {c : TT} {t u : TS} (h : c σ H fun b H1 => if b = true then t D σ H1 else u D σ H1) : tIfS c t u D σ H := h
theorem use_lst {t : TA} (h : t σ H fun xs H1 => xs.length ≤ sizeLine ∧ ∀ p, H1 p = none → Q (.ref p) (upd H1 p (.lst xs))) : tLst t σ H Q := h
theorem use_tup {t : TA} (h : t σ H fun xs H1 => xs.length ≤ sizeLine ∧ ∀ p, H1 p = none → Q (.ref p) (upd H1 p (.tup xs))) : tTup t σ H Q := h
theorem use_op {r : R2} {ta tb : TE} (h : ta σ H fun x H1 => tb σ H1 fun y H2 => r x y H2 Q) : tOp r ta tb σ H Q := h
theorem use_cons {te : TE} {t : TA} (h : te σ H fun x H1 => t σ H1 fun vs H2 => QA (x :: vs) H2) : tCons te t σ H QA := h
theorem use_nil (h : QA [] H) : tNil σ H QA := h
theorem use_cb {r : List V → Hp → VK → Prop} {t : TA} (h : t σ H fun vs H1 => r vs H1 Q) : tCB r t σ H Q := h
theorem use_call {sp : Sp} {dvs : List V} {E : XK} {t : TA} (h : t σ H fun vs H1 => sp (vs ++ dvs) H1 Q E) : tCall sp dvs E t σ H Q := h
theorem use_c {v : V} (h : Q v H) : tC v σ H Q := h
theorem use_var {i : Nat} {v : V} (e : σ[i]? = some (some v)) (h : Q v H) : tVar i σ H Q := ⟨v, e, h⟩
theorem use_test {t : TE} (h : t σ H fun x H1 => ∃ k, x = .bl k ∧ QT' k H1) : tTest t σ H QT' := h
end
/-- a reading may be told by another -/
theorem pe_imp {X : Cx} {e : Expr} {t t2 : TE} (h : PE X e t) (i : ∀ σ H Q, t2 σ H Q → t σ H Q) : PE X e t2 := ⟨fun pins s σ H Q I q => h.run pins s σ H Q I (i σ H Q q)⟩
theorem pss_imp {X : Cx} {st : List Stmt} {t t2 : TS} (h : PSs X st t) (i : ∀ D σ H, t2 D σ H → t D σ H) : PSs X st t2 := ⟨fun pins s σ H D I q => h.run pins s σ H D I (i D σ H q)⟩
end QT

/-! min and max of whole numbers with default=; is True, is False of anything -/
namespace QT
open PySem PySem.Spec PyProof.Rows L2
section
variable {prog : Program} {w : World} {A : Around} {E : Value → Shared → Prop} {s : Shared}
theorem minD_list {l : Addr} {vs : Array Value} {d : Value} {val : Nat → Int} {Q : Value → Shared → Prop} (hh : A.handled = none) (hl : s.heap.IsList l vs) (hv : ∀ i v, vs[i]? = some v → ∃ t, v = Value.int (val i) t)
    (h0 : vs.size = 0 → ∀ h' tk, (∀ b o, s.heap.get? b = some o → h'.get? b = some o) → Q d { s with heap := h', toks := tk })
    (h : ∀ i t h' tk, i < vs.size → (∀ j, j < vs.size → val i ≤ val j) → (∀ b o, s.heap.get? b = some o → h'.get? b = some o) → Q (.int (val i) t) { s with heap := h', toks := tk }) :
    wpAny (model prog w) A (call (.builtin "min") [.ref l] [(Str.ofString "default", d)]) Q E s := by
  refine call_min_walkD (W.iter_listW (A := A.in1) hh hl fun s₂ e wk st hfp hw hk => ?_)
  refine ⟨_, _, _, _, _, _, _, s.heap, (fun i j => decide (val i < val j)), rfl, wk, st, hfp, hw, hk, fun hz s' m => ?_, fun hp => ⟨fun i j vi vj s' Q E _ hi hj hq => CmpOf.ints_lt (P := fun i v => vs[i]? = some v) val hv i j vi vj s' Q E hi hj hq, fun v s' hP m => ?_⟩⟩
  · obtain ⟨h', tk, rfl, hk'⟩ := W.moved_old e rfl m
    exact h0 hz h' tk hk'
  · obtain ⟨h', tk, rfl, hk'⟩ := W.moved_old e rfl m
    obtain ⟨t, rfl⟩ := hv _ v hP
    have hb := argBest_lt val (vs.size - 1)
    exact h _ t h' tk (by omega) (fun j hj => hb.2 j (by omega)) hk'
theorem minD_tuple {l : Addr} {vs : Array Value} {d : Value} {val : Nat → Int} {Q : Value → Shared → Prop} (hh : A.handled = none) (hl : s.heap.IsTuple l vs) (hv : ∀ i v, vs[i]? = some v → ∃ t, v = Value.int (val i) t)
    (h0 : vs.size = 0 → ∀ h' tk, (∀ b o, s.heap.get? b = some o → h'.get? b = some o) → Q d { s with heap := h', toks := tk })
    (h : ∀ i t h' tk, i < vs.size → (∀ j, j < vs.size → val i ≤ val j) → (∀ b o, s.heap.get? b = some o → h'.get? b = some o) → Q (.int (val i) t) { s with heap := h', toks := tk }) :
    wpAny (model prog w) A (call (.builtin "min") [.ref l] [(Str.ofString "default", d)]) Q E s := by
  refine call_min_walkD (W.iter_tupleW (A := A.in1) hh hl fun s₂ e wk st hfp hw hk => ?_)
  refine ⟨_, _, _, _, _, _, _, s.heap, (fun i j => decide (val i < val j)), rfl, wk, st, hfp, hw, hk, fun hz s' m => ?_, fun hp => ⟨fun i j vi vj s' Q E _ hi hj hq => CmpOf.ints_lt (P := fun i v => vs[i]? = some v) val hv i j vi vj s' Q E hi hj hq, fun v s' hP m => ?_⟩⟩
  · obtain ⟨h', tk, rfl, hk'⟩ := W.moved_old e rfl m
    exact h0 hz h' tk hk'
  · obtain ⟨h', tk, rfl, hk'⟩ := W.moved_old e rfl m
    obtain ⟨t, rfl⟩ := hv _ v hP
    have hb := argBest_lt val (vs.size - 1)
    exact h _ t h' tk (by omega) (fun j hj => hb.2 j (by omega)) hk'
theorem maxD_list {l : Addr} {vs : Array Value} {d : Value} {val : Nat → Int} {Q : Value → Shared → Prop} (hh : A.handled = none) (hl : s.heap.IsList l vs) (hv : ∀ i v, vs[i]? = some v → ∃ t, v = Value.int (val i) t)
    (h0 : vs.size = 0 → ∀ h' tk, (∀ b o, s.heap.get? b = some o → h'.get? b = some o) → Q d { s with heap := h', toks := tk })
    (h : ∀ i t h' tk, i < vs.size → (∀ j, j < vs.size → val j ≤ val i) → (∀ b o, s.heap.get? b = some o → h'.get? b = some o) → Q (.int (val i) t) { s with heap := h', toks := tk }) :
    wpAny (model prog w) A (call (.builtin "max") [.ref l] [(Str.ofString "default", d)]) Q E s := by
  refine call_max_walkD (W.iter_listW (A := A.in1) hh hl fun s₂ e wk st hfp hw hk => ?_)
  refine ⟨_, _, _, _, _, _, _, s.heap, (fun i j => decide (val i > val j)), rfl, wk, st, hfp, hw, hk, fun hz s' m => ?_, fun hp => ⟨fun i j vi vj s' Q E _ hi hj hq => CmpOf.ints_gt (P := fun i v => vs[i]? = some v) val hv i j vi vj s' Q E hi hj hq, fun v s' hP m => ?_⟩⟩
  · obtain ⟨h', tk, rfl, hk'⟩ := W.moved_old e rfl m
    exact h0 hz h' tk hk'
  · obtain ⟨h', tk, rfl, hk'⟩ := W.moved_old e rfl m
    obtain ⟨t, rfl⟩ := hv _ v hP
    have hb := argBest_gt val (vs.size - 1)
    exact h _ t h' tk (by omega) (fun j hj => hb.2 j (by omega)) hk'
theorem maxD_tuple {l : Addr} {vs : Array Value} {d : Value} {val : Nat → Int} {Q : Value → Shared → Prop} (hh : A.handled = none) (hl : s.heap.IsTuple l vs) (hv : ∀ i v, vs[i]? = some v → ∃ t, v = Value.int (val i) t)
    (h0 : vs.size = 0 → ∀ h' tk, (∀ b o, s.heap.get? b = some o → h'.get? b = some o) → Q d { s with heap := h', toks := tk })
    (h : ∀ i t h' tk, i < vs.size → (∀ j, j < vs.size → val j ≤ val i) → (∀ b o, s.heap.get? b = some o → h'.get? b = some o) → Q (.int (val i) t) { s with heap := h', toks := tk }) :
    wpAny (model prog w) A (call (.builtin "max") [.ref l] [(Str.ofString "default", d)]) Q E s := by
  refine call_max_walkD (W.iter_tupleW (A := A.in1) hh hl fun s₂ e wk st hfp hw hk => ?_)
  refine ⟨_, _, _, _, _, _, _, s.heap, (fun i j => decide (val i > val j)), rfl, wk, st, hfp, hw, hk, fun hz s' m => ?_, fun hp => ⟨fun i j vi vj s' Q E _ hi hj hq => CmpOf.ints_gt (P := fun i v => vs[i]? = some v) val hv i j vi vj s' Q E hi hj hq, fun v s' hP m => ?_⟩⟩
  · obtain ⟨h', tk, rfl, hk'⟩ := W.moved_old e rfl m
    exact h0 hz h' tk hk'
  · obtain ⟨h', tk, rfl, hk'⟩ := W.moved_old e rfl m
    obtain ⟨t, rfl⟩ := hv _ v hP
    have hb := argBest_gt val (vs.size - 1)
    exact h _ t h' tk (by omega) (fun j hj => hb.2 j (by omega)) hk'
end
theorem vint_at {ns : List Int} {its : List Value} (r : Vals (ns.map V.int) its) (i : Nat) (v : Value) (h : its.toArray[i]? = some v) : ∃ t, v = Value.int (ns.getD i 0) t := by
  have h : its[i]? = some v := by simpa using h
  have hl : (ns.map V.int).length = its.length := r.length
  have lt : i < its.length := by
    rcases Nat.lt_or_ge i its.length with z | z
    · exact z
    · rw [List.getElem?_eq_none z] at h
      cases h
  have lt2 : i < ns.length := by
    rw [List.length_map] at hl
    omega
  have e : (ns.map V.int)[i]? = some (V.int ns[i]) := by
    rw [List.getElem?_map, List.getElem?_eq_getElem lt2]
    rfl
  obtain ⟨u, h1, h2⟩ := r.get e
  rw [h] at h1
  cases h1
  obtain ⟨t, h2⟩ := h2
  refine ⟨t, ?_⟩
  rw [h2, List.getD_eq_getElem?_getD, List.getElem?_eq_getElem lt2]
  rfl
/-- min(xs, default=d), xs a list or a tuple of whole numbers -/
def rMinD (K : PySem.W.Frag) : List V → List V → Hp → VK → Prop := fun vs zs H Q => ∃ (a : Addr) (ns : List Int) (d : V), vs = [V.ref a] ∧ zs = [d] ∧ (SqL K H a (ns.map V.int) ∨ SqT K H a (ns.map V.int)) ∧ (ns = [] → Q d H) ∧ ∀ m, m ∈ ns → (∀ y, y ∈ ns → m ≤ y) → Q (.int m) H
def rMaxD2 (K : PySem.W.Frag) : List V → List V → Hp → VK → Prop := fun vs zs H Q => ∃ (a : Addr) (ns : List Int) (d : V), vs = [V.ref a] ∧ zs = [d] ∧ (SqL K H a (ns.map V.int) ∨ SqT K H a (ns.map V.int)) ∧ (ns = [] → Q d H) ∧ ∀ m, m ∈ ns → (∀ y, y ∈ ns → y ≤ m) → Q (.int m) H
theorem getD_memI {ns : List Int} {i : Nat} (h : i < ns.length) : ns.getD i 0 ∈ ns := by
  rw [List.getD_eq_getElem?_getD, List.getElem?_eq_getElem h]
  exact List.getElem_mem h
theorem mem_getDI {ns : List Int} {y : Int} (h : y ∈ ns) : ∃ j, j < ns.length ∧ ns.getD j 0 = y := by
  obtain ⟨j, hj, e⟩ := List.getElem_of_mem h
  refine ⟨j, hj, ?_⟩
  rw [List.getD_eq_getElem?_getD, List.getElem?_eq_getElem hj]
  exact e
section
variable {X : Cx}
theorem cr_minD (hc : X.calm = true) : CallRK X (.builtin "min") [Str.ofString "default"] (rMinD X.K) := by
  intro pins s σ H vs zs us ws Q I r rz h
  obtain ⟨a, ns, d, rfl, rfl, hs, q0, q1⟩ := h
  obtain rfl := Vals.ref1 r
  obtain ⟨w1, rfl, e1⟩ := vals1 rz
  rcases hs with hs | hs
  · obtain ⟨its, rv, hl, _⟩ := I.list hs
    have hn : its.length = ns.length := by
      have := rv.length
      rw [List.length_map] at this
      exact this.symm
    refine minD_list (val := fun i => ns.getD i 0) (I.ok.hd hc) hl.isList (vint_at rv) (fun hz h' tk hk => ⟨d, H, I.kept hk, e1, q0 (List.eq_nil_of_length_eq_zero (by rw [← hn]; simpa using hz))⟩) fun i t h' tk hi hj hk => ⟨.int _, H, I.kept hk, ⟨_, rfl⟩, ?_⟩
    have hi : i < ns.length := by
      rw [← hn]
      simpa using hi
    refine q1 _ (getD_memI hi) fun y hy => ?_
    obtain ⟨j, hj2, e⟩ := mem_getDI hy
    rw [← e]
    exact hj j (by rw [List.size_toArray, hn]; exact hj2)
  · obtain ⟨its, rv, hl, _⟩ := I.tuple hs
    have hn : its.length = ns.length := by
      have := rv.length
      rw [List.length_map] at this
      exact this.symm
    refine minD_tuple (val := fun i => ns.getD i 0) (I.ok.hd hc) hl (vint_at rv) (fun hz h' tk hk => ⟨d, H, I.kept hk, e1, q0 (List.eq_nil_of_length_eq_zero (by rw [← hn]; simpa using hz))⟩) fun i t h' tk hi hj hk => ⟨.int _, H, I.kept hk, ⟨_, rfl⟩, ?_⟩
    have hi : i < ns.length := by
      rw [← hn]
      simpa using hi
    refine q1 _ (getD_memI hi) fun y hy => ?_
    obtain ⟨j, hj2, e⟩ := mem_getDI hy
    rw [← e]
    exact hj j (by rw [List.size_toArray, hn]; exact hj2)
theorem cr_maxD2 (hc : X.calm = true) : CallRK X (.builtin "max") [Str.ofString "default"] (rMaxD2 X.K) := by
  intro pins s σ H vs zs us ws Q I r rz h
  obtain ⟨a, ns, d, rfl, rfl, hs, q0, q1⟩ := h
  obtain rfl := Vals.ref1 r
  obtain ⟨w1, rfl, e1⟩ := vals1 rz
  rcases hs with hs | hs
  · obtain ⟨its, rv, hl, _⟩ := I.list hs
    have hn : its.length = ns.length := by
      have := rv.length
      rw [List.length_map] at this
      exact this.symm
    refine maxD_list (val := fun i => ns.getD i 0) (I.ok.hd hc) hl.isList (vint_at rv) (fun hz h' tk hk => ⟨d, H, I.kept hk, e1, q0 (List.eq_nil_of_length_eq_zero (by rw [← hn]; simpa using hz))⟩) fun i t h' tk hi hj hk => ⟨.int _, H, I.kept hk, ⟨_, rfl⟩, ?_⟩
    have hi : i < ns.length := by
      rw [← hn]
      simpa using hi
    refine q1 _ (getD_memI hi) fun y hy => ?_
    obtain ⟨j, hj2, e⟩ := mem_getDI hy
    rw [← e]
    exact hj j (by rw [List.size_toArray, hn]; exact hj2)
  · obtain ⟨its, rv, hl, _⟩ := I.tuple hs
    have hn : its.length = ns.length := by
      have := rv.length
      rw [List.length_map] at this
      exact this.symm
    refine maxD_tuple (val := fun i => ns.getD i 0) (I.ok.hd hc) hl (vint_at rv) (fun hz h' tk hk => ⟨d, H, I.kept hk, e1, q0 (List.eq_nil_of_length_eq_zero (by rw [← hn]; simpa using hz))⟩) fun i t h' tk hi hj hk => ⟨.int _, H, I.kept hk, ⟨_, rfl⟩, ?_⟩
    have hi : i < ns.length := by
      rw [← hn]
      simpa using hi
    refine q1 _ (getD_memI hi) fun y hy => ?_
    obtain ⟨j, hj2, e⟩ := mem_getDI hy
    rw [← e]
    exact hj j (by rw [List.size_toArray, hn]; exact hj2)
/-- min(xs, default=d): how it stands to a bound -/
def rMinB (K : PySem.W.Frag) : List V → List V → Hp → VK → Prop := fun vs zs H Q => ∃ (a : Addr) (ns : List Int) (d : Int), vs = [V.ref a] ∧ zs = [.int d] ∧ (SqL K H a (ns.map V.int) ∨ SqT K H a (ns.map V.int)) ∧ ∀ m : Int, (∀ b, b ≤ d → decide (b ≤ m) = ns.all fun n => decide (b ≤ n)) → Q (.int m) H
def rMaxB (K : PySem.W.Frag) : List V → List V → Hp → VK → Prop := fun vs zs H Q => ∃ (a : Addr) (ns : List Int) (d : Int), vs = [V.ref a] ∧ zs = [.int d] ∧ (SqL K H a (ns.map V.int) ∨ SqT K H a (ns.map V.int)) ∧ ∀ m : Int, (∀ b, d ≤ b → decide (m ≤ b) = ns.all fun n => decide (n ≤ b)) → Q (.int m) H
theorem least_all {ns : List Int} {m : Int} (h1 : m ∈ ns) (h2 : ∀ y, y ∈ ns → m ≤ y) (b : Int) : decide (b ≤ m) = ns.all fun n => decide (b ≤ n) := by
  rw [Bool.eq_iff_iff, decide_eq_true_eq, List.all_eq_true]
  constructor
  · intro h n hn
    have := h2 n hn
    exact decide_eq_true (by omega)
  · intro h
    simpa using h m h1
theorem most_all {ns : List Int} {m : Int} (h1 : m ∈ ns) (h2 : ∀ y, y ∈ ns → y ≤ m) (b : Int) : decide (m ≤ b) = ns.all fun n => decide (n ≤ b) := by
  rw [Bool.eq_iff_iff, decide_eq_true_eq, List.all_eq_true]
  constructor
  · intro h n hn
    have := h2 n hn
    exact decide_eq_true (by omega)
  · intro h
    simpa using h m h1
theorem cr_minB (hc : X.calm = true) : CallRK X (.builtin "min") [Str.ofString "default"] (rMinB X.K) := by
  intro pins s σ H vs zs us ws Q I r rz h
  obtain ⟨a, ns, d, e1, e2, hs, q⟩ := h
  refine cr_minD hc pins s σ H vs zs us ws Q I r rz ⟨a, ns, .int d, e1, e2, hs, fun z => q d fun b hb => ?_, fun m h1 h2 => q m fun b _ => least_all h1 h2 b⟩
  rw [z, decide_eq_true hb]
  rfl
theorem cr_maxB (hc : X.calm = true) : CallRK X (.builtin "max") [Str.ofString "default"] (rMaxB X.K) := by
  intro pins s σ H vs zs us ws Q I r rz h
  obtain ⟨a, ns, d, e1, e2, hs, q⟩ := h
  refine cr_maxD2 hc pins s σ H vs zs us ws Q I r rz ⟨a, ns, .int d, e1, e2, hs, fun z => q d fun b hb => ?_, fun m h1 h2 => q m fun b _ => most_all h1 h2 b⟩
  rw [z, decide_eq_true hb]
  rfl
theorem all_and {ns : List Int} {f g : Int → Bool} : (ns.all fun n => f n && g n) = (ns.all f && ns.all g) := by
  induction ns with
  | nil => rfl
  | cons n r ih =>
    simp only [List.all_cons, ih]
    cases f n <;> cases g n <;> simp
/-- x is True, x is False, x anything -/
def rIsB1 : R2 := fun x y H Q => ∃ b : Bool, y = .bl b ∧ Q (.bl (decide (x = .bl b))) H
theorem is_other {X : Cx} {pins : List (Addr × Obj)} {s : Shared} {σ : L2.St} {H : Hp} {x : V} {v : Value} {b : Bool} {Q : VK} (I : Inv X pins σ H s) (p : plainIs v (.bool b) = true) (n : v ≠ .bool b) (m : x ≠ .bl b) (q : Q (.bl (decide (x = .bl b))) H) :
    wpAny (model X.prog X.w) X.A (compareOp .Is v (.bool b)) (EP X pins σ Q) X.xe s :=
  wpAny_is_other p n ⟨.bl false, H, I, rfl, by simpa [m] using q⟩
theorem op_isB : OpR X (compareOp .Is) rIsB1 := by
  intro pins s σ H x y v u Q I rx ry h
  obtain ⟨b, rfl, q⟩ := h
  cases (show u = Value.bool b from ry)
  cases x with
  | bl c =>
    cases (show v = Value.bool c from rx)
    by_cases e : c = b
    · subst e
      exact wpAny_is_self rfl ⟨.bl true, H, I, rfl, by simpa using q⟩
    · exact wpAny_is_other rfl (fun z => e (Value.bool.inj z)) ⟨.bl false, H, I, rfl, by simpa [e] using q⟩
  | non =>
    cases rx
    exact is_other I rfl (fun z => by cases z) (fun z => by cases z) q
  | ref a =>
    cases rx
    exact is_other I rfl (fun z => by cases z) (fun z => by cases z) q
  | ty n =>
    cases rx
    exact is_other I rfl (fun z => by cases z) (fun z => by cases z) q
  | int i =>
    obtain ⟨t, rfl⟩ := rx
    exact is_other I rfl (fun z => by cases z) (fun z => by cases z) q
  | str i =>
    obtain ⟨t, rfl⟩ := rx
    exact is_other I rfl (fun z => by cases z) (fun z => by cases z) q
  | byt i =>
    obtain ⟨t, rfl⟩ := rx
    exact is_other I rfl (fun z => by cases z) (fun z => by cases z) q
  | flt i =>
    obtain ⟨t, rfl⟩ := rx
    exact is_other I rfl (fun z => by cases z) (fun z => by cases z) q
end
end QT

/-! what are_between answers -/
namespace QT
open PySem PySem.Spec PyProof.Rows L2
def isI : V → Bool
  | .int _ => true
  | _ => false
def nI : V → Bool := fun x => !isI x
def btw (lo hi : Int) : V → Bool
  | .int i => decide (lo ≤ i) && decide (i ≤ hi)
  | _ => false
/-- a thing whose type is known, however the heap grows -/
inductive Kn (K : PySem.W.Frag) (H : Hp) : V → Prop
  | int (i : Int) : Kn K H (.int i)
  | bl (b : Bool) : Kn K H (.bl b)
  | oth {x : V} {t : String} (n1 : isI x = false) (n2 : ∀ b, x ≠ .bl b) (ty : ∀ H', (∀ b o, H b = some o → H' b = some o) → TyX K H' x (.type t)) (no : PySem.W.kitOne K (.type t) (.type "int") = some false) : Kn K H x
theorem Kn.same {K : PySem.W.Frag} {H H' : Hp} {x : V} (h : Kn K H x) (e : ∀ b o, H b = some o → H' b = some o) : Kn K H' x := by
  cases h with
  | int i => exact .int i
  | bl b => exact .bl b
  | oth n1 n2 ty no => exact .oth n1 n2 (fun H2 k => ty H2 fun b o q => k b o (e b o q)) no
theorem seqT_same {K : PySem.W.Frag} {H H' : Hp} {a : Addr} {xs : List V} (h : SqT K H a xs) (e : ∀ b o, H b = some o → H' b = some o) : SqT K H' a xs := by
  rcases h with (h | ⟨o, h⟩) | h
  · exact .inl (.inl (e _ _ h))
  · exact .inl (.inr ⟨o, e _ _ h⟩)
  · exact .inr h
def spBtw (K : PySem.W.Frag) : Sp := fun vs H Q _ => ∃ (a : Addr) (xs : List V) (lo hi : Int), vs = [.ref a, .int lo, .int hi] ∧ (SqL K H a xs ∨ SqT K H a xs) ∧ (∀ x ∈ xs, Kn K H x) ∧ xs.length < sizeLine ∧
  ∀ H', (∀ b o, H b = some o → H' b = some o) → Q (.bl (xs.all (btw lo hi))) H'
theorem take_filter {f : V → Bool} {xs : List V} {i : Nat} {x : V} (h : xs[i]? = some x) : (xs.take (i + 1)).filter f = if f x = true then (xs.take i).filter f ++ [x] else (xs.take i).filter f := by
  rw [List.take_succ, h, List.filter_append]
  cases e : f x with
  | true => simp [List.filter, e]
  | false => simp [List.filter, e]
theorem ints_of : ∀ {xs : List V}, xs.filter nI = [] → ∃ ns : List Int, xs = ns.map V.int
  | [], _ => ⟨[], rfl⟩
  | x :: r, h => by
    cases x with
    | int n =>
      obtain ⟨ns, e⟩ := ints_of (xs := r) (by simpa [List.filter, nI, isI] using h)
      exact ⟨n :: ns, by rw [e]; rfl⟩
    | _ => simp [List.filter, nI, isI] at h
theorem odd_all {lo hi : Int} : ∀ {xs : List V}, xs.filter nI ≠ [] → xs.all (btw lo hi) = false
  | [], h => absurd rfl h
  | x :: r, h => by
    cases x with
    | int n =>
      have z := odd_all (lo := lo) (hi := hi) (xs := r) (by simpa [List.filter, nI, isI] using h)
      rw [List.all_cons, z, Bool.and_false]
    | _ => rfl
theorem all_ints {lo hi : Int} {ns : List Int} : (ns.map V.int).all (btw lo hi) = ((ns.all fun n => decide (lo ≤ n)) && ns.all fun n => decide (n ≤ hi)) := by
  rw [List.all_map, ← all_and]
  rfl
theorem filter_le {f : V → Bool} (xs : List V) (i : Nat) : ((xs.take i).filter f).length ≤ xs.length :=
  Nat.le_trans (List.length_filter_le _ _) (by rw [List.length_take]; omega)
/-- x is True or x is False or not isinstance(x, int) -/
theorem kn_test {K : PySem.W.Frag} {H : Hp} {x : V} {σ : L2.St} {j : Nat} {Q : Bool → Hp → Prop} (hσ : σ[j]? = some (some x)) (h : Kn K H x) (q : Q (nI x) H) :
    tOr (tTest (tOp rIsB1 (tVar j) (tC (.bl true)))) (tOr (tTest (tOp rIsB1 (tVar j) (tC (.bl false)))) (tNot (tB (tCB (rIsi K) (tCons (tVar j) (tCons (tC (.ty "int")) tNil)))))) σ H Q := by
  refine ⟨x, hσ, true, rfl, _, rfl, ?_⟩
  have go : ∀ {c : Bool} {t : String}, PySem.W.kitOne K (.type t) (.type "int") = some c → TyX K H x (.type t) → decide (x = .bl true) = false → decide (x = .bl false) = false → (!c) = nI x →
      if decide (x = .bl true) = true then Q true H else tOr (tTest (tOp rIsB1 (tVar j) (tC (.bl false)))) (tNot (tB (tCB (rIsi K) (tCons (tVar j) (tCons (tC (.ty "int")) tNil))))) σ H Q := fun {c t} k ty d1 d2 e => by
    rw [d1, if_neg Bool.false_ne_true]
    refine ⟨x, hσ, false, rfl, _, rfl, ?_⟩
    dsimp only
    rw [d2, if_neg Bool.false_ne_true]
    refine ⟨x, hσ, _, _, _, _, c, rfl, .ty _, ty, k, c, rfl, ?_⟩
    dsimp only
    rw [e]
    exact q
  cases h with
  | int i => exact go (c := true) (t := "int") (kit_ty (a := "int") (b := "int") (by decide +kernel)) (.base (by constructor)) (by simp) (by simp) rfl
  | bl b =>
    cases b with
    | true =>
      refine (if_pos (c := decide (V.bl true = V.bl true) = true) (by simp)).mpr ?_
      exact q
    | false =>
      refine (if_neg (c := decide (V.bl false = V.bl true) = true) (by simp)).mpr ?_
      refine ⟨_, hσ, false, rfl, _, rfl, ?_⟩
      refine (if_pos (c := decide (V.bl false = V.bl false) = true) (by simp)).mpr ?_
      exact q
  | @oth _ t n1 n2 ty no =>
    refine go (c := false) no (ty H fun _ _ z => z) (by simp [n2]) (by simp [n2]) ?_
    unfold nI
    rw [n1]
/-- the two bounds -/
theorem use_bounds {K : PySem.W.Frag} {a : Addr} {ns : List Int} {lo hi : Int} {σ : L2.St} {H : Hp} {Q : VK} (h0 : σ[0]? = some (some (.ref a))) (h1 : σ[1]? = some (some (.int lo))) (h2 : σ[2]? = some (some (.int hi)))
    (hs : SqL K H a (ns.map V.int) ∨ SqT K H a (ns.map V.int)) (q : Q (.bl ((ns.map V.int).all (btw lo hi))) H) :
    tAndV (tOp (rI0 fun i j => V.bl (decide (j ≤ i))) (tCKw (rMinB K) (tCons (tVar 0) tNil) (tCons (tVar 1) tNil)) (tVar 1)) (tOp (rI0 fun i j => V.bl (decide (i ≤ j))) (tCKw (rMaxB K) (tCons (tVar 0) tNil) (tCons (tVar 2) tNil)) (tVar 2)) σ H Q := by
  rw [all_ints] at q
  refine ⟨_, h0, _, h1, a, ns, lo, rfl, rfl, hs, fun m hm => ⟨_, h1, m, lo, rfl, rfl, _, rfl, ?_⟩⟩
  have e1 := hm lo (Int.le_refl _)
  rw [← e1] at q
  cases c : decide (lo ≤ m) with
  | false =>
    rw [if_neg Bool.false_ne_true]
    rw [c] at q
    exact q
  | true =>
    rw [if_pos rfl]
    refine ⟨_, h0, _, h2, a, ns, hi, rfl, rfl, hs, fun m2 hm2 => ⟨_, h2, m2, hi, rfl, rfl, ?_⟩⟩
    dsimp only
    rw [hm2 hi (Int.le_refl _)]
    rw [c, Bool.true_and] at q
    exact q
/-- what is behind the first row -/
theorem btw_end {K : PySem.W.Frag} {D : Addr} {xs : List V} {lo hi : Int} {H : Hp} {R : Bool → Prop} (hD : SqL K H D (xs.filter nI)) (r1 : xs.all (btw lo hi) = false → R true) (r2 : (∃ ns : List Int, xs = ns.map V.int) → R false) : ∃ k, TruV K (.ref D) H k ∧ R k := by
  refine ⟨!(xs.filter nI).isEmpty, .inl ⟨_, hD, rfl⟩, ?_⟩
  cases e : xs.filter nI with
  | nil => exact r2 (ints_of e)
  | cons x r => exact r1 (odd_all (by rw [e]; simp))
end QT

/-! errors that are made and kept as values: made, asked for their class, their fields, their methods -/
namespace QT
open PySem PySem.Spec PyProof.Rows L2
/-- C(e, ..), kept: __init__ has run over it -/
def tOex (C : Addr) (sp : Sp) (ta : TA) : TE := fun σ H Q => ta σ H fun vs H1 => vs.length ≤ 1000 ∧ ∀ a, H1 a = none → sp (.ref a :: (vs ++ [])) (upd H1 a (exo a C none)) (fun v H2 => v = .non ∧ Q (.ref a) H2) E0
section
variable {X : Cx} {e : Expr} {es : List Expr} {ta : TA} {p pos : Pos}
theorem pe_oex {x : Str} {C fI : Addr} {k : Nat} {fd : FuncData} {ps : List Str} {sp : Sp} (T : OexC X.K C) (iC : PySem.W.findIn X.K (.ref C) "__init__" = some (some (.ref fI))) (tI : PySem.W.typeIn X.K (.ref fI) = some (.type "function"))
    (F1 : FnOk X.prog X.w X.K X.mg X.base CX0 k fI fd ps sp) (hr : Room (k + 1) X.A) (hb : Binds X.K fd ps []) (hg : Gl X x) (hm : X.mg x = some (.ref C)) (ha : PA X (e :: es) ta)
    (hdb : (x == ("__debug__" : Str)) = false := by decide) (he : starEach (e :: es) X.env = (false, eval e X.env) :: starEach es X.env := by rfl) (hpl : (backTo pos (starEach es X.env)).any (·.1) = false := by rfl) :
    PE X (.Call (.Name x p) (e :: es) [] pos) (tOex C sp ta) := by
  refine ⟨fun pins s σ H Q I h => ?_⟩
  obtain ⟨nm, q, N, bs, bm, sn, sub, ab, col, dd, k0, k1, k2, k3, k5, atC, chain⟩ := T.cls
  refine wpAny_Call_Name_kw (ld_glob I hg hm ?_ hdb)
  refine PySem.W.callWith_K (h₀ := X.base) I.ok.mod.kin T.kC (thn (ha.run pos pins s σ H _ I h) fun us s1 ⟨vs, H1, I1, r1, few, asks⟩ => ⟨I1.kIn, ?_⟩) he hpl
  show wpAny _ _ (call (.ref C) us) _ _ _
  obtain ⟨hp, g, dr, tk, os⟩ := s1
  have above : hp.objs.size ≤ hp.objs.size + 1 := Nat.le_succ _
  have free : H1 (hp.objs.size + 1) = none := I1.hok.fresh above
  have ask := asks (hp.objs.size + 1) free
  have stays : ∀ b o, hp.get? b = some o → ((hp.push (PySem.W.kdv_tup us)).push (PySem.HandSPX.excO C hp.objs.size)).get? b = some o := fun b o z => Heap.get?_push_of_some _ (Heap.get?_push_of_some _ z)
  have there : ((hp.push (PySem.W.kdv_tup us)).push (PySem.HandSPX.excO C hp.objs.size)).get? (hp.objs.size + 1) = some (PySem.HandSPX.excO C hp.objs.size) := by heap_get
  have I2 : Inv X pins σ (upd H1 (hp.objs.size + 1) (exo (hp.objs.size + 1) C none)) ⟨(hp.push (PySem.W.kdv_tup us)).push (PySem.HandSPX.excO C hp.objs.size), g, dr, tk, os⟩ :=
    I1.laid (t' := tk) (a := hp.objs.size + 1) (o := exo (hp.objs.size + 1) C none) (h' := (hp.push (PySem.W.kdv_tup us)).push (PySem.HandSPX.excO C hp.objs.size)) stays above (exo_ok there)
  have r2 : Vals (V.ref (hp.objs.size + 1) :: (vs ++ [])) (Value.ref (hp.objs.size + 1) :: us) := .cons rfl (by rw [List.append_nil]; exact r1)
  have same : (Value.ref (hp.objs.size + 1) :: us).length = ps.length := by
    have z := r2.length
    rw [F1.len _ _ _ _ ask] at z
    exact z.symm
  have bound : BindsTo ⟨(hp.push (PySem.W.kdv_tup us)).push (PySem.HandSPX.excO C hp.objs.size), g, dr, tk, os⟩ fd ⟨Value.ref (hp.objs.size + 1) :: us, []⟩ (ps.zip (Value.ref (hp.objs.size + 1) :: us)) := by
    have z := hb ⟨(hp.push (PySem.W.kdv_tup us)).push (PySem.HandSPX.excO C hp.objs.size), g, dr, tk, os⟩ (Value.ref (hp.objs.size + 1) :: us) I2.kIn (by rw [List.append_nil]; exact same)
    rw [List.append_nil] at z
    exact z
  have line : us.length ≤ sizeLine := by
    rw [← Paired.length r1, sizeLine_eq]
    omega
  refine wpAny_call (PySem.HandSPX.call_own F.excBase_ValueError (fun Y => PySem.HandSPX.refsVE_contains Y bm chain) (I1.kIn _ _ atC) (PySem.W.looks_findIn I1.kIn iC) (fun self => PySem.W.bind_fn I1.kIn self tI) line
    (codeAny_mono (F1.run _ X.stack _ _ ⟨Value.ref (hp.objs.size + 1) :: us, []⟩ (Value.ref (hp.objs.size + 1) :: us) _ _ E0 (hr.make C us []) (I2.env0.make C us []) bound r2 ask) fun r s' back => ?_))
  cases r with
  | error er => exact back.elim
  | ok fl =>
    cases fl with
    | ret u =>
      obtain ⟨v, H2, I3, rv, ev, q2⟩ := I2.after back
      subst ev
      exact ⟨rv, .ref (hp.objs.size + 1), H2, I3, rfl, q2⟩
    | next => exact False.elim back
    | brk => exact False.elim back
    | cont => exact False.elim back
/-- its field -/
def tOxf (K : PySem.W.Frag) (f : Str) (te : TE) : TE := fun σ H Q => te σ H fun x H1 => ∃ (a C d : Addr) (fs : List (Str × V)) (v : V), x = .ref a ∧ H1 a = some (exo a C (some d)) ∧ H1 d = some (exd d fs) ∧ XfC K C ∧ PySem.W.findIn K (.ref C) f = some none ∧ fs.lookup f = some v ∧ Q v H1
theorem pe_oxf {n : Str} {te : TE} (he : PE X e te) (hb : attributeBase e n X.env (eval e X.env) = eval e X.env := by rfl) : PE X (.Attribute e n pos) (tOxf X.K n te) := by
  refine ⟨fun pins s σ H Q I h => ?_⟩
  refine attr_of hb (thn (he.run pins s σ H _ I h) fun u s1 hh => ?_)
  obtain ⟨x, H1, I1, rx, a, C, d, fs, v, ex, ea, ed, T, hno, l, q⟩ := hh
  subst ex
  obtain rfl : u = Value.ref a := rx
  obtain ⟨t1, ho⟩ := exo_at I1.hok ea
  obtain ⟨mA, hns, rel⟩ := exd_at I1.hok ed
  obtain ⟨od, hod, hl⟩ := lookIn_ns hns
  obtain ⟨u, hu, ru⟩ := RelO.some_of (v := v) (o := mA n) (by rw [← l]; exact rel n)
  have J : PySem.W.InstAt s1.heap a _ C (some od) := ⟨ho, rfl, rfl, hod⟩
  exact HandSPX.exc_get I1.kIn J T.ga T.gg T.exC (PySem.W.findObj_own T.hdC hno rfl (by rw [hl, hu])) (handed_of ru) ⟨v, H1, I1.tok _, ru, q⟩
end
end QT

namespace PySem
namespace HandSPX
open PySem.W PySem.Calls PyProof.Rows
section
variable {M : Model} {A : Around} {E : Value → Shared → Prop} {h : Heap} {g : Array GenState} {d : Drawn} {t : Nat} {os : OsState}
variable {nm q : Str} {C N : Addr} {bs bm bmB : List Value} {hdct : Bool} {sn : List Str} {sub : List Value} {ab : Bool} {col : Option Bool} {dd : Option Addr} {k0 k1 k2 k3 k5 : Option Value} {B newId initId : String}
theorem qk_check (F : ExcBaseFacts B newId initId bmB) (hT : ∀ X : String, bm.contains (.type X) = bmB.contains (.type X)) {kws : List (Str × Value)} {Q : Unit → Shared → Prop}
    (hC : h.get? C = some (excClassObj nm q C N bs bm hdct sn sub ab col dd k0 k1 k2 k3 k5 newId)) (hq : Q () ⟨h, g, d, t, os⟩) : wpAny M A (checkBuiltinCall newId ⟨[.ref C], kws⟩) Q E ⟨h, g, d, t, os⟩ := by
  have ofB : (Value.ref C :: bm).contains (.type B) = true := by rw [List.contains_cons, hT, F.hasB, Bool.or_true]
  have nostar := F.noStar
  simp only [checkBuiltinCall, F.newKind, F.newSplit, F.newRow]
  repeat (first | refine wpAny_loadPart_at hC ?_ | (refine wpAny_isSubtype_exc hC ?_; rw [ofB]) | refine wpAny_staticBase_exc hC ?_ | refine wpAny_madeBy_exc hC ?_ | simp only [bne_self_eq_false, Bool.false_eq_true, if_false] | wp_step)
  exact hq
end
section
variable {prog : Program} {w : World} {A : Around} {E : Value → Shared → Prop} {R : Result → Shared → Prop} {h : Heap} {g : Array GenState} {d : Drawn} {t : Nat} {os : OsState}
variable {nm q : Str} {C N : Addr} {bs bm bmB : List Value} {hdct : Bool} {sn : List Str} {sub : List Value} {ab : Bool} {col : Option Bool} {dd : Option Addr} {k0 k1 k2 k3 k5 : Option Value} {B newId initId : String}
theorem qk_new (F : ExcBaseFacts B newId initId bmB) (hT : ∀ X : String, bm.contains (.type X) = bmB.contains (.type X)) {kws : List (Str × Value)}
    (hC : h.get? C = some (excClassObj nm q C N bs bm hdct sn sub ab col dd k0 k1 k2 k3 k5 newId))
    (hq : R (.ok (.ret (.ref (h.objs.size + 1)))) ⟨(h.push { cls := .type "tuple", data := .seq #[] }).push
      { cls := .ref C, data := .fields #[.ref h.objs.size, .none, .none, .none, .bool false, .none] }, g, d, t, os⟩) :
    codeAny (model prog w) A (.builtin newId ⟨[.ref C], kws⟩) R ⟨h, g, d, t, os⟩ := by
  have ends_ := F.ends
  have ofB : (Value.ref C :: bm).contains (.type B) = true := by rw [List.contains_cons, hT, F.hasB, Bool.or_true]
  have ofA : (Value.ref C :: bm).contains (.type "AttributeError") = false := by rw [List.contains_cons, hT, F.noAttr]; rfl
  have ofN : (Value.ref C :: bm).contains (.type "NameError") = false := by rw [List.contains_cons, hT, F.noName]; rfl
  refine codeAny_builtinAt F.entry ?_
  unfold Builtin.«BaseException.__new__»
  refine wpAt_bind ?_
  show wpAt _ _ _ (stack >>= _) _ _ _
  refine wpAt_bind (wpAt_stack fun p below => wpAt_of_wpAny ?_)
  wp_walk
  refine wpAt_of_wpAny ?_
  rw [F.owner]
  repeat (first | with_reducible refine wpAny_madeHere_exc F.canon hC ?_ | with_reducible refine wpAny_loadPart_at hC ?_ | (with_reducible refine wpAny_isSubtype_exc hC ?_; first | rw [ofB] | rw [ofA] | rw [ofN]) | wp_step)
  show R _ _
  rw [Heap.size_push]
  exact hq
theorem qk_type (F : ExcBaseFacts B newId initId bmB) (hT : ∀ X : String, bm.contains (.type X) = bmB.contains (.type X)) {kws : List (Str × Value)} {fI : Addr} {Q : Fin → Shared → Prop}
    (hC : h.get? C = some (excClassObj nm q C N bs bm hdct sn sub ab col dd k0 k1 k2 k3 k5 newId))
    (hi : W.Looks (model prog w) h (typeLookup (.ref C) "__init__") (some (.ref fI))) (hb : ∀ self, W.Looks (model prog w) h (bindSpecial (.ref fI) self) (.ref fI, [self]))
    (hq : codeAny (model prog w) A (.call (.ref fI) ⟨[.ref (h.objs.size + 1)], kws⟩)
      (fun r s' => match r with | .ok (.ret v) => v = .none ∧ Q (.done (.ret (.ref (h.objs.size + 1)))) s' | .ok _ => False | .error e => E e s')
      ⟨(h.push (W.kdv_tup [])).push (excO C h.objs.size), g, d, t, os⟩) :
    wpAny (model prog w) A (Builtin.«type.__call__» ⟨[.ref C], kws⟩) Q E ⟨h, g, d, t, os⟩ := by
  repeat (first | with_reducible refine wpAny_loadPart_at hC ?_ | with_reducible refine wpAny_madeBy_exc hC ?_ | wp_step)
  refine codeAny_call_builtin_code (Code.quiet_builtin _ F.quiet) (qk_check F hT hC ?_)
  refine qk_new F hT hC ?_
  show wpAny _ _ _ _ _ _
  have stays : ∀ b o, h.get? b = some o → ((h.push (W.kdv_tup [])).push (excO C h.objs.size)).get? b = some o := fun b o e => Heap.get?_push_of_some _ (Heap.get?_push_of_some _ e)
  have atC := stays _ _ hC
  have there : ((h.push (W.kdv_tup [])).push (excO C h.objs.size)).get? (h.objs.size + 1) = some (excO C h.objs.size) := by heap_get
  have ofC : (Value.ref C :: bm).contains (.ref C) = true := by simp
  have i1 := hi.keeps stays
  have b1 := (hb (.ref (h.objs.size + 1))).keeps stays
  unfold isInstance
  repeat (first | with_reducible refine wpAny_loadPart_at there ?_ | (with_reducible refine wpAny_isSubtype_exc atC ?_; rw [ofC]) | wp_step)
  show wpAny _ _ (typeLookup (.ref C) _) _ _ _
  refine i1.at ?_
  refine wpAny_holding (wpAny_bind (b1.at ?_))
  refine wpAny_bind (wpAny_call (codeAny_mono hq fun r s' z => ?_))
  rcases r with e | (v | _ | _ | _) <;> first | exact z | exact z.elim | skip
  obtain ⟨rfl, z⟩ := z
  first
    | exact wpAny_pure (wpAny_pure z)
    | (wp_walk; exact z)
theorem qk_call (F : ExcBaseFacts B newId initId bmB) (hT : ∀ X : String, bm.contains (.type X) = bmB.contains (.type X)) {kws : List (Str × Value)} {fI : Addr}
    (hC : h.get? C = some (excClassObj nm q C N bs bm hdct sn sub ab col dd k0 k1 k2 k3 k5 newId))
    (hi : W.Looks (model prog w) h (typeLookup (.ref C) "__init__") (some (.ref fI))) (hb : ∀ self, W.Looks (model prog w) h (bindSpecial (.ref fI) self) (.ref fI, [self]))
    (hq : codeAny (model prog w) (A.under (.builtin "type.__call__" ⟨[.ref C], kws⟩)) (.call (.ref fI) ⟨[.ref (h.objs.size + 1)], kws⟩) (W.InitBack (h.objs.size + 1) R)
      ⟨(h.push (W.kdv_tup [])).push (excO C h.objs.size), g, d, t, os⟩) :
    codeAny (model prog w) A (.call (.ref C) ⟨[], kws⟩) R ⟨h, g, d, t, os⟩ := by
  have l1 := tc_lookup
  have l2 := tc_bind (.ref C)
  have isType : (⟨h, g, d, t, os⟩ : Shared).TypeIs (.ref C) "type" := ⟨_, hC, rfl⟩
  refine codeAny_of_tree ?_
  show wpAny _ _ (callAny (.ref C) _) _ _ _
  repeat (any_goals (first | assumption | with_reducible refine wpAny_loadPart_at hC ?_ | wp_step))
  refine ⟨rfl, ?_⟩
  refine codeAny_call_builtin_at (Code.quiet_builtin _ (by decide +kernel)) entry_typeCall (wpAny_check_type_call_sub hC (qk_type F hT hC hi hb ?_))
  refine codeAny_mono hq fun r s' z => ?_
  rcases r with e | (v | _ | _ | _) <;> exact z
end
end HandSPX
end PySem
namespace QT
open PySem PySem.Spec PyProof.Rows L2
/-- how keywords alone bind, behind self -/
def KwB (fd : FuncData) (ps ks : List Str) (g : List Value → List Value) : Prop := ∀ (s : Shared) (self : Value) (ws : List Value), ws.length = ks.length → BindsTo s fd ⟨[self], ks.zip ws⟩ (ps.zip (self :: g ws))
/-- C(k = e, ..), kept -/
def tOexK (C : Addr) (m : Nat) (sp : Sp) (gV : List V → List V) (tk : TA) : TE := fun σ H Q => tk σ H fun zs H1 => zs.length = m ∧ ∀ a, H1 a = none → sp (.ref a :: gV zs) (upd H1 a (exo a C none)) (fun v H2 => v = .non ∧ Q (.ref a) H2) E0
section
variable {X : Cx} {p pos : Pos} {kws : List Keyword} {tk : TA}
theorem pe_oexk {x : Str} {C fI : Addr} {k : Nat} {fd : FuncData} {ps ks : List Str} {sp : Sp} {g : List Value → List Value} {gV : List V → List V} (T : OexC X.K C) (iC : PySem.W.findIn X.K (.ref C) "__init__" = some (some (.ref fI))) (tI : PySem.W.typeIn X.K (.ref fI) = some (.type "function"))
    (F1 : FnOk X.prog X.w X.K X.mg X.base CX0 k fI fd ps sp) (hr : Room (k + 1) X.A) (hb : KwB fd ps ks g) (rel : ∀ {zs : List V} {ws : List Value}, Vals zs ws → Vals (gV zs) (g ws)) (hg : Gl X x) (hm : X.mg x = some (.ref C)) (hkw : PK X kws tk)
    (hall : (backToKw pos (keywordEach kws X.env)).all (·.1.isSome) = true := by rfl) (hks : (backToKw pos (keywordEach kws X.env)).filterMap (·.1) = ks := by rfl)
    (hdb : (x == ("__debug__" : Str)) = false := by decide) (hpl : ((backTo pos (starEach [] X.env)).any (·.1) || (backToKw pos (keywordEach kws X.env)).any (·.1.isNone)) = false := by rfl) :
    PE X (.Call (.Name x p) [] kws pos) (tOexK C ks.length sp gV tk) := by
  refine ⟨fun pins s σ H Q I h => ?_⟩
  obtain ⟨nm, q, N, bs, bm, sn, sub, ab, col, dd, k0, k1, k2, k3, k5, atC, chain⟩ := T.cls
  refine wpAny_Call_Name_kw (ld_glob I hg hm ?_ hdb)
  refine PySem.W.callWith_KW0 (h₀ := X.base) I.ok.mod.kin T.kC hall (thn (hkw.run pos pins s σ H _ I h) fun ws s1 ⟨zs, H1, I1, r1, many, asks⟩ => ⟨I1.kIn, ?_⟩) hpl
  rw [hks]
  show wpAny _ _ (call (.ref C) [] (ks.zip ws)) _ _ _
  obtain ⟨hp, gg, dr, tk', os⟩ := s1
  have above : hp.objs.size ≤ hp.objs.size + 1 := Nat.le_succ _
  have free : H1 (hp.objs.size + 1) = none := I1.hok.fresh above
  have ask := asks (hp.objs.size + 1) free
  have stays : ∀ b o, hp.get? b = some o → ((hp.push (PySem.W.kdv_tup [])).push (PySem.HandSPX.excO C hp.objs.size)).get? b = some o := fun b o z => Heap.get?_push_of_some _ (Heap.get?_push_of_some _ z)
  have there : ((hp.push (PySem.W.kdv_tup [])).push (PySem.HandSPX.excO C hp.objs.size)).get? (hp.objs.size + 1) = some (PySem.HandSPX.excO C hp.objs.size) := by heap_get
  have I2 : Inv X pins σ (upd H1 (hp.objs.size + 1) (exo (hp.objs.size + 1) C none)) ⟨(hp.push (PySem.W.kdv_tup [])).push (PySem.HandSPX.excO C hp.objs.size), gg, dr, tk', os⟩ :=
    I1.laid (t' := tk') (a := hp.objs.size + 1) (o := exo (hp.objs.size + 1) C none) (h' := (hp.push (PySem.W.kdv_tup [])).push (PySem.HandSPX.excO C hp.objs.size)) stays above (exo_ok there)
  have r2 : Vals (V.ref (hp.objs.size + 1) :: gV zs) (Value.ref (hp.objs.size + 1) :: g ws) := .cons rfl (rel r1)
  have wl : ws.length = ks.length := r1.length.symm.trans many
  refine wpAny_call (PySem.HandSPX.qk_call F.excBase_ValueError (fun Y => PySem.HandSPX.refsVE_contains Y bm chain) (I1.kIn _ _ atC) (PySem.W.looks_findIn I1.kIn iC) (fun self => PySem.W.bind_fn I1.kIn self tI)
    (codeAny_mono (F1.run _ X.stack _ _ ⟨[Value.ref (hp.objs.size + 1)], ks.zip ws⟩ (Value.ref (hp.objs.size + 1) :: g ws) _ _ E0 (hr.make C [] (ks.zip ws)) (I2.env0.make C [] (ks.zip ws)) (hb _ _ ws wl) r2 ask) fun r s' back => ?_))
  cases r with
  | error er => exact back.elim
  | ok fl =>
    cases fl with
    | ret u =>
      obtain ⟨v, H2, I3, rv, ev, q2⟩ := I2.after back
      subst ev
      exact ⟨rv, .ref (hp.objs.size + 1), H2, I3, rfl, q2⟩
    | next => exact False.elim back
    | brk => exact False.elim back
    | cont => exact False.elim back
end
end QT

/-! errors kept as values: their class and their methods -/
namespace QT
open PySem PySem.Spec PyProof.Rows L2
/-- an error of the class at C stands at a, its fields fs -/
def ErrAt (H : Hp) (a C : Addr) (fs : List (Str × V)) : Prop := (∃ d, H a = some (exo a C (some d)) ∧ H d = some (exd d fs)) ∨ (H a = some (ExO (.ref C) a) ∧ fs = [])
/-- what its class must say -/
structure ErrK (K : PySem.W.Frag) (C : Addr) : Prop where
  ga : PySem.W.findIn K (.ref C) "__getattribute__" = some (some (.builtin "BaseException.__getattribute__"))
  gg : PySem.W.findIn K (.ref C) "__getattr__" = some none
  cl : PySem.W.isClsIn K C = true
  ca : PySem.W.findIn K (.ref C) "__class__" = some (some (.builtin "object.__class__"))
  gn : PySem.W.specialIn K (.builtin "object.__class__") "__get__" = some (some (.builtin "getset_descriptor.__get__"))
  tk : PySem.W.takesIn K (.builtin "object.__class__") = some true
  mo : PySem.W.mroIn K C (.type "object") = some true
  sub : PySem.W.subIn K (.ref C) (.type "BaseException") = some true
theorem err_inst {X : Cx} {pins : List (Addr × Obj)} {σ : L2.St} {H : Hp} {s : Shared} {a C : Addr} {fs : List (Str × V)} (I : Inv X pins σ H s) (h : ErrAt H a C fs) :
    ∃ (ox : Obj) (od : Option Obj), PySem.W.InstAt s.heap a ox C od ∧ ∀ n, fs.lookup n = none → PySem.W.shadowIn od n = some false := by
  rcases h with ⟨d, ea, ed⟩ | ⟨ea, rfl⟩
  · obtain ⟨t1, ho⟩ := exo_at I.hok ea
    obtain ⟨mA, hns, rel⟩ := exd_at I.hok ed
    obtain ⟨od, hod, hl⟩ := lookIn_ns hns
    refine ⟨_, some od, ⟨ho, rfl, rfl, hod⟩, fun n hn => ?_⟩
    have z : mA n = none := RelO.none_of (by rw [← hn]; exact rel n)
    unfold PySem.W.shadowIn
    dsimp only
    rw [hl n, z]
    rfl
  · have z : ObjOk X.prog X.w H s.heap a (ExO (.ref C) a) := I.hok a _ ea
    obtain ⟨oe, vs, e, zc, dt, _⟩ := z.1
    obtain ⟨oc, od, oda, osl⟩ := oe
    obtain ⟨h1, h2⟩ := zc
    dsimp only at h1 h2 dt
    subst h1 h2 dt
    exact ⟨_, none, ⟨e, rfl, rfl, trivial⟩, fun n _ => rfl⟩
/-- isinstance(e, D) -/
def rIsErr (K : PySem.W.Frag) : List V → Hp → VK → Prop := fun xs H Q => ∃ (a C : Addr) (fs : List (Str × V)) (c : V) (cv : Value) (b : Bool), xs = [.ref a, c] ∧ ErrAt H a C fs ∧ ErrK K C ∧ (∀ u, RelV c u → u = cv) ∧ PySem.W.kitOne K (.ref C) cv = some b ∧ Q (.bl b) H
theorem call_isErr {X : Cx} : CallR X (.builtin "isinstance") (rIsErr X.K) := by
  intro pins s σ H xs us Q I r h
  obtain ⟨a, C, fs, c, cv, b, rfl, ea, E, hcv, e, q⟩ := h
  cases r with
  | cons rx rr =>
    cases rr with
    | cons rt rr =>
      cases rr
      cases rx
      have ec := hcv _ rt
      subst ec
      obtain ⟨ox, od, J, _⟩ := err_inst I ea
      exact PySem.W.kia_one (PySem.W.kitx_exc E.cl E.ga E.gg E.sub E.ca E.gn E.tk E.mo) I.kIn J e (fun z => nomatch z) fun tk => ⟨.bl b, H, I.kept (t' := tk) fun _ _ z => z, rfl, q⟩
/-- e.m() -/
def tErrM (X : Cx) (m : Str) (j : Nat) (te : TE) : TE := fun σ H Q => te σ H fun x H1 => ∃ (a C f : Addr) (fs : List (Str × V)) (fd : FuncData) (ps : List Str) (k : Nat) (sp : Sp), x = .ref a ∧ ErrAt H1 a C fs ∧ ErrK X.K C ∧ fs.lookup m = none ∧
  PySem.W.findIn X.K (.ref C) m = some (some (.ref f)) ∧ PySem.W.isFn X.K (.ref f) = true ∧ PySem.W.keepIn X.K (.ref f) = true ∧ FnOk X.prog X.w X.K X.mg X.base CX0 k f fd ps sp ∧ k ≤ j ∧ Binds X.K fd ps [] ∧ sp [.ref a] H1 Q E0
theorem pe_errM {X : Cx} {o : Expr} {te : TE} {m : Str} {j : Nat} {apos pos : Pos} {pl : Sem Bool} (hr : Room j X.A) (he : PE X o te)
    (ht : eval (.Call (.Attribute o m apos) [] [] pos) X.env = (do
      let ov ← eval o X.env
      standAt apos.atName
      let (f, first) ← holding [ov] (getMethod ov m pl)
      callWith pos f first (backTo pos (starEach [] X.env)) (backToKw pos (keywordEach [] X.env))) := by rfl) :
    PE X (.Call (.Attribute o m apos) [] [] pos) (tErrM X m j te) := by
  refine ⟨fun pins s σ H Q I h => ?_⟩
  refine PySem.W.methodCall_KW (pl := pl) (thn (he.run pins s σ H _ I h) fun u s1 ⟨x, H1, I1, rx, a, C, f, fs, fd, ps, k, sp, ex, ea, E, nl, hf, fn, kp, F, kj, hb, q⟩ => ?_) ht
  subst ex
  obtain rfl : u = Value.ref a := rx
  obtain ⟨ox, od, J, sh⟩ := err_inst I1 ea
  obtain ⟨m', fr⟩ := I1.fr
  refine PySem.W.method_exc fr I1.ok.mod.kin J E.ga E.gg hf fn (sh m nl) ?_
  exact PySem.W.callWith_K0 (first := [.ref a]) I1.kIn kp (run_fn (us := [.ref a]) (vs := [.ref a]) (dvs := []) (ds := []) F (hr.mono kj) hb .nil pass0 I1 (.cons rfl .nil) q)
end QT

/-! defs that are called where no repr is under way, so that they may ask repr -/
namespace QT
open PySem PySem.Spec PyProof.Rows L2
structure FnOkG (P : Program) (w : World) (K : PySem.W.Frag) (mg : Str → Option Value) (base : Heap) (k : Nat) (f : Addr) (fd : FuncData) (ps : List Str) (sp : Sp) : Prop where
  len : ∀ vs H Q E, sp vs H Q E → vs.length = ps.length
  run : ∀ (A : Around) (outer : List Env) (s : Shared) (H : Hp) (args : Args) (us : List Value) (vs : List V) (Q : VK) (E : XK), A.guards = some [] → Room k A → Env0 P w K mg base A outer s H → BindsTo s fd args (ps.zip us) → Vals vs us → sp vs H Q E →
    codeAny (model P w) A (.call (.ref f) args) (CR CX0 outer P w H s Q E) s
section
variable {P : Program} {w : World} {K : PySem.W.Frag} {mg : Str → Option Value} {base : Heap} {f : Addr} {fd : FuncData} {ps : List Str} {sp : Sp}
/-- a def by its body, where no repr is under way -/
theorem okG {x qual : Str} {st : Stmt} {k : Nat} {N : List Str} (F : Fun K x qual st f fd) (S : FnScope N ps (defScope st)) (len : ∀ vs H Q E, sp vs H Q E → vs.length = ps.length)
    (body : ∀ (cdv : Value) (A : Around) (outer : List Env) (s : Shared) (H : Hp) (vs : List V) (Q : VK) (E : XK), A.guards = some [] → Room k (A.deeper (envOfC qual (defScope st) s.heap.objs.size f cdv)) → sp vs H Q E →
      ∃ t, PSs (cxOf CX0 P w K mg base N qual (defScope st) f cdv A outer s H E).nox (defBody st) t ∧ t { nx := fun _ H' => Q .non H', rt := Q } (start N vs) H) : FnOkG P w K mg base (k + 1) f fd ps sp := by
  obtain ⟨oc, od, kV, doc, pm, an, cdv, ct, osl, rfl, atF, code⟩ := F.ex
  refine ⟨len, fun A outer s H args us vs Q E free room e0 bind vals promise => ?_⟩
  have count := len _ _ _ _ promise
  have inK : K.In s.heap := e0.mod.kin.keeps fun b o e => (e0.bs b o e).1
  have lim : s.heap.NoLimit := e0.mod.nolimit.keeps fun b o e => (e0.bs b o e).1
  have kinds : ∀ y ∈ ps.zip us, (defScope st).names.lookup y.1 = some .local ∨ ((defScope st).names.lookup y.1 = some .cell ∧ ((cellsFrom (s.heap.objs.size + 1) (defScope st).names []).lookup y.1).isSome = true) := fun ⟨n, v⟩ mem => by
    rcases S.par n (List.of_mem_zip mem).1 with q | q
    · exact .inl q
    · exact .inr ⟨q, PySem.W.cellsFrom_some _ _ _ (.inl q)⟩
  refine codeAny_call_function room.depth (inK _ _ atF) rfl S.co S.gen rfl (PySem.W.codeRec_of inK code) (bind _ _ _ _ ?_)
  refine wpAny_newFunctionEnv_cells S.kind kinds fun env same s1 inCall => ?_
  subst same
  refine ⟨lim.keeps inCall.toInCall.keep, codeAny_func ?_⟩
  obtain ⟨t, ht0, reads⟩ := body cdv A outer s H vs Q E free (room.deeper _) promise
  have ht := ht0.nox
  have I : Inv (cxOf CX0 P w K mg base N qual (defScope st) f cdv A outer s H E) [] (start N vs) H s1 := inv_start S room.hd e0 count vals inCall
  have fin : ∀ {σ' : L2.St} {H' : Hp} {v : V} {u : Value} {s' : Shared}, Inv (cxOf CX0 P w K mg base N qual (defScope st) f cdv A outer s H E) [] σ' H' s' → RelV v u → Q v H' → CE outer P w H s Q u s' :=
    fun {σ' H' v u s'} J rv q => ⟨v, H', J.os, J.bare, J.base, J.hok, rv, q⟩
  refine wpAny_mono (ht.run [] s1 (start N vs) H _ I reads) (fun fl s' ends => ?_) fun e s' ends => ends
  cases fl with
  | ret u =>
    obtain ⟨v, σ', H', J, rv, q⟩ := ends
    exact fin J rv q
  | next =>
    obtain ⟨σ', H', J, q⟩ := ends
    exact fin (v := V.non) (u := Value.none) J rfl q
  | brk | cont =>
    obtain ⟨_, _, _, q⟩ := ends
    exact False.elim q
end
structure CalG (P : Program) (w : World) (K : PySem.W.Frag) (mg : Str → Option Value) (base : Heap) (k : Nat) (x : Str) (sp : Sp) : Prop where
  ex : ∃ (f : Addr) (fd : FuncData) (ps : List Str), FnOkG P w K mg base k f fd ps sp ∧ mg x = some (.ref f) ∧ PySem.W.keepIn K (.ref f) = true ∧ Binds K fd ps []
section
variable {X : Cx} {k j : Nat} {x : Str} {sp : Sp} {p pos : Pos} {e : Expr} {es : List Expr} {t : TA}
theorem pe_cG (c : CalG X.prog X.w X.K X.mg X.base k x sp) (free : X.A.guards = some []) (hr : Room j X.A) (hk : k ≤ j) (hg : Gl X x) (ha : PA X (e :: es) t)
    (hdb : (x == ("__debug__" : Str)) = false := by decide) (he : starEach (e :: es) X.env = (false, eval e X.env) :: starEach es X.env := by rfl) (hpl : (backTo pos (starEach es X.env)).any (·.1) = false := by rfl) :
    PE X (.Call (.Name x p) (e :: es) [] pos) (tCall sp [] E0 t) := by
  obtain ⟨f, fd, ps, F, hm, kp, b⟩ := c.ex
  refine ⟨fun pins s σ H Q I h => ?_⟩
  refine wpAny_Call_Name_kw (ld_glob I hg hm ?_ hdb)
  refine PySem.W.callWith_K (h₀ := X.base) I.ok.mod.kin kp (thn (ha.run pos pins s σ H _ I h) fun us s1 ⟨vs, H1, I1, r, q⟩ => ⟨I1.kIn, ?_⟩) he hpl
  have q2 : sp vs H1 Q E0 := by
    have z : sp (vs ++ []) H1 Q E0 := q
    rw [List.append_nil] at z
    exact z
  have count : us.length = ps.length := by
    rw [← r.length]
    exact F.len _ _ _ _ q2
  have bound := b s1 us I1.kIn (by rw [List.append_nil]; exact count)
  rw [List.append_nil] at bound
  refine wpAny_call (codeAny_mono (F.run X.A X.stack s1 H1 ⟨us, []⟩ us vs Q E0 free (hr.mono hk) I1.env0 bound r q2) fun r s' back => ?_)
  cases r with
  | error e => exact False.elim back
  | ok fl =>
    cases fl with
    | ret u => exact I1.after back
    | next => exact False.elim back
    | brk => exact False.elim back
    | cont => exact False.elim back
/-- repr of a list or a tuple of data -/
def rReprD (K : PySem.W.Frag) : List V → Hp → VK → Prop := fun xs H Q => ∃ (a : Addr) (d : PyData), xs = [.ref a] ∧ Dp K H (.ref a) d ∧ d.showable = true ∧ d.hasDict = false ∧ d.shown.length ≤ sizeLine ∧ d.depth ≤ 60 ∧ Q (.str d.shown) H
theorem call_reprD (free : X.A.guards = some []) (hu : X.A.units + 64 < cLine) : CallR X (.builtin "repr") (rReprD X.K) := by
  intro pins s σ H xs us Q I r h
  obtain ⟨a, d, rfl, hd, sh, nd, len, dep, q⟩ := h
  cases r with
  | cons rx rr =>
    cases rr
    cases rx
    obtain ⟨as, reads⟩ := Dp.reads I d (.ref a) (.ref a) hd rfl
    refine repr_of_reads' reads sh (PySem.PyData.noDict_hsm nd) free (by omega) (fun b o z => z) (fun h' u tk k => ?_) len
    exact ⟨.str d.shown, H, I.kept (t' := tk) k, ⟨_, rfl⟩, q⟩
end
/-- the end: the law's promise from where nothing is under way -/
theorem law_callG {P : Program} {w : World} {K : PySem.W.Frag} {mg mb : Str → Option Value} {k : Nat} {fa a : Addr} {fd : FuncData} {x : Str} {sp : Sp} {s₁ : Shared} {vs : List Value} {ns : List Int}
    (KX : K.In s₁.heap) (hns : s₁.heap.Ns mainGlobals mg) (hb : s₁.heap.Ns builtinsNs mb) (hbb : ∀ x : Str, x ≠ "__name__" → mb x = bootBuiltins x) (hlim : s₁.heap.NoLimit) (hg : s₁.gens = #[])
    (ha : s₁.heap.get? a = some { cls := .type "list", data := .seq vs.toArray }) (hi : IntsAre vs ns) (hl : ns.length ≤ sizeLine) (hr : Room k callerA)
    (F : ∀ base : Heap, K.In base → base.Ns mainGlobals mg → FnOkG P w K mg base k fa fd [x] sp) (hbind : ∀ (s : Shared) (u : Value), BindsTo s fd ⟨[u], []⟩ [(x, u)])
    (hsp : ∀ H : Hp, Only H → SqL K H a (ns.map V.int) → sp [.ref a] H (fun v _ => v = .bl true) fun _ _ _ => False) :
    codeAny (model P w) callerA (.call (.ref fa) ⟨[.ref a], []⟩) (fun r s' => r = .ok (.ret (.bool true)) ∧ OldK s₁.heap s'.heap ∧ s'.os = s₁.os ∧ AllBare s'.gens) s₁ := by
  have vals := vals_ints hi
  have count := hi.length
  -- from a heap in which the script alone may be told of
  have from_ : ∀ H : Hp, Only H → SqL K H a (ns.map V.int) → HOk P w H s₁.heap → (∀ b, H b ≠ none → b = a) → (H a ≠ none → K.lookup a = none) →
      codeAny (model P w) callerA (.call (.ref fa) ⟨[.ref a], []⟩) (fun r s' => r = .ok (.ret (.bool true)) ∧ OldK s₁.heap s'.heap ∧ s'.os = s₁.os ∧ AllBare s'.gens) s₁ := by
    intro H only sq hok alone off
    have base_ : ∀ {b : Addr} {o : Obj}, s₁.heap.get? b = some o → H b = none → (hidT s₁.heap H).get? b = some o := fun e n => hidT_get e n
    have untold : ∀ {b : Addr} {o : Obj} {es : Array DictEntry} {ep : Nat}, s₁.heap.get? b = some o → o.data = .dict es ep → H b = none := fun {b o es ep} e d => by
      cases q : H b with
      | none => rfl
      | some u =>
        have eb : b = a := alone b (by rw [q]; simp)
        rw [eb, ha] at e
        cases e
        have z : Data.seq vs.toArray _ = Data.dict es ep := d
        cases z
    have ns_ : ∀ {b : Addr} {m : Str → Option Value}, s₁.heap.Ns b m → (hidT s₁.heap H).Ns b m := fun {b m} ⟨o, es, ep, e, d, r⟩ => ⟨o, es, ep, base_ e (untold e d), d, r⟩
    have inBase : K.In (hidT s₁.heap H) := fun b o e => base_ (KX b o e) (by
      cases q : H b with
      | none => rfl
      | some u =>
        have eb : b = a := alone b (by rw [q]; simp)
        rw [eb, off (by rw [← eb, q]; simp)] at e
        cases e)
    have modOk : Mod K mg (hidT s₁.heap H) := ⟨inBase, ns_ hns, ⟨mb, ns_ hb, hbb⟩, let ⟨mc, h1, h2⟩ := hlim; ⟨mc, ns_ h1, h2⟩⟩
    have e0 : Env0 P w K mg (hidT s₁.heap H) callerA [] s₁ H := ⟨rfl, modOk, fun b o e => of_hidT e, Nat.le_of_eq (hidT_size _ _), trivial, fun b z => absurd (show b ∈ ([] : List Addr) from z) (by simp), hok, .of_eq hg⟩
    refine codeAny_mono ((F _ inBase (ns_ hns)).run callerA [] s₁ H ⟨[.ref a], []⟩ [.ref a] [.ref a] _ _ rfl hr e0 (hbind s₁ (.ref a)) (.cons rfl .nil) (hsp H only sq)) fun r s' back => ?_
    cases r with
    | error e => exact False.elim back
    | ok fl =>
      cases fl with
      | next | brk | cont => exact False.elim back
      | ret u =>
        obtain ⟨v, H', os, bare, un, hok2, rv, q⟩ := back
        have qv : v = .bl true := q
        subst qv
        obtain rfl : u = Value.bool true := rv
        refine ⟨rfl, OldK.of_keep fun b o e => ?_, os, bare⟩
        cases q : H b with
        | none => exact un.keep b o e q (by intro z; exact absurd (show b ∈ ([] : List Addr) from z) (by simp)) (by simp)
        | some u =>
          rcases only b with z | ⟨ob, xs, z⟩
          · rw [q] at z
            cases z
          · obtain ⟨y1, _⟩ := hok b _ z
            obtain ⟨y2, _⟩ := hok2 b _ (un.frzs b ob _ z)
            rw [e] at y1
            cases y1
            exact y2
  cases hk : K.lookup a with
  | some o =>
    have e := KX a o hk
    rw [ha] at e
    cases e
    exact from_ (fun _ => none) (fun _ => .inl rfl) (.inr ⟨_, vs.toArray, _, hk, rfl, rfl, rfl, by rw [List.size_toArray, count]; exact hl, by simpa using vals⟩) (fun b u z => by cases (show (none : Option HO) = some u from z)) (fun b z => absurd rfl z) fun z => absurd rfl z
  | none =>
    refine from_ (fun b => if b = a then some (.frz { cls := .type "list", data := .seq vs.toArray } (.lst (ns.map V.int))) else none) (fun b => ?_) (.inl (.inr ⟨{ cls := .type "list", data := .seq vs.toArray }, if_pos rfl⟩)) (fun b u z => ?_) (fun b z => ?_) fun _ => hk
    · by_cases y : b = a
      · exact .inr ⟨_, _, if_pos y⟩
      · exact .inl (if_neg y)
    · by_cases y : b = a
      · have zz := (if_pos y).symm.trans z
        cases zz
        subst y
        exact ⟨ha, by rw [List.length_map]; exact hl, vs, _, vals, ha⟩
      · have zz := (if_neg y).symm.trans z
        cases zz
    · by_cases y : b = a
      · exact y
      · exact absurd (if_neg y) z
theorem walk_ofG {l : PySem.W.OpenLaw} {n k : Nat} {q : Program} {loose : List Str} {XP : (Str → Option Value) → Heap → Prop} {YP : World → Heap → Prop} {d : DefRec} {K : Params → PySem.W.Frag} {sp : World → Sp} {x : Str}
    (hn : l.most = some n) (hn2 : n ≤ sizeLine) (hdf : d.params.defaults = []) (hr : Room k callerA)
    (hY : ∀ (w : World) (h : Heap), YP w h → (K w.params).In h)
    (F : ∀ (w : World) (mg : Str → Option Value) (fa : Addr) (h : Heap), (K w.params).In h → h.Ns mainGlobals mg → mg d.name = some (.ref fa) →
      ∃ fd : FuncData, (∀ (s : Shared) (u : Value), BindsTo s fd ⟨[u], []⟩ [(x, u)]) ∧
        ∀ base : Heap, (K w.params).In base → base.Ns mainGlobals mg → FnOkG l.prog w (K w.params) mg base k fa fd [x] (sp w))
    (hsp : ∀ (w : World) (H : Hp) (a : Addr) (ns : List Int), ns.length ≤ n → (∀ z ∈ ns, Builtin.Int.intBits z ≤ 1048576) → Only H → SqL (K w.params) H a (ns.map V.int) → sp w [.ref a] H (fun v _ => v = .bl true) fun _ _ _ => False) :
    PySem.W.WalkO q loose XP YP l.row.toRowW d [] (fun f vs => PySem.call f vs) := by
  refine Att.attach_callB hn hdf fun w s₀ s₁ mg mb fa o pm cd doc a vs ns G Y ho hd hcd hmg hobj hints hlen hbits hg => ?_
  obtain ⟨fd, binds, ok⟩ := F w mg fa _ (hY w _ Y) G.T.g hmg
  exact law_callG (hY w _ Y) G.T.g G.T.b G.T.builtins G.T.nolimit hg hobj hints (Nat.le_trans hlen hn2) hr ok binds fun H hO hS => hsp w H a ns hlen hbits hO hS
end QT

/-! C() of an own error class without an __init__; T('x') of a built-in one: kept -/
namespace QT
open PySem PySem.Spec PyProof.Rows L2
section
variable {X : Cx} {p pos : Pos}
theorem pe_exc0 {C : Addr} {bmB : List Value} {B newId initId : String} {x : Str} (F : ExcBaseFacts B newId initId bmB) (q : PySem.W.excIn X.K C bmB newId = true) (gC : X.mg x = some (.ref C)) (kC : PySem.W.keepIn X.K (.ref C) = true) (hg : Gl X x)
    (hdb : (x == ("__debug__" : Str)) = false := by decide) :
    PE X (.Call (.Name x p) [] [] pos) (fun σ H Q => ∀ a, H a = none → Q (.ref a) (upd H a (ExO (.ref C) a))) := by
  refine ⟨fun pins s σ H Q I h => ?_⟩
  refine wpAny_Call_Name_kw (ld_glob I hg gC ?_ hdb)
  refine PySem.W.callWith_K0 I.kIn kC ?_
  show wpAny _ _ (call (.ref C) []) _ _ _
  obtain ⟨bm, N, nm, qn, bs, hdct, sn, sub, ab, col, dd, k0, k1, k2, k3, k5, mN, hC, hN, hni, T⟩ := exc_obj I.kIn q
  refine wpAny_call_exc_subT F T hC hN hni (fun h' a hm => ?_) (Nat.zero_le _)
  have hn : H a = none := I.hok.gone hm.new
  obtain ⟨t, ht, _, _⟩ := hm.there
  exact ⟨.ref a, upd H a (ExO (.ref C) a), I.laidN hm.keeps hm.new hn (exO_ok ht ⟨rfl, rfl⟩ rfl rfl rfl (show 4 < 6 by decide)), rfl, h a hn⟩
/-- an exception of a built-in class stands at a -/
def BexO (T : String) (a : Addr) : HO := .ext fun h => ∃ o, h.get? a = some o ∧ o.cls = .type T
theorem bexO_ok {P : Program} {w : World} {H : Hp} {h : Heap} {a : Addr} {T : String} {o : Obj} (e : h.get? a = some o) (c : o.cls = .type T) : ObjOk P w H h a (BexO T a) :=
  ⟨⟨o, e, c⟩, ⟨o, e⟩, fun _ _ ⟨u, q, r⟩ k => ⟨u, k u q, r⟩⟩
/-- T(e, ..) -/
theorem pe_bex {T N I' : String} {x : Str} {e : Expr} {es : List Expr} {t : TA} (F : ExcB T N I') (hg : Gl X x) (hm : X.mg x = none) (hv : bootBuiltins x = some (.type T)) (ha : PA X (e :: es) t) (hn : x ≠ "__name__" := by decide) (hdb : (x == ("__debug__" : Str)) = false := by decide)
    (hs : starEach (e :: es) X.env = (false, eval e X.env) :: starEach es X.env := by rfl) (hpl : (backTo pos (starEach es X.env)).any (·.1) = false := by rfl) :
    PE X (.Call (.Name x p) (e :: es) [] pos) (fun σ H Q => t σ H fun vs H1 => vs.length ≤ sizeLine ∧ ∀ a, H1 a = none → Q (.ref a) (upd H1 a (BexO T a))) := by
  refine ⟨fun pins s σ H Q J h => ?_⟩
  refine wpAny_Call_Name_kw (ld_blt J hg hm hv ?_ hn hdb)
  refine PyProof.Rows.callWith_type1 (thn (ha.run pos pins s σ H _ J h) fun us s1 hh => ?_) hs hpl
  obtain ⟨vs, H1, I1, r1, q0, q1⟩ := hh
  obtain ⟨hp1, g1, d1, tk1, os1⟩ := s1
  refine wpAny_call_exc F.call (fun h' a mk => ?_) (Nat.le_trans (Nat.le_of_eq r1.length.symm) q0)
  have m := PySem.Heap.MadeExc.of mk
  have free : H1 a = none := I1.hok.gone mk.new
  obtain ⟨t0, ht, _, _⟩ := m.there
  exact ⟨.ref a, upd H1 a (BexO T a), I1.laidN m.keeps m.new free (bexO_ok ht rfl), rfl, q1 a free⟩
/-- isinstance of such -/
def rIsVE (K : PySem.W.Frag) : List V → Hp → VK → Prop := fun xs H Q => ∃ (a : Addr) (c : V) (cv : Value) (b : Bool), xs = [.ref a, c] ∧ H a = some (BexO "ValueError" a) ∧ (∀ u, RelV c u → u = cv) ∧ PySem.W.kitOne K (.type "ValueError") cv = some b ∧ Q (.bl b) H
theorem call_isVE : CallR X (.builtin "isinstance") (rIsVE X.K) := by
  intro pins s σ H xs us Q I r h
  obtain ⟨a, c, cv, b, rfl, ea, hcv, e, q⟩ := h
  cases r with
  | cons rx rr =>
    cases rr with
    | cons rt rr =>
      cases rr
      cases rx
      have ec := hcv _ rt
      subst ec
      have z : ObjOk X.prog X.w H s.heap a (BexO "ValueError" a) := I.hok a _ ea
      exact PySem.W.kia_one (PySem.W.kitx_bexc PySem.F.excAttr_ValueError PySem.F.lkClass_ValueError PySem.F.soClass_ValueError (by decide)) I.kIn z.1 e (fun z => nomatch z) fun tk => ⟨.bl b, H, I.kept (t' := tk) fun _ _ z => z, rfl, q⟩
end
end QT

/-! lambdas kept as values and called in the def that makes them -/
namespace QT
open PySem PySem.Spec PyProof.Rows L2 LamX
/-- a lambda's object, its code object at c -/
def LamO (f : Addr) (q : Str) (params : Arguments) (body : Expr) (scope : Scope) (cl : List (Str × Addr)) (c : Addr) : HO := .ext fun h => ∃ pm ctv : Value, h.get? f = some (PySem.W.kla_obj "<lambda>" q params body scope cl pm c ctv)
def LamAt (H : Hp) (f : Addr) (q : Str) (params : Arguments) (body : Expr) (scope : Scope) (cl : List (Str × Addr)) : Prop := ∃ c, H f = some (LamO f q params body scope cl c) ∧ H c = some (CodeO c q)
section
variable {q : Str} {params : Arguments} {body : Expr} {scope : Scope} {cl : List (Str × Addr)} {f : Addr}
theorem lamO_ne {c : Addr} (ps : Array Value) : LamO f q params body scope cl c ≠ .tbl ps := fun z => by
  unfold LamO at z
  cases z
theorem lamO_ok {P : Program} {w : World} {H : Hp} {h : Heap} {c : Addr} {pm ctv : Value} (e : h.get? f = some (PySem.W.kla_obj "<lambda>" q params body scope cl pm c ctv)) : ObjOk P w H h f (LamO f q params body scope cl c) :=
  ⟨⟨pm, ctv, e⟩, ⟨_, e⟩, fun _ _ ⟨a, b, r⟩ st => ⟨a, b, st _ r⟩⟩
theorem LamAt.extN {H H' : Hp} (h : LamAt H f q params body scope cl) (e : ExtN H H') : LamAt H' f q params body scope cl := by
  obtain ⟨c, h1, h2⟩ := h
  exact ⟨c, e _ _ h1 (fun ps => lamO_ne ps), e _ _ h2 (fun ps => codeO_ne ps)⟩
theorem LamAt.keep {H H' : Hp} (h : LamAt H f q params body scope cl) (e : ∀ b o, (∀ ps, o ≠ .tbl ps) → (∀ xs, o ≠ .lst xs) → H b = some o → H' b = some o) : LamAt H' f q params body scope cl := by
  obtain ⟨c, h1, h2⟩ := h
  refine ⟨c, e _ _ (fun ps => lamO_ne ps) (fun xs z => ?_) h1, e _ _ (fun ps => codeO_ne ps) (fun xs z => ?_) h2⟩
  · unfold LamO at z
    cases z
  · unfold CodeO at z
    cases z
end
section
variable {X : Cx} {pins : List (Addr × Obj)} {σ : L2.St} {H : Hp} {s : Shared}
theorem lam_new {T : List (Addr × Str)} {co P : Addr} {params : Arguments} {body : Expr} {scope : Scope} {pos : Pos} {E Q : Value → Shared → Prop} (I : Inv X pins σ H s) (TB : TabB X.base X.mg co P) (code : X.env.code = .ref co)
    (mem : (P, X.env.qual ++ "<lambda>") ∈ T) (one : ∀ p ∈ T, p.1 = P → p.2 = X.env.qual ++ "<lambda>") (tabs : Tabs T H) (nodef : defaultsOf params X.env = ([], [])) (caught : ∀ y ∈ scope.names, y.2 = .free → ∃ c, X.env.cells.lookup y.1 = some c)
    (k : ∀ (f : Addr) (H1 : Hp) (s1 : Shared), Inv X pins σ H1 s1 → ExtN H H1 → Tabs T H1 → H f = none → LamAt H1 f (X.env.qual ++ "<lambda>") params body scope (cloFrom X.env.cells scope.names []) → Q (.ref f) s1) :
    wpAny (model X.prog X.w) X.A (eval (.Lambda params body scope pos) X.env) Q E s := by
  obtain ⟨ps, atP, triples, among⟩ := tabs _ mem
  refine PySem.W.kla_eval nodef ?_
  have built := TB.bm.keeps I.bk
  have tab : s.heap.get? P = some { cls := .none, data := .fields ps } := I.hok P _ atP
  cases hit : codeAmong pos ps.toList with
  | none =>
    refine PySem.W.kla_makeFunction (mg := X.mg) (c := co) (P := P) (ps := ps) (closure_ok caught) I.ok.glob (I.mod.glob.keeps I.bk) code (TB.code.keeps I.bk) tab triples hit TB.gP built fun c1 ctv g1 tk stays above below rec_ tab1 => ?_
    obtain ⟨c2, oc, vs, t, e2, ho, hd, hv⟩ := rec_
    cases e2
    have grows : s.heap.objs.size ≤ g1.objs.size := Nat.le_trans above (Nat.le_of_lt below)
    have freeC : H c1 = none := I.hok.fresh above
    have I1 := inv_table (t' := s.toks) (more := #[rawInt pos.line, rawInt pos.col, .ref c1]) (h' := g1) I atP stays tab1 above ⟨oc, vs, t, ho, hd, hv⟩
    have I2 := I1.laid (t' := tk) (a := g1.objs.size) (o := LamO g1.objs.size (X.env.qual ++ "<lambda>") params body scope (cloFrom X.env.cells scope.names []) c1) (h' := g1.push (PySem.W.kla_obj "<lambda>" (X.env.qual ++ "<lambda>") params body scope (cloFrom X.env.cells scope.names []) ((X.mg "__name__").getD .none) c1 ctv))
      (fun b u e => Heap.get?_push_of_some _ e) (Nat.le_refl _) (lamO_ok (Heap.get?_push_size _ rfl))
    have nC : g1.objs.size ≠ c1 := Nat.ne_of_gt below
    have nP : g1.objs.size ≠ P := Nat.ne_of_gt (Nat.lt_of_lt_of_le (Heap.lt_size tab) grows)
    have free1 : upd (upd H P (.tbl (ps ++ #[rawInt pos.line, rawInt pos.col, .ref c1]))) c1 (CodeO c1 (X.env.qual ++ "<lambda>")) g1.objs.size = none := by
      rw [upd_ne nC, upd_ne nP]
      exact I.hok.fresh grows
    have ext1 : ExtN H (upd (upd H P (.tbl (ps ++ #[rawInt pos.line, rawInt pos.col, .ref c1]))) c1 (CodeO c1 (X.env.qual ++ "<lambda>"))) := fun b o e n => by
      have nb : b ≠ P := fun z => by
        rw [z, atP] at e
        exact n ps (Option.some.inj e).symm
      rw [upd_ne (ne_of_none e freeC), upd_ne nb]
      exact e
    have ext2 : ∀ b o, upd (upd H P (.tbl (ps ++ #[rawInt pos.line, rawInt pos.col, .ref c1]))) c1 (CodeO c1 (X.env.qual ++ "<lambda>")) b = some o →
        upd (upd (upd H P (.tbl (ps ++ #[rawInt pos.line, rawInt pos.col, .ref c1]))) c1 (CodeO c1 (X.env.qual ++ "<lambda>"))) g1.objs.size (LamO g1.objs.size (X.env.qual ++ "<lambda>") params body scope (cloFrom X.env.cells scope.names []) c1) b = some o := fun b o e => by
      rw [upd_ne (ne_of_none e free1)]
      exact e
    have tabs1 : Tabs T (upd (upd H P (.tbl (ps ++ #[rawInt pos.line, rawInt pos.col, .ref c1]))) c1 (CodeO c1 (X.env.qual ++ "<lambda>"))) := fun p hp => by
      by_cases z : p.1 = P
      · rw [one p hp z, z]
        have el : (ps ++ #[rawInt pos.line, rawInt pos.col, Value.ref c1]).toList = ps.toList ++ [rawInt pos.line, rawInt pos.col, .ref c1] := by simp
        refine ⟨_, by rw [upd_ne (ne_of_none atP freeC), upd_same], by rw [el]; exact PySem.TriplesOk_snoc _ _ _ _ triples, fun p2 cv found => ?_⟩
        rw [el] at found
        rcases among_app _ triples found with y | y
        · obtain ⟨c0, w1, w2⟩ := among p2 cv y
          exact ⟨c0, w1, ext1 _ _ w2 (fun ps => codeO_ne ps)⟩
        · exact ⟨c1, y, upd_same⟩
      · obtain ⟨ps2, w1, w2, w3⟩ := tabs p hp
        refine ⟨ps2, by rw [upd_ne (ne_of_none w1 freeC), upd_ne z]; exact w1, w2, fun p2 cv found => ?_⟩
        obtain ⟨c0, y1, y2⟩ := w3 p2 cv found
        exact ⟨c0, y1, ext1 _ _ y2 (fun ps => codeO_ne ps)⟩
    exact k g1.objs.size _ _ I2 (ext1.trans (ExtN.of ext2)) (tabs1.ext ext2) (I.hok.fresh grows) ⟨c1, upd_same, ext2 _ _ upd_same⟩
  | some cv =>
    obtain ⟨c1, e, known⟩ := among pos cv hit
    subst e
    refine PySem.W.kla_makeFunctionHit (mg := X.mg) (c := co) (P := P) (ps := ps) (closure_ok caught) I.ok.glob (I.mod.glob.keeps I.bk) code (TB.code.keeps I.bk) tab triples hit built fun ctv g1 tk stays grows => ?_
    have I1 : Inv X pins σ H { s with heap := g1, toks := s.toks } := I.kept stays
    have I2 := I1.laid (t' := tk) (a := g1.objs.size) (o := LamO g1.objs.size (X.env.qual ++ "<lambda>") params body scope (cloFrom X.env.cells scope.names []) c1) (h' := g1.push (PySem.W.kla_obj "<lambda>" (X.env.qual ++ "<lambda>") params body scope (cloFrom X.env.cells scope.names []) ((X.mg "__name__").getD .none) c1 ctv))
      (fun b u e => Heap.get?_push_of_some _ e) (Nat.le_refl _) (lamO_ok (Heap.get?_push_size _ rfl))
    have free1 : H g1.objs.size = none := I.hok.fresh grows
    have ext2 : ∀ b o, H b = some o → upd H g1.objs.size (LamO g1.objs.size (X.env.qual ++ "<lambda>") params body scope (cloFrom X.env.cells scope.names []) c1) b = some o := fun b o e => by
      rw [upd_ne (ne_of_none e free1)]
      exact e
    exact k g1.objs.size _ _ I2 (ExtN.of ext2) (tabs.ext ext2) free1 ⟨c1, upd_same, ext2 _ _ known⟩
/-- lambda: body, as a value -/
def tLamV (T : List (Addr × Str)) (q : Str) (params : Arguments) (body : Expr) (scope : Scope) (cl : List (Str × Addr)) : TE := fun _ H Q => Tabs T H ∧ ∀ (f : Addr) (H1 : Hp), ExtN H H1 → Tabs T H1 → H f = none → LamAt H1 f q params body scope cl → Q (.ref f) H1
theorem pe_lamV {T : List (Addr × Str)} {co P : Addr} {params : Arguments} {body : Expr} {scope : Scope} {pos : Pos} (TB : TabB X.base X.mg co P) (code : X.env.code = .ref co)
    (mem : (P, X.env.qual ++ "<lambda>") ∈ T) (one : ∀ p ∈ T, p.1 = P → p.2 = X.env.qual ++ "<lambda>") (L : LamS X.env.scope scope) (nodef : defaultsOf params X.env = ([], []) := by rfl) :
    PE X (.Lambda params body scope pos) (tLamV T (X.env.qual ++ "<lambda>") params body scope (cloFrom X.env.cells scope.names [])) := by
  refine ⟨fun pins s σ H Q I h => ?_⟩
  exact lam_new I TB code mem one h.1 nodef (L.has I.ok) fun f H1 s1 J e t n l => ⟨.ref f, H1, J, rfl, h.2 f H1 e t n l⟩
/-- e(), e a lambda that this very def has made -/
def tCallL (X : Cx) (k : Nat) (E : XK) (te : TE) : TE := fun σ H Q => te σ H fun v H1 => ∃ (f : Addr) (q : Str) (params : Arguments) (body : Expr) (scope : Scope) (tb : TE), v = .ref f ∧ LamAt H1 f q params body scope (cloFrom X.env.cells scope.names []) ∧ q = X.env.qual ++ "<lambda>" ∧ LamS X.env.scope scope ∧
  (∀ (cl : List (Str × Addr)) (pm cv ctv : Value), bindArgs (PySem.W.kla_fn "<lambda>" q params body scope cl pm cv ctv) ⟨[], []⟩ = pure []) ∧
  (∀ (A : Around) (outer : List Env) (s : Shared) (H : Hp) (f c : Addr), Room k (A.deeper (lamEnv X scope s.heap.objs.size f c)) → PE (lamCx X A outer s H E scope f c) body tb) ∧ tb σ H1 Q
theorem pe_callL {e0 : Expr} {te : TE} {k : Nat} {E : XK} {W : WX} {pos : Pos} (he : PE X e0 te) (tk : Takes X W) (hW : ∀ cls d σ H, E cls d H → W cls d σ H) (hr : Room (k + 1) X.A)
    (ht : eval (.Call e0 [] [] pos) X.env = (do callWith pos (← eval e0 X.env) [] (backTo pos (starEach [] X.env)) (backToKw pos (keywordEach [] X.env))) := by rfl) : PE X (.Call e0 [] [] pos) (tCallL X k E te) := by
  refine ⟨fun pins s σ H Q I h => ?_⟩
  rw [ht]
  refine wpAny_bind (thn (he.run pins s σ H _ I h) fun u s1 ⟨v, H1, I1, rv, f, q, params, body, scope, tb, ev, lam, eq, L, bind, hbody, asks⟩ => ?_)
  subst ev eq
  obtain rfl : u = Value.ref f := rv
  obtain ⟨c, h1, h2⟩ := lam
  obtain ⟨⟨pm, ctv, at_⟩, _, _⟩ := I1.hok f _ h1
  obtain ⟨⟨oc, vs, t, ho, hd, hv⟩, _, _⟩ := I1.hok c _ h2
  refine PySem.W.callWith_F0 ⟨_, _, _, _, at_⟩ ?_
  have runs : codeAny (model X.prog X.w) X.A (.call (.ref f) ⟨[], []⟩) (CR (L2.CX X.prog X.w) X.stack X.prog X.w H1 s1 Q E) s1 := by
    refine PySem.W.kla_callFunE hr.depth at_ rfl L.co L.gen rfl ⟨c, oc, vs, t, rfl, ho, hd, hv⟩ ?_
    rw [bind]
    refine wpAny_pure (wpAny_newFunctionEnv (fun y hy => (L.own y hy).2) (fun y hy => absurd hy (by simp)) (fun g1 ns1 same => ⟨I1.nolimit.fresh _ same, ?_⟩) L.kind)
    show codeAny _ _ (.expr body (lamEnv X scope s1.heap.objs.size f c)) _ _
    have stays : ∀ b o, s1.heap.get? b = some o → g1.get? b = some o := fun b o e => same.extBut b o (Nat.ne_of_lt (Heap.lt_size e)) (Heap.get?_push_of_some _ e)
    have J : Inv (lamCx X X.A X.stack s1 H1 E scope f c) [] σ H1 { s1 with heap := g1, toks := s1.toks + ([] : List (Str × Value)).length } :=
      lam_start2 I1 L I1.env0 hr.hd Un.refl ns1 stays
    refine PySem.W.kla_codeExpr (wpAny_mono ((hbody X.A X.stack s1 H1 f c (hr.deeper _)).run [] _ _ H1 Q J asks) (fun v s2 ends => ?_) fun e s2 ends => ends)
    obtain ⟨w2, H2, J2, r2, q2⟩ := ends
    exact ⟨w2, H2, J2.os, J2.bare, J2.base, J2.hok, r2, q2⟩
  have passes : Passes (L2.CX X.prog X.w) X E := passes_call tk hW
  refine wpAny_call (codeAny_mono runs fun r s2 ends => ?_)
  cases r with
  | error e => exact passes pins σ H1 s1 e s2 I1 ends
  | ok fl =>
    cases fl with
    | ret u => exact I1.after ends
    | next => exact False.elim ends
    | brk => exact False.elim ends
    | cont => exact False.elim ends
end
end QT

/-! the end of a law where nothing is under way, with one def's table of code objects -/
namespace QT
open PySem PySem.Spec PyProof.Rows L2 LamX
theorem law_callGT {prog : Program} {w : World} {K : PySem.W.Frag} {mg mb : Str → Option Value} {k : Nat} {fa a co Tb : Addr} {fd : FuncData} {x : Str} {sp : Sp} {s₁ : Shared} {vs : List Value} {ns : List Int}
    (KX : K.In s₁.heap) (hns : s₁.heap.Ns mainGlobals mg) (hb : s₁.heap.Ns builtinsNs mb) (hbb : ∀ x : Str, x ≠ "__name__" → mb x = bootBuiltins x) (hlim : s₁.heap.NoLimit) (hg : s₁.gens = #[])
    (atT : s₁.heap.get? Tb = some { cls := .none, data := .fields #[] }) (nT : K.lookup Tb = none) (C : PySem.W.CodeHd s₁.heap co Tb)
    (hbm : ∃ (bm : Addr) (ob : Obj), mg "__builtins__" = some (.ref bm) ∧ bm ≠ builtinsNs ∧ s₁.heap.get? bm = some ob ∧ ob.cls = .type "module" ∧ ob.dict = some builtinsNs ∧ ob.data = .plain)
    (ha : s₁.heap.get? a = some { cls := .type "list", data := .seq vs.toArray }) (hi : IntsAre vs ns) (hl : ns.length ≤ sizeLine) (hr : Room k callerA)
    (F : ∀ base : Heap, K.In base → base.Ns mainGlobals mg → TabB base mg co Tb → FnOkG prog w K mg base k fa fd [x] sp) (hbind : ∀ (s : Shared) (u : Value), BindsTo s fd ⟨[u], []⟩ [(x, u)])
    (hsp : ∀ H : Hp, H Tb = some (.tbl #[]) → SqL K H a (ns.map V.int) → sp [.ref a] H (fun v _ => v = .bl true) fun _ _ _ => False) :
    codeAny (model prog w) callerA (.call (.ref fa) ⟨[.ref a], []⟩) (fun r s' => r = .ok (.ret (.bool true)) ∧ OldK s₁.heap s'.heap ∧ s'.os = s₁.os ∧ AllBare s'.gens) s₁ := by
  have vals := vals_ints hi
  have count := hi.length
  have naT : a ≠ Tb := fun z => by
    rw [z, atT] at ha
    have y := congrArg Obj.data (Option.some.inj ha)
    cases y
  have from_ : ∀ H : Hp, H Tb = some (.tbl #[]) → (∀ b, b ≠ Tb → H b = none ∨ ∃ o xs, H b = some (.frz o (.lst xs))) → SqL K H a (ns.map V.int) → HOk prog w H s₁.heap → (∀ b, H b ≠ none → b = a ∨ b = Tb) → (H a ≠ none → K.lookup a = none) →
      codeAny (model prog w) callerA (.call (.ref fa) ⟨[.ref a], []⟩) (fun r s' => r = .ok (.ret (.bool true)) ∧ OldK s₁.heap s'.heap ∧ s'.os = s₁.os ∧ AllBare s'.gens) s₁ := by
    intro H hT only sq hok alone off
    have base_ : ∀ {b : Addr} {o : Obj}, s₁.heap.get? b = some o → H b = none → (hidT s₁.heap H).get? b = some o := fun e n => hidT_get e n
    have free_ : ∀ {b : Addr} {o : Obj}, s₁.heap.get? b = some o → o.data ≠ .seq vs.toArray → o.data ≠ .fields #[] → H b = none := fun {b o} e d1 d2 => by
      cases q : H b with
      | none => rfl
      | some u =>
        exfalso
        rcases alone b (by rw [q]; simp) with eb | eb
        · rw [eb, ha] at e
          cases e
          exact d1 rfl
        · rw [eb, atT] at e
          cases e
          exact d2 rfl
    have untold : ∀ {b : Addr} {o : Obj} {es : Array DictEntry} {ep : Nat}, s₁.heap.get? b = some o → o.data = .dict es ep → H b = none := fun {b o es ep} e d =>
      free_ e (fun z => by rw [d] at z; cases z) fun z => by rw [d] at z; cases z
    have ns_ : ∀ {b : Addr} {m : Str → Option Value}, s₁.heap.Ns b m → (hidT s₁.heap H).Ns b m := fun {b m} ⟨o, es, ep, e, d, r⟩ => ⟨o, es, ep, base_ e (untold e d), d, r⟩
    have inBase : K.In (hidT s₁.heap H) := fun b o e => base_ (KX b o e) (by
      cases q : H b with
      | none => rfl
      | some u =>
        rcases alone b (by rw [q]; simp) with eb | eb
        · rw [eb, off (by rw [← eb, q]; simp)] at e
          cases e
        · rw [eb, nT] at e
          cases e)
    have modOk : Mod K mg (hidT s₁.heap H) := ⟨inBase, ns_ hns, ⟨mb, ns_ hb, hbb⟩, let ⟨mc, h1, h2⟩ := hlim; ⟨mc, ns_ h1, h2⟩⟩
    have globT : mainGlobals ≠ Tb := fun z => by
      obtain ⟨o, es, ep, e, d, _⟩ := hns
      rw [z, atT] at e
      cases e
      cases d
    have tabB : TabB (hidT s₁.heap H) mg co Tb := by
      refine ⟨?_, ?_, globT⟩
      · obtain ⟨o, us, file, tf, flags, tg, inF, text, tt, e1, r1, r2, r3, rest⟩ := C
        refine ⟨o, us, file, tf, flags, tg, inF, text, tt, base_ e1 (free_ e1 (fun z => by rw [r2] at z; cases z) fun z => ?_), r1, r2, r3, rest⟩
        rw [r2] at z
        cases z
        simp at r3
      · obtain ⟨bm, ob, b1, b2, b3, b4, b5, b6⟩ := hbm
        refine ⟨bm, ob, b1, b2, fun z => ?_, fun z => ?_, base_ b3 (free_ b3 (fun z => by rw [b6] at z; cases z) fun z => by rw [b6] at z; cases z), b4, b5, b6⟩
        · obtain ⟨o, es, ep, e, d, _⟩ := hns
          rw [z, e] at b3
          cases b3
          rw [d] at b6
          cases b6
        · rw [z, atT] at b3
          cases b3
          cases b6
    have e0 : Env0 prog w K mg (hidT s₁.heap H) callerA [] s₁ H := ⟨rfl, modOk, fun b o e => of_hidT e, Nat.le_of_eq (hidT_size _ _), trivial, fun b z => absurd (show b ∈ ([] : List Addr) from z) (by simp), hok, .of_eq hg⟩
    refine codeAny_mono ((F _ inBase (ns_ hns) tabB).run callerA [] s₁ H ⟨[.ref a], []⟩ [.ref a] [.ref a] _ _ rfl hr e0 (hbind s₁ (.ref a)) (.cons rfl .nil) (hsp H hT sq)) fun r s' back => ?_
    cases r with
    | error e => exact False.elim back
    | ok fl =>
      cases fl with
      | next | brk | cont => exact False.elim back
      | ret u =>
        obtain ⟨v, H', os, bare, un, hok2, rv, q⟩ := back
        have qv : v = .bl true := q
        subst qv
        obtain rfl : u = Value.bool true := rv
        obtain ⟨more, z⟩ := un.tbls Tb #[] hT
        have grownT := hok2 Tb _ z
        have stays : ∀ b o, b ≠ Tb → s₁.heap.get? b = some o → s'.heap.get? b = some o := fun b o nb e => by
          cases q : H b with
          | none => exact un.keep b o e q (by intro z; exact absurd (show b ∈ ([] : List Addr) from z) (by simp)) (by simp)
          | some u =>
            rcases only b nb with z | ⟨ob, xs, z⟩
            · rw [q] at z
              cases z
            · obtain ⟨y1, _⟩ := hok b _ z
              obtain ⟨y2, _⟩ := hok2 b _ (un.frzs b ob _ z)
              rw [e] at y1
              cases y1
              exact y2
        refine ⟨rfl, ⟨fun b o e => ?_, fun b o e => ?_⟩, os, bare⟩
        · by_cases nb : b = Tb
          · rw [nb, atT] at e
            cases e
            exact .inr (.inl ⟨by rw [nb]; exact (C.tab atT).isCodeTable, rfl, #[], more, rfl, by rw [nb, Array.empty_append]; rw [Array.empty_append] at grownT; exact grownT⟩)
          · exact .inl (stays b o nb e)
        · by_cases nb : b = Tb
          · rw [nb]
            exact ⟨_, grownT⟩
          · exact ⟨o, stays b o nb e⟩
  have tabOk : ∀ H : Hp, ObjOk prog w H s₁.heap Tb (.tbl #[]) := fun H => atT
  cases hk : K.lookup a with
  | some o =>
    have e := KX a o hk
    rw [ha] at e
    cases e
    refine from_ (fun b => if b = Tb then some (.tbl #[]) else none) (if_pos rfl) (fun b nb => .inl (if_neg nb)) (.inr ⟨_, vs.toArray, _, hk, rfl, rfl, rfl, by rw [List.size_toArray, count]; exact hl, by simpa using vals⟩) (fun b u z => ?_) (fun b z => ?_) fun z => absurd (if_neg naT) z
    · by_cases y : b = Tb
      · have zz := (if_pos y).symm.trans z
        cases zz
        rw [y]
        exact tabOk _
      · have zz := (if_neg y).symm.trans z
        cases zz
    · by_cases y : b = Tb
      · exact .inr y
      · exact absurd (if_neg y) z
  | none =>
    refine from_ (fun b => if b = Tb then some (.tbl #[]) else if b = a then some (.frz { cls := .type "list", data := .seq vs.toArray } (.lst (ns.map V.int))) else none) (if_pos rfl) (fun b nb => ?_) (.inl (.inr ⟨{ cls := .type "list", data := .seq vs.toArray }, (if_neg naT).trans (if_pos rfl)⟩)) (fun b u z => ?_) (fun b z => ?_) fun _ => hk
    · by_cases y : b = a
      · exact .inr ⟨_, _, (if_neg nb).trans (if_pos y)⟩
      · exact .inl ((if_neg nb).trans (if_neg y))
    · by_cases y : b = Tb
      · have zz := (if_pos y).symm.trans z
        cases zz
        rw [y]
        exact tabOk _
      · have z1 := (if_neg y).symm.trans z
        by_cases y2 : b = a
        · have zz := (if_pos y2).symm.trans z1
          cases zz
          rw [y2]
          exact ⟨ha, by rw [List.length_map]; exact hl, vs, _, vals, ha⟩
        · have zz := (if_neg y2).symm.trans z1
          cases zz
    · by_cases y : b = Tb
      · exact .inr y
      · by_cases y2 : b = a
        · exact .inl y2
        · exact absurd ((if_neg y).trans (if_neg y2)) z
/-- what the end must bring; ts: the tables that are empty at first -/
structure LawG (l : PySem.W.OpenLaw) (w : World) (K : PySem.W.Frag) (k n : Nat) (x : Str) (ts : List Addr) (mg : Str → Option Value) (fa : Addr) : Prop where
  ex : ∃ (fd : FuncData) (co Tb : Addr) (sp : Sp), PySem.W.codeHdIn K co Tb = true ∧ Tb ∈ ts ∧ K.lookup Tb = none ∧ (∀ (s : Shared) (u : Value), BindsTo s fd ⟨[u], []⟩ [(x, u)]) ∧
    (∀ (H : Hp) (a : Addr) (ns : List Int), ns.length ≤ n → H Tb = some (.tbl #[]) → SqL K H a (ns.map V.int) → sp [.ref a] H (fun v _ => v = .bl true) fun _ _ _ => False) ∧
    ∀ base : Heap, K.In base → base.Ns mainGlobals mg → TabB base mg co Tb → FnOkG l.prog w K mg base k fa fd [x] sp
theorem walk_ofGT {l : PySem.W.OpenLaw} {n k : Nat} {q : Program} {loose : List Str} {XP : (Str → Option Value) → Heap → Prop} {YP : World → Heap → Prop} {d : DefRec} {K : Params → PySem.W.Frag} {x : Str} {ts : List Addr}
    (hn : l.most = some n) (hn2 : n ≤ sizeLine) (hdf : d.params.defaults = []) (hr : Room k callerA) (hY : ∀ (w : World) (h : Heap), YP w h → (K w.params).In h) (hT : ∀ (w : World) (h : Heap), YP w h → ∀ Tb ∈ ts, h.get? Tb = some { cls := .none, data := .fields #[] })
    (F : ∀ (w : World) (mg : Str → Option Value) (fa : Addr) (h : Heap), (K w.params).In h → h.Ns mainGlobals mg → mg d.name = some (.ref fa) → LawG l w (K w.params) k n x ts mg fa) :
    PySem.W.WalkO q loose XP YP l.row.toRowW d [] (fun f vs => PySem.call f vs) := by
  refine Att.attach_callB hn hdf fun w s₀ s₁ mg mb fa o pm cd doc a vs ns G Y ho hd hcd hmg hobj hints hlen hbits hg => ?_
  obtain ⟨fd, co, Tb, sp, hC, inT, nT, binds, hsp, ok⟩ := (F w mg fa _ (hY w _ Y) G.T.g hmg).ex
  exact law_callGT (hY w _ Y) G.T.g G.T.b G.T.builtins G.T.nolimit hg (hT w _ Y Tb inT) nT (PySem.W.codeHd_of_K (hY w _ Y) hC) G.T.bmain hobj hints (Nat.le_trans hlen hn2) hr ok binds fun H hT hS => hsp H a ns hlen hT hS
end QT

/-! xs[a::2]; d.get(k) of a written dict -/
namespace QT
open PySem PySem.Spec PyProof.Rows L2
/-- each second one -/
def every2 {α : Type} : List α → List α
  | [] => []
  | [x] => [x]
  | x :: _ :: r => x :: every2 r
theorem every2_map {α β : Type} (f : α → β) : ∀ l : List α, every2 (l.map f) = (every2 l).map f
  | [] => rfl
  | [_] => rfl
  | _ :: _ :: r => congrArg (List.cons _) (every2_map f r)
theorem every2_vals : ∀ {xs : List V} {us : List Value}, Vals xs us → Vals (every2 xs) (every2 us)
  | _, _, .nil => .nil
  | _, _, .cons r .nil => .cons r .nil
  | _, _, .cons r (.cons _ q) => .cons r (every2_vals q)
theorem every2_len {α : Type} : ∀ l : List α, (every2 l).length ≤ l.length
  | [] => Nat.le_refl _
  | [_] => Nat.le_refl _
  | _ :: _ :: r => by
    have := every2_len r
    show (every2 r).length + 1 ≤ r.length + 1 + 1
    omega
/-- the places, counted by two from the first -/
theorem walk2 {α : Type} : ∀ (l pre : List α) (k : Nat), k = (l.length + 1) / 2 → ((List.range k).map fun i => pre.length + 2 * i).filterMap (fun j => (pre ++ l)[j]?) = every2 l
  | [], pre, k, h => by
    have : k = 0 := by simpa using h
    subst this
    rfl
  | [x], pre, k, h => by
    have : k = 1 := by simpa using h
    subst this
    simp [every2]
  | x :: y :: r, pre, k, h => by
    obtain ⟨m, rfl⟩ : ∃ m, k = m + 1 := ⟨k - 1, by simp at h; omega⟩
    have ih := walk2 r (pre ++ [x, y]) m (by simp at h; omega)
    rw [List.range_succ_eq_map, List.map_cons, List.map_map, List.filterMap_cons]
    have e0 : (pre ++ x :: y :: r)[pre.length + 2 * 0]? = some x := by simp
    rw [e0]
    show x :: _ = x :: every2 r
    rw [← ih]
    congr 1
    have e1 : pre ++ x :: y :: r = pre ++ [x, y] ++ r := by simp
    rw [e1]
    have e2 : (fun i => pre.length + 2 * i) ∘ Nat.succ = fun i => (pre ++ [x, y]).length + 2 * i := by
      funext i
      simp
      omega
    rw [e2]
theorem pick2 (us : List Value) (a : Nat) (o : Option Int) (ho : o = some (a : Int) ∨ (o = none ∧ a = 0)) : slicePick us.toArray o none (some 2) = (every2 (us.drop a)).toArray := by
  unfold slicePick
  have hb : sliceBounds o none (some 2) us.toArray.size = (((min a us.length : Nat) : Int), (us.length : Int), 2) := by
    rw [List.size_toArray]
    rcases ho with rfl | ⟨rfl, rfl⟩
    · unfold sliceBounds
      have n1 : ¬ ((a : Int) < 0) := by omega
      have n2 : max 0 (min (a : Int) (us.length : Int)) = ((min a us.length : Nat) : Int) := by omega
      simp only [Option.getD_some, n1, if_false, show (2 : Int) > 0 from by decide, if_true, n2]
    · simp [sliceBounds]
  rw [hb]
  show ((sliceRange ((min a us.length : Nat) : Int) (us.length : Int) 2).filterMap (us.toArray[·]?)).toArray = _
  have hr : sliceRange ((min a us.length : Nat) : Int) (us.length : Int) 2 = (List.range ((us.length - a + 1) / 2)).map fun i => (us.take a).length + 2 * i := by
    unfold sliceRange
    rw [if_pos (show (2 : Int) > 0 from by decide)]
    have hc : (if ((min a us.length : Nat) : Int) < (us.length : Int) then ((us.length : Int) - ((min a us.length : Nat) : Int) + 2 - 1) / 2 else 0).toNat = (us.length - a + 1) / 2 := by
      split <;> omega
    dsimp only
    rw [hc]
    apply List.map_congr_left
    intro i _
    rw [List.length_take]
    omega
  rw [hr]
  have hw := walk2 (us.drop a) (us.take a) ((us.length - a + 1) / 2) (by rw [List.length_drop])
  rw [List.take_append_drop] at hw
  rw [← hw]
  simp
def tStep2 (K : PySem.W.Frag) (te : TE) (tl : TO) : TE := fun σ H Q => te σ H fun x H1 => tl σ H1 fun o H2 => ∃ (a : Addr) (xs : List V) (n : Nat), x = .ref a ∧ (o = some (n : Int) ∨ (o = none ∧ n = 0)) ∧ SqL K H2 a xs ∧ ∀ p, H2 p = none → Q (.ref p) (upd H2 p (.lst (every2 (xs.drop n))))
theorem pe_step2 {X : Cx} {e : Expr} {lo : Option Expr} {te : TE} {tl : TO} {k : Nat} {p1 p3 pos : Pos} (he : PE X e te) (hl : PO X lo tl)
    (ht : ∀ (s : Expr), s = .Slice lo none (some (.Constant (.int 2) k p1)) p3 → True := by intros; trivial) : PE X (.Subscript e (.Slice lo none (some (.Constant (.int 2) k p1)) p3) pos) (tStep2 X.K te tl) := by
  refine ⟨fun pins s σ H Q I h => ?_⟩
  refine Subscript_ (thn (he.run pins s σ H _ I h) fun v s1 ⟨x, H1, I1, r1, q1⟩ => ?_)
  have hst : PO X (some (.Constant (.int 2) k p1)) (tPart (tC (.int 2))) := po_some pe_int
  refine wpAny_Slice (thn (hl.run pins s1 σ H1 _ I1 q1) fun vl s2 ⟨l, H2, I2, pl, q2⟩ => ?_)
  obtain ⟨a, xs, n, rfl, hn, hx, q⟩ := q2
  cases r1
  refine thn (po_none.run pins s2 σ H2 (fun o H3 => o = none ∧ H3 = H2) I2 ⟨rfl, rfl⟩) fun vu s3 ⟨u, H3, I3, pu, eu, e3⟩ => ?_
  subst eu e3
  refine thn (hst.run pins s3 σ H3 (fun o H4 => o = some 2 ∧ H4 = H3) I3 ⟨2, rfl, rfl, rfl⟩) fun vs s4 ⟨o, H4, I4, ps, eo, e4⟩ => ?_
  subst eo e4
  have I5 : Inv X pins σ H4 { s4 with heap := s4.heap.push { cls := .type "slice", data := .fields #[vl, vu, vs] } } := I4.kept (t' := s4.toks) fun b ob q => Heap.get?_push_of_some _ q
  obtain ⟨its, r, ht, hz⟩ := I5.list hx
  have hlen := r.length
  show wpAny (model X.prog X.w) X.A (subscriptTail e (.Slice lo none (some (.Constant (.int 2) k p1)) p3) (.ref a) (.ref s4.heap.objs.size)) (EP X pins σ Q) X.xe { s4 with heap := s4.heap.push { cls := .type "slice", data := .fields #[vl, vu, vs] } }
  refine tail_any (ops := [.ref a, .ref s4.heap.objs.size]) ht.isList.typeIs (PySem.slot_list_getitem.lookup) ?_ (by with_unfolding_all rfl)
  refine wpAny_getItem_list_slice ht.isList (Heap.IsSliceOf.new _ vl vu vs) pl pu ps (by decide) ?_ (by rw [List.size_toArray]; omega)
  rw [pick2 its n l hn]
  refine ⟨.ref _, _, I5.laid (t' := s4.toks) (o := .lst (every2 (xs.drop n))) (fun b ob q => Heap.get?_push_of_some _ q) (Nat.le_refl _) ?_, rfl, q _ (I5.hok.fresh (Nat.le_refl _))⟩
  have l1 := every2_len (xs.drop n)
  rw [List.length_drop] at l1
  exact ⟨by omega, _, 0, every2_vals (r.drop n), Heap.get?_push_size _ rfl⟩
/-- d.get(k), d written, k a text -/
def tKGet (K : PySem.W.Frag) (d : Addr) (to ty : TE) : TE := fun σ H Q => to σ H fun x H1 => x = .ref d ∧ ty σ H1 fun y H2 => ∃ (z : Str) (r : Option Value) (v : V), y = .str z ∧ PySem.W.nsIn K d z = some r ∧ RelV v (r.getD .none) ∧ Q v H2
theorem pe_kget0 {X : Cx} {d : Addr} {es : Array DictEntry} {n : Nat} {o e : Expr} {apos cpos : Pos} {to ty : TE} (D : KDict X.K X.w d es n) (ho : PE X o to) (he : PE X e ty) (m : M1 X o "get" apos e cpos) : PE X (.Call (.Attribute o "get" apos) [e] [] cpos) (tKGet X.K d to ty) := by
  refine ⟨fun pins s σ H Q I h => ?_⟩
  refine wpAny_Call_method m.base m.few m.line PySem.F.plainAttrs_dict PySem.F.slot_dict_get PySem.F.type_dict_get (thn (ho.run pins s σ H _ I h) fun u s1 ⟨x, H1, I1, rx, ex, q1⟩ => ?_)
  subst ex
  obtain rfl : u = Value.ref d := rx
  have ty := kd_type D I1
  refine ⟨ty, fun b q => ?_, ?_⟩
  · cases q
    exact ⟨_, I1.kIn _ _ D.at_, rfl⟩
  · rw [m.trees]
    refine Calls.callWith_builtin rfl (Calls.evalArgs_plain (Calls.spliced_cons (thn (he.run pins s1 σ H1 _ I1 q1) fun iv s2 ⟨y, H2, I2, ry, z, r, v, ey, e, rv, q2⟩ => Calls.spliced_nil ?_)))
    subst ey
    obtain ⟨t, rfl⟩ := ry
    refine call_meetsIn PySem.F.slot_dict_get (kd_type D I2) PySem.F.entry_dict_get (PySem.F.args_dict_get_2 _ _) (meets_dict_get (strKind X.prog X.w) d (PySem.strKind_is X.prog X.w z t) D.low) ⟨_, PySem.W.mapOf_K (prog := X.prog) I2.kIn D.at_ D.lit, ?_⟩
    show EP X pins σ Q ((findBy Value.isStrOf es z).getD .none) _
    rw [PySem.W.find_K D.at_ e]
    exact ⟨v, H2, I2.tok _, rv, q2⟩
/-- the same, told apart from the context -/
theorem pe_kget {X : Cx} {K : PySem.W.Frag} {w : World} {d : Addr} {es : Array DictEntry} {n : Nat} {o e : Expr} {apos cpos : Pos} {to ty : TE} (D : KDict K w d es n) (ho : PE X o to) (he : PE X e ty) (m : M1 X o "get" apos e cpos) (hK : X.K = K := by rfl) (hw : X.w = w := by rfl) :
    PE X (.Call (.Attribute o "get" apos) [e] [] cpos) (tKGet K d to ty) := by
  subst hK hw
  exact pe_kget0 D ho he m
end QT

/-! a written dict from texts to whole numbers -/
namespace QT
open PySem PySem.Spec PyProof.Rows L2
def entI (e : DictEntry) : Option (Str × Int) := match e.key, e.val with
  | .str x _, .int i _ => some (x, i)
  | _, _ => none
def dicI (K : PySem.W.Frag) (a : Addr) : Option (List (Option (Str × Int))) := match K.lookup a with
  | some ⟨_, _, .dict es _, _⟩ => some (es.toList.map entI)
  | _ => none
theorem find_ent (z : Str) : ∀ {l : List DictEntry} {ps : List (Str × Int)}, l.map entI = ps.map some →
    match ps.find? (fun p => p.1 == z) with
    | some p => ∃ e t, l.find? (·.key.isStr z) = some e ∧ e.val = .int p.2 t
    | none => l.find? (·.key.isStr z) = none ∧ l.any (·.refKey) = false
  | [], [], _ => ⟨rfl, rfl⟩
  | [], _ :: _, h => by cases h
  | _ :: _, [], h => by cases h
  | e :: l, p :: ps, h => by
    simp only [List.map_cons, List.cons.injEq] at h
    obtain ⟨h1, h2⟩ := h
    have ih := find_ent z h2
    obtain ⟨x, t, i, u, k1, k2, k3⟩ : ∃ x t i u, e.key = .str x t ∧ e.val = .int i u ∧ p = (x, i) := by
      unfold entI at h1
      split at h1
      · rename_i x t i u q1 q2
        exact ⟨x, t, i, u, q1, q2, (Option.some.inj h1).symm⟩
      · cases h1
    subst k3
    have s1 : e.key.isStr z = (x == z) := by
      rw [k1]
      rfl
    have s2 : e.refKey = false := by
      unfold DictEntry.refKey
      rw [k1]
    rw [List.find?_cons]
    cases c : (x == z) with
    | true =>
      dsimp only
      exact ⟨e, u, by rw [List.find?_cons, s1, c], k2⟩
    | false =>
      dsimp only
      rw [List.find?_cons, s1, c, List.any_cons, s2]
      exact ih
theorem nsIn_dic {K : PySem.W.Frag} {a : Addr} {ps : List (Str × Int)} (h : dicI K a = some (ps.map some)) (z : Str) :
    ∃ r, PySem.W.nsIn K a z = some r ∧ match ps.find? (fun p => p.1 == z) with
      | some p => ∃ t, r = some (.int p.2 t)
      | none => r = none := by
  unfold dicI at h
  cases q : K.lookup a with
  | none =>
    rw [q] at h
    cases h
  | some o =>
    obtain ⟨oc, od, dt, osl⟩ := o
    rw [q] at h
    cases dt with
    | dict es n =>
      have h2 : es.toList.map entI = ps.map some := Option.some.inj h
      have hf := find_ent z h2
      unfold PySem.W.nsIn
      rw [q]
      dsimp only
      cases c : ps.find? (fun p => p.1 == z) with
      | some p =>
        rw [c] at hf
        obtain ⟨e, t, f1, f2⟩ := hf
        rw [f1]
        exact ⟨_, rfl, t, by rw [f2]⟩
      | none =>
        rw [c] at hf
        rw [hf.1, hf.2]
        exact ⟨none, rfl, rfl⟩
    | _ => cases h
end QT

/-! texts of bytes: two signs each -/
namespace Q74
open PySem PySem.Spec PyProof.Rows L2 QT
/-- the sign of a digit; the digit of a sign -/
def hx (d : Nat) : Nat := if d < 10 then 48 + d else 87 + d
def hd (c : Nat) : Option Nat := if 48 ≤ c ∧ c ≤ 57 then some (c - 48) else if 97 ≤ c ∧ c ≤ 102 then some (c - 87) else none
def vd (c : Nat) : V := match hd c with
  | some d => .int d
  | none => .non
def Byte (n : Int) : Prop := 0 ≤ n ∧ n < 256
theorem hd_hx : ∀ d : Nat, d < 16 → hd (hx d) = some d := by decide
/-- the digits of bytes -/
def digs : List Int → List Nat
  | [] => []
  | n :: r => n.toNat / 16 :: n.toNat % 16 :: digs r
def hexL (ns : List Int) : List Nat := (digs ns).map hx
theorem digs_len : ∀ ns : List Int, (digs ns).length = 2 * ns.length
  | [] => rfl
  | n :: r => by
    show (digs r).length + 1 + 1 = 2 * (r.length + 1)
    rw [digs_len r]
    omega
theorem hexL_len (ns : List Int) : (hexL ns).length = 2 * ns.length := by
  rw [hexL, List.length_map, digs_len]
theorem digs_lt : ∀ {ns : List Int}, (∀ n ∈ ns, Byte n) → ∀ d ∈ digs ns, d < 16
  | [], _, d, h => by cases h
  | n :: r, hb, d, h => by
    have b := hb n List.mem_cons_self
    unfold Byte at b
    rcases List.mem_cons.mp h with rfl | h
    · omega
    · rcases List.mem_cons.mp h with rfl | h
      · omega
      · exact digs_lt (fun m q => hb m (List.mem_cons_of_mem _ q)) d h
theorem hexL_hd {ns : List Int} (hb : ∀ n ∈ ns, Byte n) : (hexL ns).map hd = (digs ns).map some := by
  rw [hexL, List.map_map]
  apply List.map_congr_left
  intro d h
  exact hd_hx d (digs_lt hb d h)
theorem hexL_ok {ns : List Int} (hb : ∀ n ∈ ns, Byte n) {c : Nat} (h : c ∈ hexL ns) : ∃ d, hd c = some d := by
  obtain ⟨d, hdm, rfl⟩ := List.mem_map.mp h
  exact ⟨d, hd_hx d (digs_lt hb d hdm)⟩
/-- the values of signs that all are digits -/
theorem vd_of : ∀ {cs : List Nat} {ds : List Nat}, cs.map hd = ds.map some → cs.map vd = (ds.map Int.ofNat).map V.int
  | [], [], _ => rfl
  | [], _ :: _, h => by cases h
  | _ :: _, [], h => by cases h
  | c :: r, d :: q, h => by
    simp only [List.map_cons, List.cons.injEq] at h
    have e : vd c = .int d := by
      unfold vd
      rw [h.1]
    rw [List.map_cons, e, vd_of h.2]
    rfl
theorem all_hd : ∀ {cs : List Nat}, (∀ c ∈ cs, ∃ d, hd c = some d) → ∃ ds : List Nat, cs.map hd = ds.map some
  | [], _ => ⟨[], rfl⟩
  | c :: r, h => by
    obtain ⟨d, e⟩ := h c List.mem_cons_self
    obtain ⟨ds, e2⟩ := all_hd (cs := r) fun x m => h x (List.mem_cons_of_mem _ m)
    exact ⟨d :: ds, by rw [List.map_cons, List.map_cons, e, e2]⟩
/-- pairs of digits, as bytes -/
def dec (ds : List Int) : List Int := (List.zip (every2 ds) (every2 (ds.drop 1))).map fun p => 16 * p.1 + p.2
theorem dec_digs : ∀ {ns : List Int}, (∀ n ∈ ns, Byte n) → dec ((digs ns).map Int.ofNat) = ns
  | [], _ => rfl
  | n :: r, hb => by
    have b := hb n List.mem_cons_self
    unfold Byte at b
    have ih := dec_digs (ns := r) fun m q => hb m (List.mem_cons_of_mem _ q)
    have e : every2 (((digs (n :: r)).map Int.ofNat).drop 1) = Int.ofNat (n.toNat % 16) :: every2 (((digs r).map Int.ofNat).drop 1) := by
      show every2 (Int.ofNat (n.toNat % 16) :: (digs r).map Int.ofNat) = _
      cases digs r with
      | nil => rfl
      | cons a q => rfl
    have e0 : every2 ((digs (n :: r)).map Int.ofNat) = Int.ofNat (n.toNat / 16) :: every2 ((digs r).map Int.ofNat) := rfl
    unfold dec at ih ⊢
    rw [e, e0]
    rw [List.zip_cons_cons, List.map_cons, ih]
    congr 1
    show (16 : Int) * ((n.toNat / 16 : Nat) : Int) + ((n.toNat % 16 : Nat) : Int) = n
    omega
/-- the text of bytes -/
def pairS (n : Int) : Str := ⟨#[hx (n.toNat / 16), hx (n.toNat % 16)]⟩
def hexS (ns : List Int) : Str := ⟨(hexL ns).toArray⟩
theorem hexS_tl (ns : List Int) : TL.tl (hexS ns) = hexL ns := rfl
theorem hexS_len (ns : List Int) : (hexS ns).length = 2 * ns.length := by
  rw [TL.len_tl, hexS_tl, hexL_len]
theorem joinL_flat : ∀ l : List (List Nat), TL.joinL [] l = l.flatten
  | [] => rfl
  | [p] => by simp [TL.joinL]
  | p :: q :: r => by
    show p ++ ([] ++ TL.joinL [] (q :: r)) = _
    rw [joinL_flat (q :: r)]
    rfl
theorem join_pairs (ns : List Int) : Txt.join Str.empty (ns.map pairS) = hexS ns := by
  rw [TL.join_eq]
  apply TL.ext_tl
  rw [TL.tl_join, hexS_tl]
  show TL.joinL [] _ = _
  rw [joinL_flat]
  induction ns with
  | nil => rfl
  | cons n r ih =>
    rw [List.map_cons, List.map_cons, List.flatten_cons, ih]
    rfl
theorem pairs_len (ns : List Int) : ((ns.map pairS).map fun x => x.length).sum = 2 * ns.length := by
  induction ns with
  | nil => rfl
  | cons n r ih =>
    rw [List.map_cons, List.map_cons, List.sum_cons, ih]
    show 2 + 2 * r.length = 2 * (r.length + 1)
    omega
end Q74

/-! draws -/
namespace Q74
open PySem PySem.Spec PyProof.Rows L2 QT
def top (i : Nat) : Stmt := PySem.Challenge.pw_nestfile_k74_bytes_as_texts.main.body.getD i (.Pass ⟨0, 0, 0, 0⟩)
structure Txt (K : PySem.W.Frag) (mg : Str → Option Value) : Prop where
  z_len : mg "len" = none
  z_abs : mg "abs" = none
  z_int : mg "int" = none
  z_bool : mg "bool" = none
  z_tuple : mg "tuple" = none
  z_list : mg "list" = none
  z_isinstance : mg "isinstance" = none
  z_all : mg "all" = none
  z_range : mg "range" = none
  z_enumerate : mg "enumerate" = none
  z_repr : mg "repr" = none
  z_min : mg "min" = none
  z_zip : mg "zip" = none
  z_max : mg "max" = none
theorem same_new {H : Hp} {p : Addr} {o : HO} (h : H p = none) : Same H (upd H p o) := fun b u e => by
  rw [upd_ne (ne_of_none e h)]
  exact e
theorem sz {n : Nat} (h : n ≤ 100000) : n ≤ sizeLine := Nat.le_trans h (by decide)
theorem szl {n : Nat} (h : n ≤ 100000) : n < sizeLine := Nat.lt_of_le_of_lt h (by decide)
theorem b01 {c : Prop} [Decidable c] : (0 : Int) ≤ (if c then 1 else 0) ∧ (if c then (1 : Int) else 0) ≤ 1 := by split <;> decide
theorem b64 {i : Int} (h : 0 ≤ i ∧ i ≤ 1) : -(2 ^ 64) < i ∧ i < 2 ^ 64 := ⟨by omega, by omega⟩
/-- a state of draws stands at s -/
def Stt (H : Hp) (s : Addr) : Prop := ∃ x y z : Int, H s = some (.lst [.int x, .int y, .int z]) ∧ 0 ≤ x ∧ 0 ≤ y ∧ y < 4294967296 ∧ 0 ≤ z
/-- all stays but at s, where a state stands -/
structure Ext (s : Addr) (H H' : Hp) : Prop where
  keep : ∀ b o, b ≠ s → H b = some o → H' b = some o
  st : Stt H' s
theorem Ext.trans {s : Addr} {H H1 H2 : Hp} (a : Ext s H H1) (b : Ext s H1 H2) : Ext s H H2 := ⟨fun x o n e => b.keep x o n (a.keep x o n e), b.st⟩
theorem Ext.refl {s : Addr} {H : Hp} (h : Stt H s) : Ext s H H := ⟨fun _ _ _ e => e, h⟩
theorem Stt.ex {s : Addr} {H H' : Hp} (h : Stt H s) (e : Same H H') : Stt H' s := by
  obtain ⟨x, y, z, a, b⟩ := h
  exact ⟨x, y, z, e _ _ a, b⟩
theorem Ext.of {s : Addr} {H H' : Hp} (e : Same H H') (h : Stt H s) : Ext s H H' := ⟨fun b o _ q => e b o q, h.ex e⟩
theorem Ext.ex {s : Addr} {H H1 H2 : Hp} (a : Ext s H H1) (e : Same H1 H2) : Ext s H H2 := ⟨fun b o n q => e b o (a.keep b o n q), a.st.ex e⟩
theorem Ext.new {s : Addr} {H H1 : Hp} {p : Addr} {o : HO} (a : Ext s H H1) (h : H1 p = none) : Ext s H (upd H1 p o) := a.ex (same_new h)
theorem Stt.ne {s p : Addr} {H : Hp} (h : Stt H s) (q : H p = none) : p ≠ s := fun e => by
  obtain ⟨_, _, _, a, _⟩ := h
  rw [← e, q] at a
  cases a
theorem same_of_ext {s : Addr} {H0 H1 H2 : Hp} (n : H0 s = none) (a : Same H0 H1) (b : Ext s H1 H2) : Same H0 H2 := fun x o e => b.keep x o (ne_of_none e n) (a x o e)
def spSource : Sp := fun vs H Q _ => ∃ n : Int, vs = [.int n] ∧ ∀ (H' : Hp) (p : Addr), H p = none → Same H H' → Stt H' p → Q (.ref p) H'
def spDraw : Sp := fun vs H Q _ => ∃ (s : Addr) (b : Int), vs = [.ref s, .int b] ∧ Stt H s ∧ 0 < b ∧ b ≤ 18446744073709551616 ∧ ∀ (H' : Hp) (d : Int), Ext s H H' → 0 ≤ d → d < b → Q (.int d) H'
def spPick (K : PySem.W.Frag) : Sp := fun vs H Q _ => ∃ (s p : Addr) (xs : List V), vs = [.ref s, .ref p] ∧ Stt H s ∧ p ≠ s ∧ SqL K H p xs ∧ 0 < xs.length ∧ xs.length ≤ 1000 ∧ ∀ (H' : Hp) (v : V), Ext s H H' → v ∈ xs → Q v H'
theorem Ext.seq {s p : Addr} {K : PySem.W.Frag} {H H' : Hp} {xs : List V} (e : Ext s H H') (n : p ≠ s) (h : SqL K H p xs) : SqL K H' p xs := by
  rcases h with (h | ⟨o, h⟩) | h
  · exact .inl (.inl (e.keep _ _ n h))
  · exact .inl (.inr ⟨o, e.keep _ _ n h⟩)
  · exact .inr h
theorem ix_set {n : Nat} {d : Int} (h0 : 0 ≤ d) (h1 : d < (n : Int)) : ixN n d = some d.toNat := by
  unfold ixN
  rw [if_pos h0, if_pos h1]
theorem at_ix {xs : List V} {d : Int} (h0 : 0 ≤ d) (h1 : d.toNat < xs.length) : atI xs d = some xs[d.toNat] := by
  unfold atI
  rw [ix_set h0 (by omega)]
  show xs[d.toNat]? = _
  rw [List.getElem?_eq_getElem h1]
theorem ifT {c : Bool} {A B : Prop} (h : c = true) (a : A) : if c = true then A else B := by
  rw [if_pos h]
  exact a
theorem ifF {c : Bool} {A B : Prop} (h : c = false) (b : B) : if c = true then A else B := by
  rw [h, if_neg Bool.false_ne_true]
  exact b
/-- side conditions; and the plain steps of a reading -/
local macro_rules | `(tactic| walk_at "sd") => `(tactic| first
  | assumption | decide | omega | exact b64 b01 | (show (0 : Int) < _; first | decide | omega) | exact ⟨by decide, by decide, by decide⟩ | exact ⟨by decide, by decide⟩ | exact ⟨by omega, by omega⟩
  | exact .inl ⟨by omega, by omega⟩ | exact .inr ⟨by omega, by omega⟩ | exact sz (by simp) | exact szl (by simp))
local macro_rules | `(tactic| walk_at "rd") => `(tactic| repeat (first
  | refine ⟨_, rfl, ?_⟩
  | refine ⟨_, _, rfl, rfl, ?_⟩
  | refine ⟨_, _, _, _, rfl, rfl, SqL.of (by first | assumption | exact upd_same), rfl, ?_⟩
  | refine .inl ⟨_, rfl, ?_⟩
  | refine .inr ⟨_, rfl, ?_⟩
  | refine ⟨_, _, _, _, rfl, rfl, (by first | assumption | exact upd_same), rfl, ?_⟩
  | refine And.intro (by walk_at "sd") ?_))
section
variable {P : Program} {w : World} {K : PySem.W.Frag} {mg : Str → Option Value} {base : Heap} {f : Addr} {fd : FuncData}
abbrev s__law_source : Stmt := top 18
theorem sc__law_source : FnScope ["_law_cell"] ["_law_cell"] (defScope s__law_source) := ⟨rfl, rfl, rfl, by decide +kernel, rfl, by decide +kernel, by decide +kernel⟩
theorem ok_source (F : Fun K "_law_source" "_law_source" s__law_source f fd) (T : Txt K mg) : FnOk P w K mg base CX0 1 f fd ["_law_cell"] spSource := by
  refine F.ok sc__law_source (fun vs H Q E h => ?_) (fun cdv A outer s H vs Q E hr h => ?_)
  · obtain ⟨n, rfl, _⟩ := h
    rfl
  · obtain ⟨n, rfl, k⟩ := h
    refine ⟨_, (pss_one (ps_ret (pe_lst (pa_cons (pe_callB call_abs (by rfl) T.z_abs (by decide +kernel) (pa_cons (pv 0) pa_nil)) (pa_cons (pe_op op_mod (pe_callTy call_int1 (by rfl) T.z_int (by decide +kernel) (pa_cons (pv 0) pa_nil)) pe_int) (pa_cons pe_int pa_nil)))))), ?_⟩
    walk_at "rd"
    intro p hp
    refine k _ p hp (same_new hp) ⟨_, _, _, upd_same, ?_, Int.emod_nonneg _ (by decide), ?_, by decide⟩
    · split <;> omega
    · have := Int.emod_lt_of_pos n (b := 2147483629) (by decide)
      show n % 2147483629 < _
      omega
abbrev s__law_draw : Stmt := top 19
theorem sc__law_draw : FnScope ["_law_source_here", "_law_many", "_law_found", "_law_mixed"] ["_law_source_here", "_law_many"] (defScope s__law_draw) := ⟨rfl, rfl, rfl, by decide +kernel, rfl, by decide +kernel, by decide +kernel⟩
theorem ok_draw (F : Fun K "_law_draw" "_law_draw" s__law_draw f fd) (T : Txt K mg) : FnOk P w K mg base CX0 1 f fd ["_law_source_here", "_law_many"] spDraw := by
  refine F.ok sc__law_draw (fun vs H Q E h => ?_) (fun cdv A outer s H vs Q E hr h => ?_)
  · obtain ⟨s, b, rfl, _⟩ := h
    rfl
  · obtain ⟨p, b, rfl, ⟨x, y, z, hs, hx, hy, hy2, hz⟩, hb, hb2, k⟩ := h
    refine ⟨_, (pss_cons (ps_if (pt_cmpR op_ge (pe_ix ix_list (pv 0) pe_int (fun _ _ => rfl)) (pe_op op_pow pe_int pe_int) (nomark _))
      (pss_cons (ps_set (i := 2) sc__law_draw.nd rfl (Or.inl rfl) (pe_op op_mod (pe_callTy call_int1 (by rfl) T.z_int (by decide +kernel) (pa_cons (pe_ix ix_list (pv 0) pe_int (fun _ _ => rfl)) pa_nil)) (pv 1)))
        (pss_cons (ps_asg (pe_op op_fdivW (pe_ix ix_list (pv 0) pe_int (fun _ _ => rfl)) (pv 1)) (pg_sub (pv 0) pe_int set_list))
        (pss_one (ps_ret (pv 2)))))
      pss_nil)
      (pss_cons (ps_asg (pe_op op_add (pe_ix ix_list (pv 0) pe_int (fun _ _ => rfl)) pe_int) (pg_sub (pv 0) pe_int set_list))
      (pss_cons (ps_set (i := 3) sc__law_draw.nd rfl (Or.inl rfl) (pe_op op_mod (pe_callTy call_int1 (by rfl) T.z_int (by decide +kernel) (pa_cons (pe_op op_mul (pe_op op_add (pe_op op_add (pe_ix ix_list (pv 0) pe_int (fun _ _ => rfl)) (pe_op op_mul pe_int (pe_ix ix_list (pv 0) pe_int (fun _ _ => rfl)))) pe_int) pe_int) pa_nil)) pe_int))
      (pss_cons (ps_set (i := 3) sc__law_draw.nd rfl (Or.inl rfl) (pe_op op_mod (pe_callTy call_int1 (by rfl) T.z_int (by decide +kernel) (pa_cons (pe_op op_mul (pv 3) (pe_op op_add (pe_op op_fdiv (pv 3) pe_int) pe_int)) pa_nil)) pe_int))
      (pss_one (ps_ret (pe_op op_mod (pe_callTy call_int1 (by rfl) T.z_int (by decide +kernel) (pa_cons (pe_op op_mod (pe_callTy call_int1 (by rfl) T.z_int (by decide +kernel) (pa_cons (pe_op op_add (pe_op op_fdiv (pv 3) pe_int) (pe_op op_mul (pe_op op_mod (pe_callTy call_int1 (by rfl) T.z_int (by decide +kernel) (pa_cons (pv 3) pa_nil)) pe_int) pe_int)) pa_nil)) pe_int) pa_nil)) (pv 1)))))))), ?_⟩
    walk_at "rd"
    by_cases big : (10 : Int) ^ Int.toNat 18 ≤ x
    · refine ifT (decide_eq_true big) ?_
      walk_at "rd"
      refine ⟨wide_div (b := 66) hb (by omega) (by decide) (by decide), ?_⟩
      walk_at "rd"
      refine k _ _ ⟨fun a o n e => by rw [upd_ne n]; exact e, _, _, _, upd_same, ?_, hy, hy2, hz⟩ (Int.emod_nonneg _ (by omega)) (Int.emod_lt_of_pos _ hb)
      exact Int.ediv_nonneg hx (by omega)
    · refine ifF (decide_eq_false big) ?_
      walk_at "rd"
      refine k _ _ ⟨fun a o n e => by rw [upd_ne n]; exact e, _, _, _, upd_same, hx, hy, hy2, ?_⟩ (Int.emod_nonneg _ (by omega)) (Int.emod_lt_of_pos _ hb)
      show (0 : Int) ≤ z + 1
      omega
abbrev s__law_pick : Stmt := top 20
theorem sc__law_pick : FnScope ["_law_source_here", "_law_items"] ["_law_source_here", "_law_items"] (defScope s__law_pick) := ⟨rfl, rfl, rfl, by decide +kernel, rfl, by decide +kernel, by decide +kernel⟩
theorem ok_pick (F : Fun K "_law_pick" "_law_pick" s__law_pick f fd) (T : Txt K mg) (c_draw : Cal P w K mg base 1 "_law_draw" spDraw) : FnOk P w K mg base CX0 2 f fd ["_law_source_here", "_law_items"] (spPick K) := by
  refine F.ok sc__law_pick (fun vs H Q E h => ?_) (fun cdv A outer s H vs Q E hr h => ?_)
  · obtain ⟨s, p, xs, rfl, _⟩ := h
    rfl
  · obtain ⟨s, p, xs, rfl, hs, hps, hl, h0, h1, k⟩ := h
    refine ⟨_, (pss_one (ps_ret (pe_ix ix_list (pv 1) (pe_c c_draw hr (by decide) (by rfl) (pa_cons (pv 0) (pa_cons (pe_callB call_len_seq (by rfl) T.z_len PySem.boot_len (pa_cons (pv 1) pa_nil)) pa_nil))) (fun _ _ => rfl)))), ?_⟩
    refine ⟨_, rfl, _, rfl, _, rfl, p, _, rfl, .inl hl, ?_⟩
    refine ⟨s, _, rfl, hs, by omega, by omega, fun H1 d e d0 d1 => ?_⟩
    have lt : d.toNat < xs.length := by omega
    exact ⟨p, xs, d, _, rfl, rfl, e.seq hps hl, at_ix d0 lt, k H1 _ e (List.getElem_mem lt)⟩
end
end Q74


/-! bytes -/
namespace Q74
open PySem PySem.Spec PyProof.Rows L2 QT
/-- side conditions; and the plain steps of a reading -/
local macro_rules | `(tactic| walk_at "sd") => `(tactic| first
  | assumption | decide | omega | exact b64 b01 | (show (0 : Int) < _; first | decide | omega) | exact ⟨by decide, by decide, by decide⟩ | exact ⟨by decide, by decide⟩ | exact ⟨by omega, by omega⟩
  | exact .inl ⟨by omega, by omega⟩ | exact .inr ⟨by omega, by omega⟩ | exact sz (by simp) | exact szl (by simp))
local macro_rules | `(tactic| walk_at "rd") => `(tactic| repeat (first
  | refine ⟨_, rfl, ?_⟩
  | refine ⟨_, _, rfl, rfl, ?_⟩
  | refine ⟨_, _, _, _, rfl, rfl, SqL.of (by first | assumption | exact upd_same), rfl, ?_⟩
  | refine .inl ⟨_, rfl, ?_⟩
  | refine .inr ⟨_, rfl, ?_⟩
  | refine ⟨_, _, _, _, rfl, rfl, (by first | assumption | exact upd_same), rfl, ?_⟩
  | refine And.intro (by walk_at "sd") ?_))
section
variable {P : Program} {w : World} {K : PySem.W.Frag} {mg : Str → Option Value} {base : Heap} {f : Addr} {fd : FuncData}
abbrev s_are_between : Stmt := top 8
theorem sc_are_between : FnScope ["things", "low", "high", "thing"] ["things", "low", "high"] (defScope s_are_between) := ⟨rfl, rfl, rfl, by decide +kernel, rfl, by decide +kernel, by decide +kernel⟩
theorem ok_between (F : Fun K "are_between" "are_between" s_are_between f fd) (T : Txt K mg) : FnOk P w K mg base CX0 1 f fd ["things", "low", "high"] (spBtw K) := by
  refine F.ok sc_are_between (fun vs H Q E h => ?_) (fun cdv A outer st H vs Q E hr h => ?_)
  · obtain ⟨a, xs, lo, hi, rfl, _⟩ := h
    rfl
  · obtain ⟨a, xs, lo, hi, rfl, hs, kn, hl, k⟩ := h
    rcases hs with hs | hs
    · refine ⟨_, (pss_cons (ps_if (pt_truth (pe_lc (own := [("thing", 3)]) (g := (gName 3)) rfl sc_are_between.nd (pi_list (pv 0)) (blkOk_by (N := ["things", "low", "high", "thing"]) (sc := defScope s_are_between) (by decide +kernel)) (fun _ _ _ _ _ => (pg_name (i := 3) sc_are_between.nd rfl (Or.inl rfl))) (fun _ _ _ _ _ => (pts_one (PW.pt (pw_or (pt_cmpR op_isB (pv 3) pe_bl (nomark _)) (pw_or (pt_cmpR op_isB (pv 3) pe_bl (nomark _)) (pw_or1 (pt_not (pt_val (pe_callB (show CallR _ (.builtin "isinstance") (rIsi K) from call_isi) (by rfl) T.z_isinstance (by decide +kernel) (pa_cons (pv 3) (pa_cons (pe_bltn (v := .ty "int") (u := .type "int") (by rfl) T.z_int (by decide +kernel) rfl) pa_nil))))))))))) (fun _ _ _ _ _ => (pv 3))) (by intro _; rfl))
      (pss_one (ps_ret pe_bl))
      pss_nil)
      (pss_one (ps_ret (pe_and (pe_cmpR op_ge (pe_callBK (cr_minB rfl) (by rfl) T.z_min (by decide +kernel) (pa_cons (pv 0) pa_nil) (pk_cons (pv 1) pk_nil)) (pv 1) (nomark _)) (pe_one (pe_cmpR op_le (pe_callBK (cr_maxB rfl) (by rfl) T.z_max (by decide +kernel) (pa_cons (pv 0) pa_nil) (pk_cons (pv 2) pk_nil)) (pv 2) (nomark _))))))), ?_⟩
      dsimp only
      refine use_seq ?_
      refine ⟨_, rfl, a, rfl, ⟨_, hs⟩, fun D nD => ?_⟩
      refine lc_it (walk_list (K := K) (a := a) (xs := xs)) (fun i H' => Same H H' ∧ H' D = some (.lst ((xs.take i).filter nI))) ⟨same_new nD, upd_same⟩ (fun _ _ _ ⟨sm, _⟩ => sm.seq hs) ?_ ?_
      · rintro i x W1 W2 li ⟨sm, hD⟩ ⟨rfl, hx⟩
        refine ⟨rfl, kn_test rfl ((kn x (List.mem_of_getElem? hx)).same sm) ?_⟩
        cases c : nI x with
        | true =>
          refine ifT rfl ?_
          refine ⟨x, rfl, _, hD, Nat.lt_of_le_of_lt (filter_le xs i) hl, fun b o e => ?_, ?_⟩
          · rw [upd_ne (ne_of_none e nD)]
            exact sm b o e
          · rw [upd_same, take_filter hx, if_pos c]
        | false =>
          refine ifF rfl ⟨sm, ?_⟩
          rw [hD, take_filter hx, if_neg (by rw [c]; exact Bool.false_ne_true)]
      · rintro W ⟨sm, hD⟩
        rw [List.take_length] at hD
        refine btw_end (lo := lo) (hi := hi) (SqL.of hD) (fun e => ?_) fun ⟨ns, e⟩ => ?_
        · refine ifT rfl ?_
          have q := k W sm
          rw [e] at q
          exact q
        · refine ifF rfl ?_
          subst e
          exact use_bounds rfl rfl rfl (.inl (sm.seq hs)) (k W sm)
    · refine ⟨_, (pss_cons (ps_if (pt_truth (pe_lc (own := [("thing", 3)]) (g := (gName 3)) rfl sc_are_between.nd (pi_tup (pv 0)) (blkOk_by (N := ["things", "low", "high", "thing"]) (sc := defScope s_are_between) (by decide +kernel)) (fun _ _ _ _ _ => (pg_name (i := 3) sc_are_between.nd rfl (Or.inl rfl))) (fun _ _ _ _ _ => (pts_one (PW.pt (pw_or (pt_cmpR op_isB (pv 3) pe_bl (nomark _)) (pw_or (pt_cmpR op_isB (pv 3) pe_bl (nomark _)) (pw_or1 (pt_not (pt_val (pe_callB (show CallR _ (.builtin "isinstance") (rIsi K) from call_isi) (by rfl) T.z_isinstance (by decide +kernel) (pa_cons (pv 3) (pa_cons (pe_bltn (v := .ty "int") (u := .type "int") (by rfl) T.z_int (by decide +kernel) rfl) pa_nil))))))))))) (fun _ _ _ _ _ => (pv 3))) (by intro _; rfl))
      (pss_one (ps_ret pe_bl))
      pss_nil)
      (pss_one (ps_ret (pe_and (pe_cmpR op_ge (pe_callBK (cr_minB rfl) (by rfl) T.z_min (by decide +kernel) (pa_cons (pv 0) pa_nil) (pk_cons (pv 1) pk_nil)) (pv 1) (nomark _)) (pe_one (pe_cmpR op_le (pe_callBK (cr_maxB rfl) (by rfl) T.z_max (by decide +kernel) (pa_cons (pv 0) pa_nil) (pk_cons (pv 2) pk_nil)) (pv 2) (nomark _))))))), ?_⟩
      dsimp only
      refine use_seq ?_
      refine ⟨_, rfl, a, rfl, ⟨_, hs⟩, fun D nD => ?_⟩
      refine lc_it (walk_tup (K := K) (a := a) (xs := xs)) (fun i H' => Same H H' ∧ H' D = some (.lst ((xs.take i).filter nI))) ⟨same_new nD, upd_same⟩ (fun _ _ _ ⟨sm, _⟩ => seqT_same hs sm) ?_ ?_
      · rintro i x W1 W2 li ⟨sm, hD⟩ ⟨rfl, hx⟩
        refine ⟨rfl, kn_test rfl ((kn x (List.mem_of_getElem? hx)).same sm) ?_⟩
        cases c : nI x with
        | true =>
          refine ifT rfl ?_
          refine ⟨x, rfl, _, hD, Nat.lt_of_le_of_lt (filter_le xs i) hl, fun b o e => ?_, ?_⟩
          · rw [upd_ne (ne_of_none e nD)]
            exact sm b o e
          · rw [upd_same, take_filter hx, if_pos c]
        | false =>
          refine ifF rfl ⟨sm, ?_⟩
          rw [hD, take_filter hx, if_neg (by rw [c]; exact Bool.false_ne_true)]
      · rintro W ⟨sm, hD⟩
        rw [List.take_length] at hD
        refine btw_end (lo := lo) (hi := hi) (SqL.of hD) (fun e => ?_) fun ⟨ns, e⟩ => ?_
        · refine ifT rfl ?_
          have q := k W sm
          rw [e] at q
          exact q
        · refine ifF rfl ?_
          subst e
          exact use_bounds rfl rfl rfl (.inr (seqT_same hs sm)) (k W sm)
end
end Q74


/-! what a byte is; NoBytes, BadText; check_bytes -/
namespace Q74
open PySem PySem.Spec PyProof.Rows L2 QT
/-- a thing and the name of its type -/
inductive Pl (H : Hp) : V → String → Prop
  | int (i : Int) : Pl H (.int i) "int"
  | bl (b : Bool) : Pl H (.bl b) "bool"
  | non : Pl H .non "NoneType"
  | str (x : Str) : Pl H (.str x) "str"
  | lst {a : Addr} {xs : List V} (h : H a = some (.lst xs)) : Pl H (.ref a) "list"
  | tup {a : Addr} {xs : List V} (h : H a = some (.tup xs)) : Pl H (.ref a) "tuple"
  | dk {a : Addr} {kvs : List (Key × V)} (h : H a = some (.dK kvs)) : Pl H (.ref a) "dict"
/-- no table -/
def NoT (o : HO) : Prop := ∀ ps, o ≠ .tbl ps
/-- all but tables stays -/
def Kp (H H' : Hp) : Prop := ∀ b o, NoT o → H b = some o → H' b = some o
theorem Kp.refl (H : Hp) : Kp H H := fun _ _ _ e => e
theorem Kp.trans {H H1 H2 : Hp} (a : Kp H H1) (b : Kp H1 H2) : Kp H H2 := fun x o n e => b x o n (a x o n e)
theorem Kp.of {H H' : Hp} (e : Same H H') : Kp H H' := fun b o _ q => e b o q
theorem Kp.ext {H H' : Hp} (e : Kp H H') : LamX.ExtN H H' := fun b o q n => e b o n q
theorem Kp.ofN {H H' : Hp} (e : LamX.ExtN H H') : Kp H H' := fun b o n q => e b o q n
theorem noL (xs : List V) : NoT (.lst xs) := fun _ z => by cases z
theorem noTu (xs : List V) : NoT (.tup xs) := fun _ z => by cases z
theorem noD (kvs : List (Key × V)) : NoT (.dK kvs) := fun _ z => by cases z
theorem noI (C dx : Addr) (fs : List (Str × V)) : NoT (.ins C dx fs) := fun _ z => by cases z
theorem noX (fs : List (Str × V)) : NoT (.xd fs) := fun _ z => by cases z
theorem Pl.kp {H H' : Hp} {v : V} {t : String} (h : Pl H v t) (e : Kp H H') : Pl H' v t := by
  cases h with
  | int i => exact .int i
  | bl b => exact .bl b
  | non => exact .non
  | str x => exact .str x
  | lst h => exact .lst (e _ _ (noL _) h)
  | tup h => exact .tup (e _ _ (noTu _) h)
  | dk h => exact .dk (e _ _ (noD _) h)
theorem Pl.ty {K : PySem.W.Frag} {H : Hp} {v : V} {t : String} (h : Pl H v t) : TyX K H v (.type t) := by
  cases h with
  | int i => exact .base (by constructor)
  | bl b => exact .base (by constructor)
  | non => exact .base (by constructor)
  | str x => exact .base (by constructor)
  | lst h => exact .base (by constructor; exact h)
  | tup h => exact .base (by constructor; exact h)
  | dk h => exact .base (by constructor; exact h)
def isInt : V → Bool
  | .int _ => true
  | _ => false
theorem Pl.kn {K : PySem.W.Frag} {H : Hp} {v : V} {t : String} (h : Pl H v t) : Kn K H v := by
  cases h with
  | int i => exact .int i
  | bl b => exact .bl b
  | non => exact .oth (t := "NoneType") rfl (fun b z => by cases z) (fun H' _ => (Pl.non (H := H')).ty) (kit_ty (a := "NoneType") (b := "int") (by decide +kernel))
  | str x => exact .oth (t := "str") rfl (fun b z => by cases z) (fun H' _ => (Pl.str (H := H') x).ty) (kit_ty (a := "str") (b := "int") (by decide +kernel))
  | lst h => exact .oth (t := "list") rfl (fun b z => by cases z) (fun H' e => (Pl.lst (e _ _ h)).ty) (kit_ty (a := "list") (b := "int") (by decide +kernel))
  | tup h => exact .oth (t := "tuple") rfl (fun b z => by cases z) (fun H' e => (Pl.tup (e _ _ h)).ty) (kit_ty (a := "tuple") (b := "int") (by decide +kernel))
  | dk h => exact .oth (t := "dict") rfl (fun b z => by cases z) (fun H' e => (Pl.dk (e _ _ h)).ty) (kit_ty (a := "dict") (b := "int") (by decide +kernel))
def isByte : V → Bool
  | .int i => decide (0 ≤ i) && decide (i ≤ 255)
  | _ => false
theorem byte_not {v : V} (h : isInt v = false) : isByte v = false := by
  cases v with
  | int i => cases h
  | _ => rfl
def spIsInteger : Sp := fun vs H Q _ => ∃ (v : V) (t : String), vs = [v] ∧ Pl H v t ∧ Q (.bl (isInt v)) H
def spIsBetween : Sp := fun vs H Q _ => ∃ (v : V) (t : String), vs = [v, .int 0, .int 255] ∧ Pl H v t ∧ Q (.bl (isByte v)) H
theorem sqT_same {K : PySem.W.Frag} {H H' : Hp} {a : Addr} {xs : List V} (h : SqT K H a xs) (e : Same H H') : SqT K H' a xs := seqT_same h e
theorem sq_same {K : PySem.W.Frag} {H H' : Hp} {a : Addr} {xs : List V} (h : SqL K H a xs ∨ SqT K H a xs) (e : Same H H') : SqL K H' a xs ∨ SqT K H' a xs := by
  rcases h with h | h
  · exact .inl (e.seq h)
  · exact .inr (seqT_same h e)
/-- an own error class with an __init__ -/
structure ErrC (K : PySem.W.Frag) (mg : Str → Option Value) (x : Str) (C fI : Addr) : Prop where
  oex : OexC K C
  xf : XfC K C
  ini : PySem.W.findIn K (.ref C) "__init__" = some (some (.ref fI))
  tI : PySem.W.typeIn K (.ref fI) = some (.type "function")
  mgC : mg x = some (.ref C)
/-- __init__ that keeps one field -/
def spInit1 (fld : Str) (C : Addr) : Sp := fun vs H Q _ => ∃ (a : Addr) (v : V), vs = [.ref a, v] ∧ H a = some (exo a C none) ∧ ∀ dx, H dx = none → dx ≠ a → Q .non (upd (upd H dx (exd dx [(fld, v)])) a (exo a C (some dx)))
def bad (v : V) : Bool := !isByte v
/-- NoBytes with the first place -/
def outB (CB : Addr) (H : Hp) (E : XK) (i : Nat) : Prop := ∀ (H' : Hp) (d : Addr), Same H H' → H' d = some (.xd [("place", .int (i : Int))]) → E (.ref CB) (some d) H'
theorem outB_same {CB : Addr} {H H0 : Hp} {E : XK} {i : Nat} (k : outB CB H E i) (s : Same H H0) : outB CB H0 E i := fun H' d e => k H' d (s.trans e)
theorem use_next {D : Ends} {σ : L2.St} {H : Hp} (h : D.nx σ H) : tNext D σ H := h
/-- no byte, first: what check_bytes says -/
def spCheck (K : PySem.W.Frag) (CB : Addr) : Sp := fun vs H Q E => ∃ (a : Addr) (xs : List V), vs = [.ref a] ∧ (SqL K H a xs ∨ SqT K H a xs) ∧ (∀ v ∈ xs, ∃ t, Pl H v t) ∧ xs.length ≤ 2000 ∧
  (∀ i, xs.findIdx? bad = some i → outB CB H E i) ∧ (xs.findIdx? bad = none → ∀ H', Same H H' → Q .non H')
theorem upd_none {H : Hp} {a b : Addr} {o : HO} (h : upd H a o b = none) : H b = none ∧ b ≠ a := by
  have n : b ≠ a := fun z => by
    rw [z, upd_same] at h
    cases h
  rw [upd_ne n] at h
  exact ⟨h, n⟩
/-- what making the error asks, by what its catcher wishes -/
theorem raise1 {C : Addr} {fld : Str} {v : V} {H1 : Hp} {Q E : XK} (k : ∀ (H' : Hp) (d : Addr), Same H1 H' → H' d = some (.xd [(fld, v)]) → Q (.ref C) (some d) H') (a : Addr) (ha : H1 a = none) :
    spInit1 fld C (.ref a :: ([v] ++ [])) (upd H1 a (exo a C none)) (fun u H2 => u = .non ∧ ∃ (d : Addr) (fs : List (Str × V)), H2 a = some (exo a C (some d)) ∧ H2 d = some (exd d fs) ∧ H1 d = none ∧ Q (.ref C) (some d) (upd (del H2 a) d (.xd fs))) E := by
  refine ⟨a, v, rfl, upd_same, fun dx n ne => ⟨rfl, dx, [(fld, v)], upd_same, by rw [upd_ne ne, upd_same], (upd_none n).1, k _ dx (fun b o e => ?_) upd_same⟩⟩
  have n1 := ne_of_none e ha
  have n2 := ne_of_none e (upd_none n).1
  rw [upd_ne n2, del_ne n1, upd_ne n1, upd_ne n2, upd_ne n1]
  exact e
theorem btw_byte : btw 0 255 = isByte := by
  funext v
  cases v <;> rfl
theorem all_none {xs : List V} (h : xs.all isByte = true) : xs.findIdx? bad = none := by
  rw [List.findIdx?_eq_none_iff]
  intro x hx
  show (!isByte x) = false
  rw [List.all_eq_true.mp h x hx]
  rfl
theorem find_first {xs : List V} {i : Nat} {x : V} (h : xs[i]? = some x) (b : bad x = true) (l : ∀ j < i, ∀ y, xs[j]? = some y → bad y = false) : xs.findIdx? bad = some i := by
  rw [List.findIdx?_eq_some_iff_getElem]
  obtain ⟨hi, e⟩ := List.getElem?_eq_some_iff.mp h
  refine ⟨hi, by rw [e]; exact b, fun j hj => ?_⟩
  have z := l j hj _ (List.getElem?_eq_getElem (Nat.lt_trans hj hi))
  rw [z]
  exact Bool.false_ne_true
theorem find_none {xs : List V} (l : ∀ j < xs.length, ∀ y, xs[j]? = some y → bad y = false) : xs.findIdx? bad = none := by
  rw [List.findIdx?_eq_none_iff]
  intro x hx
  obtain ⟨j, hj, e⟩ := List.getElem_of_mem hx
  exact l j hj x (by rw [List.getElem?_eq_getElem hj, e])
/-- side conditions; and the plain steps of a reading -/
local macro_rules | `(tactic| walk_at "sd") => `(tactic| first
  | assumption | decide | omega | exact b64 b01 | (show (0 : Int) < _; first | decide | omega) | exact ⟨by decide, by decide, by decide⟩ | exact ⟨by decide, by decide⟩ | exact ⟨by omega, by omega⟩
  | exact .inl ⟨by omega, by omega⟩ | exact .inr ⟨by omega, by omega⟩ | exact sz (by simp) | exact szl (by simp))
local macro_rules | `(tactic| walk_at "rd") => `(tactic| repeat (first
  | refine ⟨_, rfl, ?_⟩
  | refine ⟨_, _, rfl, rfl, ?_⟩
  | refine ⟨_, _, _, _, rfl, rfl, SqL.of (by first | assumption | exact upd_same), rfl, ?_⟩
  | refine .inl ⟨_, rfl, ?_⟩
  | refine .inr ⟨_, rfl, ?_⟩
  | refine ⟨_, _, _, _, rfl, rfl, (by first | assumption | exact upd_same), rfl, ?_⟩
  | refine And.intro (by walk_at "sd") ?_))
section
variable {P : Program} {w : World} {K : PySem.W.Frag} {mg : Str → Option Value} {base : Heap} {f : Addr} {fd : FuncData}
abbrev s_is_integer : Stmt := top 6
theorem sc_is_integer : FnScope ["thing"] ["thing"] (defScope s_is_integer) := ⟨rfl, rfl, rfl, by decide +kernel, rfl, by decide +kernel, by decide +kernel⟩
theorem ok_is_integer (F : Fun K "is_integer" "is_integer" s_is_integer f fd) (T : Txt K mg) : FnOk P w K mg base CX0 1 f fd ["thing"] spIsInteger := by
  refine F.ok sc_is_integer (fun vs H Q E h => ?_) (fun cdv A outer st H vs Q E hr h => ?_)
  · obtain ⟨v, _, rfl, _⟩ := h
    rfl
  · obtain ⟨v, t, rfl, hv, k⟩ := h
    refine ⟨_, (pss_one (ps_ret (pe_and (pe_callB call_isi (by rfl) T.z_isinstance (by decide +kernel) (pa_cons (pv 0) (pa_cons (pe_bltn (v := .ty "int") (u := .type "int") (by rfl) T.z_int (by decide +kernel) rfl) pa_nil))) (pe_one (pe_not (pe_callB call_isi (by rfl) T.z_isinstance (by decide +kernel) (pa_cons (pv 0) (pa_cons (pe_bltn (v := .ty "bool") (u := .type "bool") (by rfl) T.z_bool (by decide +kernel) rfl) pa_nil)))))))), ?_⟩
    refine ⟨_, rfl, ?_⟩
    have ty := hv.ty (K := K)
    cases hv with
    | int i => exact ⟨_, _, _, _, true, rfl, .ty _, ty, kit_ty (a := "int") (b := "int") (by decide +kernel), true, rfl, ifT rfl ⟨_, rfl, _, _, _, _, false, rfl, .ty _, ty, kit_ty (a := "int") (b := "bool") (by decide +kernel), false, rfl, k⟩⟩
    | bl b => exact ⟨_, _, _, _, true, rfl, .ty _, ty, kit_ty (a := "bool") (b := "int") (by decide +kernel), true, rfl, ifT rfl ⟨_, rfl, _, _, _, _, true, rfl, .ty _, ty, kit_ty (a := "bool") (b := "bool") (by decide +kernel), true, rfl, k⟩⟩
    | non => exact ⟨_, _, _, _, false, rfl, .ty _, ty, kit_ty (a := "NoneType") (b := "int") (by decide +kernel), false, rfl, ifF rfl k⟩
    | str x => exact ⟨_, _, _, _, false, rfl, .ty _, ty, kit_ty (a := "str") (b := "int") (by decide +kernel), false, rfl, ifF rfl k⟩
    | lst h => exact ⟨_, _, _, _, false, rfl, .ty _, ty, kit_ty (a := "list") (b := "int") (by decide +kernel), false, rfl, ifF rfl k⟩
    | tup h => exact ⟨_, _, _, _, false, rfl, .ty _, ty, kit_ty (a := "tuple") (b := "int") (by decide +kernel), false, rfl, ifF rfl k⟩
    | dk h => exact ⟨_, _, _, _, false, rfl, .ty _, ty, kit_ty (a := "dict") (b := "int") (by decide +kernel), false, rfl, ifF rfl k⟩
abbrev s_is_between : Stmt := top 7
theorem sc_is_between : FnScope ["thing", "low", "high"] ["thing", "low", "high"] (defScope s_is_between) := ⟨rfl, rfl, rfl, by decide +kernel, rfl, by decide +kernel, by decide +kernel⟩
theorem ok_is_between (F : Fun K "is_between" "is_between" s_is_between f fd) (T : Txt K mg) (c_is_integer : Cal P w K mg base 1 "is_integer" spIsInteger) : FnOk P w K mg base CX0 2 f fd ["thing", "low", "high"] spIsBetween := by
  refine F.ok sc_is_between (fun vs H Q E h => ?_) (fun cdv A outer st H vs Q E hr h => ?_)
  · obtain ⟨v, _, rfl, _⟩ := h
    rfl
  · obtain ⟨v, t, rfl, hv, k⟩ := h
    refine ⟨_, (pss_one (ps_ret (pe_and (pe_c c_is_integer hr (by decide) (by rfl) (pa_cons (pv 0) pa_nil)) (pe_one (pe_chain op_le op_le (pv 1) (pv 0) (pv 2)))))), ?_⟩
    refine ⟨_, rfl, v, t, rfl, hv, _, rfl, ?_⟩
    cases hc : isInt v with
    | false =>
      rw [byte_not hc] at k
      exact ifF rfl k
    | true =>
      obtain ⟨i, rfl⟩ : ∃ i, v = .int i := by
        cases v with
        | int i => exact ⟨i, rfl⟩
        | _ => cases hc
      refine ifT rfl ?_
      refine ⟨_, rfl, _, rfl, _, _, rfl, rfl, _, rfl, ?_⟩
      by_cases c : (0 : Int) ≤ i
      · refine ifT (decide_eq_true c) ?_
        refine ⟨_, rfl, _, _, rfl, rfl, ?_⟩
        have e : isByte (.int i) = decide (i ≤ 255) := by
          show (decide (0 ≤ i) && decide (i ≤ 255)) = _
          rw [decide_eq_true c, Bool.true_and]
        show Q (.bl (decide (i ≤ 255))) H
        rw [← e]
        exact k
      · refine ifF (decide_eq_false c) ?_
        have e : isByte (.int i) = false := by
          show (decide (0 ≤ i) && decide (i ≤ 255)) = _
          rw [decide_eq_false c, Bool.false_and]
        rw [e] at k
        exact k
abbrev s_NoBytes___init__ : Stmt := inClass (top 2) 0
theorem sc_NoBytes___init__ : FnScope ["self", "place"] ["self", "place"] (defScope s_NoBytes___init__) := ⟨rfl, rfl, rfl, by decide +kernel, rfl, by decide +kernel, by decide +kernel⟩
theorem ok_initB {C : Addr} (F : Fun K "__init__" "NoBytes.__init__" s_NoBytes___init__ f fd) (O : OexC K C) (nf : PySem.W.findIn K (.ref C) "place" = some none) : FnOk P w K mg base CX0 1 f fd ["self", "place"] (spInit1 "place" C) := by
  refine F.ok sc_NoBytes___init__ (fun vs H Q E h => ?_) (fun cdv A outer st H vs Q E hr h => ?_)
  · obtain ⟨a, v, rfl, _⟩ := h
    rfl
  · obtain ⟨a, v, rfl, ha, k⟩ := h
    refine ⟨_, pss_one (ps_ost (pv 0) (pv 1)), ?_⟩
    exact ⟨_, rfl, _, rfl, a, C, rfl, O, nf, .inl ⟨ha, fun dx n ne => k dx n ne⟩⟩
abbrev s_check_bytes : Stmt := top 10
theorem sc_check_bytes : FnScope ["data", "place", "octet"] ["data"] (defScope s_check_bytes) := ⟨rfl, rfl, rfl, by decide +kernel, rfl, by decide +kernel, by decide +kernel⟩
theorem ok_check {CB fB : Addr} {fdB : FuncData} {tg : Tok} (F : Fun K "check_bytes" "check_bytes" s_check_bytes f fd) (T : Txt K mg) (gb : mg "GREATEST_BYTE" = some (.int 255 tg)) (B : ErrC K mg "NoBytes" CB fB) (bB : Binds K fdB ["self", "place"] [])
    (c_initB : FnOk P w K mg base CX0 1 fB fdB ["self", "place"] (spInit1 "place" CB)) (c_is_between : Cal P w K mg base 2 "is_between" spIsBetween) (c_between : Cal P w K mg base 1 "are_between" (spBtw K)) : FnOk P w K mg base (L2.CX P w) 3 f fd ["data"] (spCheck K CB) := by
  refine F.okX sc_check_bytes (fun vs H Q E h => ?_) (fun cdv A outer st H vs Q E hr h => ?_)
  · obtain ⟨a, xs, rfl, _⟩ := h
    rfl
  · obtain ⟨a, xs, rfl, hs, hp, hl, kb, kn⟩ := h
    refine ⟨_, (pss_cons (ps_if (pt_val (pe_c c_between hr (by decide) (by rfl) (pa_cons (pv 0) (pa_cons pe_int (pa_cons (pe_glob (v := .int 255) (by rfl) gb ⟨_, rfl⟩) pa_nil)))))
      (pss_one ps_retN)
      pss_nil)
      (pss_one (ps_for (passes_of rfl) rfl (pi_enumS (by rfl) T.z_enumerate (pa_cons (pv 0) pa_nil)) (pg_tup rfl (pgs_cons (pg_name (i := 1) sc_check_bytes.nd rfl (Or.inl rfl)) (pgs_cons (pg_name (i := 2) sc_check_bytes.nd rfl (Or.inl rfl)) pgs_nil)))
      (pss_one (ps_if (pt_not (pt_val (pe_c c_is_between hr (by decide) (by rfl) (pa_cons (pv 2) (pa_cons pe_int (pa_cons (pe_glob (v := .int 255) (by rfl) gb ⟨_, rfl⟩) pa_nil))))))
        (pss_one (ps_raise rfl (takes_of rfl rfl rfl rfl) (pmk_oex B.oex B.ini B.tI c_initB hr bB .nil pass0 (by rfl) B.mgC (pa_cons (pv 1) pa_nil))))
        pss_nil))))), ?_⟩
    refine use_seq ?_
    refine ⟨_, rfl, a, xs, 0, 255, rfl, hs, fun v m => (hp v m).elim fun t p => p.kn, szl (by omega), fun H0 (s0 : Same H H0) => ⟨_, rfl, ?_⟩⟩
    rw [btw_byte]
    cases call : xs.all isByte with
    | true => exact ifT rfl (kn (all_none call) H0 s0)
    | false =>
    refine ifF rfl (use_next ?_)
    dsimp only
    replace hs := sq_same hs s0
    replace hp := fun v m => (hp v m).imp fun t (p : Pl H v t) => p.kp (.of s0)
    replace kb := fun i e => outB_same (kb i e) s0
    replace kn := fun e H' s => kn e H' (s0.trans s)
    clear call
    refine ⟨_, rfl, a, rfl, ?_⟩
    rcases hs with hs | hs
    · refine .inl ⟨xs, hs, for_it (walk_enum (K := K) (a := a) (xs := xs)) (fun i σ H' => ∃ o1 o2 : Option V, σ = [some (.ref a), o1, o2] ∧ Same H0 H' ∧ ∀ j < i, ∀ y, xs[j]? = some y → bad y = false)
        ⟨none, none, rfl, Same.refl H0, fun j hj => absurd hj (Nat.not_lt_zero j)⟩ (fun _ _ _ _ ⟨_, _, _, sm, _⟩ => sm.seq hs) ?_ ?_⟩
      · rintro i x σ H1 H2 hi ⟨o1, o2, rfl, sm, ok⟩ ⟨t, u, v, rfl, nt, rfl, eu, ev⟩
        cases eu
        replace ev : xs[i]? = some v := ev
        have sm2 : Same H0 (upd H1 t (.tup [.int (i : Nat), v])) := sm.trans (same_new nt)
        refine ⟨t, _, rfl, .inl (.inl upd_same), rfl, _, _, rfl, _, _, rfl, rfl, ?_⟩
        obtain ⟨ty, hv⟩ := hp v (List.mem_of_getElem? ev)
        replace hv := hv.kp (.of sm2)
        refine ⟨_, rfl, v, ty, rfl, hv, _, rfl, ?_⟩
        by_cases c : isByte v = true
        · refine ifF (by rw [c]; rfl) ?_
          refine ⟨_, _, rfl, sm2, fun j hj y hy => ?_⟩
          by_cases e : j = i
          · subst e
            rw [ev] at hy
            cases hy
            show (!isByte v) = false
            rw [c]
            rfl
          · exact ok j (by omega) y hy
        · have c2 : isByte v = false := by simpa using c
          refine ifT (by rw [c2]; rfl) ?_
          refine ⟨_, rfl, (by show 1 ≤ 1000; decide), raise1 fun H' d s' e' => ?_⟩
          exact kb i (find_first ev (by show (!isByte v) = true; rw [c2]; rfl) ok) H' d (sm2.trans s') e'
      · rintro σ H1 ⟨o1, o2, rfl, sm, ok⟩
        exact kn (find_none ok) H1 sm
    · refine .inr ⟨xs, hs, for_it (walk_enumT (K := K) (a := a) (xs := xs)) (fun i σ H' => ∃ o1 o2 : Option V, σ = [some (.ref a), o1, o2] ∧ Same H0 H' ∧ ∀ j < i, ∀ y, xs[j]? = some y → bad y = false)
        ⟨none, none, rfl, Same.refl H0, fun j hj => absurd hj (Nat.not_lt_zero j)⟩ (fun _ _ _ _ ⟨_, _, _, sm, _⟩ => sqT_same hs sm) ?_ ?_⟩
      · rintro i x σ H1 H2 hi ⟨o1, o2, rfl, sm, ok⟩ ⟨t, u, v, rfl, nt, rfl, eu, ev⟩
        cases eu
        replace ev : xs[i]? = some v := ev
        have sm2 : Same H0 (upd H1 t (.tup [.int (i : Nat), v])) := sm.trans (same_new nt)
        refine ⟨t, _, rfl, .inl (.inl upd_same), rfl, _, _, rfl, _, _, rfl, rfl, ?_⟩
        obtain ⟨ty, hv⟩ := hp v (List.mem_of_getElem? ev)
        replace hv := hv.kp (.of sm2)
        refine ⟨_, rfl, v, ty, rfl, hv, _, rfl, ?_⟩
        by_cases c : isByte v = true
        · refine ifF (by rw [c]; rfl) ?_
          refine ⟨_, _, rfl, sm2, fun j hj y hy => ?_⟩
          by_cases e : j = i
          · subst e
            rw [ev] at hy
            cases hy
            show (!isByte v) = false
            rw [c]
            rfl
          · exact ok j (by omega) y hy
        · have c2 : isByte v = false := by simpa using c
          refine ifT (by rw [c2]; rfl) ?_
          refine ⟨_, rfl, (by show 1 ≤ 1000; decide), raise1 fun H' d s' e' => ?_⟩
          exact kb i (find_first ev (by show (!isByte v) = true; rw [c2]; rfl) ok) H' d (sm2.trans s') e'
      · rintro σ H1 ⟨o1, o2, rfl, sm, ok⟩
        exact kn (find_none ok) H1 sm
end
end Q74


/-! hex_text -/
namespace Q74
open PySem PySem.Spec PyProof.Rows L2 QT
theorem dig_at : ∀ k : Fin 16, atI ((Str.ofString "0123456789abcdef").cps.toList) (k.val : Int) = some (hx k.val) := by decide +kernel
theorem shr4 : ∀ k : Fin 256, ((k.val : Nat) : Int) / 2 ^ (4 : Int).toNat = ((k.val / 16 : Nat) : Int) := by decide
theorem and15 : ∀ k : Fin 256, Builtin.bitAnd ((k.val : Nat) : Int) 15 = ((k.val % 16 : Nat) : Int) := by decide +kernel
theorem byte_nat {n : Int} (h : Byte n) : ∃ k : Fin 256, n = ((k.val : Nat) : Int) := by
  unfold Byte at h
  exact ⟨⟨n.toNat, by omega⟩, by show n = ((n.toNat : Nat) : Int); omega⟩
theorem take_map {α β : Type} {f : α → β} {xs : List α} {i : Nat} {x : α} (h : xs[i]? = some x) : (xs.take (i + 1)).map f = (xs.take i).map f ++ [f x] := by
  rw [List.take_succ, h, List.map_append]
  rfl
theorem map_get {ns : List Int} {i : Nat} {x : V} (h : (ns.map V.int)[i]? = some x) : ∃ n, x = .int n ∧ ns[i]? = some n := by
  rw [List.getElem?_map] at h
  cases e : ns[i]? with
  | none => rw [e] at h; cases h
  | some n =>
    rw [e] at h
    exact ⟨n, (Option.some.inj h).symm, rfl⟩
theorem at_hi (b : Fin 256) : atI ((Str.ofString "0123456789abcdef").cps.toList) (((b.val : Nat) : Int) / 2 ^ (4 : Int).toNat) = some (hx (b.val / 16)) := by
  rw [shr4 b]
  exact dig_at ⟨b.val / 16, by omega⟩
theorem at_lo (b : Fin 256) : atI ((Str.ofString "0123456789abcdef").cps.toList) (Builtin.bitAnd ((b.val : Nat) : Int) 15) = some (hx (b.val % 16)) := by
  rw [and15 b]
  exact dig_at ⟨b.val % 16, by omega⟩
theorem dlen : (Str.ofString "0123456789abcdef").length ≤ sizeLine := by decide +kernel
theorem two_len (c d : Nat) : (⟨#[c]⟩ : Str).length + (⟨#[d]⟩ : Str).length ≤ sizeLine := by
  show 1 + 1 ≤ sizeLine
  decide
theorem pair_eq (b : Fin 256) : (⟨#[hx (b.val / 16)]⟩ : Str) ++ (⟨#[hx (b.val % 16)]⟩ : Str) = pairS ((b.val : Nat) : Int) := rfl
theorem join_len (ns : List Int) (h : ns.length ≤ 1000) : (List.map (fun x => x.length) (ns.map pairS)).sum + (ns.map pairS).length * (Str.ofString "").length ≤ 16777216 := by
  rw [pairs_len]
  show 2 * ns.length + (ns.map pairS).length * 0 ≤ 16777216
  omega
def spHex (K : PySem.W.Frag) : Sp := fun vs H Q _ => ∃ (a : Addr) (ns : List Int), vs = [.ref a] ∧ (SqL K H a (ns.map V.int) ∨ SqT K H a (ns.map V.int)) ∧ (∀ n ∈ ns, Byte n) ∧ ns.length ≤ 1000 ∧ ∀ H', Same H H' → Q (.str (hexS ns)) H'
theorem none_bytes {ns : List Int} (h : ∀ n ∈ ns, Byte n) : (ns.map V.int).findIdx? bad = none := by
  rw [List.findIdx?_eq_none_iff]
  intro x hx
  obtain ⟨n, hn, rfl⟩ := List.mem_map.mp hx
  have b := h n hn
  unfold Byte at b
  show (!(decide (0 ≤ n) && decide (n ≤ 255))) = false
  rw [decide_eq_true b.1, decide_eq_true (by omega : n ≤ 255)]
  rfl
def spHexText (K : PySem.W.Frag) (CB : Addr) : Sp := fun vs H Q E => ∃ (a : Addr) (xs : List V), vs = [.ref a] ∧ (SqL K H a xs ∨ SqT K H a xs) ∧ (∀ v ∈ xs, ∃ t, Pl H v t) ∧ xs.length ≤ 1000 ∧
  ((∃ i, xs.findIdx? bad = some i ∧ outB CB H E i) ∨ ∃ ns : List Int, xs = ns.map V.int ∧ (∀ n ∈ ns, Byte n) ∧ ∀ H', Same H H' → Q (.str (hexS ns)) H')
/-- side conditions; and the plain steps of a reading -/
local macro_rules | `(tactic| walk_at "sd") => `(tactic| first
  | assumption | decide | omega | exact b64 b01 | (show (0 : Int) < _; first | decide | omega) | exact ⟨by decide, by decide, by decide⟩ | exact ⟨by decide, by decide⟩ | exact ⟨by omega, by omega⟩
  | exact .inl ⟨by omega, by omega⟩ | exact .inr ⟨by omega, by omega⟩ | exact sz (by simp) | exact szl (by simp))
local macro_rules | `(tactic| walk_at "rd") => `(tactic| repeat (first
  | refine ⟨_, rfl, ?_⟩
  | refine ⟨_, _, rfl, rfl, ?_⟩
  | refine ⟨_, _, _, _, rfl, rfl, SqL.of (by first | assumption | exact upd_same), rfl, ?_⟩
  | refine .inl ⟨_, rfl, ?_⟩
  | refine .inr ⟨_, rfl, ?_⟩
  | refine ⟨_, _, _, _, rfl, rfl, (by first | assumption | exact upd_same), rfl, ?_⟩
  | refine And.intro (by walk_at "sd") ?_))
section
variable {P : Program} {w : World} {K : PySem.W.Frag} {mg : Str → Option Value} {base : Heap} {f : Addr} {fd : FuncData}
abbrev s_BadText___init__ : Stmt := inClass (top 3) 0
theorem sc_BadText___init__ : FnScope ["self", "place"] ["self", "place"] (defScope s_BadText___init__) := ⟨rfl, rfl, rfl, by decide +kernel, rfl, by decide +kernel, by decide +kernel⟩
theorem ok_initT {C : Addr} (F : Fun K "__init__" "BadText.__init__" s_BadText___init__ f fd) (O : OexC K C) (nf : PySem.W.findIn K (.ref C) "place" = some none) : FnOk P w K mg base CX0 1 f fd ["self", "place"] (spInit1 "place" C) := by
  refine F.ok sc_BadText___init__ (fun vs H Q E h => ?_) (fun cdv A outer st H vs Q E hr h => ?_)
  · obtain ⟨a, v, rfl, _⟩ := h
    rfl
  · obtain ⟨a, v, rfl, ha, k⟩ := h
    refine ⟨_, pss_one (ps_ost (pv 0) (pv 1)), ?_⟩
    exact ⟨_, rfl, _, rfl, a, C, rfl, O, nf, .inl ⟨ha, fun dx n ne => k dx n ne⟩⟩
abbrev s__hex : Stmt := top 14
theorem sc__hex : FnScope ["octets", "octet"] ["octets"] (defScope s__hex) := ⟨rfl, rfl, rfl, by decide +kernel, rfl, by decide +kernel, by decide +kernel⟩
theorem ok_hex {tg : Tok} (F : Fun K "_hex" "_hex" s__hex f fd) (gd : mg "HEX_DIGITS" = some (.str "0123456789abcdef" tg)) : FnOk P w K mg base CX0 1 f fd ["octets"] (spHex K) := by
  refine F.ok sc__hex (fun vs H Q E h => ?_) (fun cdv A outer st H vs Q E hr h => ?_)
  · obtain ⟨a, ns, rfl, _⟩ := h
    rfl
  · obtain ⟨a, ns, rfl, hs, hb, hl, k⟩ := h
    rcases hs with hs | hs
    · refine ⟨_, (pss_one (ps_ret (pe_join pe_str (pe_lc (own := [("octet", 1)]) (g := (gName 1)) rfl sc__hex.nd (pi_list (pv 0)) (blkOk_by (N := ["octets", "octet"]) (sc := defScope s__hex) (by decide +kernel)) (fun _ _ _ _ _ => (pg_name (i := 1) sc__hex.nd rfl (Or.inl rfl))) (fun _ _ _ _ _ => pts_nil) (fun _ _ _ _ _ => (pe_op op_add_str (pe_ix ix_str (pe_glob (v := .str "0123456789abcdef") (by rfl) gd ⟨_, rfl⟩) (pe_op op_shr (pv 1) pe_int) (fun _ _ => rfl)) (pe_ix ix_str (pe_glob (v := .str "0123456789abcdef") (by rfl) gd ⟨_, rfl⟩) (pe_op op_and (pv 1) pe_int) (fun _ _ => rfl)))))))), ?_⟩
      dsimp only
      refine ⟨⟨_, rfl⟩, ?_⟩
      refine ⟨_, rfl, a, rfl, ⟨_, hs⟩, fun D nD => ?_⟩
      refine lc_it (walk_list (K := K) (a := a) (xs := ns.map V.int)) (fun i H' => Same H H' ∧ H' D = some (.lst (((ns.take i).map pairS).map V.str))) ⟨same_new nD, upd_same⟩ (fun _ _ _ ⟨sm, _⟩ => sm.seq hs) ?_ ?_
      · rintro i x W1 W2 li ⟨sm, hD⟩ ⟨rfl, hx⟩
        obtain ⟨n, rfl, hn⟩ := map_get hx
        obtain ⟨b, rfl⟩ := byte_nat (hb n (List.mem_of_getElem? hn))
        refine ⟨rfl, ?_⟩
        refine ⟨_, rfl, _, 4, rfl, rfl, (by show (0 : Int) ≤ 4; decide), _, _, _, rfl, rfl, dlen, at_hi b, ?_⟩
        refine ⟨_, rfl, _, 15, rfl, rfl, _, _, _, rfl, rfl, dlen, at_lo b, ?_⟩
        refine ⟨_, _, rfl, rfl, two_len _ _, _, hD, szl (by simp; omega), fun b o e => ?_, ?_⟩
        · rw [upd_ne (ne_of_none e nD)]
          exact sm b o e
        · rw [upd_same, pair_eq, take_map hn, List.map_append]
          rfl
      · rintro W ⟨sm, hD⟩
        rw [List.length_map, List.take_length] at hD
        refine ⟨_, D, ns.map pairS, rfl, rfl, .inl (SqL.of hD), join_len ns hl, ?_⟩
        have q := k W sm
        rw [← join_pairs] at q
        exact q
    · refine ⟨_, (pss_one (ps_ret (pe_join pe_str (pe_lc (own := [("octet", 1)]) (g := (gName 1)) rfl sc__hex.nd (pi_tup (pv 0)) (blkOk_by (N := ["octets", "octet"]) (sc := defScope s__hex) (by decide +kernel)) (fun _ _ _ _ _ => (pg_name (i := 1) sc__hex.nd rfl (Or.inl rfl))) (fun _ _ _ _ _ => pts_nil) (fun _ _ _ _ _ => (pe_op op_add_str (pe_ix ix_str (pe_glob (v := .str "0123456789abcdef") (by rfl) gd ⟨_, rfl⟩) (pe_op op_shr (pv 1) pe_int) (fun _ _ => rfl)) (pe_ix ix_str (pe_glob (v := .str "0123456789abcdef") (by rfl) gd ⟨_, rfl⟩) (pe_op op_and (pv 1) pe_int) (fun _ _ => rfl)))))))), ?_⟩
      dsimp only
      refine ⟨⟨_, rfl⟩, ?_⟩
      refine ⟨_, rfl, a, rfl, ⟨_, hs⟩, fun D nD => ?_⟩
      refine lc_it (walk_tup (K := K) (a := a) (xs := ns.map V.int)) (fun i H' => Same H H' ∧ H' D = some (.lst (((ns.take i).map pairS).map V.str))) ⟨same_new nD, upd_same⟩ (fun _ _ _ ⟨sm, _⟩ => sqT_same hs sm) ?_ ?_
      · rintro i x W1 W2 li ⟨sm, hD⟩ ⟨rfl, hx⟩
        obtain ⟨n, rfl, hn⟩ := map_get hx
        obtain ⟨b, rfl⟩ := byte_nat (hb n (List.mem_of_getElem? hn))
        refine ⟨rfl, ?_⟩
        refine ⟨_, rfl, _, 4, rfl, rfl, (by show (0 : Int) ≤ 4; decide), _, _, _, rfl, rfl, dlen, at_hi b, ?_⟩
        refine ⟨_, rfl, _, 15, rfl, rfl, _, _, _, rfl, rfl, dlen, at_lo b, ?_⟩
        refine ⟨_, _, rfl, rfl, two_len _ _, _, hD, szl (by simp; omega), fun b o e => ?_, ?_⟩
        · rw [upd_ne (ne_of_none e nD)]
          exact sm b o e
        · rw [upd_same, pair_eq, take_map hn, List.map_append]
          rfl
      · rintro W ⟨sm, hD⟩
        rw [List.length_map, List.take_length] at hD
        refine ⟨_, D, ns.map pairS, rfl, rfl, .inl (SqL.of hD), join_len ns hl, ?_⟩
        have q := k W sm
        rw [← join_pairs] at q
        exact q
abbrev s_hex_text : Stmt := top 15
theorem sc_hex_text : FnScope ["data"] ["data"] (defScope s_hex_text) := ⟨rfl, rfl, rfl, by decide +kernel, rfl, by decide +kernel, by decide +kernel⟩
theorem ok_hex_text {CB : Addr} (F : Fun K "hex_text" "hex_text" s_hex_text f fd) (c_check : CalX P w K mg base 3 "check_bytes" (spCheck K CB)) (c_hex : Cal P w K mg base 1 "_hex" (spHex K)) : FnOk P w K mg base (L2.CX P w) 4 f fd ["data"] (spHexText K CB) := by
  refine F.okX sc_hex_text (fun vs H Q E h => ?_) (fun cdv A outer st H vs Q E hr h => ?_)
  · obtain ⟨a, xs, rfl, _⟩ := h
    rfl
  · obtain ⟨a, xs, rfl, hs, hp, hl, h⟩ := h
    refine ⟨_, (pss_cons (ps_expr (pe_cX (takes_of rfl rfl rfl rfl) c_check hr (by decide) (by rfl) (pa_cons (pv 0) pa_nil)))
      (pss_one (ps_ret (pe_c c_hex hr (by decide) (by rfl) (pa_cons (pv 0) pa_nil))))), ?_⟩
    refine use_seq ?_
    rcases h with ⟨i, e, k⟩ | ⟨ns, rfl, hb, k⟩
    · refine ⟨_, rfl, a, xs, rfl, hs, hp, by omega, fun j ej => ?_, fun en => ?_⟩
      · rw [e] at ej
        cases ej
        exact k
      · rw [e] at en
        cases en
    · refine ⟨_, rfl, a, _, rfl, hs, hp, by omega, fun j ej => ?_, fun _ H1 s1 => ?_⟩
      · rw [none_bytes hb] at ej
        cases ej
      dsimp only
      refine ⟨_, rfl, a, ns, rfl, sq_same hs s1, hb, by simpa using hl, fun H2 s2 => ?_⟩
      exact k H2 (s1.trans s2)
end
end Q74


/-! read_hex -/
namespace Q74
open PySem PySem.Spec PyProof.Rows L2 QT
def okS (c : Nat) : Bool := (hd c).isSome
def digT : List (Nat × Int) := [(48, 0), (49, 1), (50, 2), (51, 3), (52, 4), (53, 5), (54, 6), (55, 7), (56, 8), (57, 9), (97, 10), (98, 11), (99, 12), (100, 13), (101, 14), (102, 15)]
def digS : List (Str × Int) := digT.map fun p => (⟨#[p.1]⟩, p.2)
theorem digT_find (c : Nat) : (digT.find? (fun p => p.1 == c)).map (fun p => V.int p.2) = (hd c).map fun d => V.int (d : Int) := by
  by_cases h : c < 128
  · have z : ∀ c : Fin 128, (digT.find? (fun p => p.1 == c.val)).map (fun p => V.int p.2) = (hd c.val).map fun d => V.int (d : Int) := by decide +kernel
    exact z ⟨c, h⟩
  · have e1 : digT.find? (fun p => p.1 == c) = none := by
      rw [List.find?_eq_none]
      intro p hp
      have hl : ∀ p ∈ digT, p.1 < 128 := by decide
      have := hl p hp
      simp
      omega
    have e2 : hd c = none := by
      unfold hd
      rw [if_neg (by omega), if_neg (by omega)]
    rw [e1, e2]
    rfl
theorem digS_find (c : Nat) : digS.find? (fun p => p.1 == (⟨#[c]⟩ : Str)) = (digT.find? (fun p => p.1 == c)).map fun p => (⟨#[p.1]⟩, p.2) := by
  unfold digS
  rw [List.find?_map]
  congr 2
  funext p
  show ((⟨#[p.1]⟩ : Str) == ⟨#[c]⟩) = (p.1 == c)
  rw [Bool.eq_iff_iff, beq_iff_eq, beq_iff_eq]
  constructor
  · intro z
    injection z with z
    simpa using z
  · intro z
    rw [z]
/-- what the dict gives for a sign -/
theorem get_sign {K : PySem.W.Frag} {dv : Addr} (h : dicI K dv = some (digS.map some)) (c : Nat) : ∃ r, PySem.W.nsIn K dv ⟨#[c]⟩ = some r ∧ RelV (vd c) (r.getD .none) := by
  obtain ⟨r, h1, h2⟩ := nsIn_dic h ⟨#[c]⟩
  refine ⟨r, h1, ?_⟩
  have e1 := digT_find c
  rw [digS_find] at h2
  cases q : digT.find? (fun p => p.1 == c) with
  | none =>
    rw [q] at h2 e1
    have e2 : hd c = none := by
      cases z : hd c with
      | none => rfl
      | some d => rw [z] at e1; cases e1
    have e3 : r = none := h2
    rw [e3]
    unfold vd
    rw [e2]
    rfl
  | some p =>
    rw [q] at h2 e1
    obtain ⟨t, h3⟩ : ∃ t, r = some (.int p.2 t) := h2
    cases z : hd c with
    | none => rw [z] at e1; cases e1
    | some d =>
      rw [z] at e1
      have e4 : V.int p.2 = V.int (d : Int) := Option.some.inj e1
      injection e4 with e4
      rw [h3]
      unfold vd
      rw [z]
      exact ⟨t, by rw [← e4]; rfl⟩
theorem vd_flat (cs : List Nat) : (cs.map vd).all flatV = true := by
  rw [List.all_eq_true]
  intro x hx
  obtain ⟨c, _, rfl⟩ := List.mem_map.mp hx
  unfold vd
  cases hd c <;> rfl
theorem vd_non (c : Nat) : eqV (vd c) .non = !okS c := by
  unfold vd okS
  cases hd c <;> rfl
theorem in_non (cs : List Nat) : inV .non (cs.map vd) = cs.any fun c => !okS c := by
  unfold inV
  rw [List.any_map]
  congr 1
  funext c
  exact vd_non c
theorem and1 (n : Nat) : Builtin.bitAnd (n : Int) 1 = ((n % 2 : Nat) : Int) := by
  show (((n &&& 1 : Nat)) : Int) = _
  rw [Nat.and_one_is_mod]
theorem bad_at {cs : List Nat} {i : Nat} (h : cs.findIdx? (fun c => !okS c) = some i) : ∃ c, (cs.map vd)[i]? = some (vd c) ∧ eqV (vd c) .non = true ∧ (∀ (m : Nat) (z' : V), m < i → (cs.map vd)[m]? = some z' → eqV z' .non = false) ∧ (cs.any fun c => !okS c) = true := by
  rw [List.findIdx?_eq_some_iff_getElem] at h
  obtain ⟨hi, h1, h2⟩ := h
  refine ⟨cs[i], by rw [List.getElem?_map, List.getElem?_eq_getElem hi]; rfl, by rw [vd_non]; exact h1, fun m z' hm e => ?_, ?_⟩
  · have hml : m < cs.length := Nat.lt_trans hm hi
    rw [List.getElem?_map, List.getElem?_eq_getElem hml] at e
    cases (Option.some.inj e)
    rw [vd_non]
    simpa using h2 m hm
  · rw [List.any_eq_true]
    exact ⟨cs[i], List.getElem_mem hi, h1⟩
theorem all_ok {cs ds : List Nat} (h : cs.map hd = ds.map some) : (cs.any fun c => !okS c) = false := by
  rw [List.any_eq_false]
  intro c hc
  obtain ⟨j, hj, e⟩ := List.getElem_of_mem hc
  have hl : cs.length = ds.length := by
    have := congrArg List.length h
    simpa using this
  have e1 : (cs.map hd)[j]? = some (hd cs[j]) := by rw [List.getElem?_map, List.getElem?_eq_getElem hj]; rfl
  rw [h, List.getElem?_map, List.getElem?_eq_getElem (by omega)] at e1
  have e2 : some (ds[j]'(by omega)) = hd cs[j] := Option.some.inj e1
  rw [← e]
  unfold okS
  rw [← e2]
  simp
theorem hd_lt {c d : Nat} (h : hd c = some d) : d < 16 := by
  unfold hd at h
  split at h
  · cases h
    omega
  · split at h
    · cases h
      omega
    · cases h
theorem ds_lt : ∀ {cs ds : List Nat}, cs.map hd = ds.map some → ∀ d ∈ ds, d < 16
  | [], [], _, d, m => by cases m
  | [], _ :: _, h, _, _ => by cases h
  | _ :: _, [], h, _, _ => by cases h
  | c :: r, d0 :: q, h, d, m => by
    simp only [List.map_cons, List.cons.injEq] at h
    rcases List.mem_cons.mp m with rfl | m
    · exact hd_lt h.1
    · exact ds_lt h.2 d m
theorem every2_mem {α : Type} : ∀ {l : List α} {x : α}, x ∈ every2 l → x ∈ l
  | [], _, h => by cases h
  | [_], _, h => h
  | a :: b :: r, x, h => by
    rcases List.mem_cons.mp h with rfl | h
    · exact List.mem_cons_self
    · exact List.mem_cons_of_mem _ (List.mem_cons_of_mem _ (every2_mem h))
theorem take_all {α β : Type} (l : List α) (m : List β) : (List.zip l m).take (min l.length m.length) = List.zip l m :=
  List.take_of_length_le (by rw [List.length_zip]; exact Nat.le_refl _)
/-- what read_hex says -/
def spReadHex (CT : Addr) : Sp := fun vs H Q E => ∃ z : Str, vs = [.str z] ∧ z.length ≤ 1000 ∧
  ((∃ i, (TL.tl z).findIdx? (fun c => !okS c) = some i ∧ outB CT H E i) ∨
   ∃ ds : List Nat, (TL.tl z).map hd = ds.map some ∧ ((z.length % 2 = 1 ∧ outB CT H E z.length) ∨ (z.length % 2 = 0 ∧ ∀ (H' : Hp) (p : Addr), H p = none → Same H H' → H' p = some (.lst ((dec (ds.map Int.ofNat)).map V.int)) → Q (.ref p) H')))
/-- side conditions; and the plain steps of a reading -/
local macro_rules | `(tactic| walk_at "sd") => `(tactic| first
  | assumption | decide | omega | exact b64 b01 | (show (0 : Int) < _; first | decide | omega) | exact ⟨by decide, by decide, by decide⟩ | exact ⟨by decide, by decide⟩ | exact ⟨by omega, by omega⟩
  | exact .inl ⟨by omega, by omega⟩ | exact .inr ⟨by omega, by omega⟩ | exact sz (by simp) | exact szl (by simp))
local macro_rules | `(tactic| walk_at "rd") => `(tactic| repeat (first
  | refine ⟨_, rfl, ?_⟩
  | refine ⟨_, _, rfl, rfl, ?_⟩
  | refine ⟨_, _, _, _, rfl, rfl, SqL.of (by first | assumption | exact upd_same), rfl, ?_⟩
  | refine .inl ⟨_, rfl, ?_⟩
  | refine .inr ⟨_, rfl, ?_⟩
  | refine ⟨_, _, _, _, rfl, rfl, (by first | assumption | exact upd_same), rfl, ?_⟩
  | refine And.intro (by walk_at "sd") ?_))
section
variable {P : Program} {w : World} {K : PySem.W.Frag} {mg : Str → Option Value} {base : Heap} {f : Addr} {fd : FuncData}
abbrev s_read_hex : Stmt := top 16
theorem sc_read_hex : FnScope ["text", "numbers", "sign", "high", "low"] ["text"] (defScope s_read_hex) := ⟨rfl, rfl, rfl, by decide +kernel, rfl, by decide +kernel, by decide +kernel⟩
theorem ok_read_hex {CT fT dv : Addr} {es : Array DictEntry} {nd : Nat} {fdT : FuncData} (F : Fun K "read_hex" "read_hex" s_read_hex f fd) (T : Txt K mg) (gv : mg "HEX_VALUES" = some (.ref dv)) (D : KDict K w dv es nd) (hD : dicI K dv = some (digS.map some)) (B : ErrC K mg "BadText" CT fT) (bT : Binds K fdT ["self", "place"] [])
    (c_initT : FnOk P w K mg base CX0 1 fT fdT ["self", "place"] (spInit1 "place" CT)) : FnOk P w K mg base (L2.CX P w) 3 f fd ["text"] (spReadHex CT) := by
  refine F.okX sc_read_hex (fun vs H Q E h => ?_) (fun cdv A outer st H vs Q E hr h => ?_)
  · obtain ⟨z, rfl, _⟩ := h
    rfl
  · obtain ⟨z, rfl, hz, h⟩ := h
    refine ⟨_, (pss_cons (ps_setLc (i := 1) (own := [("sign", 2)]) (g := (gName 2)) (by rfl) sc_read_hex.nd rfl rfl (sw_true rfl rfl rfl (by decide +kernel)) (pi_str (pv 0)) (blkOk_by (N := ["text", "numbers", "sign", "high", "low"]) (sc := defScope s_read_hex) (by decide +kernel)) (fun _ _ _ _ _ => (pg_name (i := 2) sc_read_hex.nd rfl (Or.inl rfl))) (fun _ _ _ _ _ => pts_nil) (fun _ _ _ _ _ => (pe_kget D (pe_glob (v := .ref dv) (by rfl) gv rfl) (pv 2) ⟨by rfl, by rfl, by rfl, by rfl⟩)))
      (pss_cons (ps_if (pt_cmpR op_in_seq pe_non (pv 1) (by with_unfolding_all rfl))
      (pss_one (ps_raise rfl (takes_of rfl rfl rfl rfl) (pmk_oex B.oex B.ini B.tI c_initT hr bT .nil pass0 (by rfl) B.mgC (pa_cons (pe_bm PySem.F.plainAttrs_list PySem.F.slot_list_index PySem.F.type_list_index mt_index (pv 1) (pa_cons pe_non pa_nil)) pa_nil))))
      pss_nil)
      (pss_cons (ps_if (pt_truth (pe_op op_and (pe_callB call_len_seq (by rfl) T.z_len PySem.boot_len (pa_cons (pv 1) pa_nil)) pe_int) (by intro _; rfl))
      (pss_one (ps_raise rfl (takes_of rfl rfl rfl rfl) (pmk_oex B.oex B.ini B.tI c_initT hr bT .nil pass0 (by rfl) B.mgC (pa_cons (pe_callB call_len_seq (by rfl) T.z_len PySem.boot_len (pa_cons (pv 1) pa_nil)) pa_nil))))
      pss_nil)
      (pss_one (ps_ret (pe_lc (own := [("high", 3), ("low", 4)]) (g := (gTup K 2 (gCons (gName 3) (gCons (gName 4) gNil)))) rfl sc_read_hex.nd (pi_zip (by rfl) T.z_zip (pa_cons (pe_step2 (pv 1) po_none) (pa_cons (pe_step2 (pv 1) (po_some pe_int)) pa_nil))) (blkOk_by (N := ["text", "numbers", "sign", "high", "low"]) (sc := defScope s_read_hex) (by decide +kernel)) (fun _ _ _ _ _ => (pg_tup rfl (pgs_cons (pg_name (i := 3) sc_read_hex.nd rfl (Or.inl rfl)) (pgs_cons (pg_name (i := 4) sc_read_hex.nd rfl (Or.inl rfl)) pgs_nil)))) (fun _ _ _ _ _ => pts_nil) (fun _ _ _ _ _ => (pe_op op_add (pe_op op_mul pe_int (pv 3)) (pv 4))))))))), ?_⟩
    refine use_seq ?_
    refine ⟨_, rfl, z, rfl, fun D1 n1 => ?_⟩
    refine lc_it (walk_str (z := z)) (fun i H' => Same H H' ∧ H' D1 = some (.lst (((TL.tl z).take i).map vd))) ⟨same_new n1, upd_same⟩ (fun _ _ _ _ => trivial) ?_ ?_
    · rintro i x W1 W2 li ⟨sm, h1⟩ ⟨rfl, c, hc, rfl⟩
      obtain ⟨r, g1, g2⟩ := get_sign hD c
      have hc2 : (TL.tl z)[i]? = some c := by
        rw [Array.getElem?_toList]
        exact hc
      refine ⟨rfl, rfl, _, rfl, ⟨#[c]⟩, r, vd c, rfl, g1, g2, _, h1, szl ?_, fun b o e => ?_, ?_⟩
      · rw [List.length_map, List.length_take]
        have : z.cps.size = z.length := rfl
        omega
      · rw [upd_ne (ne_of_none e n1)]
        exact sm b o e
      · rw [upd_same, take_map hc2]
    · rintro W ⟨sm, h1⟩
      have e0 : (TL.tl z).take z.cps.size = TL.tl z := List.take_of_length_le (by rw [Array.length_toList]; exact Nat.le_refl _)
      rw [e0] at h1
      have len1 : ((TL.tl z).map vd).length = z.length := by
        rw [List.length_map, Array.length_toList]
        rfl
      dsimp only
      refine use_seq ?_
      refine ⟨_, rfl, D1, _, rfl, .inl (SqL.of h1), rfl, vd_flat _, _, rfl, ?_⟩
      rcases h with ⟨i, e, k⟩ | ⟨ds, e, h⟩
      · obtain ⟨c, b1, b2, b3, b4⟩ := bad_at e
        refine ifT (by show inV .non _ = true; rw [in_non]; exact b4) ?_
        refine ⟨_, rfl, .inl ⟨rfl, _, SqL.of h1⟩, D1, _, _, i, _, rfl, rfl, SqL.of h1, rfl, vd_flat _, b1, b2, b3, (by show 1 ≤ 1000; decide), raise1 fun H' d s' e' => ?_⟩
        exact k H' d (sm.trans s') e'
      · refine ifF (by show inV .non _ = false; rw [in_non]; exact all_ok e) ?_
        refine use_next ?_
        dsimp only
        refine use_seq ?_
        refine ⟨_, rfl, D1, _, rfl, .inl (SqL.of h1), _, _, rfl, rfl, _, rfl, ?_⟩
        rw [len1, and1]
        rcases h with ⟨odd, k⟩ | ⟨even, k⟩
        · refine ifT (by rw [odd]; rfl) ?_
          refine ⟨_, rfl, D1, _, rfl, .inl (SqL.of h1), (by show 1 ≤ 1000; decide), raise1 fun H' d s' e' => ?_⟩
          rw [len1] at e'
          exact k H' d (sm.trans s') e'
        · refine ifF (by rw [even]; rfl) ?_
          refine use_next ?_
          dsimp only
          rw [vd_of e] at h1
          refine ⟨_, rfl, D1, _, 0, rfl, .inr ⟨rfl, rfl⟩, SqL.of h1, fun p1 m1 => ?_⟩
          have s1 := same_new (o := .lst (every2 (((ds.map Int.ofNat).map V.int).drop 0))) m1
          refine ⟨_, rfl, 1, rfl, D1, _, 1, rfl, .inl rfl, SqL.of (s1 _ _ h1), fun p2 m2 => ?_⟩
          have s2 := same_new (o := .lst (every2 (((ds.map Int.ofNat).map V.int).drop 1))) m2
          generalize hes : ds.map Int.ofNat = es at s1 s2 k
          have eA : every2 ((es.map V.int).drop 0) = (every2 es).map V.int := by rw [List.drop_zero, every2_map]
          have eB : every2 ((es.map V.int).drop 1) = (every2 (es.drop 1)).map V.int := by rw [← List.map_drop, every2_map]
          have sG := (sm.trans s1).trans s2
          have gA := s2 _ _ (upd_same (H := W) (a := p1) (o := .lst (every2 ((es.map V.int).drop 0))))
          have gB := upd_same (H := upd W p1 (.lst (every2 ((es.map V.int).drop 0)))) (a := p2) (o := .lst (every2 ((es.map V.int).drop 1)))
          generalize hG : upd (upd W p1 (.lst (every2 ((es.map V.int).drop 0)))) p2 (.lst (every2 ((es.map V.int).drop 1))) = G at sG gA gB ⊢
          rw [eA] at gA
          rw [eB] at gB
          refine ⟨p1, p2, _, _, rfl, SqL.of gA, SqL.of gB, fun D2 n2 => ?_⟩
          refine lc_it (walk_zip (K := K) (a := p1) (b := p2) (xs := (every2 es).map V.int) (ys := (every2 (es.drop 1)).map V.int) rfl) (fun i H' => Same G H' ∧ H' D2 = some (.lst ((((List.zip (every2 es) (every2 (es.drop 1))).take i).map fun p => 16 * p.1 + p.2).map V.int)))
            ⟨same_new n2, upd_same⟩ (fun _ _ _ ⟨sm, _⟩ => ⟨SqL.of (sm _ _ gA), SqL.of (sm _ _ gB)⟩) ?_ ?_
          · rintro i x W1 W2 li ⟨sm2, h2⟩ ⟨T1, u, v, rfl, nT, rfl, eu, ev⟩
            obtain ⟨a1, rfl, ha⟩ := map_get eu
            obtain ⟨b1, rfl, hb⟩ := map_get ev
            have hz2 : (List.zip (every2 es) (every2 (es.drop 1)))[i]? = some (a1, b1) := by
              rw [List.getElem?_zip_eq_some]
              exact ⟨ha, hb⟩
            have sT := same_new (o := .tup [.int a1, .int b1]) nT
            refine ⟨T1, _, rfl, .inl (.inl upd_same), rfl, _, _, rfl, _, _, rfl, rfl, rfl, ?_⟩
            have hm : a1 ∈ es := every2_mem (List.mem_of_getElem? ha)
            rw [← hes] at hm
            obtain ⟨d1, hd1, rfl⟩ := List.mem_map.mp hm
            have lt1 := ds_lt e d1 hd1
            refine ⟨_, rfl, _, _, rfl, rfl, ?_, _, rfl, _, _, rfl, rfl, ?_⟩
            · exact .inl ⟨by decide, by decide⟩
            · refine ⟨_, sT _ _ h2, szl ?_, fun b o q => ?_, ?_⟩
              · rw [List.length_map, List.length_map, List.length_take]
                have e3 := congrArg List.length e
                rw [List.length_map, List.length_map] at e3
                have l2 := every2_len es
                rw [← hes, List.length_map] at l2
                rw [List.length_map] at li
                have z2 : (TL.tl z).length = z.length := (TL.len_tl z).symm
                rw [hes] at l2
                omega
              · rw [upd_ne (ne_of_none q n2)]
                exact sT _ _ (sm2 b o q)
              · rw [upd_same, take_map hz2, List.map_append]
                rfl
          · rintro W3 ⟨sm2, h2⟩
            rw [List.length_map, List.length_map, take_all] at h2
            exact k W3 D2 (sG.free n2) (sG.trans sm2) h2
end
end Q74


/-! the law's own: hexadecimal digits; what is said -/
namespace Q74
open PySem PySem.Spec PyProof.Rows L2 QT LamX
theorem div16 : ∀ k : Fin 256, ((k.val : Nat) : Int) / 16 = ((k.val / 16 : Nat) : Int) := by decide
theorem mod16 : ∀ k : Fin 256, ((k.val : Nat) : Int) % 16 = ((k.val % 16 : Nat) : Int) := by decide
theorem at_hi2 (b : Fin 256) : atI ((Str.ofString "0123456789abcdef").cps.toList) (((b.val : Nat) : Int) / 16) = some (hx (b.val / 16)) := by
  rw [div16 b]
  exact dig_at ⟨b.val / 16, by omega⟩
theorem at_lo2 (b : Fin 256) : atI ((Str.ofString "0123456789abcdef").cps.toList) (((b.val : Nat) : Int) % 16) = some (hx (b.val % 16)) := by
  rw [mod16 b]
  exact dig_at ⟨b.val % 16, by omega⟩
def spLHex (K : PySem.W.Frag) : Sp := fun vs H Q _ => ∃ (a : Addr) (ns : List Int), vs = [.ref a] ∧ SqL K H a (ns.map V.int) ∧ (∀ n ∈ ns, Byte n) ∧ ns.length ≤ 1000 ∧ ∀ H', Same H H' → Q (.str (hexS ns)) H'
/-- what _law_said makes of what is asked -/
def ESaid (CB CT : Addr) (Q : VK) : XK := fun cls d H' => ∃ (i : Int) (dd : Addr) (w : Str), d = some dd ∧ H' dd = some (.xd [("place", .int i)]) ∧ ((cls = .ref CB ∧ w = "bytes") ∨ (cls = .ref CT ∧ w = "text")) ∧
  ∀ (H2 : Hp) (t : Addr), Same H' H2 → H2 t = some (.tup [.str w, .int i]) → H' t = none → Q (.ref t) H2
def TSaid (CB CT : Addr) : (XK → Hp → VK → Prop) → Hp → VK → Prop := fun tl H Q => tl (ESaid CB CT Q) H fun v H' => [V.str "told", v].length ≤ sizeLine ∧ ∀ t, H' t = none → Q (.ref t) (upd H' t (.tup [V.str "told", v]))
def tAct (c' f : Addr) (q : Str) (tl : XK → Hp → VK → Prop) (W : WX) : TE := fun σ H Q => ∃ Ech : XK, (∀ cls d σ' H', Ech cls d H' → W cls d σ' H') ∧ σ[0]? = some (some (.ref f)) ∧ H c' = some (CodeO c' q) ∧ tl Ech H Q
/-- a slot that has just been stored -/
def tWas (i : Nat) : TE := fun σ H Q => ∃ (σ0 : L2.St) (v : V), σ = σ0.set i (some v) ∧ Q v H
theorem pe_was {X : Cx} {i : Nat} {x : Str} {pos : Pos} (hN : X.N[i]? = some x) (hv : Vis X.env.scope x) (hd : (x == ("__debug__" : Str)) = false := by decide) (hcd : (x == ("__classdict__" : Str)) = false := by decide) : PE X (.Name x pos) (tWas i) := by
  refine ⟨fun pins s σ H Q I h => ?_⟩
  obtain ⟨σ0, v, e, q⟩ := h
  refine (pe_var hN hv hd hcd).run pins s σ H Q I ⟨v, ?_, q⟩
  have hl := I.len
  have hi : i < X.N.length := (List.getElem?_eq_some_iff.mp hN).1
  rw [e] at hl ⊢
  rw [List.length_set] at hl
  rw [List.getElem?_set_self (by omega)]
theorem look1 {f : Str} {v : V} : List.lookup f [(f, v)] = some v := by
  rw [lookup_put, if_pos rfl]
abbrev s__law_said : Stmt := top 22
theorem sc__law_said : FnScope ["_law_ask", "e"] ["_law_ask"] (defScope s__law_said) := ⟨rfl, rfl, rfl, by decide +kernel, rfl, by decide +kernel, by decide +kernel⟩
theorem said_gives {X : Cx} {g CB fB CT fT CN : Addr} {cdg : Value} {q : Str} (B : ErrC X.K X.mg "NoBytes" CB fB) (R : ErrC X.K X.mg "BadText" CT fT) (mN : X.mg "NestError" = some (.ref CN))
    (bp : PySem.W.findIn X.K (.ref CB) "place" = some none) (tp : PySem.W.findIn X.K (.ref CT) "place" = some none)
    (xBB : PySem.W.exmOne X.K (.ref CB) (.ref CB) = some true) (xTB : PySem.W.exmOne X.K (.ref CT) (.ref CB) = some false) (xTT : PySem.W.exmOne X.K (.ref CT) (.ref CT) = some true) :
    GivesTo X ["_law_ask", "e"] "_law_said" (defScope s__law_said) g cdg (defBody s__law_said) "_law_ask" q (TSaid CB CT) := by
  intro f c' s H Q tl act hc h
  refine ⟨_, pss_one (ps_tryN (X := (cxOf C8.CX0 X.prog X.w X.K X.mg X.base ["_law_ask", "e"] "_law_said" (defScope s__law_said) g cdg X.A X.stack s H C8.E0).nox) rfl rfl L2.takes0
      (fun W pn xe tk _ => pss_one (ps_ret (pe_tup (pa_cons pe_str (pa_cons (te := tAct c' f q tl W) ⟨fun pins s' σ H' D I h' => by
        obtain ⟨Ech, hW, h1, h2, h3⟩ := h'
        exact (act W pn xe Ech _ _ tk hW).run pins s' σ H' D I ⟨h1, h2, h3⟩⟩ pa_nil)))))
      (.named (i := 1) ⟨by rfl, by decide, .inl B.mgC⟩ sc__law_said.nd rfl rfl (fun a oe cls d pn hz hf => pss_one (ps_ret (pe_tup (pa_cons pe_str (pa_cons (pe_xf B.xf bp hz hf (pe_was (i := 1) rfl (.inl rfl))) pa_nil)))))
      (.named (i := 1) ⟨by rfl, by decide, .inl R.mgC⟩ sc__law_said.nd rfl rfl (fun a oe cls d pn hz hf => pss_one (ps_ret (pe_tup (pa_cons pe_str (pa_cons (pe_xf R.xf tp hz hf (pe_was (i := 1) rfl (.inl rfl))) pa_nil)))))
      (.bare ⟨by rfl, by decide, .inl mN⟩ (fun a oe cls d pn hz hf => pss_one (ps_ret (pe_tup (pa_cons pe_str (pa_cons pe_non pa_nil))))) .done)))), ?_⟩
  refine ⟨ESaid CB CT Q, fun cls d σ' H' hE => ?_, rfl, hc, h⟩
  obtain ⟨i, dd, w, rfl, hd, hc2, k⟩ := hE
  rcases hc2 with ⟨rfl, rfl⟩ | ⟨rfl, rfl⟩
  · refine ⟨true, xBB, fun _ a na => ?_, fun z => nomatch z⟩
    exact ⟨σ', _, rfl, rfl, rfl, dd, _, _, rfl, hd, look1, sz (by simp), fun t nt => k _ t (same_new nt) upd_same nt⟩
  · refine ⟨false, xTB, (fun z => nomatch z), fun _ => ⟨true, xTT, fun _ a na => ?_, fun z => nomatch z⟩⟩
    exact ⟨σ', _, rfl, rfl, rfl, dd, _, _, rfl, hd, look1, sz (by simp), fun t nt => k _ t (same_new nt) upd_same nt⟩
/-- side conditions; and the plain steps of a reading -/
local macro_rules | `(tactic| walk_at "sd") => `(tactic| first
  | assumption | decide | omega | exact b64 b01 | (show (0 : Int) < _; first | decide | omega) | exact ⟨by decide, by decide, by decide⟩ | exact ⟨by decide, by decide⟩ | exact ⟨by omega, by omega⟩
  | exact .inl ⟨by omega, by omega⟩ | exact .inr ⟨by omega, by omega⟩ | exact sz (by simp) | exact szl (by simp))
local macro_rules | `(tactic| walk_at "rd") => `(tactic| repeat (first
  | refine ⟨_, rfl, ?_⟩
  | refine ⟨_, _, rfl, rfl, ?_⟩
  | refine ⟨_, _, _, _, rfl, rfl, SqL.of (by first | assumption | exact upd_same), rfl, ?_⟩
  | refine .inl ⟨_, rfl, ?_⟩
  | refine .inr ⟨_, rfl, ?_⟩
  | refine ⟨_, _, _, _, rfl, rfl, (by first | assumption | exact upd_same), rfl, ?_⟩
  | refine And.intro (by walk_at "sd") ?_))
section
variable {P : Program} {w : World} {K : PySem.W.Frag} {mg : Str → Option Value} {base : Heap} {f : Addr} {fd : FuncData}
abbrev s__law_hex : Stmt := top 21
theorem sc__law_hex : FnScope ["_law_some", "_law_digits", "_law_one"] ["_law_some"] (defScope s__law_hex) := ⟨rfl, rfl, rfl, by decide +kernel, rfl, by decide +kernel, by decide +kernel⟩
theorem ok_law_hex (F : Fun K "_law_hex" "_law_hex" s__law_hex f fd) (T : Txt K mg) : FnOk P w K mg base CX0 1 f fd ["_law_some"] (spLHex K) := by
  refine F.ok sc__law_hex (fun vs H Q E h => ?_) (fun cdv A outer st H vs Q E hr h => ?_)
  · obtain ⟨a, ns, rfl, _⟩ := h
    rfl
  · obtain ⟨a, ns, rfl, hs, hb, hl, k⟩ := h
    refine ⟨_, (pss_cons (ps_set (i := 1) sc__law_hex.nd rfl (Or.inr rfl) pe_str)
      (pss_one (ps_ret (pe_join pe_str (pe_lc (own := [("_law_one", 2)]) (g := (gName 2)) rfl sc__law_hex.nd (pi_list (pv 0)) (blkOk_by (N := ["_law_some", "_law_digits", "_law_one"]) (sc := defScope s__law_hex) (by decide +kernel)) (fun _ _ _ _ _ => (pg_name (i := 2) sc__law_hex.nd rfl (Or.inl rfl))) (fun _ _ _ _ _ => pts_nil) (fun _ _ _ _ _ => (pe_op op_add_str (pe_ix ix_str (pv 1) (pe_op op_fdiv (pv 2) pe_int) (fun _ _ => rfl)) (pe_ix ix_str (pv 1) (pe_op op_mod (pe_callTy call_int1 (by rfl) T.z_int (by decide +kernel) (pa_cons (pv 2) pa_nil)) pe_int) (fun _ _ => rfl))))))))), ?_⟩
    refine use_seq ?_
    dsimp only
    refine ⟨⟨_, rfl⟩, ?_⟩
    refine ⟨_, rfl, a, rfl, ⟨_, hs⟩, fun D nD => ?_⟩
    refine lc_it (walk_list (K := K) (a := a) (xs := ns.map V.int)) (fun i H' => Same H H' ∧ H' D = some (.lst (((ns.take i).map pairS).map V.str))) ⟨same_new nD, upd_same⟩ (fun _ _ _ ⟨sm, _⟩ => sm.seq hs) ?_ ?_
    · rintro i x W1 W2 li ⟨sm, hD⟩ ⟨rfl, hx⟩
      obtain ⟨n, rfl, hn⟩ := map_get hx
      obtain ⟨b, rfl⟩ := byte_nat (hb n (List.mem_of_getElem? hn))
      refine ⟨rfl, ?_⟩
      refine ⟨_, rfl, _, rfl, _, 16, rfl, rfl, ⟨by decide, by decide⟩, _, _, _, rfl, rfl, dlen, at_hi2 b, ?_⟩
      refine ⟨_, rfl, _, rfl, .inl ⟨_, rfl, _, 16, rfl, rfl, (by show (0 : Int) < 16; decide), _, _, _, rfl, rfl, dlen, at_lo2 b, ?_⟩⟩
      refine ⟨_, _, rfl, rfl, two_len _ _, _, hD, szl (by simp; omega), fun b o e => ?_, ?_⟩
      · rw [upd_ne (ne_of_none e nD)]
        exact sm b o e
      · rw [upd_same, pair_eq, take_map hn, List.map_append]
        rfl
    · rintro W ⟨sm, hD⟩
      rw [List.length_map, List.take_length] at hD
      refine ⟨_, D, ns.map pairS, rfl, rfl, .inl (SqL.of hD), join_len ns hl, ?_⟩
      have q := k W sm
      rw [← join_pairs] at q
      exact q
end
end Q74


/-! the law's own: texts bent -/
namespace Q74
open PySem PySem.Spec PyProof.Rows L2 QT LamX
/-- a text with a fault, and where -/
inductive Bent (z : Str) : Str → V → Prop
  | sign {w : Str} {i : Nat} (h : (TL.tl w).findIdx? (fun c => !okS c) = some i) (l : w.length ≤ z.length + 1) : Bent z w (.int (i : Int))
  | odd {w : Str} (h : ∀ c ∈ TL.tl w, okS c = true) (o : w.length % 2 = 1) (l : w.length ≤ z.length + 1) : Bent z w (.int (w.length : Int))
  | same : Bent z z .non
theorem cut_to (z : Str) {a : Int} (h : 0 ≤ a) : Txt.slice z none (some a) = ⟨((TL.tl z).take a.toNat).toArray⟩ := by
  have e := SX.slice_to (a := TL.tl z) h
  rw [SX.S_tl] at e
  exact e
theorem cut_from (z : Str) {a : Int} (h : 0 ≤ a) : Txt.slice z (some a) none = ⟨((TL.tl z).drop a.toNat).toArray⟩ := by
  have e := SX.slice_from (a := TL.tl z) h
  rw [SX.S_tl] at e
  exact e
theorem cut_toN (z : Str) (n : Nat) : Txt.slice z none (some (n : Int)) = ⟨((TL.tl z).take n).toArray⟩ := cut_to z (Int.natCast_nonneg n)
theorem cut_fromN (z : Str) (n : Nat) : Txt.slice z (some (n : Int)) none = ⟨((TL.tl z).drop n).toArray⟩ := cut_from z (Int.natCast_nonneg n)
theorem first_bad {cs r : List Nat} {a c : Nat} (h : ∀ x ∈ cs, okS x = true) (ha : a ≤ cs.length) (hc : okS c = false) : (cs.take a ++ [c] ++ r).findIdx? (fun c => !okS c) = some a := by
  have hl : (cs.take a).length = a := by
    rw [List.length_take]
    omega
  rw [List.findIdx?_eq_some_iff_getElem]
  refine ⟨by simp; omega, ?_, fun j hj => ?_⟩
  · have e : (cs.take a ++ [c] ++ r)[a]? = some c := by
      rw [List.append_assoc, List.getElem?_append_right (by omega), hl, Nat.sub_self]
      rfl
    have e2 := (List.getElem?_eq_some_iff.mp e).2
    rw [e2, hc]
    rfl
  · have e : (cs.take a ++ [c] ++ r)[j]? = some (cs[j]'(by omega)) := by
      rw [List.append_assoc, List.getElem?_append_left (by omega), List.getElem?_take_of_lt hj, List.getElem?_eq_getElem (by omega)]
    have e2 := (List.getElem?_eq_some_iff.mp e).2
    rw [e2, h _ (List.getElem_mem _)]
    decide
def signs : List V := ["g", "A", "F", " ", "-", "x", ".", "/", ":", "~", "[", "z"].map fun s => V.str (Str.ofString s)
theorem sign_bad {v : V} (h : v ∈ signs) : ∃ c, v = .str ⟨#[c]⟩ ∧ okS c = false := by
  have z : ∀ v ∈ signs, ∃ c ∈ [103, 65, 70, 32, 45, 120, 46, 47, 58, 126, 91, 122], v = .str ⟨#[c]⟩ := by decide +kernel
  obtain ⟨c, m, e⟩ := z v h
  refine ⟨c, e, ?_⟩
  have z2 : ∀ c ∈ [103, 65, 70, 32, 45, 120, 46, 47, 58, 126, 91, 122], okS c = false := by decide
  exact z2 c m
theorem app3 (x y z : List Nat) : (⟨x.toArray⟩ : Str) ++ (⟨y.toArray⟩ : Str) ++ (⟨z.toArray⟩ : Str) = ⟨(x ++ y ++ z).toArray⟩ := by
  apply TL.ext_tl
  rw [TL.tl_append, TL.tl_append]
theorem len_mk (l : List Nat) : (⟨l.toArray⟩ : Str).length = l.length := by rw [TL.len_tl]
def spBent : Sp := fun vs H Q _ => ∃ (s : Addr) (z : Str), vs = [.ref s, .str z] ∧ Stt H s ∧ z.length ≤ 1000 ∧ z.length % 2 = 0 ∧ (∀ c ∈ TL.tl z, okS c = true) ∧
  ∀ (H' : Hp) (t : Addr) (w : Str) (v : V), Ext s H H' → H' t = some (.tup [.str w, v]) → Bent z w v → Q (.ref t) H'
/-- side conditions; and the plain steps of a reading -/
local macro_rules | `(tactic| walk_at "sd") => `(tactic| first
  | assumption | decide | omega | exact b64 b01 | (show (0 : Int) < _; first | decide | omega) | exact ⟨by decide, by decide, by decide⟩ | exact ⟨by decide, by decide⟩ | exact ⟨by omega, by omega⟩
  | exact .inl ⟨by omega, by omega⟩ | exact .inr ⟨by omega, by omega⟩ | exact sz (by simp) | exact szl (by simp))
local macro_rules | `(tactic| walk_at "rd") => `(tactic| repeat (first
  | refine ⟨_, rfl, ?_⟩
  | refine ⟨_, _, rfl, rfl, ?_⟩
  | refine ⟨_, _, _, _, rfl, rfl, SqL.of (by first | assumption | exact upd_same), rfl, ?_⟩
  | refine .inl ⟨_, rfl, ?_⟩
  | refine .inr ⟨_, rfl, ?_⟩
  | refine ⟨_, _, _, _, rfl, rfl, (by first | assumption | exact upd_same), rfl, ?_⟩
  | refine And.intro (by walk_at "sd") ?_))
section
variable {P : Program} {w : World} {K : PySem.W.Frag} {mg : Str → Option Value} {base : Heap} {f : Addr} {fd : FuncData}
abbrev s__law_bent : Stmt := top 23
theorem sc__law_bent : FnScope ["_law_source_here", "_law_word", "_law_at", "_law_way", "_law_sign"] ["_law_source_here", "_law_word"] (defScope s__law_bent) := ⟨rfl, rfl, rfl, by decide +kernel, rfl, by decide +kernel, by decide +kernel⟩
theorem ok_bent (F : Fun K "_law_bent" "_law_bent" s__law_bent f fd) (T : Txt K mg) (c_draw : Cal P w K mg base 1 "_law_draw" spDraw) (c_pick : Cal P w K mg base 2 "_law_pick" (spPick K)) : FnOk P w K mg base CX0 3 f fd ["_law_source_here", "_law_word"] spBent := by
  refine F.ok sc__law_bent (fun vs H Q E h => ?_) (fun cdv A outer st H vs Q E hr h => ?_)
  · obtain ⟨s, z, rfl, _⟩ := h
    rfl
  · obtain ⟨s, z, rfl, hs, hz, even, ok, k⟩ := h
    have hzl : z.length ≤ sizeLine := Nat.le_trans hz (by decide)
    refine ⟨_, (pss_cons (ps_set (i := 2) sc__law_bent.nd rfl (Or.inl rfl) (pe_c c_draw hr (by decide) (by rfl) (pa_cons (pv 0) (pa_cons (pe_op op_add (pe_callB call_len_str (by rfl) T.z_len PySem.boot_len (pa_cons (pv 1) pa_nil)) pe_int) pa_nil))))
      (pss_cons (ps_set (i := 3) sc__law_bent.nd rfl (Or.inl rfl) (pe_c c_draw hr (by decide) (by rfl) (pa_cons (pv 0) (pa_cons pe_int pa_nil))))
      (pss_cons (ps_if (pt_cmpR op_eq (pv 3) pe_int (nomark _))
      (pss_cons (ps_set (i := 4) sc__law_bent.nd rfl (Or.inl rfl) (pe_c c_pick hr (by decide) (by rfl) (pa_cons (pv 0) (pa_cons (pe_lst (pa_cons pe_str (pa_cons pe_str (pa_cons pe_str (pa_cons pe_str (pa_cons pe_str (pa_cons pe_str (pa_cons pe_str (pa_cons pe_str (pa_cons pe_str (pa_cons pe_str (pa_cons pe_str (pa_cons pe_str pa_nil))))))))))))) pa_nil))))
        (pss_one (ps_ret (pe_tup (pa_cons (pe_op op_add_str (pe_op op_add_str (pe_slice C8.sl_txt (pv 1) po_none (po_some (pv 2))) (pv 4)) (pe_slice C8.sl_txt (pv 1) (po_some (pe_op op_add (pv 2) (pe_c c_draw hr (by decide) (by rfl) (pa_cons (pv 0) (pa_cons pe_int pa_nil))))) po_none)) (pa_cons (pv 2) pa_nil))))))
      pss_nil)
      (pss_cons (ps_if (pt_cmpR op_eq (pv 3) pe_int (nomark _))
      (pss_one (ps_ret (pe_tup (pa_cons (pe_op op_add_str (pe_op op_add_str (pe_slice C8.sl_txt (pv 1) po_none (po_some (pv 2))) pe_str) (pe_slice C8.sl_txt (pv 1) (po_some (pv 2)) po_none)) (pa_cons (pe_op op_add (pe_callB call_len_str (by rfl) T.z_len PySem.boot_len (pa_cons (pv 1) pa_nil)) pe_int) pa_nil)))))
      pss_nil)
      (pss_cons (ps_if (PW.pt (pw_and (pt_cmpR op_eq (pv 3) pe_int (nomark _)) (pw_and1 (pt_cmpR op_ne (pv 1) pe_str (nomark _)))))
      (pss_one (ps_ret (pe_tup (pa_cons (pe_slice C8.sl_txt (pv 1) (po_some pe_int) po_none) (pa_cons (pe_op op_sub (pe_callB call_len_str (by rfl) T.z_len PySem.boot_len (pa_cons (pv 1) pa_nil)) pe_int) pa_nil)))))
      pss_nil)
      (pss_one (ps_ret (pe_tup (pa_cons (pv 1) (pa_cons pe_non pa_nil)))))))))), ?_⟩
    refine use_seq ?_
    refine ⟨_, rfl, _, rfl, z, rfl, hzl, _, _, rfl, rfl, s, _, rfl, hs, by omega, by omega, fun H1 a x1 a0 a1 => ?_⟩
    dsimp only
    refine use_seq ?_
    refine ⟨_, rfl, s, _, rfl, x1.st, by decide, by decide, fun H2 wy x2 w0 w1 => ?_⟩
    have x12 := x1.trans x2
    obtain ⟨n, rfl⟩ := Int.eq_ofNat_of_zero_le a0
    have al : n ≤ (TL.tl z).length := by
      rw [← TL.len_tl]
      omega
    have zl := TL.len_tl z
    dsimp only
    refine use_seq ?_
    refine ⟨_, rfl, rfl, _, rfl, ?_⟩
    by_cases c0 : wy = 0
    · subst c0
      refine ifT (by decide) ?_
      refine use_seq ?_
      refine ⟨_, rfl, sz (by simp), fun p np => ?_⟩
      refine ⟨s, p, _, rfl, (x12.new np).st, x12.st.ne np, SqL.of upd_same, (by show 0 < 12; decide), (by show 12 ≤ 1000; decide), fun H3 sg x3 hsg => ?_⟩
      have x13 := (x12.new np).trans x3
      obtain ⟨c, rfl, hc⟩ := sign_bad (show sg ∈ signs from hsg)
      dsimp only
      refine ⟨_, rfl, _, rfl, (n : Int), rfl, z, rfl, hzl, _, rfl, ?_⟩
      rw [cut_toN z n]
      refine ⟨_, _, rfl, rfl, by rw [len_mk, List.length_take]; exact sz (by show _ + 1 ≤ _; omega), ?_⟩
      refine ⟨_, rfl, _, rfl, _, rfl, s, _, rfl, x13.st, by decide, by decide, fun H4 e x4 e0 e1 => ?_⟩
      obtain ⟨m, rfl⟩ := Int.eq_ofNat_of_zero_le e0
      refine ⟨_, _, rfl, rfl, _, rfl, z, rfl, hzl, ?_⟩
      have em : ((n : Int) + (m : Int)) = ((n + m : Nat) : Int) := rfl
      rw [em, cut_fromN z (n + m)]
      have ew : (⟨((TL.tl z).take n).toArray⟩ : Str) ++ (⟨#[c]⟩ : Str) ++ (⟨((TL.tl z).drop (n + m)).toArray⟩ : Str) = ⟨((TL.tl z).take n ++ [c] ++ (TL.tl z).drop (n + m)).toArray⟩ := app3 _ [c] _
      have lw : ((TL.tl z).take n ++ [c] ++ (TL.tl z).drop (n + m)).length ≤ z.length + 1 := by
        rw [List.length_append, List.length_append, List.length_take, List.length_drop, List.length_singleton]
        omega
      refine ⟨_, _, rfl, rfl, ?_, ?_⟩
      · have e4 : ∀ x y : Str, (x ++ y).length = x.length + y.length := fun x y => by rw [TL.len_tl, TL.tl_append, List.length_append, ← TL.len_tl, ← TL.len_tl]
        rw [← e4, ew, len_mk]
        exact sz (by omega)
      rw [ew]
      refine ⟨_, rfl, sz (by simp), fun t nt => ?_⟩
      refine k _ t _ _ ((x13.trans x4).new nt) upd_same ?_
      exact .sign (first_bad ok al hc) (by rw [len_mk]; exact lw)
    · refine ifF (by simpa using c0) ?_
      refine use_next ?_
      dsimp only
      refine use_seq ?_
      refine ⟨_, rfl, rfl, _, rfl, ?_⟩
      by_cases c1 : wy = 1
      · subst c1
        refine ifT (by decide) ?_
        refine ⟨_, rfl, _, rfl, (n : Int), rfl, z, rfl, hzl, ?_⟩
        rw [cut_toN z n]
        refine ⟨_, _, rfl, rfl, by rw [len_mk, List.length_take]; exact sz (by show _ + 1 ≤ _; omega), ?_⟩
        refine ⟨_, rfl, _, rfl, _, rfl, z, rfl, hzl, ?_⟩
        rw [cut_fromN z n]
        have ew : (⟨((TL.tl z).take n).toArray⟩ : Str) ++ (Str.ofString "7") ++ (⟨((TL.tl z).drop n).toArray⟩ : Str) = ⟨((TL.tl z).take n ++ [55] ++ (TL.tl z).drop n).toArray⟩ := app3 _ [55] _
        have lw : ((TL.tl z).take n ++ [55] ++ (TL.tl z).drop n).length = z.length + 1 := by
          rw [List.length_append, List.length_append, List.length_take, List.length_drop, List.length_singleton]
          omega
        refine ⟨_, _, rfl, rfl, ?_, ?_⟩
        · have e4 : ∀ x y : Str, (x ++ y).length = x.length + y.length := fun x y => by rw [TL.len_tl, TL.tl_append, List.length_append, ← TL.len_tl, ← TL.len_tl]
          rw [← e4, ew, len_mk]
          exact sz (by omega)
        rw [ew]
        refine ⟨_, rfl, z, rfl, hzl, _, _, rfl, rfl, sz (by simp), fun t nt => ?_⟩
        refine k _ t _ _ (x12.new nt) upd_same ?_
        have e6 : (⟨((TL.tl z).take n ++ [55] ++ (TL.tl z).drop n).toArray⟩ : Str).length = z.length + 1 := (len_mk ((TL.tl z).take n ++ [55] ++ (TL.tl z).drop n)).trans lw
        have e5 : ((z.length : Int) + 1) = (((⟨((TL.tl z).take n ++ [55] ++ (TL.tl z).drop n).toArray⟩ : Str).length : Nat) : Int) := by
          rw [e6]
          rfl
        dsimp only
        rw [e5]
        refine .odd (fun c hc => ?_) (by rw [e6]; omega) (Nat.le_of_eq e6)
        have hc : c ∈ (TL.tl z).take n ++ [55] ++ (TL.tl z).drop n := hc
        rcases List.mem_append.mp hc with q | q
        · rcases List.mem_append.mp q with q | q
          · exact ok c (List.mem_of_mem_take q)
          · rw [List.mem_singleton.mp q]
            decide
        · exact ok c (List.mem_of_mem_drop q)
      · refine ifF (by simpa using c1) ?_
        refine use_next ?_
        dsimp only
        refine use_seq ?_
        refine ⟨_, rfl, rfl, _, rfl, ?_⟩
        by_cases c2 : wy = 2
        · subst c2
          refine ifT (by decide) ?_
          refine ⟨_, rfl, rfl, _, rfl, ?_⟩
          by_cases ez : z = Str.ofString ""
          · refine ifF (by simpa using ez) ?_
            refine use_next ?_
            dsimp only
            refine ⟨_, rfl, sz (by simp), fun t nt => ?_⟩
            exact k _ t _ _ (x12.new nt) upd_same .same
          · refine ifT (by simpa using ez) ?_
            refine ⟨_, rfl, 1, rfl, z, rfl, hzl, ?_⟩
            rw [show (1 : Int) = ((1 : Nat) : Int) from rfl, cut_fromN z 1]
            refine ⟨_, rfl, z, rfl, hzl, _, _, rfl, rfl, sz (by simp), fun t nt => ?_⟩
            refine k _ t _ _ (x12.new nt) upd_same ?_
            have nz : 0 < z.length := by
              rcases Nat.eq_zero_or_pos z.length with q | q
              · exfalso
                apply ez
                apply TL.ext_tl
                rw [zl] at q
                rw [List.eq_nil_of_length_eq_zero q]
                rfl
              · exact q
            have lw : ((TL.tl z).drop 1).length = z.length - 1 := by
              rw [List.length_drop]
              omega
            have e6 : (⟨((TL.tl z).drop 1).toArray⟩ : Str).length = z.length - 1 := (len_mk ((TL.tl z).drop 1)).trans lw
            have e5 : ((z.length : Int) - ((1 : Nat) : Int)) = (((⟨((TL.tl z).drop 1).toArray⟩ : Str).length : Nat) : Int) := by
              rw [e6]
              omega
            dsimp only
            rw [e5]
            refine .odd (fun c hc => ?_) (by rw [e6]; omega) (by rw [e6]; omega)
            exact ok c (List.mem_of_mem_drop (show c ∈ (TL.tl z).drop 1 from hc))
        · refine ifF (by simpa using c2) ?_
          refine ifF rfl ?_
          refine use_next ?_
          dsimp only
          refine ⟨_, rfl, sz (by simp), fun t nt => ?_⟩
          exact k _ t _ _ (x12.new nt) upd_same .same
end
end Q74


/-! the law -/
namespace Q74
open PySem PySem.Spec PyProof.Rows L2 QT LamX

/-- a def whose code object is known -/
structure FunC (K : PySem.W.Frag) (x qual : Str) (st : Stmt) (f : Addr) (fd : FuncData) (co : Addr) : Prop where
  ex : ∃ (oc : Value) (od : Option Addr) (kV doc pm : Value) (an : Option Addr) (ct : Value) (osl : Array (Option Value)),
    fd = PySem.W.fnOf x qual (defArgs st) (defBody st) (defScope st) .none kV doc pm an (.ref co) ct ∧ K.lookup f = some ⟨oc, od, .func fd, osl⟩ ∧ PySem.W.codeIn K (.ref co) qual = true
theorem FunC.okX {P : Program} {w : World} {K : PySem.W.Frag} {mg : Str → Option Value} {base : Heap} {x qual : Str} {st : Stmt} {f co : Addr} {fd : FuncData} {N ps : List Str} {k : Nat} {sp : Sp} (F : FunC K x qual st f fd co) (S : FnScope N ps (defScope st)) (len : ∀ vs H Q E, sp vs H Q E → vs.length = ps.length)
    (body : ∀ (A : Around) (outer : List Env) (s : Shared) (H : Hp) (vs : List V) (Q : VK) (E : XK), Room k (A.deeper (envOfC qual (defScope st) s.heap.objs.size f (.ref co))) → sp vs H Q E →
      ∃ t, PSs (cxOf (L2.CX P w) P w K mg base N qual (defScope st) f (.ref co) A outer s H E) (defBody st) t ∧ t { nx := fun _ H' => Q .non H', rt := Q } (start N vs) H) : FnOk P w K mg base (L2.CX P w) (k + 1) f fd ps sp := by
  obtain ⟨oc, od, kV, doc, pm, an, ct, osl, rfl, at_, code⟩ := F.ex
  exact fn_of at_ code S len fun A outer s H vs Q E hr h => body A outer s H vs Q E hr h
/-- the table of the lambdas -/
def tabM (PM : Addr) : List (Addr × Str) := [(PM, (envOfC "_law_right" (defScope (top 24)) 0 0 .none).qual ++ "<lambda>")]
/-- what is known of _law_said -/
structure SaidC (K : PySem.W.Frag) (mg : Str → Option Value) (CB CT : Addr) : Prop where
  fn : ∃ (g : Addr) (fd : FuncData), mg "_law_said" = some (.ref g) ∧ Fun K "_law_said" "_law_said" s__law_said g fd ∧ L2.Binds K fd ["_law_ask"] []
  er : ∃ fB fT CN : Addr, ErrC K mg "NoBytes" CB fB ∧ ErrC K mg "BadText" CT fT ∧ mg "NestError" = some (.ref CN)
  bp : PySem.W.findIn K (.ref CB) "place" = some none
  tp : PySem.W.findIn K (.ref CT) "place" = some none
  xBB : PySem.W.exmOne K (.ref CB) (.ref CB) = some true
  xTB : PySem.W.exmOne K (.ref CT) (.ref CB) = some false
  xTT : PySem.W.exmOne K (.ref CT) (.ref CT) = some true
theorem pe_said {X : Cx} {CB CT co PM : Addr} {k : Nat} {params : Arguments} {body : Expr} {scope : Scope} {t : XK → TE} {p lpos pos : Pos} (S : SaidC X.K X.mg CB CT) (hg : Gl X "_law_said") (TB : TabB X.base X.mg co PM) (hcode : X.env.code = .ref co) (hr : Room (k + 2) X.A)
    (L : LamS X.env.scope scope) (hdef : defaultsOf params X.env = ([], [])) (hbind : ∀ (q : Str) (cl : List (Str × Addr)) (pm cv ctv : Value), bindArgs (PySem.W.kla_fn "<lambda>" q params body scope cl pm cv ctv) ⟨[], []⟩ = pure [])
    (hbody : ∀ (A : Around) (outer : List Env) (s : Shared) (H : Hp) (E : XK) (f c' : Addr), Room k (A.deeper (lamEnv X scope s.heap.objs.size f c')) → PE (lamCx X A outer s H E scope f c') body (t E)) :
    PE X (.Call (.Name "_law_said" p) [.Lambda params body scope lpos] [] pos) (tLam [(PM, X.env.qual ++ "<lambda>")] (TSaid CB CT) t) := by
  obtain ⟨g, fd, mgS, F, hb⟩ := S.fn
  obtain ⟨fB, fT, CN, B, R, mN⟩ := S.er
  obtain ⟨oc, od, kV, doc, pm, an, cdv, ct, osl, rfl, lk, hcg⟩ := F.ex
  exact pe_lamcall hg mgS F.kp lk hcg hb sc__law_said rfl (.inl rfl) (said_gives B R mN S.bp S.tp S.xBB S.xTB S.xTT) TB hcode (List.mem_singleton.mpr rfl) (fun p hp _ => by rw [List.mem_singleton.mp hp]) hr L hdef hbind hbody
theorem tabs_lst {T : List (Addr × Str)} {H : Hp} {L : Addr} {xs ys : List V} (t : Tabs T H) (h : H L = some (.lst xs)) : Tabs T (upd H L (.lst ys)) := fun p hp => by
  obtain ⟨ps, h1, h2, h3⟩ := t p hp
  refine ⟨ps, by rw [upd_ne (ne_of h1 h (by intro z; cases z))]; exact h1, h2, fun pos cv hc => ?_⟩
  obtain ⟨c, e1, e2⟩ := h3 pos cv hc
  exact ⟨c, e1, by rw [upd_ne (ne_of e2 h (by unfold CodeO; intro z; cases z))]; exact e2⟩
theorem tabs_same {T : List (Addr × Str)} {H H' : Hp} (t : Tabs T H) (s : Same H H') : Tabs T H' := t.ext s
/-- nothing but a table stands at x -/
def Fr (H : Hp) (x : Addr) : Prop := ∀ o, NoT o → H x ≠ some o
theorem Fr.of {H H' : Hp} {x : Addr} (k : Kp H H') (n : H' x = none) : Fr H x := fun o z e => by
  rw [k x o z e] at n
  cases n
theorem Fr.ne {H : Hp} {x b : Addr} {o : HO} (h : Fr H x) (e : H b = some o) (z : NoT o) : b ≠ x := fun y => h o z (y ▸ e)
/-- all but the state and tables stays -/
structure ExK (s : Addr) (T : List (Addr × Str)) (H H' : Hp) : Prop where
  keep : ∀ b o, b ≠ s → NoT o → H b = some o → H' b = some o
  st : Stt H' s
  tb : Tabs T H'
theorem Stt.kp {s : Addr} {H H' : Hp} (h : Stt H s) (k : Kp H H') : Stt H' s := by
  obtain ⟨x, y, z, a, b⟩ := h
  exact ⟨x, y, z, k _ _ (noL _) a, b⟩
theorem ExK.trans {s : Addr} {T : List (Addr × Str)} {H H1 H2 : Hp} (a : ExK s T H H1) (b : ExK s T H1 H2) : ExK s T H H2 := ⟨fun x o n z e => b.keep x o n z (a.keep x o n z e), b.st, b.tb⟩
theorem ExK.ofKp {s : Addr} {T : List (Addr × Str)} {H H1 : Hp} (k : Kp H H1) (h : Stt H s) (t : Tabs T H1) : ExK s T H H1 := ⟨fun x o _ z e => k x o z e, h.kp k, t⟩
theorem ExK.ofExt {s : Addr} {T : List (Addr × Str)} {H H1 : Hp} (x : Ext s H H1) (t : Tabs T H1) : ExK s T H H1 := ⟨fun b o n _ e => x.keep b o n e, x.st, t⟩
theorem ExK.kp {s : Addr} {T : List (Addr × Str)} {H H1 H2 : Hp} (a : ExK s T H H1) (k : Kp H1 H2) (t : Tabs T H2) : ExK s T H H2 := a.trans (.ofKp k a.st t)
theorem tabs_ext {s : Addr} {T : List (Addr × Str)} {H H' : Hp} (t : Tabs T H) (h : Stt H s) (x : Ext s H H') : Tabs T H' := fun p hp => by
  obtain ⟨ps, h1, h2, h3⟩ := t p hp
  obtain ⟨u, v, w, q, _⟩ := h
  refine ⟨ps, x.keep _ _ (ne_of h1 q (by intro z; cases z)) h1, h2, fun pos cv hc => ?_⟩
  obtain ⟨c, e1, e2⟩ := h3 pos cv hc
  exact ⟨c, e1, x.keep _ _ (ne_of e2 q (by unfold CodeO; intro z; cases z)) e2⟩
theorem new_at {H : Hp} {l : Addr} {o : HO} (_ : H l = none) : upd H l o l = some o := upd_same
theorem new_at2 {H : Hp} {l : Addr} {o o2 : HO} (_ : H l = none) : upd (upd H l o) l o2 l = some o2 := upd_same
theorem same_new2 {H : Hp} {l : Addr} {o o2 : HO} (n : H l = none) : Same H (upd (upd H l o) l o2) := fun b u e => by
  rw [upd_ne (ne_of_none e n), upd_ne (ne_of_none e n)]
  exact e
/-- a new list of numbers up to hi -/
structure NewL (s : Addr) (hi : Int) (H H' : Hp) (p : Addr) (ns : List Int) : Prop where
  ex : Ext s H H'
  np : H p = none
  at_ : H' p = some (.lst (ns.map V.int))
  in_ : ∀ m ∈ ns, 0 ≤ m ∧ m ≤ hi
theorem mem_ints {v : V} {ms : List Int} (h : v ∈ ms.map V.int) : ∃ m, v = .int m ∧ m ∈ ms := by
  obtain ⟨m, h1, h2⟩ := List.mem_map.mp h
  exact ⟨m, h2.symm, h1⟩
/-- a draw out of a few numbers, the last one drawn itself -/
theorem map_snoc (ns : List Int) (m : Int) : ns.map V.int ++ [V.int m] = (ns ++ [m]).map V.int := by
  rw [List.map_append]
  rfl
theorem ext_lst {s p : Addr} {H H' : Hp} {xs : List V} (x : Ext s H H') (n : H p = none) (ps : p ≠ s) : Ext s H (upd H' p (.lst xs)) :=
  ⟨fun b o ne e => by rw [upd_ne (ne_of_none e n)]; exact x.keep b o ne e, by
    obtain ⟨a, b, c, d, r⟩ := x.st
    exact ⟨a, b, c, by rw [upd_ne ps.symm]; exact d, r⟩⟩
theorem ExK.lst {s r : Addr} {T : List (Addr × Str)} {H0 H : Hp} {xs ys : List V} (a : ExK s T H0 H) (e : H r = some (.lst xs)) (f : Fr H0 r) (rs : r ≠ s) : ExK s T H0 (upd H r (.lst ys)) :=
  ⟨fun b o n z q => by rw [upd_ne (f.ne q z)]; exact a.keep b o n z q, by
    obtain ⟨x, y, w, d, t⟩ := a.st
    exact ⟨x, y, w, by rw [upd_ne rs.symm]; exact d, t⟩, tabs_lst a.tb e⟩
theorem ExK.fr {s r : Addr} {T : List (Addr × Str)} {H0 H : Hp} (a : ExK s T H0 H) (n : H r = none) : Fr H0 r := fun o z e => by
  by_cases q : r = s
  · obtain ⟨x, y, w, d, t⟩ := a.st
    rw [← q, n] at d
    cases d
  · rw [a.keep r o q z e] at n
    cases n
theorem ExK.same {s : Addr} {T : List (Addr × Str)} {H0 H H1 : Hp} (a : ExK s T H0 H) (e : Same H H1) : ExK s T H0 H1 := a.kp (.of e) (tabs_same a.tb e)
theorem ExK.ext {s : Addr} {T : List (Addr × Str)} {H0 H H1 : Hp} (a : ExK s T H0 H) (e : Ext s H H1) : ExK s T H0 H1 := a.trans (.ofExt e (tabs_ext a.tb a.st e))
/-- nothing has moved: equal data are equal -/
theorem use_ne {K : PySem.W.Frag} {H : Hp} {x y : V} {d : PyData} {Q : VK} (hx : Dp K H x d) (hy : Dp K H y d) (c : d.canLay0 = true) (s : SeqAt.shaped d = true) (q : Q (.bl false) H) : rNeD K x y H Q := ⟨d, d, hx, hy, s, s, by rw [SeqAt.eqv_refl d c]; exact q⟩
theorem use_eq {K : PySem.W.Frag} {H : Hp} {x y : V} {d : PyData} {Q : VK} (hx : Dp K H x d) (hy : Dp K H y d) (c : d.canLay0 = true) (s : SeqAt.shaped d = true) (q : Q (.bl true) H) : rEqD K x y H Q := ⟨d, d, hx, hy, s, s, by rw [SeqAt.eqv_refl d c]; exact q⟩
theorem dp_ints {K : PySem.W.Frag} {H : Hp} : ∀ ns : List Int, DpAll K H (ns.map V.int) (ns.map PyData.int)
  | [] => .nil
  | n :: r => .cons (.int n) (dp_ints r)
theorem canAll : ∀ ns : List Int, PyData.canLayAll0 (ns.map PyData.int) = true
  | [] => rfl
  | n :: r => by
    show (true && PyData.canLayAll0 (r.map PyData.int)) = true
    rw [canAll r]
    rfl
theorem depthAll_ints : ∀ ns : List Int, PyData.depthAll (ns.map PyData.int) = 0
  | [] => rfl
  | n :: r => by
    show max 0 (PyData.depthAll (r.map PyData.int)) = 0
    rw [depthAll_ints r]
    rfl
/-- the data that are compared -/
def dTS (w z : Str) : PyData := .tuple [.str w, .str z]
def dTI (w : Str) (i : Int) : PyData := .tuple [.str w, .int i]
def dTL (w : Str) (ns : List Int) : PyData := .tuple [.str w, .list (ns.map PyData.int)]
theorem ok_lt {c : Nat} (h : okS c = true) : c < 128 := by
  unfold okS hd at h
  split at h
  · omega
  · split at h
    · omega
    · cases h
theorem strOk_of {z : Str} (h : ∀ c ∈ TL.tl z, okS c = true) : PyData.strOk z = true := by
  show z.cps.all _ = true
  rw [← Array.all_toList, List.all_eq_true]
  intro c hc
  have := ok_lt (h c hc)
  exact decide_eq_true (by omega)
theorem cTL {w : Str} (hw : PyData.strOk w = true) (ns : List Int) : (dTL w ns).canLay0 = true := by
  show (PyData.strOk w && (PyData.canLayAll0 (ns.map PyData.int) && true)) = true
  rw [canAll, hw]
  rfl
theorem sTL {w : Str} (hw : PyData.strOk w = true) (ns : List Int) : SeqAt.shaped (dTL w ns) = true := by
  show ((dTL w ns).canLay0 && decide (max 0 (max (PyData.depthAll (ns.map PyData.int) + 1) 0) + 1 ≤ 64)) = true
  rw [cTL hw, depthAll_ints]
  rfl
theorem cTS {w z : Str} (hw : PyData.strOk w = true) (hz : PyData.strOk z = true) : (dTS w z).canLay0 = true := by
  show (PyData.strOk w && (PyData.strOk z && true)) = true
  rw [hw, hz]
  rfl
theorem sTS {w z : Str} (hw : PyData.strOk w = true) (hz : PyData.strOk z = true) : SeqAt.shaped (dTS w z) = true := by
  show ((dTS w z).canLay0 && decide (max 0 (max 0 0) + 1 ≤ 64)) = true
  rw [cTS hw hz]
  rfl
theorem cTI {w : Str} (hw : PyData.strOk w = true) (i : Int) : (dTI w i).canLay0 = true := by
  show (PyData.strOk w && (true && true)) = true
  rw [hw]
  rfl
theorem sTI {w : Str} (hw : PyData.strOk w = true) (i : Int) : SeqAt.shaped (dTI w i) = true := by
  show ((dTI w i).canLay0 && decide (max 0 (max 0 0) + 1 ≤ 64)) = true
  rw [cTI hw]
  rfl
theorem shL (ns : List Int) : SeqAt.shaped (.list (ns.map PyData.int)) = true := by
  show (PyData.canLayAll0 (ns.map PyData.int) && decide (PyData.depthAll (ns.map PyData.int) + 1 ≤ 64)) = true
  rw [canAll, depthAll_ints]
  rfl
theorem hex_ok {ns : List Int} (hb : ∀ n ∈ ns, Byte n) : ∀ c ∈ TL.tl (hexS ns), okS c = true := fun c hc => by
  obtain ⟨d, e⟩ := hexL_ok hb (show c ∈ hexL ns from hc)
  unfold okS
  rw [e]
  rfl
theorem okT : PyData.strOk "told" = true := by decide +kernel
theorem okB : PyData.strOk "bytes" = true := by decide +kernel
theorem okX : PyData.strOk "text" = true := by decide +kernel
def odds (q1 q2 q3 : Addr) : List V := [.int (-1), .int 256, .non, .bl true, .bl false, .str "0", .ref q1, .ref q2, .ref q3, .int (10 ^ (20 : Int).toNat)]
theorem odd_pl {H : Hp} {q1 q2 q3 : Addr} {v : V} (h : v ∈ odds q1 q2 q3) (h1 : H q1 = some (.lst [.int 1])) (h2 : H q2 = some (.tup [])) (h3 : H q3 = some (.dK [])) : (∃ t, Pl H v t) ∧ bad v = true := by
  simp only [odds, List.mem_cons, List.mem_nil_iff, or_false] at h
  rcases h with rfl | rfl | rfl | rfl | rfl | rfl | rfl | rfl | rfl | rfl
  · exact ⟨⟨_, .int _⟩, by decide⟩
  · exact ⟨⟨_, .int _⟩, by decide⟩
  · exact ⟨⟨_, .non⟩, rfl⟩
  · exact ⟨⟨_, .bl _⟩, rfl⟩
  · exact ⟨⟨_, .bl _⟩, rfl⟩
  · exact ⟨⟨_, .str _⟩, rfl⟩
  · exact ⟨⟨_, .lst h1⟩, rfl⟩
  · exact ⟨⟨_, .tup h2⟩, rfl⟩
  · exact ⟨⟨_, .dk h3⟩, rfl⟩
  · exact ⟨⟨_, .int _⟩, by decide⟩
theorem cut_lo (xs : List V) (n : Nat) (h : n ≤ xs.length) : cutV xs none (some (n : Int)) = xs.take n := by
  unfold cutV
  rw [HT.sIx_nat, Nat.min_eq_left h]
  rfl
theorem cut_hi (xs : List V) (n : Nat) (h : n ≤ xs.length) : cutV xs (some (n : Int)) none = xs.drop n := by
  unfold cutV
  rw [HT.sIx_nat, Nat.min_eq_left h]
  exact List.take_of_length_le (by rw [List.length_drop]; exact Nat.le_refl _)
theorem find_odd {ns : List Int} {n : Nat} {v : V} {r : List V} (hb : ∀ m ∈ ns, Byte m) (hn : n ≤ ns.length) (hv : bad v = true) : ((ns.map V.int).take n ++ [v, .int 999] ++ r).findIdx? bad = some n := by
  have hl : ((ns.map V.int).take n).length = n := by
    rw [List.length_take, List.length_map]
    omega
  rw [List.findIdx?_eq_some_iff_getElem]
  refine ⟨by simp; omega, ?_, fun j hj => ?_⟩
  · have e : ((ns.map V.int).take n ++ [v, .int 999] ++ r)[n]? = some v := by
      rw [List.append_assoc, List.getElem?_append_right (by omega), hl, Nat.sub_self]
      rfl
    rw [(List.getElem?_eq_some_iff.mp e).2]
    exact hv
  · have hjn : j < ns.length := by omega
    have e : ((ns.map V.int).take n ++ [v, .int 999] ++ r)[j]? = some (V.int ns[j]) := by
      rw [List.append_assoc, List.getElem?_append_left (by omega), List.getElem?_take_of_lt hj, List.getElem?_map, List.getElem?_eq_getElem hjn]
      rfl
    rw [(List.getElem?_eq_some_iff.mp e).2]
    have b := hb _ (List.getElem_mem hjn)
    unfold Byte at b
    show ¬ (!(decide (0 ≤ ns[j]) && decide (ns[j] ≤ 255))) = true
    rw [decide_eq_true b.1, decide_eq_true (by omega : ns[j] ≤ 255)]
    decide
/-- pairs at an address -/
theorem dp_ts {K : PySem.W.Frag} {H : Hp} {t : Addr} {w z : Str} (h : H t = some (.tup [.str w, .str z])) : Dp K H (.ref t) (dTS w z) := .tup (SqT.of h) (.cons (.str _) (.cons (.str _) .nil))
theorem dp_ti {K : PySem.W.Frag} {H : Hp} {t : Addr} {w : Str} {i : Int} (h : H t = some (.tup [.str w, .int i])) : Dp K H (.ref t) (dTI w i) := .tup (SqT.of h) (.cons (.str _) (.cons (.int _) .nil))
theorem dp_tl {K : PySem.W.Frag} {H : Hp} {t r : Addr} {w : Str} {ns : List Int} (h : H t = some (.tup [.str w, .ref r])) (e : H r = some (.lst (ns.map V.int))) : Dp K H (.ref t) (dTL w ns) := .tup (SqT.of h) (.cons (.str _) (.cons (.lst (SqL.of e) (dp_ints ns)) .nil))
theorem pl_ints {H : Hp} (ns : List Int) : ∀ v ∈ ns.map V.int, ∃ t, Pl H v t := fun v hv => by
  obtain ⟨m, _, rfl⟩ := List.mem_map.mp hv
  exact ⟨_, .int m⟩
/-- side conditions; and the plain steps of a reading -/
local macro_rules | `(tactic| walk_at "sd") => `(tactic| first
  | assumption | decide | omega | exact b64 b01 | (show (0 : Int) < _; first | decide | omega) | exact ⟨by decide, by decide, by decide⟩ | exact ⟨by decide, by decide⟩ | exact ⟨by omega, by omega⟩
  | exact .inl ⟨by omega, by omega⟩ | exact .inr ⟨by omega, by omega⟩ | exact sz (by simp) | exact szl (by simp))
local macro_rules | `(tactic| walk_at "rd") => `(tactic| repeat (first
  | refine ⟨_, rfl, ?_⟩
  | refine ⟨_, _, rfl, rfl, ?_⟩
  | refine ⟨_, _, _, _, rfl, rfl, SqL.of (by first | assumption | exact upd_same), rfl, ?_⟩
  | refine .inl ⟨_, rfl, ?_⟩
  | refine .inr ⟨_, rfl, ?_⟩
  | refine ⟨_, _, _, _, rfl, rfl, (by first | assumption | exact upd_same), rfl, ?_⟩
  | refine And.intro (by walk_at "sd") ?_))
section
variable {P : Program} {w : World} {K : PySem.W.Frag} {mg : Str → Option Value} {base : Heap} {f : Addr} {fd : FuncData}
abbrev s__law_right : Stmt := top 24
theorem sc__law_right : FnScope ["_law_source_here", "_law_k", "_law_some", "_law_kept", "_law_turn", "_law_found", "_law_at", "_law_odd", "_law_fault", "_law_bad", "_law_due", "_law_handed", "_law_word", "_law_j"] ["_law_source_here"] (defScope s__law_right) := ⟨rfl, rfl, rfl, by decide +kernel, rfl, by decide +kernel, by decide +kernel⟩
def spRight (T : List (Addr × Str)) : Sp := fun vs H Q _ => ∃ s : Addr, vs = [.ref s] ∧ Stt H s ∧ Tabs T H ∧ ∀ H', ExK s T H H' → Q (.bl true) H'
theorem ok_right {co PM CB CT : Addr} (F : FunC K "_law_right" "_law_right" s__law_right f fd co) (T : Txt K mg) (TB : TabB base mg co PM) (S : SaidC K mg CB CT) (c_draw : Cal P w K mg base 1 "_law_draw" spDraw) (c_pick : Cal P w K mg base 2 "_law_pick" (spPick K)) (c_lhex : Cal P w K mg base 1 "_law_hex" (spLHex K)) (c_bent : Cal P w K mg base 3 "_law_bent" spBent)
    (c_hex_text : CalX P w K mg base 4 "hex_text" (spHexText K CB)) (c_read_hex : CalX P w K mg base 3 "read_hex" (spReadHex CT)) : FnOk P w K mg base (L2.CX P w) 8 f fd ["_law_source_here"] (spRight (tabM PM)) := by
  refine F.okX sc__law_right (fun vs H Q E h => ?_) (fun A outer st H vs Q E hr h => ?_)
  · obtain ⟨s, rfl, _⟩ := h
    rfl
  · obtain ⟨s, rfl, hs, tb, k⟩ := h
    refine ⟨_, (pss_cons (ps_for (passes_of rfl) rfl (pi_range1 (by rfl) T.z_range (pa_cons pe_int pa_nil)) (pg_name (i := 1) sc__law_right.nd rfl (Or.inl rfl))
      (pss_cons (ps_setLc (i := 2) (own := [("_law_j", 13)]) (g := (gName 13)) (by rfl) sc__law_right.nd rfl rfl (sw_true rfl rfl rfl (by decide +kernel)) (pi_range1 (by rfl) T.z_range (pa_cons (pe_c c_draw hr (by decide) (by rfl) (pa_cons (pv 0) (pa_cons pe_int pa_nil))) pa_nil)) (blkOk_by (N := ["_law_source_here", "_law_k", "_law_some", "_law_kept", "_law_turn", "_law_found", "_law_at", "_law_odd", "_law_fault", "_law_bad", "_law_due", "_law_handed", "_law_word", "_law_j"]) (sc := defScope s__law_right) (by decide +kernel)) (fun _ _ _ _ _ => (pg_name (i := 13) sc__law_right.nd rfl (Or.inl rfl))) (fun _ _ _ _ _ => pts_nil) (fun _ _ _ _ _ => (pe_c c_pick hr (by decide) (by rfl) (pa_cons (pv 0) (pa_cons (pe_lst (pa_cons pe_int (pa_cons pe_int (pa_cons pe_int (pa_cons pe_int (pa_cons (pe_c c_draw hr (by decide) (by rfl) (pa_cons (pv 0) (pa_cons pe_int pa_nil))) pa_nil)))))) pa_nil)))))
        (pss_cons (ps_asg (pe_tup (pa_cons (pe_c c_lhex hr (by decide) (by rfl) (pa_cons (pv 2) pa_nil)) (pa_cons (pe_callTy call_list_of (by rfl) T.z_list (by decide +kernel) (pa_cons (pv 2) pa_nil)) pa_nil))) (pg_tup rfl (pgs_cons (pg_name (i := 10) sc__law_right.nd rfl (Or.inr rfl)) (pgs_cons (pg_name (i := 3) sc__law_right.nd rfl (Or.inl rfl)) pgs_nil))))
        (pss_cons (ps_for (passes_of rfl) rfl (pi_tup (pe_tup (pa_cons (pv 2) (pa_cons (pe_callTy call_tuple_of (by rfl) T.z_tuple (by decide +kernel) (pa_cons (pv 2) pa_nil)) pa_nil)))) (pg_name (i := 11) sc__law_right.nd rfl (Or.inr rfl))
        (pss_one (ps_if (pt_cmpR (op_neD hr.units) (pe_said S (by rfl) TB rfl hr (lamS_by (sc := defScope s__law_right) (by decide +kernel)) rfl (fun _ _ _ _ _ => rfl) (fun A2 o2 s2 H2 E2 f2 c2 hr2 => pe_cX (takes_of rfl rfl rfl rfl) c_hex_text hr2 (by decide) (by rfl) (pa_cons (pv 11) pa_nil))) (pe_tup (pa_cons pe_str (pa_cons (pv 10) pa_nil))) (nomark _))
          (pss_one (ps_ret pe_bl))
          pss_nil)))
        (pss_cons (ps_for (passes_of rfl) rfl (pi_range1 (by rfl) T.z_range (pa_cons pe_int pa_nil)) (pg_name (i := 4) sc__law_right.nd rfl (Or.inl rfl))
        (pss_cons (ps_set (i := 5) sc__law_right.nd rfl (Or.inl rfl) (pe_said S (by rfl) TB rfl hr (lamS_by (sc := defScope s__law_right) (by decide +kernel)) rfl (fun _ _ _ _ _ => rfl) (fun A2 o2 s2 H2 E2 f2 c2 hr2 => pe_cX (takes_of rfl rfl rfl rfl) c_read_hex hr2 (by decide) (by rfl) (pa_cons (pv 10) pa_nil))))
          (pss_cons (ps_if (PW.pt (pw_or (pt_cmpR (op_neD hr.units) (pv 5) (pe_tup (pa_cons pe_str (pa_cons (pv 3) pa_nil))) (nomark _)) (pw_or1 (pt_not (pt_val (pe_callB call_isi (by rfl) T.z_isinstance (by decide +kernel) (pa_cons (pe_ix ix_tup (pv 5) pe_int (fun _ _ => rfl)) (pa_cons (pe_bltn (v := .ty "list") (u := .type "list") (by rfl) T.z_list (by decide +kernel) rfl) pa_nil))))))))
          (pss_one (ps_ret pe_bl))
          pss_nil)
          (pss_one (ps_expr (pe_bm PySem.F.plainAttrs_list PySem.F.slot_list_append PySem.F.type_list_append mt_append (pe_ix ix_tup (pv 5) pe_int (fun _ _ => rfl)) (pa_cons pe_int pa_nil)))))))
        (pss_cons (ps_set (i := 6) sc__law_right.nd rfl (Or.inl rfl) (pe_c c_draw hr (by decide) (by rfl) (pa_cons (pv 0) (pa_cons (pe_op op_add (pe_callB call_len_seq (by rfl) T.z_len PySem.boot_len (pa_cons (pv 2) pa_nil)) pe_int) pa_nil))))
        (pss_cons (ps_set (i := 7) sc__law_right.nd rfl (Or.inl rfl) (pe_c c_pick hr (by decide) (by rfl) (pa_cons (pv 0) (pa_cons (pe_lst (pa_cons (pe_un un_neg pe_int) (pa_cons pe_int (pa_cons pe_non (pa_cons pe_bl (pa_cons pe_bl (pa_cons pe_str (pa_cons (pe_lst (pa_cons pe_int pa_nil)) (pa_cons (pe_tup pa_nil) (pa_cons pe_dnewK (pa_cons (pe_op op_pow pe_int pe_int) pa_nil))))))))))) pa_nil))))
        (pss_cons (ps_set (i := 9) sc__law_right.nd rfl (Or.inr rfl) (pe_op op_catS (pe_op op_catS (pe_slice sl_list (pv 2) po_none (po_some (pv 6))) (pe_lst (pa_cons (pv 7) (pa_cons pe_int pa_nil)))) (pe_slice sl_list (pv 2) (po_some (pv 6)) po_none)))
        (pss_cons (ps_if (PW.pt (pw_or (pt_cmpR (op_neD hr.units) (pe_said S (by rfl) TB rfl hr (lamS_by (sc := defScope s__law_right) (by decide +kernel)) rfl (fun _ _ _ _ _ => rfl) (fun A2 o2 s2 H2 E2 f2 c2 hr2 => pe_cX (takes_of rfl rfl rfl rfl) c_hex_text hr2 (by decide) (by rfl) (pa_cons (pv 9) pa_nil))) (pe_tup (pa_cons pe_str (pa_cons (pv 6) pa_nil))) (nomark _)) (pw_or1 (pt_cmpR (op_neD hr.units) (pv 2) (pv 3) (nomark _)))))
        (pss_one (ps_ret pe_bl))
        pss_nil)
        (pss_cons (ps_asg (pe_c c_bent hr (by decide) (by rfl) (pa_cons (pv 0) (pa_cons (pv 10) pa_nil))) (pg_tup rfl (pgs_cons (pg_name (i := 12) sc__law_right.nd rfl (Or.inr rfl)) (pgs_cons (pg_name (i := 8) sc__law_right.nd rfl (Or.inl rfl)) pgs_nil))))
        (pss_one (ps_if (pt_cmpR (op_neD hr.units) (pe_said S (by rfl) TB rfl hr (lamS_by (sc := defScope s__law_right) (by decide +kernel)) rfl (fun _ _ _ _ _ => rfl) (fun A2 o2 s2 H2 E2 f2 c2 hr2 => pe_cX (takes_of rfl rfl rfl rfl) c_read_hex hr2 (by decide) (by rfl) (pa_cons (pv 12) pa_nil))) (pe_ifExp (pt_cmpR op_isN (pv 8) pe_non (nomark _)) (pe_tup (pa_cons pe_str (pa_cons (pv 3) pa_nil))) (pe_tup (pa_cons pe_str (pa_cons (pv 8) pa_nil)))) (nomark _))
        (pss_one (ps_ret pe_bl))
        pss_nil))))))))))))
      (pss_one (ps_ret (pe_and (pe_cmpR (op_eqD hr.units) (pe_said S (by rfl) TB rfl hr (lamS_by (sc := defScope s__law_right) (by decide +kernel)) rfl (fun _ _ _ _ _ => rfl) (fun A2 o2 s2 H2 E2 f2 c2 hr2 => pe_cX (takes_of rfl rfl rfl rfl) c_read_hex hr2 (by decide) (by rfl) (pa_cons pe_str pa_nil))) (pe_tup (pa_cons pe_str (pa_cons (pe_lst pa_nil) pa_nil))) (nomark _)) (pe_one (pe_cmpR op_eq (pe_cX (takes_of rfl rfl rfl rfl) c_hex_text hr (by decide) (by rfl) (pa_cons (pe_tup pa_nil) pa_nil)) pe_str (nomark _))))))), ?_⟩
    refine use_seq ?_
    refine ⟨8, rfl, by decide, by decide, ?_⟩
    refine for_it walk_range (fun i σ H' => ∃ o1 o2 o3 o4 o5 o6 o7 o8 o9 o10 o11 o12 o13 : Option V, σ = [some (.ref s), o1, o2, o3, o4, o5, o6, o7, o8, o9, o10, o11, o12, o13] ∧ ExK s (tabM PM) H H')
      ⟨none, none, none, none, none, none, none, none, none, none, none, none, none, rfl, ⟨fun _ _ _ _ e => e, hs, tb⟩⟩ (fun _ _ _ _ _ => trivial) ?_ ?_
    · rintro i x σ L0 L1 hi ⟨o1, o2, o3, o4, o5, o6, o7, o8, o9, o10, o11, o12, o13, rfl, X0⟩ ⟨rfl, rfl⟩
      refine use_seq ?_
      refine ⟨_, rfl, s, _, rfl, X0.st, by decide, by decide, fun G1 n x1 n0 n1 => ?_⟩
      refine ⟨n, rfl, by omega, by omega, fun D nD => ?_⟩
      have nDs : D ≠ s := x1.st.ne nD
      refine lc_it walk_range (fun i H' => ∃ ns : List Int, NewL s 255 G1 H' D ns ∧ ns.length = i) ⟨[], ⟨ext_lst (Ext.refl x1.st) nD nDs, nD, upd_same, fun m hm => absurd hm (by simp)⟩, rfl⟩ (fun _ _ _ _ => trivial) ?_ ?_
      · rintro i x W1 W2 li ⟨ns, h, hl⟩ ⟨rfl, rfl⟩
        refine ⟨rfl, _, rfl, ?_⟩
        refine ⟨_, rfl, s, _, rfl, h.ex.st, by decide, by decide, fun H1 d y1 d0 d1 => ?_⟩
        refine ⟨sz (by simp), fun l nl => ?_⟩
        refine ⟨s, l, _, rfl, y1.st.ex (same_new nl), y1.st.ne nl, SqL.of upd_same, by simp, by simp, fun H2 v y2 hv => ?_⟩
        have y3 := (y1.new nl).trans y2
        obtain ⟨m, rfl, hm⟩ := mem_ints (ms := [0, 255, 16, 15, d]) hv
        have b : 0 ≤ m ∧ m ≤ 255 := by
          simp only [List.mem_cons, List.mem_nil_iff, or_false] at hm
          rcases hm with rfl | rfl | rfl | rfl | rfl <;> first | decide | exact ⟨d0, by omega⟩
        refine ⟨_, y3.keep _ _ nDs h.at_, szl (by rw [List.length_map]; omega), ns ++ [m], ⟨ext_lst (h.ex.trans y3) nD nDs, nD, by rw [upd_same, map_snoc], fun q hq => ?_⟩, by rw [List.length_append, hl]; rfl⟩
        rcases List.mem_append.mp hq with z | z
        · exact h.in_ q z
        · rw [List.mem_singleton.mp z]
          exact b
      · rintro W ⟨ns, hN, hl⟩
        have nl60 : ns.length ≤ 60 := by omega
        have hb : ∀ m ∈ ns, Byte m := fun m q => by
          have := hN.in_ m q
          unfold Byte
          omega
        have X1 := (X0.ext x1).ext hN.ex
        dsimp only
        refine use_seq ?_
        refine ⟨_, rfl, D, ns, rfl, SqL.of hN.at_, hb, by omega, fun W2 s2 => ?_⟩
        refine ⟨_, rfl, D, _, rfl, .inl (SqL.of (s2 _ _ hN.at_)), fun q nq => ⟨sz (by simp), fun t nt => ?_⟩⟩
        refine ⟨t, _, rfl, .inl (.inl upd_same), rfl, _, _, rfl, _, _, rfl, rfl, ?_⟩
        generalize hL2 : upd (upd W2 q (.lst (ns.map V.int))) t (.tup [.str (hexS ns), .ref q]) = L2
        have m1 := same_new (o := .lst (ns.map V.int)) nq
        have m2 := same_new (o := .tup [.str (hexS ns), .ref q]) nt
        have sL : Same W L2 := by
          rw [← hL2]
          exact (s2.trans m1).trans m2
        have pD : L2 D = some (.lst (ns.map V.int)) := sL _ _ hN.at_
        have pq : L2 q = some (.lst (ns.map V.int)) := by
          rw [← hL2]
          exact m2 _ _ upd_same
        have qs : q ≠ s := (X1.same s2).st.ne nq
        have X2 := X1.same sL
        clear hL2 m1 m2
        dsimp only
        refine use_seq ?_
        refine ⟨_, rfl, _, rfl, D, _, rfl, .inl ⟨SqL.of pD, fun p2 np2 => ⟨sz (by simp), fun t2 nt2 => ?_⟩⟩⟩
        generalize hL3 : upd (upd L2 p2 (.tup (ns.map V.int))) t2 (.tup [.ref D, .ref p2]) = L3
        have m1 := same_new (o := .tup (ns.map V.int)) np2
        have m2 := same_new (o := .tup [.ref D, .ref p2]) nt2
        have sL3 : Same L2 L3 := by
          rw [← hL3]
          exact m1.trans m2
        have pp2 : L3 p2 = some (.tup (ns.map V.int)) := by
          rw [← hL3]
          exact m2 _ _ upd_same
        have pt2 : L3 t2 = some (.tup [.ref D, .ref p2]) := by
          rw [← hL3]
          exact upd_same
        have X3 := X2.same sL3
        clear hL3 m1 m2
        refine ⟨t2, rfl, ⟨_, SqT.of pt2⟩, ?_⟩
        refine for_it (walk_tup (K := K) (a := t2) (xs := [.ref D, .ref p2])) (fun i σ H' => ∃ o1 o4 o5 o6 o7 o8 o9 o11 o12 o13 : Option V, σ = [some (.ref s), o1, some (.ref D), some (.ref q), o4, o5, o6, o7, o8, o9, some (.str (hexS ns)), o11, o12, o13] ∧ ExK s (tabM PM) L3 H')
          ⟨_, _, _, _, _, _, _, _, _, _, rfl, ⟨fun _ _ _ _ e => e, X3.st, X3.tb⟩⟩ (fun _ _ _ _ ⟨_, _, _, _, _, _, _, _, _, _, _, Y⟩ => SqT.of (Y.keep _ _ (X2.same (same_new np2) |>.st.ne nt2) (noTu _) pt2)) ?_ ?_
        · rintro i2 x σ W3 W4 hi2 ⟨o1, o4, o5, o6, o7, o8, o9, o11, o12, o13, rfl, Y⟩ ⟨rfl, hx⟩
          have p2s : p2 ≠ s := X2.st.ne np2
          have hsq : ∃ a : Addr, x = .ref a ∧ ∀ H1, (∀ b o, b ≠ s → NoT o → L3 b = some o → H1 b = some o) → SqL K H1 a (ns.map V.int) ∨ SqT K H1 a (ns.map V.int) := by
            have i01 : i2 = 0 ∨ i2 = 1 := by
              have : i2 < 2 := hi2
              omega
            rcases i01 with rfl | rfl
            · exact ⟨D, (Option.some.inj hx).symm, fun H1 e => .inl (SqL.of (e _ _ nDs (noL _) (sL3 _ _ pD)))⟩
            · exact ⟨p2, (Option.some.inj hx).symm, fun H1 e => .inr (SqT.of (e _ _ p2s (noTu _) pp2))⟩
          obtain ⟨a, rfl, hsq⟩ := hsq
          refine ⟨Y.tb, fun H1 e1 t1 => ?_⟩
          have Y1 := Y.kp (.ofN e1) t1
          refine ⟨_, rfl, a, _, rfl, hsq H1 Y1.keep, pl_ints ns, by rw [List.length_map]; omega, .inr ⟨ns, rfl, hb, fun H2 s2 => ⟨sz (by simp), fun u nu => ?_⟩⟩⟩
          have Y2 := (Y1.same s2).same (same_new (o := .tup [V.str "told", V.str (hexS ns)]) nu)
          refine ⟨_, rfl, sz (by simp), fun v nv => ?_⟩
          have e5 := same_new (o := .tup [V.str "told", V.str (hexS ns)]) nv _ _ (upd_same (H := H2) (a := u) (o := .tup [V.str "told", V.str (hexS ns)]))
          have Y3 := Y2.same (same_new (o := .tup [V.str "told", V.str (hexS ns)]) nv)
          have zz := strOk_of (hex_ok hb)
          refine use_ne (dp_ts e5) (dp_ts upd_same) (cTS okT zz) (sTS okT zz) ⟨_, rfl, ifF rfl (use_next ?_)⟩
          exact ⟨_, _, _, _, _, _, _, _, _, _, rfl, Y3⟩
        rintro σ W3 ⟨o1, o4, o5, o6, o7, o8, o9, o11, o12, o13, rfl, Y⟩
        have pD := Y.keep _ _ nDs (noL _) (sL3 _ _ pD)
        have pq := Y.keep _ _ qs (noL _) (sL3 _ _ pq)
        have X4 := X3.trans Y
        clear Y X3
        dsimp only
        refine use_seq ?_
        refine ⟨2, rfl, by decide, by decide, ?_⟩
        refine for_it walk_range (fun i σ H' => ∃ o1 o4 o5 o6 o7 o8 o9 o11 o12 o13 : Option V, σ = [some (.ref s), o1, some (.ref D), some (.ref q), o4, o5, o6, o7, o8, o9, some (.str (hexS ns)), o11, o12, o13] ∧ ExK s (tabM PM) W3 H')
          ⟨_, _, _, _, _, _, _, _, _, _, rfl, ⟨fun _ _ _ _ e => e, X4.st, X4.tb⟩⟩ (fun _ _ _ _ _ => trivial) ?_ ?_
        · rintro i2 x σ W5 W4 hi2 ⟨o1, o4, o5, o6, o7, o8, o9, o11, o12, o13, rfl, Y⟩ ⟨rfl, rfl⟩
          refine use_seq ?_
          refine ⟨Y.tb, fun H1 e1 t1 => ?_⟩
          have Y1 := Y.kp (.ofN e1) t1
          have hlen : (hexS ns).length ≤ 1000 := by
            rw [hexS_len]
            omega
          refine ⟨_, rfl, hexS ns, rfl, hlen, .inr ⟨digs ns, hexL_hd hb, .inr ⟨by rw [hexS_len]; omega, fun H2 r nr s2 er => ⟨sz (by simp), fun u nu => ?_⟩⟩⟩⟩
          rw [dec_digs hb] at er
          have rs : r ≠ s := Y1.st.ne nr
          have fr := Y1.fr nr
          have e6 := same_new (o := .tup [V.str "told", V.ref r]) nu
          have Y2 := (Y1.same s2).same e6
          have er2 := e6 _ _ er
          have eu : upd H2 u (.tup [V.str "told", V.ref r]) u = some (.tup [V.str "told", V.ref r]) := upd_same
          generalize upd H2 u (.tup [V.str "told", V.ref r]) = H3 at Y2 er2 eu ⊢
          dsimp only
          refine use_seq ?_
          refine ⟨_, rfl, _, rfl, sz (by simp), fun v nv => ?_⟩
          have e7 := same_new (o := .tup [V.str "told", V.ref q]) nv
          have Y3 := Y2.same e7
          refine use_ne (dp_tl (e7 _ _ eu) (e7 _ _ er2)) (dp_tl upd_same (e7 _ _ (Y2.keep _ _ qs (noL _) pq))) (cTL okT ns) (sTL okT ns) ⟨_, rfl, ?_⟩
          refine ifF rfl ?_
          refine ⟨_, rfl, u, _, 1, _, rfl, rfl, SqT.of (e7 _ _ eu), rfl, _, _, _, _, true, rfl, .ty _, (Pl.lst (e7 _ _ er2)).ty, kit_ty (a := "list") (b := "list") (by decide +kernel), true, rfl, ifF rfl ?_⟩
          refine use_next ?_
          dsimp only
          have er3 := e7 _ _ er2
          have eu3 := e7 _ _ eu
          generalize upd H3 v (.tup [V.str "told", V.ref q]) = H4 at Y3 er3 eu3 ⊢
          refine ⟨_, rfl, u, _, 1, _, rfl, rfl, SqT.of eu3, rfl, .inl ⟨rfl, _, SqL.of er3⟩, r, _, _, rfl, rfl, er3, szl (by rw [List.length_map]; omega), ?_⟩
          exact ⟨_, _, _, _, _, _, _, _, _, _, rfl, Y3.lst er3 fr rs⟩
        rintro σ W5 ⟨o1, o4, o5, o6, o7, o8, o9, o11, o12, o13, rfl, Y⟩
        have pD := Y.keep _ _ nDs (noL _) pD
        have pq := Y.keep _ _ qs (noL _) pq
        have X5 := X4.trans Y
        clear Y X4
        dsimp only
        refine use_seq ?_
        -- at
        refine ⟨_, rfl, _, rfl, D, _, rfl, .inl (SqL.of pD), _, _, rfl, rfl, s, _, rfl, X5.st, by omega, by rw [List.length_map]; omega, fun G2 a y1 a0 a1 => ?_⟩
        rw [List.length_map] at a1
        obtain ⟨n2, rfl⟩ := Int.eq_ofNat_of_zero_le a0
        have n2l : n2 ≤ ns.length := by omega
        have X6 := X5.ext y1
        have pD := y1.keep _ _ nDs pD
        have pq := y1.keep _ _ qs pq
        dsimp only
        refine use_seq ?_
        -- odd
        refine ⟨_, rfl, _, rfl, sz (by simp), fun q1 m1 => ⟨sz (by simp), fun q2 m2 => fun q3 m3 => ⟨_, _, rfl, rfl, ⟨by decide, by decide, by decide⟩, sz (by simp), fun l nl => ?_⟩⟩⟩
        have k1 := same_new (o := .lst [V.int 1]) m1
        have k2 := same_new (o := .tup []) m2
        have k3 := same_new (o := .dK []) m3
        have k4 := same_new (o := .lst (odds q1 q2 q3)) nl
        have X7 := (((X6.same k1).same k2).same k3).same k4
        have q1s : q1 ≠ s := X6.st.ne m1
        have q2s : q2 ≠ s := (X6.same k1).st.ne m2
        have q3s : q3 ≠ s := ((X6.same k1).same k2).st.ne m3
        have ls : l ≠ s := (((X6.same k1).same k2).same k3).st.ne nl
        refine ⟨s, l, _, rfl, X7.st, ls, SqL.of upd_same, (by show 0 < 10; decide), (by show 10 ≤ 1000; decide), fun G4 v y2 hv => ?_⟩
        have hodd := odd_pl (H := G4) (show v ∈ odds q1 q2 q3 from hv) (y2.keep _ _ q1s (k4 _ _ (k3 _ _ (k2 _ _ upd_same)))) (y2.keep _ _ q2s (k4 _ _ (k3 _ _ upd_same))) (y2.keep _ _ q3s (k4 _ _ upd_same))
        have X8 := X7.ext y2
        have pD := y2.keep _ _ nDs (k4 _ _ (k3 _ _ (k2 _ _ (k1 _ _ pD))))
        have pq := y2.keep _ _ qs (k4 _ _ (k3 _ _ (k2 _ _ (k1 _ _ pq))))
        clear hv y2 k1 k2 k3 k4 X7 X6
        dsimp only
        refine use_seq ?_
        -- bad
        refine ⟨_, rfl, _, rfl, _, rfl, D, _, rfl, SqL.of pD, fun p4 np4 => ?_⟩
        rw [cut_lo _ n2 (by rw [List.length_map]; exact n2l)]
        have j1 := same_new (o := .lst ((ns.map V.int).take n2)) np4
        refine ⟨_, rfl, sz (by simp), fun p5 np5 => ?_⟩
        have j2 := same_new (o := .lst [v, V.int 999]) np5
        refine ⟨p4, p5, _, _, rfl, rfl, SqL.of (j2 _ _ upd_same), SqL.of upd_same, sz (by simp; omega), fun p6 np6 => ?_⟩
        have j3 := same_new (o := .lst ((ns.map V.int).take n2 ++ [v, V.int 999])) np6
        refine ⟨_, rfl, _, rfl, _, rfl, D, _, rfl, SqL.of (j3 _ _ (j2 _ _ (j1 _ _ pD))), fun p7 np7 => ?_⟩
        rw [cut_hi _ n2 (by rw [List.length_map]; exact n2l)]
        have j4 := same_new (o := .lst ((ns.map V.int).drop n2)) np7
        refine ⟨p6, p7, _, _, rfl, rfl, SqL.of (j4 _ _ upd_same), SqL.of upd_same, sz (by simp; omega), fun p8 np8 => ?_⟩
        have j5 := same_new (o := .lst ((ns.map V.int).take n2 ++ [v, V.int 999] ++ (ns.map V.int).drop n2)) np8
        have j := (((j1.trans j2).trans j3).trans j4).trans j5
        have X9 := X8.same j
        have p8s : p8 ≠ s := (X8.same (((j1.trans j2).trans j3).trans j4)).st.ne np8
        have pB := upd_same (H := upd (upd (upd (upd G4 p4 (.lst ((ns.map V.int).take n2))) p5 (.lst [v, V.int 999])) p6 (.lst ((ns.map V.int).take n2 ++ [v, V.int 999]))) p7 (.lst ((ns.map V.int).drop n2))) (a := p8) (o := .lst ((ns.map V.int).take n2 ++ [v, V.int 999] ++ (ns.map V.int).drop n2))
        have pD := j _ _ pD
        have pq := j _ _ pq
        have hvp : ∃ t, Pl (upd (upd (upd (upd (upd G4 p4 (.lst ((ns.map V.int).take n2))) p5 (.lst [v, V.int 999])) p6 (.lst ((ns.map V.int).take n2 ++ [v, V.int 999]))) p7 (.lst ((ns.map V.int).drop n2))) p8 (.lst ((ns.map V.int).take n2 ++ [v, V.int 999] ++ (ns.map V.int).drop n2))) v t := hodd.1.imp fun t p => p.kp (.of j)
        have vbad := hodd.2
        generalize upd (upd (upd (upd (upd G4 p4 (.lst ((ns.map V.int).take n2))) p5 (.lst [v, V.int 999])) p6 (.lst ((ns.map V.int).take n2 ++ [v, V.int 999]))) p7 (.lst ((ns.map V.int).drop n2))) p8 (.lst ((ns.map V.int).take n2 ++ [v, V.int 999] ++ (ns.map V.int).drop n2)) = G5 at X9 pB pD pq hvp ⊢
        clear j j1 j2 j3 j4 j5 X8 hodd
        dsimp only
        refine use_seq ?_
        -- said(hex_text(bad)) != ("bytes", at) or some != kept
        refine ⟨X9.tb, fun H1 e1 t1 => ?_⟩
        have Y1 := X9.kp (.ofN e1) t1
        have pB1 := e1 _ _ pB (noL _)
        have pl1 : ∀ y ∈ (ns.map V.int).take n2 ++ [v, V.int 999] ++ (ns.map V.int).drop n2, ∃ t, Pl H1 y t := fun y hy => by
          rcases List.mem_append.mp hy with hy | hy
          · rcases List.mem_append.mp hy with hy | hy
            · exact pl_ints ns y (List.mem_of_mem_take hy)
            · rcases List.mem_cons.mp hy with rfl | hy
              · exact hvp.imp fun t p => p.kp (.ofN e1)
              · rw [List.mem_singleton.mp hy]
                exact ⟨_, .int 999⟩
          · exact pl_ints ns y (List.mem_of_mem_drop hy)
        refine ⟨_, rfl, p8, _, rfl, .inl (SqL.of pB1), pl1, by simp; omega, .inl ⟨n2, find_odd hb n2l vbad, fun H2 d s2 ed => ?_⟩⟩
        refine ⟨(n2 : Int), d, "bytes", rfl, ed, .inl ⟨rfl, rfl⟩, fun H3 t s3 et nt => ?_⟩
        have Y2 := (Y1.same s2).same s3
        refine ⟨_, rfl, sz (by simp), fun u nu => ?_⟩
        have e7 := same_new (o := .tup [V.str "bytes", V.int (n2 : Int)]) nu
        have Y3 := Y2.same e7
        refine use_ne (dp_ti (e7 _ _ et)) (dp_ti upd_same) (cTI okB _) (sTI okB _) ⟨_, rfl, ifF rfl ?_⟩
        have pD := e7 _ _ (s3 _ _ (s2 _ _ (e1 _ _ pD (noL _))))
        have pq := e7 _ _ (s3 _ _ (s2 _ _ (e1 _ _ pq (noL _))))
        refine ⟨_, rfl, _, rfl, use_ne (.lst (SqL.of pD) (dp_ints ns)) (.lst (SqL.of pq) (dp_ints ns)) (canAll ns) (shL ns) ⟨_, rfl, ifF rfl (use_next ?_)⟩⟩
        generalize upd H3 u (.tup [V.str "bytes", V.int (n2 : Int)]) = G6 at Y3 pD pq ⊢
        clear Y2 Y1 X9 e7 pl1 pB1 pB hvp
        dsimp only
        refine use_seq ?_
        -- word, fault = bent(source, due)
        refine ⟨_, rfl, _, rfl, s, hexS ns, rfl, Y3.st, by rw [hexS_len]; omega, by rw [hexS_len]; omega, hex_ok hb, fun G7 t2 w2 v2 y7 et2 hbent => ?_⟩
        refine ⟨t2, _, rfl, .inl (.inl et2), rfl, _, _, rfl, _, _, rfl, rfl, ?_⟩
        have Z := Y3.ext y7
        have pq := y7.keep _ _ qs pq
        dsimp only
        -- said(read_hex(word)) != ..
        refine ⟨Z.tb, fun H1 e1 t1 => ?_⟩
        have Z1 := Z.kp (.ofN e1) t1
        have pq1 := e1 _ _ pq (noL _)
        have hexlen : (hexS ns).length ≤ 120 := by
          rw [hexS_len]
          omega
        cases hbent with
        | @sign w3 i3 hf hl3 =>
          refine ⟨_, rfl, w2, rfl, by omega, .inl ⟨i3, hf, fun H2 d s2 ed => ?_⟩⟩
          refine ⟨(i3 : Int), d, "text", rfl, ed, .inr ⟨rfl, rfl⟩, fun H3 t s3 et nt => ?_⟩
          have Z2 := (Z1.same s2).same s3
          refine ⟨_, rfl, rfl, _, rfl, ifF rfl ?_⟩
          refine ⟨_, rfl, sz (by simp), fun u nu => ?_⟩
          have e7 := same_new (o := .tup [V.str "text", V.int (i3 : Int)]) nu
          refine use_ne (dp_ti (e7 _ _ et)) (dp_ti upd_same) (cTI okX _) (sTI okX _) ⟨_, rfl, ifF rfl (use_next ?_)⟩
          exact ⟨_, _, _, _, _, _, _, _, _, _, _, _, _, rfl, Z2.same e7⟩
        | @odd w3 hok ho hl3 =>
          obtain ⟨ds, hds⟩ := all_hd (cs := TL.tl w2) fun c hc => by
            have z := hok c hc
            unfold okS at z
            exact Option.isSome_iff_exists.mp z
          refine ⟨_, rfl, w2, rfl, by omega, .inr ⟨ds, hds, .inl ⟨ho, fun H2 d s2 ed => ?_⟩⟩⟩
          refine ⟨(w2.length : Int), d, "text", rfl, ed, .inr ⟨rfl, rfl⟩, fun H3 t s3 et nt => ?_⟩
          have Z2 := (Z1.same s2).same s3
          refine ⟨_, rfl, rfl, _, rfl, ifF rfl ?_⟩
          refine ⟨_, rfl, sz (by simp), fun u nu => ?_⟩
          have e7 := same_new (o := .tup [V.str "text", V.int (w2.length : Int)]) nu
          refine use_ne (dp_ti (e7 _ _ et)) (dp_ti upd_same) (cTI okX _) (sTI okX _) ⟨_, rfl, ifF rfl (use_next ?_)⟩
          exact ⟨_, _, _, _, _, _, _, _, _, _, _, _, _, rfl, Z2.same e7⟩
        | same =>
          refine ⟨_, rfl, hexS ns, rfl, by omega, .inr ⟨digs ns, hexL_hd hb, .inr ⟨by rw [hexS_len]; omega, fun H2 r nr s2 er => ⟨sz (by simp), fun u nu => ?_⟩⟩⟩⟩
          rw [dec_digs hb] at er
          have e6 := same_new (o := .tup [V.str "told", V.ref r]) nu
          have Z2 := (Z1.same s2).same e6
          have eu := upd_same (H := H2) (a := u) (o := .tup [V.str "told", V.ref r])
          refine ⟨_, rfl, rfl, _, rfl, ifT rfl ?_⟩
          refine ⟨_, rfl, sz (by simp), fun u2 nu2 => ?_⟩
          have e7 := same_new (o := .tup [V.str "told", V.ref q]) nu2
          refine use_ne (dp_tl (e7 _ _ eu) (e7 _ _ (e6 _ _ er))) (dp_tl upd_same (e7 _ _ (e6 _ _ (s2 _ _ pq1)))) (cTL okT ns) (sTL okT ns) ⟨_, rfl, ifF rfl (use_next ?_)⟩
          exact ⟨_, _, _, _, _, _, _, _, _, _, _, _, _, rfl, Z2.same e7⟩
    · rintro σ L0 ⟨o1, o2, o3, o4, o5, o6, o7, o8, o9, o10, o11, o12, o13, rfl, X0⟩
      dsimp only
      refine ⟨X0.tb, fun H1 e1 t1 => ?_⟩
      have Z1 := X0.kp (.ofN e1) t1
      refine ⟨Str.ofString "", rfl, by decide, .inr ⟨[], rfl, .inr ⟨by decide, fun H2 r nr s2 er => ⟨sz (by simp), fun u nu => ?_⟩⟩⟩⟩
      have e6 := same_new (o := .tup [V.str "told", V.ref r]) nu
      have Z2 := (Z1.same s2).same e6
      have eu := upd_same (H := H2) (a := u) (o := .tup [V.str "told", V.ref r])
      refine ⟨sz (by simp), fun l nl => ⟨sz (by simp), fun u2 nu2 => ?_⟩⟩
      have e7 := same_new (o := .lst []) nl
      have e8 := same_new (o := .tup [V.str "told", V.ref l]) nu2
      refine use_eq (d := dTL "told" []) (dp_tl (e8 _ _ (e7 _ _ eu)) (e8 _ _ (e7 _ _ (e6 _ _ er)))) (dp_tl upd_same (e8 _ _ upd_same)) (cTL okT []) (sTL okT []) ⟨_, rfl, ifT rfl ?_⟩
      have Z3 := (Z2.same e7).same e8
      refine ⟨sz (by simp), fun p0 np0 => ?_⟩
      refine ⟨p0, [], rfl, .inr (SqT.of upd_same), (fun v h => nomatch h), Nat.zero_le _, .inr ⟨[], rfl, (fun n h => nomatch h), fun H3 s3 => ⟨rfl, ?_⟩⟩⟩
      have q := k H3 ((Z3.same (same_new (o := .tup []) np0)).same s3)
      have e9 : decide (V.str (hexS []) = V.str (Str.ofString "")) = true := by decide
      rw [e9]
      exact q
/-- the law: every script -/
def spLaw (K : PySem.W.Frag) (T : List (Addr × Str)) : Sp := fun vs H Q _ => ∃ (a : Addr) (ns : List Int), vs = [.ref a] ∧ SqL K H a (ns.map V.int) ∧ ns.length ≤ 63 ∧ Tabs T H ∧ ∀ H', Q (.bl true) H'
theorem cut_ints2 (ms : List Int) (lo hi : Option Int) : ∃ ks : List Int, cutV (ms.map V.int) lo hi = ks.map V.int := by
  refine ⟨(ms.drop (HT.sIx (ms.map V.int).length 0 lo)).take (HT.sIx (ms.map V.int).length (ms.map V.int).length hi - HT.sIx (ms.map V.int).length 0 lo), ?_⟩
  unfold cutV
  rw [List.map_take, List.map_drop]
abbrev s_law : Stmt := top 25
theorem sc_law : FnScope ["_law_script", "_law_cell", "_law_source_here"] ["_law_script"] (defScope s_law) := ⟨rfl, rfl, rfl, by decide +kernel, rfl, by decide +kernel, by decide +kernel⟩
theorem ok_law (F : Fun K "law" "law" s_law f fd) (T : Txt K mg) {T0 : List (Addr × Str)} (c_source : Cal P w K mg base 1 "_law_source" spSource) (c_right : CalX P w K mg base 8 "_law_right" (spRight T0)) : FnOk P w K mg base CX0 9 f fd ["_law_script"] (spLaw K T0) := by
  refine F.ok sc_law (fun vs H Q E h => ?_) (fun cdv A outer st H vs Q E hr h => ?_)
  · obtain ⟨a, ns, rfl, _⟩ := h
    rfl
  · obtain ⟨a, ns, rfl, hs, hl, tb, k⟩ := h
    refine ⟨_, (pss_cons (ps_for PassesOwn.never rfl (pi_list (pe_slice sl_list (pe_op op_catS (pv 0) (pe_lst (pa_cons pe_int pa_nil))) po_none (po_some pe_int))) (pg_name (i := 1) sc_law.nd rfl (Or.inl rfl))
      (pss_cons (ps_set (i := 2) sc_law.nd rfl (Or.inl rfl) (pe_c c_source hr (by decide) (by rfl) (pa_cons (pv 1) pa_nil)))
        (pss_one (ps_if (pt_not (pt_val (pe_cX L2.takes0 c_right hr (by decide) (by rfl) (pa_cons (pv 2) pa_nil))))
        (pss_one (ps_ret pe_bl))
        pss_nil))))
      (pss_one (ps_ret pe_bl))), ?_⟩
    refine use_seq ?_
    refine ⟨_, rfl, sz (by simp), fun l1 n1 => ⟨a, l1, _, _, rfl, rfl, (same_new n1).seq hs, SqL.of upd_same, sz (by rw [List.length_map]; simp; omega), fun l2 n2 => ⟨_, rfl, l2, _, rfl, SqL.of upd_same, fun u nu => ?_⟩⟩⟩
    have e1 : ns.map V.int ++ [V.int 0] = (ns ++ [0]).map V.int := map_snoc ns 0
    rw [e1] at nu ⊢
    obtain ⟨ks, ek⟩ := cut_ints2 (ns ++ [0]) none (some 4)
    rw [ek]
    have S0 := ((same_new (o := .lst [V.int 0]) n1).trans (same_new (o := .lst ((ns ++ [0]).map V.int)) n2)).trans (same_new (o := .lst (ks.map V.int)) nu)
    refine ⟨u, rfl, ⟨_, SqL.of upd_same⟩, ?_⟩
    refine for_it (walk_list (K := K) (a := u) (xs := ks.map V.int)) (fun _ σ G => ∃ o1 o2 : Option V, σ = [some (.ref a), o1, o2] ∧ Tabs T0 G ∧ G u = some (.lst (ks.map V.int))) ⟨none, none, rfl, tabs_same tb S0, upd_same⟩ (fun _ _ _ _ ⟨_, _, _, _, h⟩ => SqL.of h) ?_ ?_
    · rintro i x σ G0 G1 hi ⟨o1, o2, rfl, tb1, hu⟩ ⟨rfl, hx⟩
      obtain ⟨n, rfl, _⟩ := mem_ints (List.mem_of_getElem? hx)
      try dsimp only
      refine use_seq ?_
      refine ⟨_, rfl, n, rfl, fun G2 s ns2 s2 st2 => ?_⟩
      try dsimp only
      refine ⟨_, rfl, s, rfl, st2, tabs_same tb1 s2, fun G3 ex3 => ⟨_, rfl, ifF rfl ?_⟩⟩
      refine use_next ?_
      exact ⟨_, _, rfl, ex3.tb, ex3.keep _ _ (ne_of_none hu ns2) (noL _) (s2 _ _ hu)⟩
    · rintro σ G0 ⟨o1, o2, rfl, _, _⟩
      exact k _
end
end Q74


/-! the end -/
namespace Q74
open PySem PySem.Spec PyProof.Rows L2 QT LamX
theorem toG {P : Program} {w : World} {K : PySem.W.Frag} {mg : Str → Option Value} {base : Heap} {k : Nat} {f : Addr} {fd : FuncData} {ps : List Str} {sp : Sp} (F : FnOk P w K mg base CX0 k f fd ps sp) : FnOkG P w K mg base k f fd ps sp :=
  ⟨F.len, fun A outer s H args us vs Q E _ hr e0 hb r h => F.run A outer s H args us vs Q E hr e0 hb r h⟩
theorem exm_is {K : PySem.W.Frag} {c C : Addr} {b : Bool} (h1 : PySem.W.subIn K (.ref C) (.type "BaseException") = some true) (h2 : PySem.W.isClsIn K C = true) (h3 : PySem.W.typeIn K (.ref C) = some (.type "type")) (h4 : PySem.W.subIn K (.ref c) (.ref C) = some b) : PySem.W.exmOne K (.ref c) (.ref C) = some b := by
  have y1 : (PySem.W.subIn K (.ref C) (.type "BaseException") == some true) = true := by
    rw [h1]
    rfl
  have y2 : ((PySem.W.clsIn K C).isSome && PySem.W.typeIn K (.ref C) == some (.type "type")) = true := by
    have y3 : (PySem.W.clsIn K C).isSome = true := h2
    rw [y3, h3]
    rfl
  unfold PySem.W.exmOne PySem.W.kitCls
  rw [if_pos y1]
  dsimp only
  rw [if_pos y2]
  exact h4
theorem all_mk {l : PySem.W.OpenLaw} {ts : List Addr} {w : World} {K : PySem.W.Frag} {h : Heap} {mg : Str → Option Value} {fa coM PM DV fSo fDr fPi fHx fSa fBn fRi fLa fIn fBe fBw fCh fHe fHt fRh fNi fTi CB CT CN : Addr} (X : K.In h) (G : h.Ns mainGlobals mg) (hfa : mg "law" = some (.ref fa))
    {odSo anSo odDr anDr odPi anPi odHx anHx odSa anSa odBn anBn odRi anRi odLa anLa odIn anIn odBe anBe odBw anBw odCh anCh odHe anHe odHt anHt odRh anRh odNi anNi odTi anTi : Option Addr} {slSo slDr slPi slHx slSa slBn slRi slLa slIn slBe slBw slCh slHe slHt slRh slNi slTi : Array (Option Value)} {ocSo kVSo dcSo pmSo cdSo ctSo ocDr kVDr dcDr pmDr cdDr ctDr ocPi kVPi dcPi pmPi cdPi ctPi ocHx kVHx dcHx pmHx cdHx ctHx ocSa kVSa dcSa pmSa cdSa ctSa ocBn kVBn dcBn pmBn cdBn ctBn ocRi kVRi dcRi pmRi ctRi ocLa kVLa dcLa pmLa cdLa ctLa ocIn kVIn dcIn pmIn cdIn ctIn ocBe kVBe dcBe pmBe cdBe ctBe ocBw kVBw dcBw pmBw cdBw ctBw ocCh kVCh dcCh pmCh cdCh ctCh ocHe kVHe dcHe pmHe cdHe ctHe ocHt kVHt dcHt pmHt cdHt ctHt ocRh kVRh dcRh pmRh cdRh ctRh ocNi kVNi dcNi pmNi cdNi ctNi ocTi kVTi dcTi pmTi cdTi ctTi : Value}
    {tkHD : Tok}
    {nmB qB : Str} {NB : Addr} {bsB subB bmB : List Value} {snB : List Str} {abB : Bool} {colB : Option Bool} {ddB : Option Addr} {m0B m1B m2B m3B m5B : Option Value}
    {nmT qT : Str} {NT : Addr} {bsT subT bmT : List Value} {snT : List Str} {abT : Bool} {colT : Option Bool} {ddT : Option Addr} {m0T m1T m2T m3T m5T : Option Value}
    {tkGb : Tok}
    (gB : PySem.W.nsIn K mainGlobals "NoBytes" = some (some (.ref CB)))
    (xB : K.lookup CB = some (excClassObj nmB qB CB NB bsB bmB true snB subB abB colB ddB m0B m1B m2B m3B m5B "ValueError.__new__"))
    (rB : PySem.HandSPX.refsVE bmB = true)
    (saB : PySem.W.findIn K (.ref CB) "__setattr__" = some (some (.builtin "object.__setattr__")))
    (gaB : PySem.W.findIn K (.ref CB) "__getattribute__" = some (some (.builtin "BaseException.__getattribute__")))
    (ggB : PySem.W.findIn K (.ref CB) "__getattr__" = some none)
    (keB : PySem.W.keepIn K (.ref CB) = true)
    (beB : PySem.W.subIn K (.ref CB) (.type "BaseException") = some true)
    (tyB : PySem.W.typeIn K (.ref CB) = some (.type "type"))
    (hdB : PySem.W.hasDictIn K CB = true)
    (icB : PySem.W.isClsIn K CB = true)
    (nB_place : PySem.W.findIn K (.ref CB) "place" = some none)
    (gT : PySem.W.nsIn K mainGlobals "BadText" = some (some (.ref CT)))
    (xT : K.lookup CT = some (excClassObj nmT qT CT NT bsT bmT true snT subT abT colT ddT m0T m1T m2T m3T m5T "ValueError.__new__"))
    (rT : PySem.HandSPX.refsVE bmT = true)
    (saT : PySem.W.findIn K (.ref CT) "__setattr__" = some (some (.builtin "object.__setattr__")))
    (gaT : PySem.W.findIn K (.ref CT) "__getattribute__" = some (some (.builtin "BaseException.__getattribute__")))
    (ggT : PySem.W.findIn K (.ref CT) "__getattr__" = some none)
    (keT : PySem.W.keepIn K (.ref CT) = true)
    (beT : PySem.W.subIn K (.ref CT) (.type "BaseException") = some true)
    (tyT : PySem.W.typeIn K (.ref CT) = some (.type "type"))
    (hdT : PySem.W.hasDictIn K CT = true)
    (icT : PySem.W.isClsIn K CT = true)
    (nT_place : PySem.W.findIn K (.ref CT) "place" = some none)
    (suBB : PySem.W.subIn K (.ref CB) (.ref CB) = some true)
    (suTB : PySem.W.subIn K (.ref CT) (.ref CB) = some false)
    (suTT : PySem.W.subIn K (.ref CT) (.ref CT) = some true)
    (gN : PySem.W.nsIn K mainGlobals "NestError" = some (some (.ref CN)))
    (iGb : PySem.W.nsIn K mainGlobals "GREATEST_BYTE" = some (some (.int 255 tkGb)))
    (z_len : PySem.W.nsIn K mainGlobals "len" = some none)
    (z_abs : PySem.W.nsIn K mainGlobals "abs" = some none)
    (z_int : PySem.W.nsIn K mainGlobals "int" = some none)
    (z_bool : PySem.W.nsIn K mainGlobals "bool" = some none)
    (z_tuple : PySem.W.nsIn K mainGlobals "tuple" = some none)
    (z_list : PySem.W.nsIn K mainGlobals "list" = some none)
    (z_isinstance : PySem.W.nsIn K mainGlobals "isinstance" = some none)
    (z_all : PySem.W.nsIn K mainGlobals "all" = some none)
    (z_range : PySem.W.nsIn K mainGlobals "range" = some none)
    (z_enumerate : PySem.W.nsIn K mainGlobals "enumerate" = some none)
    (z_repr : PySem.W.nsIn K mainGlobals "repr" = some none)
    (z_min : PySem.W.nsIn K mainGlobals "min" = some none)
    (z_zip : PySem.W.nsIn K mainGlobals "zip" = some none)
    (z_max : PySem.W.nsIn K mainGlobals "max" = some none)
    (tM : PySem.W.tabIn K "_law_right" = some (coM, PM))
    (nM : K.lookup PM = none)
    (aSo : PySem.W.nsIn K mainGlobals "_law_source" = some (some (.ref fSo)))
    (lSo : K.lookup fSo = some ⟨ocSo, odSo, .func (PySem.W.fnOf "_law_source" "_law_source" (defArgs s__law_source) (defBody s__law_source) (defScope s__law_source) .none kVSo dcSo pmSo anSo cdSo ctSo), slSo⟩)
    (cSo : PySem.W.codeIn K cdSo "_law_source" = true)
    (kSo : PySem.W.keepIn K (.ref fSo) = true)
    (aDr : PySem.W.nsIn K mainGlobals "_law_draw" = some (some (.ref fDr)))
    (lDr : K.lookup fDr = some ⟨ocDr, odDr, .func (PySem.W.fnOf "_law_draw" "_law_draw" (defArgs s__law_draw) (defBody s__law_draw) (defScope s__law_draw) .none kVDr dcDr pmDr anDr cdDr ctDr), slDr⟩)
    (cDr : PySem.W.codeIn K cdDr "_law_draw" = true)
    (kDr : PySem.W.keepIn K (.ref fDr) = true)
    (aPi : PySem.W.nsIn K mainGlobals "_law_pick" = some (some (.ref fPi)))
    (lPi : K.lookup fPi = some ⟨ocPi, odPi, .func (PySem.W.fnOf "_law_pick" "_law_pick" (defArgs s__law_pick) (defBody s__law_pick) (defScope s__law_pick) .none kVPi dcPi pmPi anPi cdPi ctPi), slPi⟩)
    (cPi : PySem.W.codeIn K cdPi "_law_pick" = true)
    (kPi : PySem.W.keepIn K (.ref fPi) = true)
    (aHx : PySem.W.nsIn K mainGlobals "_law_hex" = some (some (.ref fHx)))
    (lHx : K.lookup fHx = some ⟨ocHx, odHx, .func (PySem.W.fnOf "_law_hex" "_law_hex" (defArgs s__law_hex) (defBody s__law_hex) (defScope s__law_hex) .none kVHx dcHx pmHx anHx cdHx ctHx), slHx⟩)
    (cHx : PySem.W.codeIn K cdHx "_law_hex" = true)
    (kHx : PySem.W.keepIn K (.ref fHx) = true)
    (aSa : PySem.W.nsIn K mainGlobals "_law_said" = some (some (.ref fSa)))
    (lSa : K.lookup fSa = some ⟨ocSa, odSa, .func (PySem.W.fnOf "_law_said" "_law_said" (defArgs s__law_said) (defBody s__law_said) (defScope s__law_said) .none kVSa dcSa pmSa anSa cdSa ctSa), slSa⟩)
    (cSa : PySem.W.codeIn K cdSa "_law_said" = true)
    (kSa : PySem.W.keepIn K (.ref fSa) = true)
    (aBn : PySem.W.nsIn K mainGlobals "_law_bent" = some (some (.ref fBn)))
    (lBn : K.lookup fBn = some ⟨ocBn, odBn, .func (PySem.W.fnOf "_law_bent" "_law_bent" (defArgs s__law_bent) (defBody s__law_bent) (defScope s__law_bent) .none kVBn dcBn pmBn anBn cdBn ctBn), slBn⟩)
    (cBn : PySem.W.codeIn K cdBn "_law_bent" = true)
    (kBn : PySem.W.keepIn K (.ref fBn) = true)
    (aRi : PySem.W.nsIn K mainGlobals "_law_right" = some (some (.ref fRi)))
    (lRi : K.lookup fRi = some ⟨ocRi, odRi, .func (PySem.W.fnOf "_law_right" "_law_right" (defArgs s__law_right) (defBody s__law_right) (defScope s__law_right) .none kVRi dcRi pmRi anRi (.ref coM) ctRi), slRi⟩)
    (cRi : PySem.W.codeIn K (.ref coM) "_law_right" = true)
    (kRi : PySem.W.keepIn K (.ref fRi) = true)
    (aLa : PySem.W.nsIn K mainGlobals "law" = some (some (.ref fLa)))
    (lLa : K.lookup fLa = some ⟨ocLa, odLa, .func (PySem.W.fnOf "law" "law" (defArgs s_law) (defBody s_law) (defScope s_law) .none kVLa dcLa pmLa anLa cdLa ctLa), slLa⟩)
    (cLa : PySem.W.codeIn K cdLa "law" = true)
    (kLa : PySem.W.keepIn K (.ref fLa) = true)
    (aIn : PySem.W.nsIn K mainGlobals "is_integer" = some (some (.ref fIn)))
    (lIn : K.lookup fIn = some ⟨ocIn, odIn, .func (PySem.W.fnOf "is_integer" "is_integer" (defArgs s_is_integer) (defBody s_is_integer) (defScope s_is_integer) .none kVIn dcIn pmIn anIn cdIn ctIn), slIn⟩)
    (cIn : PySem.W.codeIn K cdIn "is_integer" = true)
    (kIn : PySem.W.keepIn K (.ref fIn) = true)
    (aBe : PySem.W.nsIn K mainGlobals "is_between" = some (some (.ref fBe)))
    (lBe : K.lookup fBe = some ⟨ocBe, odBe, .func (PySem.W.fnOf "is_between" "is_between" (defArgs s_is_between) (defBody s_is_between) (defScope s_is_between) .none kVBe dcBe pmBe anBe cdBe ctBe), slBe⟩)
    (cBe : PySem.W.codeIn K cdBe "is_between" = true)
    (kBe : PySem.W.keepIn K (.ref fBe) = true)
    (aBw : PySem.W.nsIn K mainGlobals "are_between" = some (some (.ref fBw)))
    (lBw : K.lookup fBw = some ⟨ocBw, odBw, .func (PySem.W.fnOf "are_between" "are_between" (defArgs s_are_between) (defBody s_are_between) (defScope s_are_between) .none kVBw dcBw pmBw anBw cdBw ctBw), slBw⟩)
    (cBw : PySem.W.codeIn K cdBw "are_between" = true)
    (kBw : PySem.W.keepIn K (.ref fBw) = true)
    (aCh : PySem.W.nsIn K mainGlobals "check_bytes" = some (some (.ref fCh)))
    (lCh : K.lookup fCh = some ⟨ocCh, odCh, .func (PySem.W.fnOf "check_bytes" "check_bytes" (defArgs s_check_bytes) (defBody s_check_bytes) (defScope s_check_bytes) .none kVCh dcCh pmCh anCh cdCh ctCh), slCh⟩)
    (cCh : PySem.W.codeIn K cdCh "check_bytes" = true)
    (kCh : PySem.W.keepIn K (.ref fCh) = true)
    (aHe : PySem.W.nsIn K mainGlobals "_hex" = some (some (.ref fHe)))
    (lHe : K.lookup fHe = some ⟨ocHe, odHe, .func (PySem.W.fnOf "_hex" "_hex" (defArgs s__hex) (defBody s__hex) (defScope s__hex) .none kVHe dcHe pmHe anHe cdHe ctHe), slHe⟩)
    (cHe : PySem.W.codeIn K cdHe "_hex" = true)
    (kHe : PySem.W.keepIn K (.ref fHe) = true)
    (aHt : PySem.W.nsIn K mainGlobals "hex_text" = some (some (.ref fHt)))
    (lHt : K.lookup fHt = some ⟨ocHt, odHt, .func (PySem.W.fnOf "hex_text" "hex_text" (defArgs s_hex_text) (defBody s_hex_text) (defScope s_hex_text) .none kVHt dcHt pmHt anHt cdHt ctHt), slHt⟩)
    (cHt : PySem.W.codeIn K cdHt "hex_text" = true)
    (kHt : PySem.W.keepIn K (.ref fHt) = true)
    (aRh : PySem.W.nsIn K mainGlobals "read_hex" = some (some (.ref fRh)))
    (lRh : K.lookup fRh = some ⟨ocRh, odRh, .func (PySem.W.fnOf "read_hex" "read_hex" (defArgs s_read_hex) (defBody s_read_hex) (defScope s_read_hex) .none kVRh dcRh pmRh anRh cdRh ctRh), slRh⟩)
    (cRh : PySem.W.codeIn K cdRh "read_hex" = true)
    (kRh : PySem.W.keepIn K (.ref fRh) = true)
    (aNi : PySem.W.findIn K (.ref CB) "__init__" = some (some (.ref fNi)))
    (tNi : PySem.W.typeIn K (.ref fNi) = some (.type "function"))
    (lNi : K.lookup fNi = some ⟨ocNi, odNi, .func (PySem.W.fnOf "__init__" "NoBytes.__init__" (defArgs s_NoBytes___init__) (defBody s_NoBytes___init__) (defScope s_NoBytes___init__) .none kVNi dcNi pmNi anNi cdNi ctNi), slNi⟩)
    (cNi : PySem.W.codeIn K cdNi "NoBytes.__init__" = true)
    (kNi : PySem.W.keepIn K (.ref fNi) = true)
    (aTi : PySem.W.findIn K (.ref CT) "__init__" = some (some (.ref fTi)))
    (tTi : PySem.W.typeIn K (.ref fTi) = some (.type "function"))
    (lTi : K.lookup fTi = some ⟨ocTi, odTi, .func (PySem.W.fnOf "__init__" "BadText.__init__" (defArgs s_BadText___init__) (defBody s_BadText___init__) (defScope s_BadText___init__) .none kVTi dcTi pmTi anTi cdTi ctTi), slTi⟩)
    (cTi : PySem.W.codeIn K cdTi "BadText.__init__" = true)
    (kTi : PySem.W.keepIn K (.ref fTi) = true)
    (dHD : PySem.W.nsIn K mainGlobals "HEX_DIGITS" = some (some (.str "0123456789abcdef" tkHD)))
    (vHV : PySem.W.nsIn K mainGlobals "HEX_VALUES" = some (some (.ref DV)))
    (vDW : He.dicW K DV = some (He.keysIn w.params ["0", "1", "2", "3", "4", "5", "6", "7", "8", "9", "a", "b", "c", "d", "e", "f"]))
    (vDI : dicI K DV = some (digS.map some))
    (uM : PySem.W.codeHdIn K coM PM = true)
    (vM : PM ∈ ts)
    : QT.LawG l w K 9 63 "_law_script" ts mg fa := by
  have e := hfa.symm.trans (PySem.W.mg_of X G aLa)
  cases e
  have FSo := fun_mk (st := s__law_source) lSo cSo kSo
  have bSo := FSo.binds (ps := ["_law_cell"]) fun _ _ _ _ _ _ us hl => match us, hl with | [_], _ => rfl
  have FDr := fun_mk (st := s__law_draw) lDr cDr kDr
  have bDr := FDr.binds (ps := ["_law_source_here", "_law_many"]) fun _ _ _ _ _ _ us hl => match us, hl with | [_, _], _ => rfl
  have FPi := fun_mk (st := s__law_pick) lPi cPi kPi
  have bPi := FPi.binds (ps := ["_law_source_here", "_law_items"]) fun _ _ _ _ _ _ us hl => match us, hl with | [_, _], _ => rfl
  have FHx := fun_mk (st := s__law_hex) lHx cHx kHx
  have bHx := FHx.binds (ps := ["_law_some"]) fun _ _ _ _ _ _ us hl => match us, hl with | [_], _ => rfl
  have FSa := fun_mk (st := s__law_said) lSa cSa kSa
  have bSa := FSa.binds (ps := ["_law_ask"]) fun _ _ _ _ _ _ us hl => match us, hl with | [_], _ => rfl
  have FBn := fun_mk (st := s__law_bent) lBn cBn kBn
  have bBn := FBn.binds (ps := ["_law_source_here", "_law_word"]) fun _ _ _ _ _ _ us hl => match us, hl with | [_, _], _ => rfl
  have FRi := fun_mk (st := s__law_right) lRi cRi kRi
  have bRi := FRi.binds (ps := ["_law_source_here"]) fun _ _ _ _ _ _ us hl => match us, hl with | [_], _ => rfl
  have FLa := fun_mk (st := s_law) lLa cLa kLa
  have FIn := fun_mk (st := s_is_integer) lIn cIn kIn
  have bIn := FIn.binds (ps := ["thing"]) fun _ _ _ _ _ _ us hl => match us, hl with | [_], _ => rfl
  have FBe := fun_mk (st := s_is_between) lBe cBe kBe
  have bBe := FBe.binds (ps := ["thing", "low", "high"]) fun _ _ _ _ _ _ us hl => match us, hl with | [_, _, _], _ => rfl
  have FBw := fun_mk (st := s_are_between) lBw cBw kBw
  have bBw := FBw.binds (ps := ["things", "low", "high"]) fun _ _ _ _ _ _ us hl => match us, hl with | [_, _, _], _ => rfl
  have FCh := fun_mk (st := s_check_bytes) lCh cCh kCh
  have bCh := FCh.binds (ps := ["data"]) fun _ _ _ _ _ _ us hl => match us, hl with | [_], _ => rfl
  have FHe := fun_mk (st := s__hex) lHe cHe kHe
  have bHe := FHe.binds (ps := ["octets"]) fun _ _ _ _ _ _ us hl => match us, hl with | [_], _ => rfl
  have FHt := fun_mk (st := s_hex_text) lHt cHt kHt
  have bHt := FHt.binds (ps := ["data"]) fun _ _ _ _ _ _ us hl => match us, hl with | [_], _ => rfl
  have FRh := fun_mk (st := s_read_hex) lRh cRh kRh
  have bRh := FRh.binds (ps := ["text"]) fun _ _ _ _ _ _ us hl => match us, hl with | [_], _ => rfl
  have FNi := fun_mk (st := s_NoBytes___init__) lNi cNi kNi
  have bNi := FNi.binds (ps := ["self", "place"]) fun _ _ _ _ _ _ us hl => match us, hl with | [_, _], _ => rfl
  have FTi := fun_mk (st := s_BadText___init__) lTi cTi kTi
  have bTi := FTi.binds (ps := ["self", "place"]) fun _ _ _ _ _ _ us hl => match us, hl with | [_, _], _ => rfl
  have FC : FunC K "_law_right" "_law_right" s__law_right fRi _ coM := ⟨_, _, _, _, _, _, _, _, rfl, lRi, cRi⟩
  have T : Txt K mg := ⟨PySem.W.mg_none_of X G z_len, PySem.W.mg_none_of X G z_abs, PySem.W.mg_none_of X G z_int, PySem.W.mg_none_of X G z_bool, PySem.W.mg_none_of X G z_tuple, PySem.W.mg_none_of X G z_list, PySem.W.mg_none_of X G z_isinstance, PySem.W.mg_none_of X G z_all, PySem.W.mg_none_of X G z_range, PySem.W.mg_none_of X G z_enumerate, PySem.W.mg_none_of X G z_repr, PySem.W.mg_none_of X G z_min, PySem.W.mg_none_of X G z_zip, PySem.W.mg_none_of X G z_max⟩
  have B : ErrC K mg "NoBytes" CB fNi := ⟨⟨⟨_, _, _, _, _, _, _, _, _, _, _, _, _, _, _, xB, rB⟩, saB, beB, tyB, keB⟩, ⟨gaB, ggB, beB, hdB⟩, aNi, tNi, PySem.W.mg_of X G gB⟩
  have R : ErrC K mg "BadText" CT fTi := ⟨⟨⟨_, _, _, _, _, _, _, _, _, _, _, _, _, _, _, xT, rT⟩, saT, beT, tyT, keT⟩, ⟨gaT, ggT, beT, hdT⟩, aTi, tTi, PySem.W.mg_of X G gT⟩
  have S : SaidC K mg CB CT := ⟨⟨fSa, _, PySem.W.mg_of X G aSa, FSa, bSa⟩, ⟨fNi, fTi, CN, B, R, PySem.W.mg_of X G gN⟩, nB_place, nT_place, exm_is beB icB tyB suBB, exm_is beB icB tyB suTB, exm_is beT icT tyT suTT⟩
  obtain ⟨es, nd, D⟩ := He.dicW_ok vDW
  refine ⟨⟨PySem.W.fnOf "law" "law" (defArgs s_law) (defBody s_law) (defScope s_law) .none kVLa dcLa pmLa anLa cdLa ctLa, coM, PM, spLaw K (tabM PM), uM, vM, nM, fun s v => .of_eq rfl, fun H a ns hl hT hS => ⟨a, ns, rfl, hS, hl, fun p hp => by rw [List.mem_singleton.mp hp]; exact TabS.nil hT, fun _ => rfl⟩, fun base _ _ TB => ?_⟩⟩
  have c_source : Cal l.prog w K mg base 1 "_law_source" spSource := ⟨_, _, _, ok_source FSo T, PySem.W.mg_of X G aSo, kSo, bSo⟩
  have c_draw : Cal l.prog w K mg base 1 "_law_draw" spDraw := ⟨_, _, _, ok_draw FDr T, PySem.W.mg_of X G aDr, kDr, bDr⟩
  have c_pick : Cal l.prog w K mg base 2 "_law_pick" (spPick K) := ⟨_, _, _, ok_pick FPi T c_draw, PySem.W.mg_of X G aPi, kPi, bPi⟩
  have c_lhex : Cal l.prog w K mg base 1 "_law_hex" (spLHex K) := ⟨_, _, _, ok_law_hex FHx T, PySem.W.mg_of X G aHx, kHx, bHx⟩
  have c_is_integer : Cal l.prog w K mg base 1 "is_integer" spIsInteger := ⟨_, _, _, ok_is_integer FIn T, PySem.W.mg_of X G aIn, kIn, bIn⟩
  have c_is_between : Cal l.prog w K mg base 2 "is_between" spIsBetween := ⟨_, _, _, ok_is_between FBe T c_is_integer, PySem.W.mg_of X G aBe, kBe, bBe⟩
  have c_between : Cal l.prog w K mg base 1 "are_between" (spBtw K) := ⟨_, _, _, ok_between FBw T, PySem.W.mg_of X G aBw, kBw, bBw⟩
  have c_check : CalX l.prog w K mg base 3 "check_bytes" (spCheck K CB) := ⟨_, _, _, ok_check FCh T (PySem.W.mg_of X G iGb) B bNi (ok_initB FNi B.oex nB_place) c_is_between c_between, PySem.W.mg_of X G aCh, kCh, bCh⟩
  have c_hex : Cal l.prog w K mg base 1 "_hex" (spHex K) := ⟨_, _, _, ok_hex FHe (PySem.W.mg_of X G dHD), PySem.W.mg_of X G aHe, kHe, bHe⟩
  have c_hex_text : CalX l.prog w K mg base 4 "hex_text" (spHexText K CB) := ⟨_, _, _, ok_hex_text FHt c_check c_hex, PySem.W.mg_of X G aHt, kHt, bHt⟩
  have c_read_hex : CalX l.prog w K mg base 3 "read_hex" (spReadHex CT) := ⟨_, _, _, ok_read_hex FRh T (PySem.W.mg_of X G vHV) D vDI R bTi (ok_initT FTi R.oex nT_place), PySem.W.mg_of X G aRh, kRh, bRh⟩
  have c_bent : Cal l.prog w K mg base 3 "_law_bent" spBent := ⟨_, _, _, ok_bent FBn T c_draw c_pick, PySem.W.mg_of X G aBn, kBn, bBn⟩
  have c_right : CalX l.prog w K mg base 8 "_law_right" (spRight (tabM PM)) := ⟨_, _, _, ok_right FC T TB S c_draw c_pick c_lhex c_bent c_hex_text c_read_hex, PySem.W.mg_of X G aRi, kRi, bRi⟩
  exact toG (ok_law FLa T c_source c_right)
theorem walk {l : PySem.W.OpenLaw} {q : Program} {loose : List Str} {XP : (Str → Option Value) → Heap → Prop} {YP : World → Heap → Prop} {d : DefRec} {K : Params → PySem.W.Frag} (hn : l.most = some 63) (hdf : d.params.defaults = [])
    {ts : List Addr} (hY : ∀ (w : World) (h : Heap), YP w h → (K w.params).In h) (hT : ∀ (w : World) (h : Heap), YP w h → ∀ Tb ∈ ts, h.get? Tb = some { cls := .none, data := .fields #[] })
    (F : ∀ (w : World) (mg : Str → Option Value) (fa : Addr) (h : Heap), (K w.params).In h → h.Ns mainGlobals mg → mg d.name = some (.ref fa) → QT.LawG l w (K w.params) 9 63 "_law_script" ts mg fa) :
    PySem.W.WalkO q loose XP YP l.row.toRowW d [] (fun f vs => PySem.call f vs) :=
  QT.walk_ofGT (n := 63) (k := 9) (x := "_law_script") hn (by decide) hdf ⟨rfl, by decide, by decide⟩ hY hT F
end Q74
open PySem PySem.W PyProof.Rows in
set_option maxRecDepth 100000 in
set_option maxHeartbeats 0 in
theorem PySem.Challenge.cw_nestfile_k74_bytes_as_texts_holds : PySem.Challenge.rw_nestfile_k74_bytes_as_texts.Holds := by
  w_on; o_law; k_head; (case hw => w_witness2)
  k_fill
  refine Q74.walk (l := PySem.Challenge.rw_nestfile_k74_bytes_as_texts) rfl rfl (fun w h Y => PySem.W.km_in_of Y) (fun w h Y => PySem.W.km_tabs_of Y) ?F
  case F =>
    intro w mg fa h KX G hmg
    refine' Q74.all_mk KX G hmg ?gB ?xB ?rB ?saB ?gaB ?ggB ?keB ?beB ?tyB ?hdB ?icB ?nB_place ?gT ?xT ?rT ?saT ?gaT ?ggT ?keT ?beT ?tyT ?hdT ?icT ?nT_place ?suBB ?suTB ?suTT ?gN ?iGb ?z_len ?z_abs ?z_int ?z_bool ?z_tuple ?z_list ?z_isinstance ?z_all ?z_range ?z_enumerate ?z_repr ?z_min ?z_zip ?z_max ?tM ?nM ?aSo ?lSo ?cSo ?kSo ?aDr ?lDr ?cDr ?kDr ?aPi ?lPi ?cPi ?kPi ?aHx ?lHx ?cHx ?kHx ?aSa ?lSa ?cSa ?kSa ?aBn ?lBn ?cBn ?kBn ?aRi ?lRi ?cRi ?kRi ?aLa ?lLa ?cLa ?kLa ?aIn ?lIn ?cIn ?kIn ?aBe ?lBe ?cBe ?kBe ?aBw ?lBw ?cBw ?kBw ?aCh ?lCh ?cCh ?kCh ?aHe ?lHe ?cHe ?kHe ?aHt ?lHt ?cHt ?kHt ?aRh ?lRh ?cRh ?kRh ?aNi ?tNi ?lNi ?cNi ?kNi ?aTi ?tTi ?lTi ?cTi ?kTi ?dHD ?vHV ?vDW ?vDI ?uM ?vM
    (case gB => k_is)
    (case xB => k_is)
    (case rB => decide +kernel)
    (case saB => k_is)
    (case gaB => k_is)
    (case ggB => k_is)
    (case keB => k_is)
    (case beB => k_is)
    (case tyB => k_is)
    (case hdB => k_is)
    (case icB => k_is)
    (case nB_place => k_is)
    (case gT => k_is)
    (case xT => k_is)
    (case rT => decide +kernel)
    (case saT => k_is)
    (case gaT => k_is)
    (case ggT => k_is)
    (case keT => k_is)
    (case beT => k_is)
    (case tyT => k_is)
    (case hdT => k_is)
    (case icT => k_is)
    (case nT_place => k_is)
    (case suBB => first | rfl | k_is)
    (case suTB => first | rfl | k_is)
    (case suTT => first | rfl | k_is)
    (case gN => k_is)
    (case iGb => k_is)
    (case z_len => k_is)
    (case z_abs => k_is)
    (case z_int => k_is)
    (case z_bool => k_is)
    (case z_tuple => k_is)
    (case z_list => k_is)
    (case z_isinstance => k_is)
    (case z_all => k_is)
    (case z_range => k_is)
    (case z_enumerate => k_is)
    (case z_repr => k_is)
    (case z_min => k_is)
    (case z_zip => k_is)
    (case z_max => k_is)
    (case tM => first | rfl | k_is)
    (case nM => first | rfl | k_is)
    (case aSo => k_is)
    (case lSo => k_is)
    (case cSo => k_is)
    (case kSo => k_is)
    (case aDr => k_is)
    (case lDr => k_is)
    (case cDr => k_is)
    (case kDr => k_is)
    (case aPi => k_is)
    (case lPi => k_is)
    (case cPi => k_is)
    (case kPi => k_is)
    (case aHx => k_is)
    (case lHx => k_is)
    (case cHx => k_is)
    (case kHx => k_is)
    (case aSa => k_is)
    (case lSa => k_is)
    (case cSa => k_is)
    (case kSa => k_is)
    (case aBn => k_is)
    (case lBn => k_is)
    (case cBn => k_is)
    (case kBn => k_is)
    (case aRi => k_is)
    (case lRi => k_is)
    (case cRi => k_is)
    (case kRi => k_is)
    (case aLa => k_is)
    (case lLa => k_is)
    (case cLa => k_is)
    (case kLa => k_is)
    (case aIn => k_is)
    (case lIn => k_is)
    (case cIn => k_is)
    (case kIn => k_is)
    (case aBe => k_is)
    (case lBe => k_is)
    (case cBe => k_is)
    (case kBe => k_is)
    (case aBw => k_is)
    (case lBw => k_is)
    (case cBw => k_is)
    (case kBw => k_is)
    (case aCh => k_is)
    (case lCh => k_is)
    (case cCh => k_is)
    (case kCh => k_is)
    (case aHe => k_is)
    (case lHe => k_is)
    (case cHe => k_is)
    (case kHe => k_is)
    (case aHt => k_is)
    (case lHt => k_is)
    (case cHt => k_is)
    (case kHt => k_is)
    (case aRh => k_is)
    (case lRh => k_is)
    (case cRh => k_is)
    (case kRh => k_is)
    (case aNi => k_is)
    (case tNi => k_is)
    (case lNi => k_is)
    (case cNi => k_is)
    (case kNi => k_is)
    (case aTi => k_is)
    (case tTi => k_is)
    (case lTi => k_is)
    (case cTi => k_is)
    (case kTi => k_is)
    (case dHD => first | rfl | k_is)
    (case vHV => first | rfl | k_is)
    (case vDW => first | rfl | k_is)
    (case vDI => first | rfl | k_is)
    (case uM => first | rfl | decide +kernel | k_is)
    (case vM => decide)
