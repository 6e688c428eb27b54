import PyProof.Rows.All
import Wide.All
import OpenK.AllK
import Wide.FinOn
import HandS.ForMost
import HandS.Exc
import HandS.TryMany
import HandS.Walk
import KE.GoesMore
import PyProof.Draws
import HandS.ForExc
import HandS.ExcInit
import HandS.ExcField
import HandS.IsInst
import HandS.EndBits
import HandS.Style
import HandS.WordsExc
import HandS.SortKw
import KE.DataMinMax
import PyProof.ReprRoads
import HandS.Lambda
import PyProof.InstNe
import HandS.SlotsOwn
import HandS.EndTab
import KE.KNestM
import HandS.Conv
import HandS.Wide
import HandS.MakeKw
import HandS.MakeKwOnly
import HandS.Defaults
import HandS.More
import HandS.RaiseMore
import PySem.Challenge.RW_nestfile_k01_things_of_the_package
set_option Elab.async false
set_option linter.all false
set_option maxRecDepth 100000
set_option maxHeartbeats 2000000
/-! try with several clauses, each with a name or without. -/
namespace QT
open PySem PySem.Spec PyProof.Rows L2
/-- a suite whose clause keeps the exception under slot i -/
def tsAs (i : Nat) (ts : Addr → Value → Option Addr → TS) : Addr → Value → Option Addr → TS := fun a cls d D σ H =>
  ts a cls d { nx := fun σq Hq => D.nx (σq.set i none) Hq, rt := D.rt, bk := fun σq Hq => D.bk (σq.set i none) Hq, ct := fun σq Hq => D.ct (σq.set i none) Hq } (σ.set i (some (.ref a))) H
inductive Clauses (X : Cx) : List ExceptHandler → List (Value × (Addr → Value → Option Addr → TS)) → Prop
  | done : Clauses X [] []
  | bare {x : Str} {c : Value} {ts : Addr → Value → Option Addr → TS} {b : Stmt} {bs : List Stmt} {p q : Pos} {hs : List ExceptHandler} {l : List (Value × (Addr → Value → Option Addr → TS))} (names : Names X x c)
      (su : ∀ (a : Addr) (oe : Obj) (cls : Value) (d : Option Addr) (pn : List (Addr × Obj)), Zc cls d oe → (∃ vs, oe.data = .fields vs) → PSs (X.suite a ((a, oe) :: pn)) (b :: bs) (ts a cls d)) (rest : Clauses X hs l) :
      Clauses X (.ExceptHandler (some (.Name x p)) none (b :: bs) q :: hs) ((c, ts) :: l)
  | named {x n : Str} {i : Nat} {c : Value} {ts : Addr → Value → Option Addr → TS} {b : Stmt} {bs : List Stmt} {p q : Pos} {hs : List ExceptHandler} {l : List (Value × (Addr → Value → Option Addr → TS))} (names : Names X x c)
      (hN : X.N.Nodup) (hi : X.N[i]? = some n) (hl : X.env.kindOf n = some .local)
      (su : ∀ (a : Addr) (oe : Obj) (cls : Value) (d : Option Addr) (pn : List (Addr × Obj)), Zc cls d oe → (∃ vs, oe.data = .fields vs) → PSs (X.suite a ((a, oe) :: pn)) (b :: bs) (ts a cls d)) (rest : Clauses X hs l) :
      Clauses X (.ExceptHandler (some (.Name x p)) (some n) (b :: bs) q :: hs) ((c, tsAs i ts) :: l)
section
variable {X : Cx} {body : List Stmt} {h0 : ExceptHandler} {hs : List ExceptHandler} {l : List (Value × (Addr → Value → Option Addr → TS))} {pos : Pos} {tb : WX → TS} {Wout : WX}
theorem ps_tryN (st : X.stack = X.env :: X.outer) (hf : X.env.frame = some X.env.locals) (tk : Takes X Wout)
    (hb : ∀ (W : WX) (pn : List (Addr × Obj)) (xe : Value → Shared → Prop), Takes (X.tr pn xe) W → PassesOwn (model X.prog X.w) X.A X.env xe → PSs (X.tr pn xe) body (tb W))
    (cl : Clauses X (h0 :: hs) l) : PS X (.Try body (h0 :: hs) [] [] pos) (fun D σ H => tb (wMany X.K Wout D l) D σ H) := by
  refine ⟨fun pins s σ H D I0 reading => ?_⟩
  have hok := I0.ok
  have frames : X.A.frames = some (X.env :: X.outer) := by rw [hok.frames, st]
  refine wpAny_Try_except ?_
  refine wpAny_mono ((hb (wMany X.K Wout D l) (X.pn ++ pins) (fun e s₁ => wpAny (model X.prog X.w) X.A (noteFrame e X.env) (fun _ s₂ => wpAny (model X.prog X.w) X.A (setFlight e none) (fun _ s₃ =>
    wpAny (model X.prog X.w) X.A (handleBy e X.env (h0 :: hs)) (SP X pins D) X.xe s₃) X.xe s₂) X.xe s₁) (fun u t caught => ?_) PassesOwn.looking).run [] s σ H D (I0.toTry _) reading) (fun f s1 through => ?_) (fun e s1 he => he)
  · obtain ⟨a, B, sI, pinsQ, σq, Hq, cls, d, rfl, I1, fresh, grown, sky, na, hos, agree, wish⟩ := caught
    have I2 : Inv X pins σq Hq sI := I1.ofTry hok
    have sky2 : Sky B (X.env :: X.outer) a (Zc cls d) X.env.locals t.heap := by rw [← st]; exact sky
    show wpAny (model X.prog X.w) X.A (noteFrame (.ref a) X.env) _ _ _
    refine Sky.land Zc.steady frames hf sky2 fun g3 flight grown3 => ?_
    have I3 : Inv X pins σq Hq { t with heap := g3 } := I2.landed fresh flight.1 (grown.trans grown3) hos agree
    obtain ⟨o3, fs3, at3, zc3, data3⟩ := flight.there
    have off : ∀ {h : Heap} {o : Obj} {vs : Array Value}, h.FunFrames B (X.env :: X.outer) → h.get? a = some o → o.data = .fields vs → a ∉ frs (X.env :: X.outer) := fun {h o vs} ff at_ dd mem => by
      obtain ⟨_, oo, at', nf⟩ := ff.mem mem
      rw [at_] at at'
      cases at'
      exact nf _ dd
    have offA := off flight.2.2.1 at3 data3
    have offL : a ≠ X.env.locals := fun z => offA (List.mem_filterMap.mpr ⟨X.env, List.mem_cons_self, by rw [hf, z]⟩)
    have offF : a ∉ X.fs := fun mem => by
      obtain ⟨en, hen, q⟩ := List.mem_filterMap.mp mem
      exact offA (List.mem_filterMap.mpr ⟨en, List.mem_cons_of_mem _ hen, q⟩)
    have IS := I3.suite at3 data3 na offL offF
    have tested : ∀ {x : Str} {c : Value} {np : Pos} {Q : Value → Shared → Prop} {E : Value → Shared → Prop}, Names X x c → Q c { t with heap := g3 } → wpAny (model X.prog X.w) (X.A.mark (some (.ref a))) (eval (.Name x np) X.env) Q E { t with heap := g3 } := fun {x c np Q E} nm q => by
      obtain ⟨hg, hdbg, hm | ⟨hm, hv, hnn⟩⟩ := nm
      · exact ld_glob (X := X.suite a ((a, o3) :: (X.pn ++ pins))) IS hg hm q hdbg
      · exact ld_blt (X := X.suite a ((a, o3) :: (X.pn ++ pins))) IS hg hm hv q hnn hdbg
    have typed : PySem.W.Looks (model X.prog X.w) g3 (typeOf (.ref a)) cls := fun A Q E s k q => wpAny_typeOf_ref (k _ _ at3) (by rw [zc3.1]; exact q)
    have walk : ∀ {hs' : List ExceptHandler} {l' : List (Value × (Addr → Value → Option Addr → TS))}, Clauses X hs' l' → wMany X.K Wout D l' cls d σq Hq →
        wpAny (model X.prog X.w) X.A (handleBy (.ref a) X.env hs') (SP X pins D) X.xe { t with heap := g3 } := by
      intro hs' l' hk
      induction hk with
      | done =>
        intro w
        refine wpAny_handleBy_nil ?_
        obtain ⟨_, _, _, oe, vs, T, oT, ts', he, hz, hd, h1, hr⟩ := id flight
        unfold PySem.passOn
        refine wpAny_bind (wpAny_field he hd h1 ?_)
        rw [if_neg (show ¬ ((Value.ref T == Value.none) = true) from by simp)]
        have onward : wpAny (model X.prog X.w) X.A (setFlight (.ref a) X.env.frame) (fun _ s4 => wpAny (model X.prog X.w) X.A (throw (.ref a) : Sem Flow) (SP X pins D) X.xe s4) X.xe { t with heap := g3 } := by
          rw [hf]
          refine HandSPX.setFlight_upZ flight fun g4 hg4 grown4 => wpAny_throw (tk _ _ ?_)
          exact ⟨a, B, sI, pins, σq, Hq, cls, d, rfl, I2, fresh, (grown.trans grown3).trans grown4, .inr (.inr (by rw [st]; exact hg4)), na, hos, agree, w⟩
        first
          | exact wpAny_bind (wpAny_pure (wpAny_bind onward))
          | exact wpAny_bind onward
      | @bare x c ts b bs p q hs2 l2 names su rest ih =>
        intro w
        obtain ⟨hit, hx, yes, no⟩ := w
        refine wpAny_handleBy_cons (codeAny_handlers_test ?_) (by intro z; cases z)
        refine tested names ((PySem.W.exm_one (M := model X.prog X.w) (I3.kIn) typed hx).here ?_)
        cases hit with
        | true =>
          refine codeAny_handlers_suite ?_
          refine HandSPX.lands_againZ flight fun g4 flight4 grown4 => ?_
          have I4 : Inv X pins σq Hq { t with heap := g4 } := I2.landed fresh flight4.1 ((grown.trans grown3).trans grown4) hos agree
          obtain ⟨o4, fs4, at4, zc4, data4⟩ := flight4.there
          refine wpAny_mono ((su a o4 cls d (X.pn ++ pins) zc4 ⟨_, data4⟩).run [] _ _ Hq _ (I4.suite at4 data4 na offL offF) (yes rfl a na)) (fun f s6 hsp => ?_) (fun _ _ z => False.elim z)
          cases f with
          | ret u =>
            obtain ⟨v6, σ6, H6, S6, r6, q6⟩ := hsp
            exact ⟨_, _, _, S6.unsuite hok, r6, q6⟩
          | next | brk | cont =>
            obtain ⟨σ6, H6, S6, q6⟩ := hsp
            exact ⟨_, _, S6.unsuite hok, q6⟩
        | false =>
          show wpAny _ X.A (handleBy (.ref a) X.env hs2) _ _ _
          exact ih (no rfl)
      | @named x n i c ts b bs p q hs2 l2 names hN hi hl su rest ih =>
        intro w
        obtain ⟨hit, hx, yes, no⟩ := w
        refine wpAny_handleBy_cons (codeAny_handlers_test ?_) (by intro z; cases z)
        refine tested names ((PySem.W.exm_one (M := model X.prog X.w) (I3.kIn) typed hx).here ?_)
        cases hit with
        | true =>
          refine codeAny_handlers_suite_as ?_
          refine HandSPX.lands_againZ flight fun g4 flight4 grown4 => ?_
          have I4 : Inv X pins σq Hq { t with heap := g4 } := I2.landed fresh flight4.1 ((grown.trans grown3).trans grown4) hos agree
          obtain ⟨o4, fs4, at4, zc4, data4⟩ := flight4.there
          refine store_ok (X := X.suite a ((a, o4) :: (X.pn ++ pins))) (v := .ref a) (I4.suite at4 data4 na offL offF) hN hi (.inl hl) rfl (fun s5 S5 => ?_) (.inr hl)
          refine wpAny_mono ((su a o4 cls d (X.pn ++ pins) zc4 ⟨_, data4⟩).run [] s5 _ Hq _ S5 (yes rfl a na)) (fun f s6 hsp => ?_) (fun _ _ z => False.elim z)
          have gone : ∀ {σ6 : L2.St} {H6 : Hp} {R : Shared → Prop}, Inv (X.suite a ((a, o4) :: (X.pn ++ pins))) [] σ6 H6 s6 → (∀ s7, Inv X pins (σ6.set i none) H6 s7 → R s7) →
              wpAny (model X.prog X.w) X.A (do bindName X.env n .none; unbindBehindTheSuite X.env n q) (fun _ s7 => R s7) X.xe s6 := fun {σ6 H6 R} S6 hq => gone_ok (S6.unsuite hok) hN hi hl hq
          cases f with
          | ret u =>
            obtain ⟨v6, σ6, H6, S6, r6, q6⟩ := hsp
            exact gone S6 fun s7 J7 => ⟨_, _, _, J7, r6, q6⟩
          | next | brk | cont =>
            obtain ⟨σ6, H6, S6, q6⟩ := hsp
            exact gone S6 fun s7 J7 => ⟨_, _, J7, q6⟩
        | false =>
          show wpAny _ X.A (handleBy (.ref a) X.env hs2) _ _ _
          exact ih (no rfl)
    exact walk cl wish
  · cases f with
    | ret u =>
      obtain ⟨v, σq, Hq, I1, r, q⟩ := through
      exact ⟨v, σq, Hq, I1.ofTry hok, r, q⟩
    | next =>
      obtain ⟨σq, Hq, I1, q⟩ := through
      exact wpAny_execs_nil ⟨σq, Hq, I1.ofTry hok, q⟩
    | brk | cont =>
      obtain ⟨σq, Hq, I1, q⟩ := through
      exact ⟨σq, Hq, I1.ofTry hok, q⟩
end
end QT

/-! list + list where either may be the script. -/
namespace QT
open PySem PySem.Spec PySem.P PyProof PyProof.Rows L2
theorem meets_cat (l b : Addr) (xs ys : Array Value) (n m : Nat) (sl sb : Array (Option Value)) (hc : xs.size + ys.size ≤ sizeLine) :
    Meets (Builtin.«list.__add__» ⟨[.ref l, .ref b], []⟩) (fun _ R s => s.heap.get? l = some (⟨.type "list", none, .seq xs n, sl⟩ : Obj) ∧ s.heap.get? b = some (⟨.type "list", none, .seq ys m, sb⟩ : Obj) ∧
      R (.ok (.ret (Value.ref s.heap.objs.size))) { s with heap := s.heap.push { cls := Value.type "list", data := Data.seq (xs ++ ys) } }) :=
  .of_wp fun prog w A R s h => by
    obtain ⟨hp, g, d, tk, os⟩ := s
    obtain ⟨hl, hb, h⟩ := h
    have g1 := PySem.AutoSeq1.idx_int
    have g2 := PySem.AutoSeq1.sub_tuple_tuple
    have g3 := PySem.AutoSeq1.sub_list_list
    have g4 := PySem.AutoSeq1.sub_tuple_list
    have g5 := PySem.AutoSeq1.sub_list_tuple
    wp_walk using PySem.AutoSeq1.wpAny_loadPart' hl, PySem.AutoSeq1.wpAny_loadPart' hb
    exact ⟨_, rfl, h⟩

/-- what an Inv says of a list that may be read -/
theorem list_at {X : Cx} {pins : List (Addr × Obj)} {σ : L2.St} {H : Hp} {s : Shared} {a : Addr} {xs : List V} (I : Inv X pins σ H s) (h : SqL X.K H a xs) :
    ∃ (its : List Value) (n : Nat) (sl : Array (Option Value)), Vals xs its ∧ s.heap.get? a = some (⟨.type "list", none, .seq its.toArray n, sl⟩ : Obj) := by
  obtain ⟨its, r, ⟨o, n, e, hc, hd, hs⟩, _⟩ := I.list h
  obtain ⟨c, d, dt, sl⟩ := o
  cases hc
  cases hd
  cases hs
  exact ⟨its, n, sl, r, e⟩
def rCatS (K : PySem.W.Frag) : R2 := fun x y H Q => ∃ a b xs ys, x = .ref a ∧ y = .ref b ∧ SqL K H a xs ∧ SqL K H b ys ∧ xs.length + ys.length ≤ sizeLine ∧
  ∀ p, H p = none → Q (.ref p) (upd H p (.lst (xs ++ ys)))
theorem op_catS {X : Cx} : OpR X (binaryOp .Add) (rCatS X.K) := by
  intro pins s σ H x y v u Q I rx ry h
  obtain ⟨a, b, xs, ys, rfl, rfl, ha, hb, hz, q⟩ := h
  cases rx
  cases ry
  obtain ⟨is, n, sl, ra, ea⟩ := list_at I ha
  obtain ⟨js, m, sb, rb, eb⟩ := list_at I hb
  have la := Paired.length ra
  have lb := Paired.length rb
  refine concat_meets ⟨_, ea, rfl⟩ ⟨_, eb, rfl⟩ noFill_list_add seq_list_add F.slot_list_add F.entry_list_add (F.args_list_add_2 _ _) (meets_cat a b is.toArray js.toArray n m sl sb (by rw [List.size_toArray, List.size_toArray]; omega)) ⟨ea, eb, ?_⟩
  have e2 : is.toArray ++ js.toArray = (is ++ js).toArray := by simp
  rw [e2]
  exact ⟨.ref _, _, I.lnew (t' := s.toks) (ra.append rb) (by rw [List.length_append]; omega), rfl, q _ I.fresh⟩
end QT

set_option maxHeartbeats 4000000
/-! for a, b in enumerate(t), t a tuple; and of either kind. -/
namespace QT
open PySem PySem.Spec PyProof.Rows L2
/-- enumerate's own making over a tuple -/
theorem meets_enumT (l : Addr) (items : Array Value) :
    Meets (Builtin.«enumerate.__new__» ⟨[.type "enumerate", .ref l], []⟩) (fun _ R s => s.heap.IsTuple l items ∧
      R (.ok (.ret (.ref (s.heap.push { cls := .type "tuple_iterator", data := .fields #[.ref l, .int 0 0] }).objs.size)))
        { s with heap := (s.heap.push { cls := .type "tuple_iterator", data := .fields #[.ref l, .int 0 0] }).push { cls := .type "enumerate", data := .fields #[.none, .bool false, .ref s.heap.objs.size, rawInt 0, .none, .none] } }) :=
  .of_wp fun prog w A R s h => by
    obtain ⟨hp, g, d, tk, os⟩ := s
    obtain ⟨hl, h⟩ := h
    have kind := sub_enumerate
    wp_walk
    refine wpAny_stack_any fun st => wpAny_pure ?_
    split
    · rename_i c _ _ _ _ _
      cases (c == Value.type "enumerate")
      · wp_walk using wpAny_pyIter_tuple hl
        exact ⟨_, rfl, h⟩
      · wp_walk using wpAny_pyIter_tuple hl
        exact ⟨_, rfl, h⟩
    · wp_walk using wpAny_pyIter_tuple hl
      exact ⟨_, rfl, h⟩
section
variable {prog : Program} {w : World} {A : Around} {E : Value → Shared → Prop} {s : Shared}
theorem call_enumT {l : Addr} {items : Array Value} {Q : Value → Shared → Prop} (hL : s.heap.IsTuple l items)
    (h : ∀ g, IsEnum g (s.heap.objs.size + 1) s.heap.objs.size 0 .none → g.IsTupleIter s.heap.objs.size l 0 → g.objs.size = s.heap.objs.size + 2 →
      (∀ b o, s.heap.get? b = some o → g.get? b = some o) → Q (.ref (s.heap.objs.size + 1)) { s with heap := g }) :
    wpAny (model prog w) A (call (.type "enumerate") [.ref l]) Q E s := by
  refine callType_new F.called_enumerate (by decide) (F.typeCall_enumerate_1 _) (F.newCall_enumerate_1 _) (fun obj => F.args_object_init_2 obj _) F.entry_enumerate_new (meets_enumT l items) ⟨hL, ?_⟩
  have big : (s.heap.push { cls := .type "tuple_iterator", data := .fields #[.ref l, .int 0 0] }).objs.size = s.heap.objs.size + 1 := Heap.size_push ..
  show _ ∧ _
  rw [big]
  have made : IsEnum ((s.heap.push { cls := .type "tuple_iterator", data := .fields #[.ref l, .int 0 0] }).push
      { cls := .type "enumerate", data := .fields #[.none, .bool false, .ref s.heap.objs.size, rawInt 0, .none, .none] }) (s.heap.objs.size + 1) s.heap.objs.size 0 .none := by
    have there := Heap.get?_push_size (s.heap.push { cls := .type "tuple_iterator", data := .fields #[.ref l, .int 0 0] })
      (o := { cls := .type "enumerate", data := .fields #[.none, .bool false, .ref s.heap.objs.size, rawInt 0, .none, .none] }) rfl
    rw [big] at there
    exact there
  exact ⟨⟨_, made, rfl⟩, h _ made ⟨_, Heap.get?_push_of_some _ (Heap.get?_push_size _ rfl), rfl, rfl⟩ (by rw [Heap.size_push, big]) fun b o x => Heap.get?_push_of_some _ (Heap.get?_push_of_some _ x)⟩
end
/-- the tuple at a as it stands, each item in a new pair -/
def IteT (K : PySem.W.Frag) (a : Addr) : It :=
  ⟨fun i H => ∃ (xs : List V) (x : V), SqT K H a xs ∧ xs[i]? = some x, fun i H v Hn => ∃ T x, v = .ref T ∧ H T = none ∧ Hn = upd H T (.tup [.int (i : Nat), x]) ∧ ∀ xs, SqT K H a xs → xs[i]? = some x, fun i H => ∃ xs : List V, SqT K H a xs ∧ xs.length ≤ i⟩
theorem isTuple_of {h : Heap} {a : Addr} {its : Array Value} (p : IsTup h a its) : h.IsTuple a its := p
theorem turn_enumT {P : Program} {w : World} {K : PySem.W.Frag} {elts : List Expr} {kk : Nat} {tpos : Pos} (a e it : Addr) :
    Turn P w K (.Tuple elts kk tpos) (IteT K a) [e, it] e (fun i h => (∃ old, IsEnum h e it ((i : Nat) : Int) old) ∧ h.IsTupleIter it a i ∧ e ≠ it) where
  mem := by simp
  obj := fun i h st b hb => by
    obtain ⟨⟨old, he⟩, ⟨o, ho, hc, hd⟩, _⟩ := st
    rcases (show b = e ∨ b = it by simpa using hb) with z | z
    · rw [z]
      exact ⟨_, he, fun v q => nomatch q⟩
    · rw [z]
      exact ⟨o, ho, fun v q => by rw [hd] at q; cases q⟩
  keep := fun i h h' st k => let ⟨⟨old, he⟩, ⟨o, ho, r⟩, hne⟩ := st; ⟨⟨old, k e (by simp) _ he⟩, ⟨o, k it (by simp) _ ho, r⟩, hne⟩
  item := by
    intro X hP hw hK hc i pins s σ H E I hf st hg
    subst hP hw hK
    obtain ⟨⟨old, he⟩, hit, hne⟩ := st
    obtain ⟨xs, x, hq, hx⟩ := hg
    obtain ⟨its, rv, p, hz⟩ := I.tuple hq
    obtain ⟨u, hu, ru⟩ := rv.get hx
    have sizeE : e < s.heap.objs.size := Heap.lt_size he
    have sizeI : it < s.heap.objs.size := by
      obtain ⟨_, q, _⟩ := hit
      exact Heap.lt_size q
    have T0 : s.heap.IsTuple a its.toArray := isTuple_of p
    have nat : a ≠ it := fun z => by
      obtain ⟨o1, e1, c1, _⟩ := hit
      obtain ⟨o2, e2, c2, _⟩ := T0
      rw [z, e1] at e2
      cases e2
      rw [c1] at c2
      exact absurd (Value.type.inj c2) (by decide)
    have nae : e ∉ [it, a] := by
      intro z
      rcases (show e = it ∨ e = a by simpa using z) with z | z
      · exact hne z
      · obtain ⟨o2, e2, c2, _⟩ := T0
        rw [← z, he] at e2
        cases e2
        exact absurd (Value.type.inj c2) (by decide)
    have lt : i < its.toArray.size := by
      have z := (List.getElem?_eq_some_iff.mp hu).1
      simpa using z
    refine wpAny_pyNext_enum_itemD (Draws.tuple (A := X.A.in1) (I.ok.hd hc) it a nat its.toArray) he ⟨hit, T0⟩ lt hne nae fun y g tk hy out st1 hT hsz hk => ?_
    have ey : y = u := by
      have z : its[i]? = some y := by simpa using hy
      rw [hu] at z
      exact (Option.some.inj z).symm
    subst ey
    refine ⟨_, rfl, wpAny_letOwnedTupleGo_enum (s := { s with heap := g, toks := tk + 1 }) out fun g2 he2 sb => ?_⟩
    have hT2 : g2.get? s.heap.objs.size = some { cls := .type "tuple", data := .seq #[.int i tk, y] } := (sb.2 _ (Nat.ne_of_gt sizeE)).trans hT
    have new : ObjOk X.prog X.w (upd H s.heap.objs.size (.tup [.int (i : Nat), x])) g2 s.heap.objs.size (.tup [.int (i : Nat), x]) :=
      ⟨by show 2 ≤ sizeLine; decide, [.int i tk, y], .cons ⟨_, rfl⟩ (.cons ru .nil), ⟨_, hT2, rfl, _, rfl⟩⟩
    have kept : ∀ b ob, b ∉ [e, it] → s.heap.get? b = some ob → g2.get? b = some ob := fun b ob hb q => (sb.2 b (fun z => hb (by simp [z]))).trans (hk b ob (fun z => hb (by simp [z])) (fun z => hb (by simp [z])) q)
    have I1 : Inv X pins σ (upd H s.heap.objs.size (.tup [.int (i : Nat), x])) { s with heap := g2, toks := tk + 1 } := I.turnedNew (ch := [e, it]) kept hf (Nat.le_refl _) new
    refine ⟨.ref s.heap.objs.size, _, I1, rfl, ⟨_, x, rfl, I.hok.fresh (Nat.le_refl _), rfl, fun ys hy2 => by rw [I.tuple_inj hy2 hq]; exact hx⟩, ⟨⟨y, ?_⟩, ?_, hne⟩, fun b hb => ?_⟩
    · have e1 : ((i + 1 : Nat) : Int) = (i : Int) + 1 := by omega
      rw [e1]
      exact he2
    · obtain ⟨⟨o, ho, r⟩, _⟩ := st1
      exact ⟨o, (sb.2 it (Ne.symm hne)).trans ho, r⟩
    · have hb2 : b < s.heap.objs.size := by
        rcases (show b = e ∨ b = it by simpa using hb) with z | z
        · rw [z]; exact sizeE
        · rw [z]; exact sizeI
      rw [upd_ne (Nat.ne_of_lt hb2)]
      exact (hf b hb).1
  done := by
    intro X hP hw hK hc i pins s σ H E I hf st hg
    subst hP hw hK
    obtain ⟨⟨old, he⟩, hit, hne⟩ := st
    obtain ⟨xs, hq, hx⟩ := hg
    obtain ⟨its, rv, p, hz⟩ := I.tuple hq
    obtain ⟨f0, f1, f2, f3, f4, f5⟩ := hf it (by simp)
    have T0 : s.heap.IsTuple a its.toArray := isTuple_of p
    have nat : a ≠ it := fun z => by
      obtain ⟨o1, e1, c1, _⟩ := hit
      obtain ⟨o2, e2, c2, _⟩ := T0
      rw [z, e1] at e2
      cases e2
      rw [c1] at c2
      exact absurd (Value.type.inj c2) (by decide)
    have hl := rv.length
    have none_ : its.toArray[i]? = none := by simp; omega
    have fin : ∀ g, Heap.ExtBut it s.heap g → (none : Option Value) = none ∧ Inv X pins σ H { s with heap := g } := fun g eb => ⟨rfl, I.turned (t' := s.toks) (fun b o hb q => eb b o hb q) f0 f1 f3 f4 f5⟩
    -- the end is met at any place behind the last
    have hT : s.TypeIs (.ref e) "enumerate" := ⟨_, he, rfl⟩
    unfold pyNext
    refine wpAny_bind (wpAny_attempt (wpAny_callSpecial?_slot (name := Str.ofString "__next__") hT F.slot_enumerate_next (wpAny_call_entry F.slot_enumerate_next hT F.entry_enumerate_next ?_ (F.args_enumerate_next_1 _))))
    show wpAny _ _ (field (.ref e) 2 >>= _) _ _ _
    refine wpAny_bind (wpAny_field he rfl (x := .ref it) rfl ?_)
    refine wpAny_bind (wpAny_nextOf_tuple_end (I.ok.hd hc) hit T0 none_ fun g x eb hx2 => ?_)
    obtain ⟨o, ho, hcl⟩ := hx2
    refine wpAny_bind (wpAny_isInstance (T := "StopIteration") (b := true) ⟨o, ho, hcl⟩ isSubtype_stop ?_)
    exact wpAny_pure (fin g eb)
  self := fun A i s Q E st h => let ⟨⟨_, he⟩, _⟩ := st; wpAny_pyIter_enum he h
/-- enumerate over a list or a tuple -/
def iEnumS (K : PySem.W.Frag) (ta : TA) : TI := fun σ H R => ta σ H fun vs H1 => ∃ a, vs = [.ref a] ∧ ((∃ xs, SqL K H1 a xs ∧ R (Ite K a) H1) ∨ ∃ xs, SqT K H1 a xs ∧ R (IteT K a) H1)
theorem pi_enumS {X : Cx} {e : Expr} {ta : TA} {p pos tpos : Pos} {elts : List Expr} {kk : Nat} (hg : Gl X "enumerate") (hm : X.mg "enumerate" = none) (ha : PA X [e] ta) (hs : starEach [e] X.env = [(false, eval e X.env)] := by rfl) :
    PI X (.Tuple elts kk tpos) (.Call (.Name "enumerate" p) [e] [] pos) (iEnumS X.K ta) := by
  refine ⟨fun pins s σ H R I h => ?_⟩
  refine Call_ (ld_blt I hg hm boot_enumerate (PyProof.Rows.callWith_type1 (thn (ha.run pos pins s σ H _ I h) fun us s1 ⟨vs, H1, I1, r1, q1⟩ => ?_) hs rfl))
  obtain ⟨a, ex, q⟩ := q1
  subst ex
  cases r1 with
  | cons r rr =>
    cases rr
    cases r
    have near : ∀ b, b ∈ [s1.heap.objs.size + 1, s1.heap.objs.size] → FpOk X pins H1 b := fun b hb => by
      have hle : s1.heap.objs.size ≤ b := by
        rcases (show b = s1.heap.objs.size + 1 ∨ b = s1.heap.objs.size by simpa using hb) with z | z
        · rw [z]; exact Nat.le_add_right _ _
        · rw [z]; exact Nat.le_refl _
      exact I1.fpOk hle (I1.hok.fresh hle)
    rcases q with ⟨xs, hq, q⟩ | ⟨xs, hq, q⟩
    · obtain ⟨its, rv, pl, hz⟩ := I1.list hq
      refine call_enumerate_list pl.isList fun g he hit hsz hk => wpAny_pyIter_enum he ?_
      exact ⟨_, [s1.heap.objs.size + 1, s1.heap.objs.size], _, _, H1, rfl, I1.kept (t' := s1.toks) hk, turn_enum a (s1.heap.objs.size + 1) s1.heap.objs.size, ⟨⟨.none, he⟩, hit, Nat.succ_ne_self _⟩, near, q⟩
    · obtain ⟨its, rv, pl, hz⟩ := I1.tuple hq
      refine call_enumT (isTuple_of pl) fun g he hit hsz hk => wpAny_pyIter_enum he ?_
      exact ⟨_, [s1.heap.objs.size + 1, s1.heap.objs.size], _, _, H1, rfl, I1.kept (t' := s1.toks) hk, turn_enumT a (s1.heap.objs.size + 1) s1.heap.objs.size, ⟨⟨.none, he⟩, hit, Nat.succ_ne_self _⟩, near, q⟩
theorem walk_enumT {K : PySem.W.Frag} {a : Addr} {xs : List V} : Walk (IteT K a) xs.length (fun H => SqT K H a xs) (YPair (fun i => some (.int (i : Nat))) (fun i => xs[i]?)) := by
  refine ⟨fun i _ hi q => ⟨xs, xs[i], q, by simp [hi]⟩, fun _ q => ⟨xs, q, Nat.le_refl _⟩, fun i H v Hn _ q y => ?_⟩
  obtain ⟨T, x, y1, y2, y3, y4⟩ := y
  exact ⟨T, .int (i : Nat), x, y1, y2, y3, rfl, y4 xs q⟩
end QT

/-! Words of my own: a def that may be called by its name. -/
namespace QT
open PySem PySem.Spec PyProof.Rows L2
structure Cal (P : Program) (w : World) (K : PySem.W.Frag) (mg : Str → Option Value) (base : Heap) (k : Nat) (x : Str) (sp : Sp) : Prop where
  ex : ∃ (f : Addr) (fd : FuncData) (ps : List Str), FnOk P w K mg base CX0 k f fd ps sp ∧ mg x = some (.ref f) ∧ PySem.W.keepIn K (.ref f) = true ∧ Binds K fd ps []
/-- one that may raise -/
structure CalX (P : Program) (w : World) (K : PySem.W.Frag) (mg : Str → Option Value) (base : Heap) (k : Nat) (x : Str) (sp : Sp) : Prop where
  ex : ∃ (f : Addr) (fd : FuncData) (ps : List Str), FnOk P w K mg base (L2.CX P w) k f fd ps sp ∧ mg x = some (.ref f) ∧ PySem.W.keepIn K (.ref f) = true ∧ Binds K fd ps []
section
variable {X : Cx} {k j : Nat} {x : Str} {sp : Sp} {p pos : Pos} {e : Expr} {es : List Expr} {t : TA} {W : WX}
theorem pe_c (c : Cal X.prog X.w X.K X.mg X.base k x sp) (hr : Room j X.A) (hk : k ≤ j) (hg : Gl X x) (ha : PA X (e :: es) t)
    (hdb : (x == ("__debug__" : Str)) = false := by decide) (he : starEach (e :: es) X.env = (false, eval e X.env) :: starEach es X.env := by rfl) (hpl : (backTo pos (starEach es X.env)).any (·.1) = false := by rfl) :
    PE X (.Call (.Name x p) (e :: es) [] pos) (tCall sp [] E0 t) := by
  obtain ⟨f, fd, ps, F, hm, kp, b⟩ := c.ex
  exact pe_call F (hr.mono hk) hg hm kp b .nil pass0 ha hdb he hpl
/-- what it raises goes to W, at the caller's slots -/
theorem pe_cX (tk : Takes X W) (c : CalX X.prog X.w X.K X.mg X.base k x sp) (hr : Room j X.A) (hk : k ≤ j) (hg : Gl X x) (ha : PA X (e :: es) t)
    (hdb : (x == ("__debug__" : Str)) = false := by decide) (he : starEach (e :: es) X.env = (false, eval e X.env) :: starEach es X.env := by rfl) (hpl : (backTo pos (starEach es X.env)).any (·.1) = false := by rfl) :
    PE X (.Call (.Name x p) (e :: es) [] pos) (tCallS sp (WE W) t) := by
  obtain ⟨f, fd, ps, F, hm, kp, b⟩ := c.ex
  exact pe_callS F (hr.mono hk) hg hm kp b (fun σ => passAt tk σ) ha hdb he hpl
end

/-! one step of a reading by its head -/
section
variable {σ : L2.St} {H : Hp} {D : Ends} {Q : VK} {QA : List V → Hp → Prop} {QT' : Bool → Hp → Prop}
theorem use_seq {t u : TS} (h : t { D with nx := u D } σ H) : tSeq t u D σ H := h
theorem use_asg {te : TE} {g : TG} (h : te σ H fun x H1 => g x σ H1 D.nx) : tAsg te g D σ H := h
theorem use_set {te : TE} {i : Nat} (h : te σ H fun x H1 => D.nx (σ.set i (some x)) H1) : tAsg te (gName i) D σ H := h
theorem use_drop {te : TE} (h : te σ H fun _ H1 => D.nx σ H1) : tDrop te D σ H := h
theorem use_ret {te : TE} (h : te σ H D.rt) : tRet te D σ H := h
theorem use_if {c : TT} {t u : TS} (h : c σ H fun b H1 => if b = true then t D σ H1 else u D σ H1) : tIfS c t u D σ H := h
theorem use_lst {t : TA} (h : t σ H fun xs H1 => xs.length ≤ sizeLine ∧ ∀ p, H1 p = none → Q (.ref p) (upd H1 p (.lst xs))) : tLst t σ H Q := h
theorem use_tup {t : TA} (h : t σ H fun xs H1 => xs.length ≤ sizeLine ∧ ∀ p, H1 p = none → Q (.ref p) (upd H1 p (.tup xs))) : tTup t σ H Q := h
theorem use_op {r : R2} {ta tb : TE} (h : ta σ H fun x H1 => tb σ H1 fun y H2 => r x y H2 Q) : tOp r ta tb σ H Q := h
theorem use_cons {te : TE} {t : TA} (h : te σ H fun x H1 => t σ H1 fun vs H2 => QA (x :: vs) H2) : tCons te t σ H QA := h
theorem use_nil (h : QA [] H) : tNil σ H QA := h
theorem use_cb {r : List V → Hp → VK → Prop} {t : TA} (h : t σ H fun vs H1 => r vs H1 Q) : tCB r t σ H Q := h
theorem use_call {sp : Sp} {dvs : List V} {E : XK} {t : TA} (h : t σ H fun vs H1 => sp (vs ++ dvs) H1 Q E) : tCall sp dvs E t σ H Q := h
theorem use_c {v : V} (h : Q v H) : tC v σ H Q := h
theorem use_var {i : Nat} {v : V} (e : σ[i]? = some (some v)) (h : Q v H) : tVar i σ H Q := ⟨v, e, h⟩
theorem use_test {t : TE} (h : t σ H fun x H1 => ∃ k, x = .bl k ∧ QT' k H1) : tTest t σ H QT' := h
end
/-- a reading may be told by another -/
theorem pe_imp {X : Cx} {e : Expr} {t t2 : TE} (h : PE X e t) (i : ∀ σ H Q, t2 σ H Q → t σ H Q) : PE X e t2 := ⟨fun pins s σ H Q I q => h.run pins s σ H Q I (i σ H Q q)⟩
theorem pss_imp {X : Cx} {st : List Stmt} {t t2 : TS} (h : PSs X st t) (i : ∀ D σ H, t2 D σ H → t D σ H) : PSs X st t2 := ⟨fun pins s σ H D I q => h.run pins s σ H D I (i D σ H q)⟩
end QT

/-! min and max of whole numbers with default=; is True, is False of anything -/
namespace QT
open PySem PySem.Spec PyProof.Rows L2
section
variable {prog : Program} {w : World} {A : Around} {E : Value → Shared → Prop} {s : Shared}
theorem minD_list {l : Addr} {vs : Array Value} {d : Value} {val : Nat → Int} {Q : Value → Shared → Prop} (hh : A.handled = none) (hl : s.heap.IsList l vs) (hv : ∀ i v, vs[i]? = some v → ∃ t, v = Value.int (val i) t)
    (h0 : vs.size = 0 → ∀ h' tk, (∀ b o, s.heap.get? b = some o → h'.get? b = some o) → Q d { s with heap := h', toks := tk })
    (h : ∀ i t h' tk, i < vs.size → (∀ j, j < vs.size → val i ≤ val j) → (∀ b o, s.heap.get? b = some o → h'.get? b = some o) → Q (.int (val i) t) { s with heap := h', toks := tk }) :
    wpAny (model prog w) A (call (.builtin "min") [.ref l] [(Str.ofString "default", d)]) Q E s := by
  refine call_min_walkD (W.iter_listW (A := A.in1) hh hl fun s₂ e wk st hfp hw hk => ?_)
  refine ⟨_, _, _, _, _, _, _, s.heap, (fun i j => decide (val i < val j)), rfl, wk, st, hfp, hw, hk, fun hz s' m => ?_, fun hp => ⟨fun i j vi vj s' Q E _ hi hj hq => CmpOf.ints_lt (P := fun i v => vs[i]? = some v) val hv i j vi vj s' Q E hi hj hq, fun v s' hP m => ?_⟩⟩
  · obtain ⟨h', tk, rfl, hk'⟩ := W.moved_old e rfl m
    exact h0 hz h' tk hk'
  · obtain ⟨h', tk, rfl, hk'⟩ := W.moved_old e rfl m
    obtain ⟨t, rfl⟩ := hv _ v hP
    have hb := argBest_lt val (vs.size - 1)
    exact h _ t h' tk (by omega) (fun j hj => hb.2 j (by omega)) hk'
theorem minD_tuple {l : Addr} {vs : Array Value} {d : Value} {val : Nat → Int} {Q : Value → Shared → Prop} (hh : A.handled = none) (hl : s.heap.IsTuple l vs) (hv : ∀ i v, vs[i]? = some v → ∃ t, v = Value.int (val i) t)
    (h0 : vs.size = 0 → ∀ h' tk, (∀ b o, s.heap.get? b = some o → h'.get? b = some o) → Q d { s with heap := h', toks := tk })
    (h : ∀ i t h' tk, i < vs.size → (∀ j, j < vs.size → val i ≤ val j) → (∀ b o, s.heap.get? b = some o → h'.get? b = some o) → Q (.int (val i) t) { s with heap := h', toks := tk }) :
    wpAny (model prog w) A (call (.builtin "min") [.ref l] [(Str.ofString "default", d)]) Q E s := by
  refine call_min_walkD (W.iter_tupleW (A := A.in1) hh hl fun s₂ e wk st hfp hw hk => ?_)
  refine ⟨_, _, _, _, _, _, _, s.heap, (fun i j => decide (val i < val j)), rfl, wk, st, hfp, hw, hk, fun hz s' m => ?_, fun hp => ⟨fun i j vi vj s' Q E _ hi hj hq => CmpOf.ints_lt (P := fun i v => vs[i]? = some v) val hv i j vi vj s' Q E hi hj hq, fun v s' hP m => ?_⟩⟩
  · obtain ⟨h', tk, rfl, hk'⟩ := W.moved_old e rfl m
    exact h0 hz h' tk hk'
  · obtain ⟨h', tk, rfl, hk'⟩ := W.moved_old e rfl m
    obtain ⟨t, rfl⟩ := hv _ v hP
    have hb := argBest_lt val (vs.size - 1)
    exact h _ t h' tk (by omega) (fun j hj => hb.2 j (by omega)) hk'
theorem maxD_list {l : Addr} {vs : Array Value} {d : Value} {val : Nat → Int} {Q : Value → Shared → Prop} (hh : A.handled = none) (hl : s.heap.IsList l vs) (hv : ∀ i v, vs[i]? = some v → ∃ t, v = Value.int (val i) t)
    (h0 : vs.size = 0 → ∀ h' tk, (∀ b o, s.heap.get? b = some o → h'.get? b = some o) → Q d { s with heap := h', toks := tk })
    (h : ∀ i t h' tk, i < vs.size → (∀ j, j < vs.size → val j ≤ val i) → (∀ b o, s.heap.get? b = some o → h'.get? b = some o) → Q (.int (val i) t) { s with heap := h', toks := tk }) :
    wpAny (model prog w) A (call (.builtin "max") [.ref l] [(Str.ofString "default", d)]) Q E s := by
  refine call_max_walkD (W.iter_listW (A := A.in1) hh hl fun s₂ e wk st hfp hw hk => ?_)
  refine ⟨_, _, _, _, _, _, _, s.heap, (fun i j => decide (val i > val j)), rfl, wk, st, hfp, hw, hk, fun hz s' m => ?_, fun hp => ⟨fun i j vi vj s' Q E _ hi hj hq => CmpOf.ints_gt (P := fun i v => vs[i]? = some v) val hv i j vi vj s' Q E hi hj hq, fun v s' hP m => ?_⟩⟩
  · obtain ⟨h', tk, rfl, hk'⟩ := W.moved_old e rfl m
    exact h0 hz h' tk hk'
  · obtain ⟨h', tk, rfl, hk'⟩ := W.moved_old e rfl m
    obtain ⟨t, rfl⟩ := hv _ v hP
    have hb := argBest_gt val (vs.size - 1)
    exact h _ t h' tk (by omega) (fun j hj => hb.2 j (by omega)) hk'
theorem maxD_tuple {l : Addr} {vs : Array Value} {d : Value} {val : Nat → Int} {Q : Value → Shared → Prop} (hh : A.handled = none) (hl : s.heap.IsTuple l vs) (hv : ∀ i v, vs[i]? = some v → ∃ t, v = Value.int (val i) t)
    (h0 : vs.size = 0 → ∀ h' tk, (∀ b o, s.heap.get? b = some o → h'.get? b = some o) → Q d { s with heap := h', toks := tk })
    (h : ∀ i t h' tk, i < vs.size → (∀ j, j < vs.size → val j ≤ val i) → (∀ b o, s.heap.get? b = some o → h'.get? b = some o) → Q (.int (val i) t) { s with heap := h', toks := tk }) :
    wpAny (model prog w) A (call (.builtin "max") [.ref l] [(Str.ofString "default", d)]) Q E s := by
  refine call_max_walkD (W.iter_tupleW (A := A.in1) hh hl fun s₂ e wk st hfp hw hk => ?_)
  refine ⟨_, _, _, _, _, _, _, s.heap, (fun i j => decide (val i > val j)), rfl, wk, st, hfp, hw, hk, fun hz s' m => ?_, fun hp => ⟨fun i j vi vj s' Q E _ hi hj hq => CmpOf.ints_gt (P := fun i v => vs[i]? = some v) val hv i j vi vj s' Q E hi hj hq, fun v s' hP m => ?_⟩⟩
  · obtain ⟨h', tk, rfl, hk'⟩ := W.moved_old e rfl m
    exact h0 hz h' tk hk'
  · obtain ⟨h', tk, rfl, hk'⟩ := W.moved_old e rfl m
    obtain ⟨t, rfl⟩ := hv _ v hP
    have hb := argBest_gt val (vs.size - 1)
    exact h _ t h' tk (by omega) (fun j hj => hb.2 j (by omega)) hk'
end
theorem vint_at {ns : List Int} {its : List Value} (r : Vals (ns.map V.int) its) (i : Nat) (v : Value) (h : its.toArray[i]? = some v) : ∃ t, v = Value.int (ns.getD i 0) t := by
  have h : its[i]? = some v := by simpa using h
  have hl : (ns.map V.int).length = its.length := r.length
  have lt : i < its.length := by
    rcases Nat.lt_or_ge i its.length with z | z
    · exact z
    · rw [List.getElem?_eq_none z] at h
      cases h
  have lt2 : i < ns.length := by
    rw [List.length_map] at hl
    omega
  have e : (ns.map V.int)[i]? = some (V.int ns[i]) := by
    rw [List.getElem?_map, List.getElem?_eq_getElem lt2]
    rfl
  obtain ⟨u, h1, h2⟩ := r.get e
  rw [h] at h1
  cases h1
  obtain ⟨t, h2⟩ := h2
  refine ⟨t, ?_⟩
  rw [h2, List.getD_eq_getElem?_getD, List.getElem?_eq_getElem lt2]
  rfl
/-- min(xs, default=d), xs a list or a tuple of whole numbers -/
def rMinD (K : PySem.W.Frag) : List V → List V → Hp → VK → Prop := fun vs zs H Q => ∃ (a : Addr) (ns : List Int) (d : V), vs = [V.ref a] ∧ zs = [d] ∧ (SqL K H a (ns.map V.int) ∨ SqT K H a (ns.map V.int)) ∧ (ns = [] → Q d H) ∧ ∀ m, m ∈ ns → (∀ y, y ∈ ns → m ≤ y) → Q (.int m) H
def rMaxD2 (K : PySem.W.Frag) : List V → List V → Hp → VK → Prop := fun vs zs H Q => ∃ (a : Addr) (ns : List Int) (d : V), vs = [V.ref a] ∧ zs = [d] ∧ (SqL K H a (ns.map V.int) ∨ SqT K H a (ns.map V.int)) ∧ (ns = [] → Q d H) ∧ ∀ m, m ∈ ns → (∀ y, y ∈ ns → y ≤ m) → Q (.int m) H
theorem getD_memI {ns : List Int} {i : Nat} (h : i < ns.length) : ns.getD i 0 ∈ ns := by
  rw [List.getD_eq_getElem?_getD, List.getElem?_eq_getElem h]
  exact List.getElem_mem h
theorem mem_getDI {ns : List Int} {y : Int} (h : y ∈ ns) : ∃ j, j < ns.length ∧ ns.getD j 0 = y := by
  obtain ⟨j, hj, e⟩ := List.getElem_of_mem h
  refine ⟨j, hj, ?_⟩
  rw [List.getD_eq_getElem?_getD, List.getElem?_eq_getElem hj]
  exact e
section
variable {X : Cx}
theorem cr_minD (hc : X.calm = true) : CallRK X (.builtin "min") [Str.ofString "default"] (rMinD X.K) := by
  intro pins s σ H vs zs us ws Q I r rz h
  obtain ⟨a, ns, d, rfl, rfl, hs, q0, q1⟩ := h
  obtain rfl := Vals.ref1 r
  obtain ⟨w1, rfl, e1⟩ := vals1 rz
  rcases hs with hs | hs
  · obtain ⟨its, rv, hl, _⟩ := I.list hs
    have hn : its.length = ns.length := by
      have := rv.length
      rw [List.length_map] at this
      exact this.symm
    refine minD_list (val := fun i => ns.getD i 0) (I.ok.hd hc) hl.isList (vint_at rv) (fun hz h' tk hk => ⟨d, H, I.kept hk, e1, q0 (List.eq_nil_of_length_eq_zero (by rw [← hn]; simpa using hz))⟩) fun i t h' tk hi hj hk => ⟨.int _, H, I.kept hk, ⟨_, rfl⟩, ?_⟩
    have hi : i < ns.length := by
      rw [← hn]
      simpa using hi
    refine q1 _ (getD_memI hi) fun y hy => ?_
    obtain ⟨j, hj2, e⟩ := mem_getDI hy
    rw [← e]
    exact hj j (by rw [List.size_toArray, hn]; exact hj2)
  · obtain ⟨its, rv, hl, _⟩ := I.tuple hs
    have hn : its.length = ns.length := by
      have := rv.length
      rw [List.length_map] at this
      exact this.symm
    refine minD_tuple (val := fun i => ns.getD i 0) (I.ok.hd hc) hl (vint_at rv) (fun hz h' tk hk => ⟨d, H, I.kept hk, e1, q0 (List.eq_nil_of_length_eq_zero (by rw [← hn]; simpa using hz))⟩) fun i t h' tk hi hj hk => ⟨.int _, H, I.kept hk, ⟨_, rfl⟩, ?_⟩
    have hi : i < ns.length := by
      rw [← hn]
      simpa using hi
    refine q1 _ (getD_memI hi) fun y hy => ?_
    obtain ⟨j, hj2, e⟩ := mem_getDI hy
    rw [← e]
    exact hj j (by rw [List.size_toArray, hn]; exact hj2)
theorem cr_maxD2 (hc : X.calm = true) : CallRK X (.builtin "max") [Str.ofString "default"] (rMaxD2 X.K) := by
  intro pins s σ H vs zs us ws Q I r rz h
  obtain ⟨a, ns, d, rfl, rfl, hs, q0, q1⟩ := h
  obtain rfl := Vals.ref1 r
  obtain ⟨w1, rfl, e1⟩ := vals1 rz
  rcases hs with hs | hs
  · obtain ⟨its, rv, hl, _⟩ := I.list hs
    have hn : its.length = ns.length := by
      have := rv.length
      rw [List.length_map] at this
      exact this.symm
    refine maxD_list (val := fun i => ns.getD i 0) (I.ok.hd hc) hl.isList (vint_at rv) (fun hz h' tk hk => ⟨d, H, I.kept hk, e1, q0 (List.eq_nil_of_length_eq_zero (by rw [← hn]; simpa using hz))⟩) fun i t h' tk hi hj hk => ⟨.int _, H, I.kept hk, ⟨_, rfl⟩, ?_⟩
    have hi : i < ns.length := by
      rw [← hn]
      simpa using hi
    refine q1 _ (getD_memI hi) fun y hy => ?_
    obtain ⟨j, hj2, e⟩ := mem_getDI hy
    rw [← e]
    exact hj j (by rw [List.size_toArray, hn]; exact hj2)
  · obtain ⟨its, rv, hl, _⟩ := I.tuple hs
    have hn : its.length = ns.length := by
      have := rv.length
      rw [List.length_map] at this
      exact this.symm
    refine maxD_tuple (val := fun i => ns.getD i 0) (I.ok.hd hc) hl (vint_at rv) (fun hz h' tk hk => ⟨d, H, I.kept hk, e1, q0 (List.eq_nil_of_length_eq_zero (by rw [← hn]; simpa using hz))⟩) fun i t h' tk hi hj hk => ⟨.int _, H, I.kept hk, ⟨_, rfl⟩, ?_⟩
    have hi : i < ns.length := by
      rw [← hn]
      simpa using hi
    refine q1 _ (getD_memI hi) fun y hy => ?_
    obtain ⟨j, hj2, e⟩ := mem_getDI hy
    rw [← e]
    exact hj j (by rw [List.size_toArray, hn]; exact hj2)
/-- min(xs, default=d): how it stands to a bound -/
def rMinB (K : PySem.W.Frag) : List V → List V → Hp → VK → Prop := fun vs zs H Q => ∃ (a : Addr) (ns : List Int) (d : Int), vs = [V.ref a] ∧ zs = [.int d] ∧ (SqL K H a (ns.map V.int) ∨ SqT K H a (ns.map V.int)) ∧ ∀ m : Int, (∀ b, b ≤ d → decide (b ≤ m) = ns.all fun n => decide (b ≤ n)) → Q (.int m) H
def rMaxB (K : PySem.W.Frag) : List V → List V → Hp → VK → Prop := fun vs zs H Q => ∃ (a : Addr) (ns : List Int) (d : Int), vs = [V.ref a] ∧ zs = [.int d] ∧ (SqL K H a (ns.map V.int) ∨ SqT K H a (ns.map V.int)) ∧ ∀ m : Int, (∀ b, d ≤ b → decide (m ≤ b) = ns.all fun n => decide (n ≤ b)) → Q (.int m) H
theorem least_all {ns : List Int} {m : Int} (h1 : m ∈ ns) (h2 : ∀ y, y ∈ ns → m ≤ y) (b : Int) : decide (b ≤ m) = ns.all fun n => decide (b ≤ n) := by
  rw [Bool.eq_iff_iff, decide_eq_true_eq, List.all_eq_true]
  constructor
  · intro h n hn
    have := h2 n hn
    exact decide_eq_true (by omega)
  · intro h
    simpa using h m h1
theorem most_all {ns : List Int} {m : Int} (h1 : m ∈ ns) (h2 : ∀ y, y ∈ ns → y ≤ m) (b : Int) : decide (m ≤ b) = ns.all fun n => decide (n ≤ b) := by
  rw [Bool.eq_iff_iff, decide_eq_true_eq, List.all_eq_true]
  constructor
  · intro h n hn
    have := h2 n hn
    exact decide_eq_true (by omega)
  · intro h
    simpa using h m h1
theorem cr_minB (hc : X.calm = true) : CallRK X (.builtin "min") [Str.ofString "default"] (rMinB X.K) := by
  intro pins s σ H vs zs us ws Q I r rz h
  obtain ⟨a, ns, d, e1, e2, hs, q⟩ := h
  refine cr_minD hc pins s σ H vs zs us ws Q I r rz ⟨a, ns, .int d, e1, e2, hs, fun z => q d fun b hb => ?_, fun m h1 h2 => q m fun b _ => least_all h1 h2 b⟩
  rw [z, decide_eq_true hb]
  rfl
theorem cr_maxB (hc : X.calm = true) : CallRK X (.builtin "max") [Str.ofString "default"] (rMaxB X.K) := by
  intro pins s σ H vs zs us ws Q I r rz h
  obtain ⟨a, ns, d, e1, e2, hs, q⟩ := h
  refine cr_maxD2 hc pins s σ H vs zs us ws Q I r rz ⟨a, ns, .int d, e1, e2, hs, fun z => q d fun b hb => ?_, fun m h1 h2 => q m fun b _ => most_all h1 h2 b⟩
  rw [z, decide_eq_true hb]
  rfl
theorem all_and {ns : List Int} {f g : Int → Bool} : (ns.all fun n => f n && g n) = (ns.all f && ns.all g) := by
  induction ns with
  | nil => rfl
  | cons n r ih =>
    simp only [List.all_cons, ih]
    cases f n <;> cases g n <;> simp
/-- x is True, x is False, x anything -/
def rIsB1 : R2 := fun x y H Q => ∃ b : Bool, y = .bl b ∧ Q (.bl (decide (x = .bl b))) H
theorem is_other {X : Cx} {pins : List (Addr × Obj)} {s : Shared} {σ : L2.St} {H : Hp} {x : V} {v : Value} {b : Bool} {Q : VK} (I : Inv X pins σ H s) (p : plainIs v (.bool b) = true) (n : v ≠ .bool b) (m : x ≠ .bl b) (q : Q (.bl (decide (x = .bl b))) H) :
    wpAny (model X.prog X.w) X.A (compareOp .Is v (.bool b)) (EP X pins σ Q) X.xe s :=
  wpAny_is_other p n ⟨.bl false, H, I, rfl, by simpa [m] using q⟩
theorem op_isB : OpR X (compareOp .Is) rIsB1 := by
  intro pins s σ H x y v u Q I rx ry h
  obtain ⟨b, rfl, q⟩ := h
  cases (show u = Value.bool b from ry)
  cases x with
  | bl c =>
    cases (show v = Value.bool c from rx)
    by_cases e : c = b
    · subst e
      exact wpAny_is_self rfl ⟨.bl true, H, I, rfl, by simpa using q⟩
    · exact wpAny_is_other rfl (fun z => e (Value.bool.inj z)) ⟨.bl false, H, I, rfl, by simpa [e] using q⟩
  | non =>
    cases rx
    exact is_other I rfl (fun z => by cases z) (fun z => by cases z) q
  | ref a =>
    cases rx
    exact is_other I rfl (fun z => by cases z) (fun z => by cases z) q
  | ty n =>
    cases rx
    exact is_other I rfl (fun z => by cases z) (fun z => by cases z) q
  | int i =>
    obtain ⟨t, rfl⟩ := rx
    exact is_other I rfl (fun z => by cases z) (fun z => by cases z) q
  | str i =>
    obtain ⟨t, rfl⟩ := rx
    exact is_other I rfl (fun z => by cases z) (fun z => by cases z) q
  | byt i =>
    obtain ⟨t, rfl⟩ := rx
    exact is_other I rfl (fun z => by cases z) (fun z => by cases z) q
  | flt i =>
    obtain ⟨t, rfl⟩ := rx
    exact is_other I rfl (fun z => by cases z) (fun z => by cases z) q
end
end QT

/-! what are_between answers -/
namespace QT
open PySem PySem.Spec PyProof.Rows L2
def isI : V → Bool
  | .int _ => true
  | _ => false
def nI : V → Bool := fun x => !isI x
def btw (lo hi : Int) : V → Bool
  | .int i => decide (lo ≤ i) && decide (i ≤ hi)
  | _ => false
/-- a thing whose type is known, however the heap grows -/
inductive Kn (K : PySem.W.Frag) (H : Hp) : V → Prop
  | int (i : Int) : Kn K H (.int i)
  | bl (b : Bool) : Kn K H (.bl b)
  | oth {x : V} {t : String} (n1 : isI x = false) (n2 : ∀ b, x ≠ .bl b) (ty : ∀ H', (∀ b o, H b = some o → H' b = some o) → TyX K H' x (.type t)) (no : PySem.W.kitOne K (.type t) (.type "int") = some false) : Kn K H x
theorem Kn.same {K : PySem.W.Frag} {H H' : Hp} {x : V} (h : Kn K H x) (e : ∀ b o, H b = some o → H' b = some o) : Kn K H' x := by
  cases h with
  | int i => exact .int i
  | bl b => exact .bl b
  | oth n1 n2 ty no => exact .oth n1 n2 (fun H2 k => ty H2 fun b o q => k b o (e b o q)) no
theorem seqT_same {K : PySem.W.Frag} {H H' : Hp} {a : Addr} {xs : List V} (h : SqT K H a xs) (e : ∀ b o, H b = some o → H' b = some o) : SqT K H' a xs := by
  rcases h with (h | ⟨o, h⟩) | h
  · exact .inl (.inl (e _ _ h))
  · exact .inl (.inr ⟨o, e _ _ h⟩)
  · exact .inr h
def spBtw (K : PySem.W.Frag) : Sp := fun vs H Q _ => ∃ (a : Addr) (xs : List V) (lo hi : Int), vs = [.ref a, .int lo, .int hi] ∧ (SqL K H a xs ∨ SqT K H a xs) ∧ (∀ x ∈ xs, Kn K H x) ∧ xs.length < sizeLine ∧
  ∀ H', (∀ b o, H b = some o → H' b = some o) → Q (.bl (xs.all (btw lo hi))) H'
theorem take_filter {f : V → Bool} {xs : List V} {i : Nat} {x : V} (h : xs[i]? = some x) : (xs.take (i + 1)).filter f = if f x = true then (xs.take i).filter f ++ [x] else (xs.take i).filter f := by
  rw [List.take_succ, h, List.filter_append]
  cases e : f x with
  | true => simp [List.filter, e]
  | false => simp [List.filter, e]
theorem ints_of : ∀ {xs : List V}, xs.filter nI = [] → ∃ ns : List Int, xs = ns.map V.int
  | [], _ => ⟨[], rfl⟩
  | x :: r, h => by
    cases x with
    | int n =>
      obtain ⟨ns, e⟩ := ints_of (xs := r) (by simpa [List.filter, nI, isI] using h)
      exact ⟨n :: ns, by rw [e]; rfl⟩
    | _ => simp [List.filter, nI, isI] at h
theorem odd_all {lo hi : Int} : ∀ {xs : List V}, xs.filter nI ≠ [] → xs.all (btw lo hi) = false
  | [], h => absurd rfl h
  | x :: r, h => by
    cases x with
    | int n =>
      have z := odd_all (lo := lo) (hi := hi) (xs := r) (by simpa [List.filter, nI, isI] using h)
      rw [List.all_cons, z, Bool.and_false]
    | _ => rfl
theorem all_ints {lo hi : Int} {ns : List Int} : (ns.map V.int).all (btw lo hi) = ((ns.all fun n => decide (lo ≤ n)) && ns.all fun n => decide (n ≤ hi)) := by
  rw [List.all_map, ← all_and]
  rfl
theorem filter_le {f : V → Bool} (xs : List V) (i : Nat) : ((xs.take i).filter f).length ≤ xs.length :=
  Nat.le_trans (List.length_filter_le _ _) (by rw [List.length_take]; omega)
/-- x is True or x is False or not isinstance(x, int) -/
theorem kn_test {K : PySem.W.Frag} {H : Hp} {x : V} {σ : L2.St} {j : Nat} {Q : Bool → Hp → Prop} (hσ : σ[j]? = some (some x)) (h : Kn K H x) (q : Q (nI x) H) :
    tOr (tTest (tOp rIsB1 (tVar j) (tC (.bl true)))) (tOr (tTest (tOp rIsB1 (tVar j) (tC (.bl false)))) (tNot (tB (tCB (rIsi K) (tCons (tVar j) (tCons (tC (.ty "int")) tNil)))))) σ H Q := by
  refine ⟨x, hσ, true, rfl, _, rfl, ?_⟩
  have go : ∀ {c : Bool} {t : String}, PySem.W.kitOne K (.type t) (.type "int") = some c → TyX K H x (.type t) → decide (x = .bl true) = false → decide (x = .bl false) = false → (!c) = nI x →
      if decide (x = .bl true) = true then Q true H else tOr (tTest (tOp rIsB1 (tVar j) (tC (.bl false)))) (tNot (tB (tCB (rIsi K) (tCons (tVar j) (tCons (tC (.ty "int")) tNil))))) σ H Q := fun {c t} k ty d1 d2 e => by
    rw [d1, if_neg Bool.false_ne_true]
    refine ⟨x, hσ, false, rfl, _, rfl, ?_⟩
    dsimp only
    rw [d2, if_neg Bool.false_ne_true]
    refine ⟨x, hσ, _, _, _, _, c, rfl, .ty _, ty, k, c, rfl, ?_⟩
    dsimp only
    rw [e]
    exact q
  cases h with
  | int i => exact go (c := true) (t := "int") (kit_ty (a := "int") (b := "int") (by decide +kernel)) (.base (by constructor)) (by simp) (by simp) rfl
  | bl b =>
    cases b with
    | true =>
      refine (if_pos (c := decide (V.bl true = V.bl true) = true) (by simp)).mpr ?_
      exact q
    | false =>
      refine (if_neg (c := decide (V.bl false = V.bl true) = true) (by simp)).mpr ?_
      refine ⟨_, hσ, false, rfl, _, rfl, ?_⟩
      refine (if_pos (c := decide (V.bl false = V.bl false) = true) (by simp)).mpr ?_
      exact q
  | @oth _ t n1 n2 ty no =>
    refine go (c := false) no (ty H fun _ _ z => z) (by simp [n2]) (by simp [n2]) ?_
    unfold nI
    rw [n1]
/-- the two bounds -/
theorem use_bounds {K : PySem.W.Frag} {a : Addr} {ns : List Int} {lo hi : Int} {σ : L2.St} {H : Hp} {Q : VK} (h0 : σ[0]? = some (some (.ref a))) (h1 : σ[1]? = some (some (.int lo))) (h2 : σ[2]? = some (some (.int hi)))
    (hs : SqL K H a (ns.map V.int) ∨ SqT K H a (ns.map V.int)) (q : Q (.bl ((ns.map V.int).all (btw lo hi))) H) :
    tAndV (tOp (rI0 fun i j => V.bl (decide (j ≤ i))) (tCKw (rMinB K) (tCons (tVar 0) tNil) (tCons (tVar 1) tNil)) (tVar 1)) (tOp (rI0 fun i j => V.bl (decide (i ≤ j))) (tCKw (rMaxB K) (tCons (tVar 0) tNil) (tCons (tVar 2) tNil)) (tVar 2)) σ H Q := by
  rw [all_ints] at q
  refine ⟨_, h0, _, h1, a, ns, lo, rfl, rfl, hs, fun m hm => ⟨_, h1, m, lo, rfl, rfl, _, rfl, ?_⟩⟩
  have e1 := hm lo (Int.le_refl _)
  rw [← e1] at q
  cases c : decide (lo ≤ m) with
  | false =>
    rw [if_neg Bool.false_ne_true]
    rw [c] at q
    exact q
  | true =>
    rw [if_pos rfl]
    refine ⟨_, h0, _, h2, a, ns, hi, rfl, rfl, hs, fun m2 hm2 => ⟨_, h2, m2, hi, rfl, rfl, ?_⟩⟩
    dsimp only
    rw [hm2 hi (Int.le_refl _)]
    rw [c, Bool.true_and] at q
    exact q
/-- what is behind the first row -/
theorem btw_end {K : PySem.W.Frag} {D : Addr} {xs : List V} {lo hi : Int} {H : Hp} {R : Bool → Prop} (hD : SqL K H D (xs.filter nI)) (r1 : xs.all (btw lo hi) = false → R true) (r2 : (∃ ns : List Int, xs = ns.map V.int) → R false) : ∃ k, TruV K (.ref D) H k ∧ R k := by
  refine ⟨!(xs.filter nI).isEmpty, .inl ⟨_, hD, rfl⟩, ?_⟩
  cases e : xs.filter nI with
  | nil => exact r2 (ints_of e)
  | cons x r => exact r1 (odd_all (by rw [e]; simp))
end QT

/-! defs that are called where no repr is under way, so that they may ask repr -/
namespace QT
open PySem PySem.Spec PyProof.Rows L2
structure FnOkG (P : Program) (w : World) (K : PySem.W.Frag) (mg : Str → Option Value) (base : Heap) (k : Nat) (f : Addr) (fd : FuncData) (ps : List Str) (sp : Sp) : Prop where
  len : ∀ vs H Q E, sp vs H Q E → vs.length = ps.length
  run : ∀ (A : Around) (outer : List Env) (s : Shared) (H : Hp) (args : Args) (us : List Value) (vs : List V) (Q : VK) (E : XK), A.guards = some [] → Room k A → Env0 P w K mg base A outer s H → BindsTo s fd args (ps.zip us) → Vals vs us → sp vs H Q E →
    codeAny (model P w) A (.call (.ref f) args) (CR CX0 outer P w H s Q E) s
section
variable {P : Program} {w : World} {K : PySem.W.Frag} {mg : Str → Option Value} {base : Heap} {f : Addr} {fd : FuncData} {ps : List Str} {sp : Sp}
/-- a def by its body, where no repr is under way -/
theorem okG {x qual : Str} {st : Stmt} {k : Nat} {N : List Str} (F : Fun K x qual st f fd) (S : FnScope N ps (defScope st)) (len : ∀ vs H Q E, sp vs H Q E → vs.length = ps.length)
    (body : ∀ (cdv : Value) (A : Around) (outer : List Env) (s : Shared) (H : Hp) (vs : List V) (Q : VK) (E : XK), A.guards = some [] → Room k (A.deeper (envOfC qual (defScope st) s.heap.objs.size f cdv)) → sp vs H Q E →
      ∃ t, PSs (cxOf CX0 P w K mg base N qual (defScope st) f cdv A outer s H E).nox (defBody st) t ∧ t { nx := fun _ H' => Q .non H', rt := Q } (start N vs) H) : FnOkG P w K mg base (k + 1) f fd ps sp := by
  obtain ⟨oc, od, kV, doc, pm, an, cdv, ct, osl, rfl, atF, code⟩ := F.ex
  refine ⟨len, fun A outer s H args us vs Q E free room e0 bind vals promise => ?_⟩
  have count := len _ _ _ _ promise
  have inK : K.In s.heap := e0.mod.kin.keeps fun b o e => (e0.bs b o e).1
  have lim : s.heap.NoLimit := e0.mod.nolimit.keeps fun b o e => (e0.bs b o e).1
  have kinds : ∀ y ∈ ps.zip us, (defScope st).names.lookup y.1 = some .local ∨ ((defScope st).names.lookup y.1 = some .cell ∧ ((cellsFrom (s.heap.objs.size + 1) (defScope st).names []).lookup y.1).isSome = true) := fun ⟨n, v⟩ mem => by
    rcases S.par n (List.of_mem_zip mem).1 with q | q
    · exact .inl q
    · exact .inr ⟨q, PySem.W.cellsFrom_some _ _ _ (.inl q)⟩
  refine codeAny_call_function room.depth (inK _ _ atF) rfl S.co S.gen rfl (PySem.W.codeRec_of inK code) (bind _ _ _ _ ?_)
  refine wpAny_newFunctionEnv_cells S.kind kinds fun env same s1 inCall => ?_
  subst same
  refine ⟨lim.keeps inCall.toInCall.keep, codeAny_func ?_⟩
  obtain ⟨t, ht0, reads⟩ := body cdv A outer s H vs Q E free (room.deeper _) promise
  have ht := ht0.nox
  have I : Inv (cxOf CX0 P w K mg base N qual (defScope st) f cdv A outer s H E) [] (start N vs) H s1 := inv_start S room.hd e0 count vals inCall
  have fin : ∀ {σ' : L2.St} {H' : Hp} {v : V} {u : Value} {s' : Shared}, Inv (cxOf CX0 P w K mg base N qual (defScope st) f cdv A outer s H E) [] σ' H' s' → RelV v u → Q v H' → CE outer P w H s Q u s' :=
    fun {σ' H' v u s'} J rv q => ⟨v, H', J.os, J.bare, J.base, J.hok, rv, q⟩
  refine wpAny_mono (ht.run [] s1 (start N vs) H _ I reads) (fun fl s' ends => ?_) fun e s' ends => ends
  cases fl with
  | ret u =>
    obtain ⟨v, σ', H', J, rv, q⟩ := ends
    exact fin J rv q
  | next =>
    obtain ⟨σ', H', J, q⟩ := ends
    exact fin (v := V.non) (u := Value.none) J rfl q
  | brk | cont =>
    obtain ⟨_, _, _, q⟩ := ends
    exact False.elim q
end
structure CalG (P : Program) (w : World) (K : PySem.W.Frag) (mg : Str → Option Value) (base : Heap) (k : Nat) (x : Str) (sp : Sp) : Prop where
  ex : ∃ (f : Addr) (fd : FuncData) (ps : List Str), FnOkG P w K mg base k f fd ps sp ∧ mg x = some (.ref f) ∧ PySem.W.keepIn K (.ref f) = true ∧ Binds K fd ps []
section
variable {X : Cx} {k j : Nat} {x : Str} {sp : Sp} {p pos : Pos} {e : Expr} {es : List Expr} {t : TA}
theorem pe_cG (c : CalG X.prog X.w X.K X.mg X.base k x sp) (free : X.A.guards = some []) (hr : Room j X.A) (hk : k ≤ j) (hg : Gl X x) (ha : PA X (e :: es) t)
    (hdb : (x == ("__debug__" : Str)) = false := by decide) (he : starEach (e :: es) X.env = (false, eval e X.env) :: starEach es X.env := by rfl) (hpl : (backTo pos (starEach es X.env)).any (·.1) = false := by rfl) :
    PE X (.Call (.Name x p) (e :: es) [] pos) (tCall sp [] E0 t) := by
  obtain ⟨f, fd, ps, F, hm, kp, b⟩ := c.ex
  refine ⟨fun pins s σ H Q I h => ?_⟩
  refine wpAny_Call_Name_kw (ld_glob I hg hm ?_ hdb)
  refine PySem.W.callWith_K (h₀ := X.base) I.ok.mod.kin kp (thn (ha.run pos pins s σ H _ I h) fun us s1 ⟨vs, H1, I1, r, q⟩ => ⟨I1.kIn, ?_⟩) he hpl
  have q2 : sp vs H1 Q E0 := by
    have z : sp (vs ++ []) H1 Q E0 := q
    rw [List.append_nil] at z
    exact z
  have count : us.length = ps.length := by
    rw [← r.length]
    exact F.len _ _ _ _ q2
  have bound := b s1 us I1.kIn (by rw [List.append_nil]; exact count)
  rw [List.append_nil] at bound
  refine wpAny_call (codeAny_mono (F.run X.A X.stack s1 H1 ⟨us, []⟩ us vs Q E0 free (hr.mono hk) I1.env0 bound r q2) fun r s' back => ?_)
  cases r with
  | error e => exact False.elim back
  | ok fl =>
    cases fl with
    | ret u => exact I1.after back
    | next => exact False.elim back
    | brk => exact False.elim back
    | cont => exact False.elim back
/-- repr of a list or a tuple of data -/
def rReprD (K : PySem.W.Frag) : List V → Hp → VK → Prop := fun xs H Q => ∃ (a : Addr) (d : PyData), xs = [.ref a] ∧ Dp K H (.ref a) d ∧ d.showable = true ∧ d.hasDict = false ∧ d.shown.length ≤ sizeLine ∧ d.depth ≤ 60 ∧ Q (.str d.shown) H
theorem call_reprD (free : X.A.guards = some []) (hu : X.A.units + 64 < cLine) : CallR X (.builtin "repr") (rReprD X.K) := by
  intro pins s σ H xs us Q I r h
  obtain ⟨a, d, rfl, hd, sh, nd, len, dep, q⟩ := h
  cases r with
  | cons rx rr =>
    cases rr
    cases rx
    obtain ⟨as, reads⟩ := Dp.reads I d (.ref a) (.ref a) hd rfl
    refine repr_of_reads' reads sh (PySem.PyData.noDict_hsm nd) free (by omega) (fun b o z => z) (fun h' u tk k => ?_) len
    exact ⟨.str d.shown, H, I.kept (t' := tk) k, ⟨_, rfl⟩, q⟩
end
/-- the end: the law's promise from where nothing is under way -/
theorem law_callG {P : Program} {w : World} {K : PySem.W.Frag} {mg mb : Str → Option Value} {k : Nat} {fa a : Addr} {fd : FuncData} {x : Str} {sp : Sp} {s₁ : Shared} {vs : List Value} {ns : List Int}
    (KX : K.In s₁.heap) (hns : s₁.heap.Ns mainGlobals mg) (hb : s₁.heap.Ns builtinsNs mb) (hbb : ∀ x : Str, x ≠ "__name__" → mb x = bootBuiltins x) (hlim : s₁.heap.NoLimit) (hg : s₁.gens = #[])
    (ha : s₁.heap.get? a = some { cls := .type "list", data := .seq vs.toArray }) (hi : IntsAre vs ns) (hl : ns.length ≤ sizeLine) (hr : Room k callerA)
    (F : ∀ base : Heap, K.In base → base.Ns mainGlobals mg → FnOkG P w K mg base k fa fd [x] sp) (hbind : ∀ (s : Shared) (u : Value), BindsTo s fd ⟨[u], []⟩ [(x, u)])
    (hsp : ∀ H : Hp, Only H → SqL K H a (ns.map V.int) → sp [.ref a] H (fun v _ => v = .bl true) fun _ _ _ => False) :
    codeAny (model P w) callerA (.call (.ref fa) ⟨[.ref a], []⟩) (fun r s' => r = .ok (.ret (.bool true)) ∧ OldK s₁.heap s'.heap ∧ s'.os = s₁.os ∧ AllBare s'.gens) s₁ := by
  have vals := vals_ints hi
  have count := hi.length
  -- from a heap in which the script alone may be told of
  have from_ : ∀ H : Hp, Only H → SqL K H a (ns.map V.int) → HOk P w H s₁.heap → (∀ b, H b ≠ none → b = a) → (H a ≠ none → K.lookup a = none) →
      codeAny (model P w) callerA (.call (.ref fa) ⟨[.ref a], []⟩) (fun r s' => r = .ok (.ret (.bool true)) ∧ OldK s₁.heap s'.heap ∧ s'.os = s₁.os ∧ AllBare s'.gens) s₁ := by
    intro H only sq hok alone off
    have base_ : ∀ {b : Addr} {o : Obj}, s₁.heap.get? b = some o → H b = none → (hidT s₁.heap H).get? b = some o := fun e n => hidT_get e n
    have untold : ∀ {b : Addr} {o : Obj} {es : Array DictEntry} {ep : Nat}, s₁.heap.get? b = some o → o.data = .dict es ep → H b = none := fun {b o es ep} e d => by
      cases q : H b with
      | none => rfl
      | some u =>
        have eb : b = a := alone b (by rw [q]; simp)
        rw [eb, ha] at e
        cases e
        have z : Data.seq vs.toArray _ = Data.dict es ep := d
        cases z
    have ns_ : ∀ {b : Addr} {m : Str → Option Value}, s₁.heap.Ns b m → (hidT s₁.heap H).Ns b m := fun {b m} ⟨o, es, ep, e, d, r⟩ => ⟨o, es, ep, base_ e (untold e d), d, r⟩
    have inBase : K.In (hidT s₁.heap H) := fun b o e => base_ (KX b o e) (by
      cases q : H b with
      | none => rfl
      | some u =>
        have eb : b = a := alone b (by rw [q]; simp)
        rw [eb, off (by rw [← eb, q]; simp)] at e
        cases e)
    have modOk : Mod K mg (hidT s₁.heap H) := ⟨inBase, ns_ hns, ⟨mb, ns_ hb, hbb⟩, let ⟨mc, h1, h2⟩ := hlim; ⟨mc, ns_ h1, h2⟩⟩
    have e0 : Env0 P w K mg (hidT s₁.heap H) callerA [] s₁ H := ⟨rfl, modOk, fun b o e => of_hidT e, Nat.le_of_eq (hidT_size _ _), trivial, fun b z => absurd (show b ∈ ([] : List Addr) from z) (by simp), hok, .of_eq hg⟩
    refine codeAny_mono ((F _ inBase (ns_ hns)).run callerA [] s₁ H ⟨[.ref a], []⟩ [.ref a] [.ref a] _ _ rfl hr e0 (hbind s₁ (.ref a)) (.cons rfl .nil) (hsp H only sq)) fun r s' back => ?_
    cases r with
    | error e => exact False.elim back
    | ok fl =>
      cases fl with
      | next | brk | cont => exact False.elim back
      | ret u =>
        obtain ⟨v, H', os, bare, un, hok2, rv, q⟩ := back
        have qv : v = .bl true := q
        subst qv
        obtain rfl : u = Value.bool true := rv
        refine ⟨rfl, OldK.of_keep fun b o e => ?_, os, bare⟩
        cases q : H b with
        | none => exact un.keep b o e q (by intro z; exact absurd (show b ∈ ([] : List Addr) from z) (by simp)) (by simp)
        | some u =>
          rcases only b with z | ⟨ob, xs, z⟩
          · rw [q] at z
            cases z
          · obtain ⟨y1, _⟩ := hok b _ z
            obtain ⟨y2, _⟩ := hok2 b _ (un.frzs b ob _ z)
            rw [e] at y1
            cases y1
            exact y2
  cases hk : K.lookup a with
  | some o =>
    have e := KX a o hk
    rw [ha] at e
    cases e
    exact from_ (fun _ => none) (fun _ => .inl rfl) (.inr ⟨_, vs.toArray, _, hk, rfl, rfl, rfl, by rw [List.size_toArray, count]; exact hl, by simpa using vals⟩) (fun b u z => by cases (show (none : Option HO) = some u from z)) (fun b z => absurd rfl z) fun z => absurd rfl z
  | none =>
    refine from_ (fun b => if b = a then some (.frz { cls := .type "list", data := .seq vs.toArray } (.lst (ns.map V.int))) else none) (fun b => ?_) (.inl (.inr ⟨{ cls := .type "list", data := .seq vs.toArray }, if_pos rfl⟩)) (fun b u z => ?_) (fun b z => ?_) fun _ => hk
    · by_cases y : b = a
      · exact .inr ⟨_, _, if_pos y⟩
      · exact .inl (if_neg y)
    · by_cases y : b = a
      · have zz := (if_pos y).symm.trans z
        cases zz
        subst y
        exact ⟨ha, by rw [List.length_map]; exact hl, vs, _, vals, ha⟩
      · have zz := (if_neg y).symm.trans z
        cases zz
    · by_cases y : b = a
      · exact y
      · exact absurd (if_neg y) z
theorem walk_ofG {l : PySem.W.OpenLaw} {n k : Nat} {q : Program} {loose : List Str} {XP : (Str → Option Value) → Heap → Prop} {YP : World → Heap → Prop} {d : DefRec} {K : Params → PySem.W.Frag} {sp : World → Sp} {x : Str}
    (hn : l.most = some n) (hn2 : n ≤ sizeLine) (hdf : d.params.defaults = []) (hr : Room k callerA)
    (hY : ∀ (w : World) (h : Heap), YP w h → (K w.params).In h)
    (F : ∀ (w : World) (mg : Str → Option Value) (fa : Addr) (h : Heap), (K w.params).In h → h.Ns mainGlobals mg → mg d.name = some (.ref fa) →
      ∃ fd : FuncData, (∀ (s : Shared) (u : Value), BindsTo s fd ⟨[u], []⟩ [(x, u)]) ∧
        ∀ base : Heap, (K w.params).In base → base.Ns mainGlobals mg → FnOkG l.prog w (K w.params) mg base k fa fd [x] (sp w))
    (hsp : ∀ (w : World) (H : Hp) (a : Addr) (ns : List Int), ns.length ≤ n → (∀ z ∈ ns, Builtin.Int.intBits z ≤ 1048576) → Only H → SqL (K w.params) H a (ns.map V.int) → sp w [.ref a] H (fun v _ => v = .bl true) fun _ _ _ => False) :
    PySem.W.WalkO q loose XP YP l.row.toRowW d [] (fun f vs => PySem.call f vs) := by
  refine Att.attach_callB hn hdf fun w s₀ s₁ mg mb fa o pm cd doc a vs ns G Y ho hd hcd hmg hobj hints hlen hbits hg => ?_
  obtain ⟨fd, binds, ok⟩ := F w mg fa _ (hY w _ Y) G.T.g hmg
  exact law_callG (hY w _ Y) G.T.g G.T.b G.T.builtins G.T.nolimit hg hobj hints (Nat.le_trans hlen hn2) hr ok binds fun H hO hS => hsp w H a ns hlen hbits hO hS
end QT

/-! lambdas kept as values and called in the def that makes them -/
namespace QT
open PySem PySem.Spec PyProof.Rows L2 LamX
/-- a lambda's object, its code object at c -/
def LamO (f : Addr) (q : Str) (params : Arguments) (body : Expr) (scope : Scope) (cl : List (Str × Addr)) (c : Addr) : HO := .ext fun h => ∃ pm ctv : Value, h.get? f = some (PySem.W.kla_obj "<lambda>" q params body scope cl pm c ctv)
def LamAt (H : Hp) (f : Addr) (q : Str) (params : Arguments) (body : Expr) (scope : Scope) (cl : List (Str × Addr)) : Prop := ∃ c, H f = some (LamO f q params body scope cl c) ∧ H c = some (CodeO c q)
section
variable {q : Str} {params : Arguments} {body : Expr} {scope : Scope} {cl : List (Str × Addr)} {f : Addr}
theorem lamO_ne {c : Addr} (ps : Array Value) : LamO f q params body scope cl c ≠ .tbl ps := fun z => by
  unfold LamO at z
  cases z
theorem lamO_ok {P : Program} {w : World} {H : Hp} {h : Heap} {c : Addr} {pm ctv : Value} (e : h.get? f = some (PySem.W.kla_obj "<lambda>" q params body scope cl pm c ctv)) : ObjOk P w H h f (LamO f q params body scope cl c) :=
  ⟨⟨pm, ctv, e⟩, ⟨_, e⟩, fun _ _ ⟨a, b, r⟩ st => ⟨a, b, st _ r⟩⟩
theorem LamAt.extN {H H' : Hp} (h : LamAt H f q params body scope cl) (e : ExtN H H') : LamAt H' f q params body scope cl := by
  obtain ⟨c, h1, h2⟩ := h
  exact ⟨c, e _ _ h1 (fun ps => lamO_ne ps), e _ _ h2 (fun ps => codeO_ne ps)⟩
theorem LamAt.keep {H H' : Hp} (h : LamAt H f q params body scope cl) (e : ∀ b o, (∀ ps, o ≠ .tbl ps) → (∀ xs, o ≠ .lst xs) → H b = some o → H' b = some o) : LamAt H' f q params body scope cl := by
  obtain ⟨c, h1, h2⟩ := h
  refine ⟨c, e _ _ (fun ps => lamO_ne ps) (fun xs z => ?_) h1, e _ _ (fun ps => codeO_ne ps) (fun xs z => ?_) h2⟩
  · unfold LamO at z
    cases z
  · unfold CodeO at z
    cases z
end
section
variable {X : Cx} {pins : List (Addr × Obj)} {σ : L2.St} {H : Hp} {s : Shared}
theorem lam_new {T : List (Addr × Str)} {co P : Addr} {params : Arguments} {body : Expr} {scope : Scope} {pos : Pos} {E Q : Value → Shared → Prop} (I : Inv X pins σ H s) (TB : TabB X.base X.mg co P) (code : X.env.code = .ref co)
    (mem : (P, X.env.qual ++ "<lambda>") ∈ T) (one : ∀ p ∈ T, p.1 = P → p.2 = X.env.qual ++ "<lambda>") (tabs : Tabs T H) (nodef : defaultsOf params X.env = ([], [])) (caught : ∀ y ∈ scope.names, y.2 = .free → ∃ c, X.env.cells.lookup y.1 = some c)
    (k : ∀ (f : Addr) (H1 : Hp) (s1 : Shared), Inv X pins σ H1 s1 → ExtN H H1 → Tabs T H1 → H f = none → LamAt H1 f (X.env.qual ++ "<lambda>") params body scope (cloFrom X.env.cells scope.names []) → Q (.ref f) s1) :
    wpAny (model X.prog X.w) X.A (eval (.Lambda params body scope pos) X.env) Q E s := by
  obtain ⟨ps, atP, triples, among⟩ := tabs _ mem
  refine PySem.W.kla_eval nodef ?_
  have built := TB.bm.keeps I.bk
  have tab : s.heap.get? P = some { cls := .none, data := .fields ps } := I.hok P _ atP
  cases hit : codeAmong pos ps.toList with
  | none =>
    refine PySem.W.kla_makeFunction (mg := X.mg) (c := co) (P := P) (ps := ps) (closure_ok caught) I.ok.glob (I.mod.glob.keeps I.bk) code (TB.code.keeps I.bk) tab triples hit TB.gP built fun c1 ctv g1 tk stays above below rec_ tab1 => ?_
    obtain ⟨c2, oc, vs, t, e2, ho, hd, hv⟩ := rec_
    cases e2
    have grows : s.heap.objs.size ≤ g1.objs.size := Nat.le_trans above (Nat.le_of_lt below)
    have freeC : H c1 = none := I.hok.fresh above
    have I1 := inv_table (t' := s.toks) (more := #[rawInt pos.line, rawInt pos.col, .ref c1]) (h' := g1) I atP stays tab1 above ⟨oc, vs, t, ho, hd, hv⟩
    have I2 := I1.laid (t' := tk) (a := g1.objs.size) (o := LamO g1.objs.size (X.env.qual ++ "<lambda>") params body scope (cloFrom X.env.cells scope.names []) c1) (h' := g1.push (PySem.W.kla_obj "<lambda>" (X.env.qual ++ "<lambda>") params body scope (cloFrom X.env.cells scope.names []) ((X.mg "__name__").getD .none) c1 ctv))
      (fun b u e => Heap.get?_push_of_some _ e) (Nat.le_refl _) (lamO_ok (Heap.get?_push_size _ rfl))
    have nC : g1.objs.size ≠ c1 := Nat.ne_of_gt below
    have nP : g1.objs.size ≠ P := Nat.ne_of_gt (Nat.lt_of_lt_of_le (Heap.lt_size tab) grows)
    have free1 : upd (upd H P (.tbl (ps ++ #[rawInt pos.line, rawInt pos.col, .ref c1]))) c1 (CodeO c1 (X.env.qual ++ "<lambda>")) g1.objs.size = none := by
      rw [upd_ne nC, upd_ne nP]
      exact I.hok.fresh grows
    have ext1 : ExtN H (upd (upd H P (.tbl (ps ++ #[rawInt pos.line, rawInt pos.col, .ref c1]))) c1 (CodeO c1 (X.env.qual ++ "<lambda>"))) := fun b o e n => by
      have nb : b ≠ P := fun z => by
        rw [z, atP] at e
        exact n ps (Option.some.inj e).symm
      rw [upd_ne (ne_of_none e freeC), upd_ne nb]
      exact e
    have ext2 : ∀ b o, upd (upd H P (.tbl (ps ++ #[rawInt pos.line, rawInt pos.col, .ref c1]))) c1 (CodeO c1 (X.env.qual ++ "<lambda>")) b = some o →
        upd (upd (upd H P (.tbl (ps ++ #[rawInt pos.line, rawInt pos.col, .ref c1]))) c1 (CodeO c1 (X.env.qual ++ "<lambda>"))) g1.objs.size (LamO g1.objs.size (X.env.qual ++ "<lambda>") params body scope (cloFrom X.env.cells scope.names []) c1) b = some o := fun b o e => by
      rw [upd_ne (ne_of_none e free1)]
      exact e
    have tabs1 : Tabs T (upd (upd H P (.tbl (ps ++ #[rawInt pos.line, rawInt pos.col, .ref c1]))) c1 (CodeO c1 (X.env.qual ++ "<lambda>"))) := fun p hp => by
      by_cases z : p.1 = P
      · rw [one p hp z, z]
        have el : (ps ++ #[rawInt pos.line, rawInt pos.col, Value.ref c1]).toList = ps.toList ++ [rawInt pos.line, rawInt pos.col, .ref c1] := by simp
        refine ⟨_, by rw [upd_ne (ne_of_none atP freeC), upd_same], by rw [el]; exact PySem.TriplesOk_snoc _ _ _ _ triples, fun p2 cv found => ?_⟩
        rw [el] at found
        rcases among_app _ triples found with y | y
        · obtain ⟨c0, w1, w2⟩ := among p2 cv y
          exact ⟨c0, w1, ext1 _ _ w2 (fun ps => codeO_ne ps)⟩
        · exact ⟨c1, y, upd_same⟩
      · obtain ⟨ps2, w1, w2, w3⟩ := tabs p hp
        refine ⟨ps2, by rw [upd_ne (ne_of_none w1 freeC), upd_ne z]; exact w1, w2, fun p2 cv found => ?_⟩
        obtain ⟨c0, y1, y2⟩ := w3 p2 cv found
        exact ⟨c0, y1, ext1 _ _ y2 (fun ps => codeO_ne ps)⟩
    exact k g1.objs.size _ _ I2 (ext1.trans (ExtN.of ext2)) (tabs1.ext ext2) (I.hok.fresh grows) ⟨c1, upd_same, ext2 _ _ upd_same⟩
  | some cv =>
    obtain ⟨c1, e, known⟩ := among pos cv hit
    subst e
    refine PySem.W.kla_makeFunctionHit (mg := X.mg) (c := co) (P := P) (ps := ps) (closure_ok caught) I.ok.glob (I.mod.glob.keeps I.bk) code (TB.code.keeps I.bk) tab triples hit built fun ctv g1 tk stays grows => ?_
    have I1 : Inv X pins σ H { s with heap := g1, toks := s.toks } := I.kept stays
    have I2 := I1.laid (t' := tk) (a := g1.objs.size) (o := LamO g1.objs.size (X.env.qual ++ "<lambda>") params body scope (cloFrom X.env.cells scope.names []) c1) (h' := g1.push (PySem.W.kla_obj "<lambda>" (X.env.qual ++ "<lambda>") params body scope (cloFrom X.env.cells scope.names []) ((X.mg "__name__").getD .none) c1 ctv))
      (fun b u e => Heap.get?_push_of_some _ e) (Nat.le_refl _) (lamO_ok (Heap.get?_push_size _ rfl))
    have free1 : H g1.objs.size = none := I.hok.fresh grows
    have ext2 : ∀ b o, H b = some o → upd H g1.objs.size (LamO g1.objs.size (X.env.qual ++ "<lambda>") params body scope (cloFrom X.env.cells scope.names []) c1) b = some o := fun b o e => by
      rw [upd_ne (ne_of_none e free1)]
      exact e
    exact k g1.objs.size _ _ I2 (ExtN.of ext2) (tabs.ext ext2) free1 ⟨c1, upd_same, ext2 _ _ known⟩
/-- lambda: body, as a value -/
def tLamV (T : List (Addr × Str)) (q : Str) (params : Arguments) (body : Expr) (scope : Scope) (cl : List (Str × Addr)) : TE := fun _ H Q => Tabs T H ∧ ∀ (f : Addr) (H1 : Hp), ExtN H H1 → Tabs T H1 → H f = none → LamAt H1 f q params body scope cl → Q (.ref f) H1
theorem pe_lamV {T : List (Addr × Str)} {co P : Addr} {params : Arguments} {body : Expr} {scope : Scope} {pos : Pos} (TB : TabB X.base X.mg co P) (code : X.env.code = .ref co)
    (mem : (P, X.env.qual ++ "<lambda>") ∈ T) (one : ∀ p ∈ T, p.1 = P → p.2 = X.env.qual ++ "<lambda>") (L : LamS X.env.scope scope) (nodef : defaultsOf params X.env = ([], []) := by rfl) :
    PE X (.Lambda params body scope pos) (tLamV T (X.env.qual ++ "<lambda>") params body scope (cloFrom X.env.cells scope.names [])) := by
  refine ⟨fun pins s σ H Q I h => ?_⟩
  exact lam_new I TB code mem one h.1 nodef (L.has I.ok) fun f H1 s1 J e t n l => ⟨.ref f, H1, J, rfl, h.2 f H1 e t n l⟩
/-- e(), e a lambda that this very def has made -/
def tCallL (X : Cx) (k : Nat) (E : XK) (te : TE) : TE := fun σ H Q => te σ H fun v H1 => ∃ (f : Addr) (q : Str) (params : Arguments) (body : Expr) (scope : Scope) (tb : TE), v = .ref f ∧ LamAt H1 f q params body scope (cloFrom X.env.cells scope.names []) ∧ q = X.env.qual ++ "<lambda>" ∧ LamS X.env.scope scope ∧
  (∀ (cl : List (Str × Addr)) (pm cv ctv : Value), bindArgs (PySem.W.kla_fn "<lambda>" q params body scope cl pm cv ctv) ⟨[], []⟩ = pure []) ∧
  (∀ (A : Around) (outer : List Env) (s : Shared) (H : Hp) (f c : Addr), Room k (A.deeper (lamEnv X scope s.heap.objs.size f c)) → PE (lamCx X A outer s H E scope f c) body tb) ∧ tb σ H1 Q
theorem pe_callL {e0 : Expr} {te : TE} {k : Nat} {E : XK} {W : WX} {pos : Pos} (he : PE X e0 te) (tk : Takes X W) (hW : ∀ cls d σ H, E cls d H → W cls d σ H) (hr : Room (k + 1) X.A)
    (ht : eval (.Call e0 [] [] pos) X.env = (do callWith pos (← eval e0 X.env) [] (backTo pos (starEach [] X.env)) (backToKw pos (keywordEach [] X.env))) := by rfl) : PE X (.Call e0 [] [] pos) (tCallL X k E te) := by
  refine ⟨fun pins s σ H Q I h => ?_⟩
  rw [ht]
  refine wpAny_bind (thn (he.run pins s σ H _ I h) fun u s1 ⟨v, H1, I1, rv, f, q, params, body, scope, tb, ev, lam, eq, L, bind, hbody, asks⟩ => ?_)
  subst ev eq
  obtain rfl : u = Value.ref f := rv
  obtain ⟨c, h1, h2⟩ := lam
  obtain ⟨⟨pm, ctv, at_⟩, _, _⟩ := I1.hok f _ h1
  obtain ⟨⟨oc, vs, t, ho, hd, hv⟩, _, _⟩ := I1.hok c _ h2
  refine PySem.W.callWith_F0 ⟨_, _, _, _, at_⟩ ?_
  have runs : codeAny (model X.prog X.w) X.A (.call (.ref f) ⟨[], []⟩) (CR (L2.CX X.prog X.w) X.stack X.prog X.w H1 s1 Q E) s1 := by
    refine PySem.W.kla_callFunE hr.depth at_ rfl L.co L.gen rfl ⟨c, oc, vs, t, rfl, ho, hd, hv⟩ ?_
    rw [bind]
    refine wpAny_pure (wpAny_newFunctionEnv (fun y hy => (L.own y hy).2) (fun y hy => absurd hy (by simp)) (fun g1 ns1 same => ⟨I1.nolimit.fresh _ same, ?_⟩) L.kind)
    show codeAny _ _ (.expr body (lamEnv X scope s1.heap.objs.size f c)) _ _
    have stays : ∀ b o, s1.heap.get? b = some o → g1.get? b = some o := fun b o e => same.extBut b o (Nat.ne_of_lt (Heap.lt_size e)) (Heap.get?_push_of_some _ e)
    have J : Inv (lamCx X X.A X.stack s1 H1 E scope f c) [] σ H1 { s1 with heap := g1, toks := s1.toks + ([] : List (Str × Value)).length } :=
      lam_start2 I1 L I1.env0 hr.hd Un.refl ns1 stays
    refine PySem.W.kla_codeExpr (wpAny_mono ((hbody X.A X.stack s1 H1 f c (hr.deeper _)).run [] _ _ H1 Q J asks) (fun v s2 ends => ?_) fun e s2 ends => ends)
    obtain ⟨w2, H2, J2, r2, q2⟩ := ends
    exact ⟨w2, H2, J2.os, J2.bare, J2.base, J2.hok, r2, q2⟩
  have passes : Passes (L2.CX X.prog X.w) X E := passes_call tk hW
  refine wpAny_call (codeAny_mono runs fun r s2 ends => ?_)
  cases r with
  | error e => exact passes pins σ H1 s1 e s2 I1 ends
  | ok fl =>
    cases fl with
    | ret u => exact I1.after ends
    | next => exact False.elim ends
    | brk => exact False.elim ends
    | cont => exact False.elim ends
end
end QT

/-! == and != where the left one is an instance of an own class with an __eq__ and no __ne__ -/
namespace QT
open PySem PySem.Spec PyProof.Rows L2
section
variable {prog : Program} {w : World} {A : Around} {E : Value → Shared → Prop} {s : Shared} {K : PySem.W.Frag} {x C f : Addr} {ox : Obj} {od : Option Obj} {b tb : Value}
theorem bound_ne {M : Model} {A : Around} {E : Value → Shared → Prop} {Q : Option Value → Shared → Prop} (X : K.In s.heap) (I : PySem.W.InstAt s.heap x ox C od) (hne : PySem.W.findIn K (.ref C) "__ne__" = some (some (.builtin "object.__ne__")))
    (h : wpAny M A (call (.builtin "object.__ne__") [.ref x, b]) (fun v => Q (some v)) E s) : wpAny M A (callSpecialIfBound? (.ref x) "__ne__" [b]) Q E s := by
  simp only [callSpecialIfBound?, bindSpecialIfBound?]
  refine wpAny_holding (wpAny_bind (wpAny_bind (wpAny_bind (I.type.here ((PySem.W.looks_findIn X hne).here ?_)))))
  simp only [F.cmp_object.ne.bind]
  refine wpAny_bind (wpAny_askSetting (wpAny_ite ?_))
  have onward : wpAny M A (call (.builtin "object.__ne__") ([.ref x] ++ [b]) >>= fun v => pure (some v)) Q E s := wpAny_bind (wpAny_mono h (fun v s' r => wpAny_pure r) fun _ _ r => r)
  split
  · exact wpAny_bind (wpAny_pure (wpAny_pure onward))
  · exact wpAny_tryCatch (wpAny_bind (wpAny_pure (wpAny_pure onward)))
theorem ne_body {A : Around} {Q : Fin → Shared → Prop} (hu : A.units < cLine) (X : K.In s.heap) (I : PySem.W.InstAt s.heap x ox C od) (hs : PySem.W.findIn K (.ref C) "__eq__" = some (some (.ref f))) (hf : PySem.W.isFn K (.ref f) = true)
    (h : wpAny (model prog w) A (call (.ref f) [.ref x, b]) (fun v s' => ∃ y, v = .bool y ∧ Q (.done (.ret (.bool (!y)))) s') E s) : wpAny (model prog w) A (Builtin.«object.__ne__» ⟨[.ref x, b], []⟩) Q E s := by
  have asked : wpAny (model prog w) A (callSpecialIfBound? (.ref x) "__eq__" [b]) (fun r s' => ∃ y, r = some (.bool y) ∧ Q (.done (.ret (.bool (!y)))) s') E s :=
    PySem.W.ifBound_K X I hs hf (wpAny_mono h (fun v s' ⟨y, e, q⟩ => ⟨y, by rw [e], q⟩) fun _ _ e => e)
  unfold Builtin.«object.__ne__»
  repeat (first
    | with_reducible refine wpAny_cRoomFor hu ?_
    | (refine wpAny_bind (m := callSpecialIfBound? (.ref x) (Str.ofString "__eq__") [b])
        (wpAny_mono asked (fun r s' hr => by
          obtain ⟨y, rfl, hq⟩ := hr
          repeat (first | exact hq | exact wpAny_pure hq | exact wpAny_truthy_bool hq | (refine wpAny_bind (m := truthy (.bool _)) (wpAny_truthy_bool ?_)) | wp_step)) fun _ _ e => e))
    | wp_step)
theorem ne_K {Q : Value → Shared → Prop} (hu : A.units + 1 < cLine) (X : K.In s.heap) (I : PySem.W.InstAt s.heap x ox C od) (hb : PySem.W.Looks (model prog w) s.heap (typeOf b) tb) (hn : PySem.W.notFirst K C tb = true)
    (hs : PySem.W.findIn K (.ref C) "__eq__" = some (some (.ref f))) (hf : PySem.W.isFn K (.ref f) = true) (hne : PySem.W.findIn K (.ref C) "__ne__" = some (some (.builtin "object.__ne__"))) (hm : PySem.W.mroIn K C (.type "object") = some true)
    (h : wpAny (model prog w) A.in1 (call (.ref f) [.ref x, b]) (fun v s' => ∃ y, v = .bool y ∧ Q (.bool (!y)) s') E s) : wpAny (model prog w) A (richCompare .NotEq (.ref x) b) Q E s := by
  have inner : wpAny (model prog w) A (call (.builtin "object.__ne__") [.ref x, b]) (fun v s' => ∃ y, v = .bool y ∧ Q (.bool y) s') E s :=
    wpAny_call (codeAny_call_builtin F.cmp_object.ne.plain F.cmpEntry_ne (PySem.W.check_slot F.cmpKind_ne F.cmpSplit_ne (I.type.andThen (PySem.W.looks_mroIn X hm)) (F.cmpArgs_ne _ _)
      (ne_body (A := A.in1) hu X I hs hf (wpAny_mono h (fun v s' ⟨y, e, q⟩ => ⟨y, e, !y, rfl, q⟩) fun _ _ e => e))))
  have one : wpAny (model prog w) A (tryCompare (.ref x) "__ne__" b) (fun r s' => ∃ v, r = some v ∧ Q v s') E s := by
    unfold tryCompare
    refine wpAny_bind (bound_ne X I hne (wpAny_mono inner (fun v s' ⟨y, e, q⟩ => ?_) fun _ _ e => e))
    subst e
    exact wpAny_pure ⟨_, rfl, q⟩
  unfold richCompare
  simp only [oneThing_ref]
  refine wpAny_holding (wpAny_bind (wpAny_cRoomFor (Nat.lt_of_succ_lt hu) ?_))
  rw [cmpInfo_NotEq]
  dsimp only
  refine wpAny_bind (I.type.here (wpAny_bind (hb.here ?_)))
  split
  · rename_i q
    have e : PySem.W.subIn K tb (.ref C) = some false := by
      rcases Bool.or_eq_true_iff.mp hn with e | e
      · rw [beq_iff_eq.mp e] at q
        simp at q
      · exact beq_iff_eq.mp e
    refine wpAny_bind ((PySem.W.looks_subIn X e).here ?_)
    simp only [Bool.false_eq_true, if_false]
    refine wpAny_bind (wpAny_mono one (fun r s' z => ?_) fun _ _ e => e)
    obtain ⟨v, rfl, hq⟩ := z
    exact wpAny_pure hq
  · refine wpAny_bind (wpAny_pure ?_)
    simp only [Bool.false_eq_true, if_false]
    refine wpAny_bind (wpAny_mono one (fun r s' z => ?_) fun _ _ e => e)
    obtain ⟨v, rfl, hq⟩ := z
    exact wpAny_pure hq
end
/-- an own class that compares by an __eq__ of its own -/
structure EqC (P : Program) (w : World) (K : PySem.W.Frag) (mg : Str → Option Value) (base : Heap) (C : Addr) (k : Nat) (sp : Sp) : Prop where
  ex : ∃ (f : Addr) (fd : FuncData) (ps : List Str), FnOk P w K mg base CX0 k f fd ps sp ∧ PySem.W.findIn K (.ref C) "__eq__" = some (some (.ref f)) ∧ PySem.W.isFn K (.ref f) = true ∧ Binds K fd ps []
  ne : PySem.W.findIn K (.ref C) "__ne__" = some (some (.builtin "object.__ne__"))
  mo : PySem.W.mroIn K C (.type "object") = some true
/-- x == y -/
def rEqI (P : Program) (w : World) (K : PySem.W.Frag) (mg : Str → Option Value) (base : Heap) (j : Nat) : R2 := fun x y H Q => ∃ (a C dx : Addr) (fs : List (Str × V)) (t : Value) (k : Nat) (sp : Sp), x = .ref a ∧ H a = some (.ins C dx fs) ∧ TyX K H y t ∧ PySem.W.notFirst K C t = true ∧ EqC P w K mg base C k sp ∧ k ≤ j ∧ sp [x, y] H (fun v H' => ∃ b, v = .bl b ∧ Q (.bl b) H') E0
def rNeI (P : Program) (w : World) (K : PySem.W.Frag) (mg : Str → Option Value) (base : Heap) (j : Nat) : R2 := fun x y H Q => ∃ (a C dx : Addr) (fs : List (Str × V)) (t : Value) (k : Nat) (sp : Sp), x = .ref a ∧ H a = some (.ins C dx fs) ∧ TyX K H y t ∧ PySem.W.notFirst K C t = true ∧ EqC P w K mg base C k sp ∧ k ≤ j ∧ sp [x, y] H (fun v H' => ∃ b, v = .bl b ∧ Q (.bl (!b)) H') E0
section
variable {X : Cx} {j : Nat}
theorem op_eqI (hr : Room j X.A) : OpR X (compareOp .Eq) (rEqI X.prog X.w X.K X.mg X.base j) := by
  intro pins s σ H x y v u Q I rx ry h
  obtain ⟨a, C, dx, fs, t, k, sp, rfl, ha, ty, nf, ⟨⟨f, fd, ps, F, hs, hf, hb⟩, _, _⟩, kj, q⟩ := h
  cases rx
  obtain ⟨mA, J, _⟩ := ins_get I.hok ha
  obtain ⟨od, J, _⟩ := J.look
  obtain ⟨m, hF⟩ := I.fr
  obtain ⟨Pz, Z, pz, _⟩ := kit_of I ry ty
  unfold compareOp
  refine PySem.W.cmp_K (op := .Eq) hr.units0 hF I.ok.mod.kin J (Z.ty _ _ I.kIn pz) nf hs hf ?_
  refine wpAny_mono (run_fn (us := [.ref a, u]) (vs := [.ref a, y]) (dvs := []) (ds := []) F (hr.mono kj) hb .nil pass0 I (.cons rfl (.cons ry .nil)) q) (fun z s' back => ?_) fun _ _ e => e
  obtain ⟨v2, H2, I2, r2, b, e2, q2⟩ := back
  subst e2
  cases r2
  exact ⟨.bl b, H2, I2, rfl, q2⟩
theorem op_neI (hr : Room (j + 1) X.A) : OpR X (compareOp .NotEq) (rNeI X.prog X.w X.K X.mg X.base j) := by
  intro pins s σ H x y v u Q I rx ry h
  obtain ⟨a, C, dx, fs, t, k, sp, rfl, ha, ty, nf, ⟨⟨f, fd, ps, F, hs, hf, hb⟩, ne, mo⟩, kj, q⟩ := h
  cases rx
  obtain ⟨mA, J, _⟩ := ins_get I.hok ha
  obtain ⟨od, J, _⟩ := J.look
  obtain ⟨Pz, Z, pz, _⟩ := kit_of I ry ty
  unfold compareOp
  refine ne_K (by have := hr.units; omega) I.kIn J (Z.ty _ _ I.kIn pz) nf hs hf ne mo ?_
  have e0 : Env0 X.prog X.w X.K X.mg X.base X.A.in1 X.stack s H := by
    have e := I.env0
    exact ⟨by show X.A.frames = _; exact e.frames, e.mod, e.bs, e.bsz, e.funs, e.frf, e.hok, e.bare⟩
  have r2 : Vals [V.ref a, y] [Value.ref a, u] := .cons rfl (.cons ry .nil)
  have q1 : sp [.ref a, y] H (fun v H' => ∃ b, v = .bl b ∧ Q (.bl (!b)) H') E0 := q
  have hl : ([Value.ref a, u] : List Value).length = ps.length := by
    rw [← r2.length]
    exact F.len _ _ _ _ q1
  have bound := hb s [.ref a, u] I.kIn (by rw [List.append_nil]; exact hl)
  rw [List.append_nil] at bound
  refine wpAny_call (codeAny_mono (F.run X.A.in1 X.stack s H ⟨[.ref a, u], []⟩ [.ref a, u] [.ref a, y] _ E0 (hr.in1.mono kj) e0 bound r2 q1) fun r s' back => ?_)
  cases r with
  | error e => exact False.elim back
  | ok fl =>
    cases fl with
    | ret z =>
      obtain ⟨v2, H2, I2, r3, b, e2, q2⟩ := I.after back
      subst e2
      cases r3
      exact ⟨b, rfl, .bl (!b), H2, I2, rfl, q2⟩
    | next => exact False.elim back
    | brk => exact False.elim back
    | cont => exact False.elim back
end
end QT

/-! the end of a law where nothing is under way, with one def's table of code objects -/
namespace QT
open PySem PySem.Spec PyProof.Rows L2 LamX
theorem law_callGT {prog : Program} {w : World} {K : PySem.W.Frag} {mg mb : Str → Option Value} {k : Nat} {fa a co Tb : Addr} {fd : FuncData} {x : Str} {sp : Sp} {s₁ : Shared} {vs : List Value} {ns : List Int}
    (KX : K.In s₁.heap) (hns : s₁.heap.Ns mainGlobals mg) (hb : s₁.heap.Ns builtinsNs mb) (hbb : ∀ x : Str, x ≠ "__name__" → mb x = bootBuiltins x) (hlim : s₁.heap.NoLimit) (hg : s₁.gens = #[])
    (atT : s₁.heap.get? Tb = some { cls := .none, data := .fields #[] }) (nT : K.lookup Tb = none) (C : PySem.W.CodeHd s₁.heap co Tb)
    (hbm : ∃ (bm : Addr) (ob : Obj), mg "__builtins__" = some (.ref bm) ∧ bm ≠ builtinsNs ∧ s₁.heap.get? bm = some ob ∧ ob.cls = .type "module" ∧ ob.dict = some builtinsNs ∧ ob.data = .plain)
    (ha : s₁.heap.get? a = some { cls := .type "list", data := .seq vs.toArray }) (hi : IntsAre vs ns) (hl : ns.length ≤ sizeLine) (hr : Room k callerA)
    (F : ∀ base : Heap, K.In base → base.Ns mainGlobals mg → TabB base mg co Tb → FnOkG prog w K mg base k fa fd [x] sp) (hbind : ∀ (s : Shared) (u : Value), BindsTo s fd ⟨[u], []⟩ [(x, u)])
    (hsp : ∀ H : Hp, H Tb = some (.tbl #[]) → SqL K H a (ns.map V.int) → sp [.ref a] H (fun v _ => v = .bl true) fun _ _ _ => False) :
    codeAny (model prog w) callerA (.call (.ref fa) ⟨[.ref a], []⟩) (fun r s' => r = .ok (.ret (.bool true)) ∧ OldK s₁.heap s'.heap ∧ s'.os = s₁.os ∧ AllBare s'.gens) s₁ := by
  have vals := vals_ints hi
  have count := hi.length
  have naT : a ≠ Tb := fun z => by
    rw [z, atT] at ha
    have y := congrArg Obj.data (Option.some.inj ha)
    cases y
  have from_ : ∀ H : Hp, H Tb = some (.tbl #[]) → (∀ b, b ≠ Tb → H b = none ∨ ∃ o xs, H b = some (.frz o (.lst xs))) → SqL K H a (ns.map V.int) → HOk prog w H s₁.heap → (∀ b, H b ≠ none → b = a ∨ b = Tb) → (H a ≠ none → K.lookup a = none) →
      codeAny (model prog w) callerA (.call (.ref fa) ⟨[.ref a], []⟩) (fun r s' => r = .ok (.ret (.bool true)) ∧ OldK s₁.heap s'.heap ∧ s'.os = s₁.os ∧ AllBare s'.gens) s₁ := by
    intro H hT only sq hok alone off
    have base_ : ∀ {b : Addr} {o : Obj}, s₁.heap.get? b = some o → H b = none → (hidT s₁.heap H).get? b = some o := fun e n => hidT_get e n
    have free_ : ∀ {b : Addr} {o : Obj}, s₁.heap.get? b = some o → o.data ≠ .seq vs.toArray → o.data ≠ .fields #[] → H b = none := fun {b o} e d1 d2 => by
      cases q : H b with
      | none => rfl
      | some u =>
        exfalso
        rcases alone b (by rw [q]; simp) with eb | eb
        · rw [eb, ha] at e
          cases e
          exact d1 rfl
        · rw [eb, atT] at e
          cases e
          exact d2 rfl
    have untold : ∀ {b : Addr} {o : Obj} {es : Array DictEntry} {ep : Nat}, s₁.heap.get? b = some o → o.data = .dict es ep → H b = none := fun {b o es ep} e d =>
      free_ e (fun z => by rw [d] at z; cases z) fun z => by rw [d] at z; cases z
    have ns_ : ∀ {b : Addr} {m : Str → Option Value}, s₁.heap.Ns b m → (hidT s₁.heap H).Ns b m := fun {b m} ⟨o, es, ep, e, d, r⟩ => ⟨o, es, ep, base_ e (untold e d), d, r⟩
    have inBase : K.In (hidT s₁.heap H) := fun b o e => base_ (KX b o e) (by
      cases q : H b with
      | none => rfl
      | some u =>
        rcases alone b (by rw [q]; simp) with eb | eb
        · rw [eb, off (by rw [← eb, q]; simp)] at e
          cases e
        · rw [eb, nT] at e
          cases e)
    have modOk : Mod K mg (hidT s₁.heap H) := ⟨inBase, ns_ hns, ⟨mb, ns_ hb, hbb⟩, let ⟨mc, h1, h2⟩ := hlim; ⟨mc, ns_ h1, h2⟩⟩
    have globT : mainGlobals ≠ Tb := fun z => by
      obtain ⟨o, es, ep, e, d, _⟩ := hns
      rw [z, atT] at e
      cases e
      cases d
    have tabB : TabB (hidT s₁.heap H) mg co Tb := by
      refine ⟨?_, ?_, globT⟩
      · obtain ⟨o, us, file, tf, flags, tg, inF, text, tt, e1, r1, r2, r3, rest⟩ := C
        refine ⟨o, us, file, tf, flags, tg, inF, text, tt, base_ e1 (free_ e1 (fun z => by rw [r2] at z; cases z) fun z => ?_), r1, r2, r3, rest⟩
        rw [r2] at z
        cases z
        simp at r3
      · obtain ⟨bm, ob, b1, b2, b3, b4, b5, b6⟩ := hbm
        refine ⟨bm, ob, b1, b2, fun z => ?_, fun z => ?_, base_ b3 (free_ b3 (fun z => by rw [b6] at z; cases z) fun z => by rw [b6] at z; cases z), b4, b5, b6⟩
        · obtain ⟨o, es, ep, e, d, _⟩ := hns
          rw [z, e] at b3
          cases b3
          rw [d] at b6
          cases b6
        · rw [z, atT] at b3
          cases b3
          cases b6
    have e0 : Env0 prog w K mg (hidT s₁.heap H) callerA [] s₁ H := ⟨rfl, modOk, fun b o e => of_hidT e, Nat.le_of_eq (hidT_size _ _), trivial, fun b z => absurd (show b ∈ ([] : List Addr) from z) (by simp), hok, .of_eq hg⟩
    refine codeAny_mono ((F _ inBase (ns_ hns) tabB).run callerA [] s₁ H ⟨[.ref a], []⟩ [.ref a] [.ref a] _ _ rfl hr e0 (hbind s₁ (.ref a)) (.cons rfl .nil) (hsp H hT sq)) fun r s' back => ?_
    cases r with
    | error e => exact False.elim back
    | ok fl =>
      cases fl with
      | next | brk | cont => exact False.elim back
      | ret u =>
        obtain ⟨v, H', os, bare, un, hok2, rv, q⟩ := back
        have qv : v = .bl true := q
        subst qv
        obtain rfl : u = Value.bool true := rv
        obtain ⟨more, z⟩ := un.tbls Tb #[] hT
        have grownT := hok2 Tb _ z
        have stays : ∀ b o, b ≠ Tb → s₁.heap.get? b = some o → s'.heap.get? b = some o := fun b o nb e => by
          cases q : H b with
          | none => exact un.keep b o e q (by intro z; exact absurd (show b ∈ ([] : List Addr) from z) (by simp)) (by simp)
          | some u =>
            rcases only b nb with z | ⟨ob, xs, z⟩
            · rw [q] at z
              cases z
            · obtain ⟨y1, _⟩ := hok b _ z
              obtain ⟨y2, _⟩ := hok2 b _ (un.frzs b ob _ z)
              rw [e] at y1
              cases y1
              exact y2
        refine ⟨rfl, ⟨fun b o e => ?_, fun b o e => ?_⟩, os, bare⟩
        · by_cases nb : b = Tb
          · rw [nb, atT] at e
            cases e
            exact .inr (.inl ⟨by rw [nb]; exact (C.tab atT).isCodeTable, rfl, #[], more, rfl, by rw [nb, Array.empty_append]; rw [Array.empty_append] at grownT; exact grownT⟩)
          · exact .inl (stays b o nb e)
        · by_cases nb : b = Tb
          · rw [nb]
            exact ⟨_, grownT⟩
          · exact ⟨o, stays b o nb e⟩
  have tabOk : ∀ H : Hp, ObjOk prog w H s₁.heap Tb (.tbl #[]) := fun H => atT
  cases hk : K.lookup a with
  | some o =>
    have e := KX a o hk
    rw [ha] at e
    cases e
    refine from_ (fun b => if b = Tb then some (.tbl #[]) else none) (if_pos rfl) (fun b nb => .inl (if_neg nb)) (.inr ⟨_, vs.toArray, _, hk, rfl, rfl, rfl, by rw [List.size_toArray, count]; exact hl, by simpa using vals⟩) (fun b u z => ?_) (fun b z => ?_) fun z => absurd (if_neg naT) z
    · by_cases y : b = Tb
      · have zz := (if_pos y).symm.trans z
        cases zz
        rw [y]
        exact tabOk _
      · have zz := (if_neg y).symm.trans z
        cases zz
    · by_cases y : b = Tb
      · exact .inr y
      · exact absurd (if_neg y) z
  | none =>
    refine from_ (fun b => if b = Tb then some (.tbl #[]) else if b = a then some (.frz { cls := .type "list", data := .seq vs.toArray } (.lst (ns.map V.int))) else none) (if_pos rfl) (fun b nb => ?_) (.inl (.inr ⟨{ cls := .type "list", data := .seq vs.toArray }, (if_neg naT).trans (if_pos rfl)⟩)) (fun b u z => ?_) (fun b z => ?_) fun _ => hk
    · by_cases y : b = a
      · exact .inr ⟨_, _, (if_neg nb).trans (if_pos y)⟩
      · exact .inl ((if_neg nb).trans (if_neg y))
    · by_cases y : b = Tb
      · have zz := (if_pos y).symm.trans z
        cases zz
        rw [y]
        exact tabOk _
      · have z1 := (if_neg y).symm.trans z
        by_cases y2 : b = a
        · have zz := (if_pos y2).symm.trans z1
          cases zz
          rw [y2]
          exact ⟨ha, by rw [List.length_map]; exact hl, vs, _, vals, ha⟩
        · have zz := (if_neg y2).symm.trans z1
          cases zz
    · by_cases y : b = Tb
      · exact .inr y
      · by_cases y2 : b = a
        · exact .inl y2
        · exact absurd ((if_neg y).trans (if_neg y2)) z
/-- what the end must bring; ts: the tables that are empty at first -/
structure LawG (l : PySem.W.OpenLaw) (w : World) (K : PySem.W.Frag) (k n : Nat) (x : Str) (ts : List Addr) (mg : Str → Option Value) (fa : Addr) : Prop where
  ex : ∃ (fd : FuncData) (co Tb : Addr) (sp : Sp), PySem.W.codeHdIn K co Tb = true ∧ Tb ∈ ts ∧ K.lookup Tb = none ∧ (∀ (s : Shared) (u : Value), BindsTo s fd ⟨[u], []⟩ [(x, u)]) ∧
    (∀ (H : Hp) (a : Addr) (ns : List Int), ns.length ≤ n → H Tb = some (.tbl #[]) → SqL K H a (ns.map V.int) → sp [.ref a] H (fun v _ => v = .bl true) fun _ _ _ => False) ∧
    ∀ base : Heap, K.In base → base.Ns mainGlobals mg → TabB base mg co Tb → FnOkG l.prog w K mg base k fa fd [x] sp
theorem walk_ofGT {l : PySem.W.OpenLaw} {n k : Nat} {q : Program} {loose : List Str} {XP : (Str → Option Value) → Heap → Prop} {YP : World → Heap → Prop} {d : DefRec} {K : Params → PySem.W.Frag} {x : Str} {ts : List Addr}
    (hn : l.most = some n) (hn2 : n ≤ sizeLine) (hdf : d.params.defaults = []) (hr : Room k callerA) (hY : ∀ (w : World) (h : Heap), YP w h → (K w.params).In h) (hT : ∀ (w : World) (h : Heap), YP w h → ∀ Tb ∈ ts, h.get? Tb = some { cls := .none, data := .fields #[] })
    (F : ∀ (w : World) (mg : Str → Option Value) (fa : Addr) (h : Heap), (K w.params).In h → h.Ns mainGlobals mg → mg d.name = some (.ref fa) → LawG l w (K w.params) k n x ts mg fa) :
    PySem.W.WalkO q loose XP YP l.row.toRowW d [] (fun f vs => PySem.call f vs) := by
  refine Att.attach_callB hn hdf fun w s₀ s₁ mg mb fa o pm cd doc a vs ns G Y ho hd hcd hmg hobj hints hlen hbits hg => ?_
  obtain ⟨fd, co, Tb, sp, hC, inT, nT, binds, hsp, ok⟩ := (F w mg fa _ (hY w _ Y) G.T.g hmg).ex
  exact law_callGT (hY w _ Y) G.T.g G.T.b G.T.builtins G.T.nolimit hg (hT w _ Y Tb inT) nT (PySem.W.codeHd_of_K (hY w _ Y) hC) G.T.bmain hobj hints (Nat.le_trans hlen hn2) hr ok binds fun H hT hS => hsp H a ns hlen hT hS
end QT

/-! draws -/
namespace Q01
open PySem PySem.Spec PyProof.Rows L2 QT
def top (i : Nat) : Stmt := PySem.Challenge.pw_nestfile_k01_things_of_the_package.main.body.getD i (.Pass ⟨0, 0, 0, 0⟩)
structure Txt (K : PySem.W.Frag) (mg : Str → Option Value) : Prop where
  z_len : mg "len" = none
  z_abs : mg "abs" = none
  z_int : mg "int" = none
  z_bool : mg "bool" = none
  z_tuple : mg "tuple" = none
  z_list : mg "list" = none
  z_isinstance : mg "isinstance" = none
  z_all : mg "all" = none
  z_range : mg "range" = none
  z_enumerate : mg "enumerate" = none
  z_repr : mg "repr" = none
  z_min : mg "min" = none
  z_max : mg "max" = none
theorem same_new {H : Hp} {p : Addr} {o : HO} (h : H p = none) : Same H (upd H p o) := fun b u e => by
  rw [upd_ne (ne_of_none e h)]
  exact e
theorem sz {n : Nat} (h : n ≤ 100000) : n ≤ sizeLine := Nat.le_trans h (by decide)
theorem szl {n : Nat} (h : n ≤ 100000) : n < sizeLine := Nat.lt_of_le_of_lt h (by decide)
theorem b01 {c : Prop} [Decidable c] : (0 : Int) ≤ (if c then 1 else 0) ∧ (if c then (1 : Int) else 0) ≤ 1 := by split <;> decide
theorem b64 {i : Int} (h : 0 ≤ i ∧ i ≤ 1) : -(2 ^ 64) < i ∧ i < 2 ^ 64 := ⟨by omega, by omega⟩
/-- a state of draws stands at s -/
def Stt (H : Hp) (s : Addr) : Prop := ∃ x y z : Int, H s = some (.lst [.int x, .int y, .int z]) ∧ 0 ≤ x ∧ 0 ≤ y ∧ y < 4294967296 ∧ 0 ≤ z
/-- all stays but at s, where a state stands -/
structure Ext (s : Addr) (H H' : Hp) : Prop where
  keep : ∀ b o, b ≠ s → H b = some o → H' b = some o
  st : Stt H' s
theorem Ext.trans {s : Addr} {H H1 H2 : Hp} (a : Ext s H H1) (b : Ext s H1 H2) : Ext s H H2 := ⟨fun x o n e => b.keep x o n (a.keep x o n e), b.st⟩
theorem Ext.refl {s : Addr} {H : Hp} (h : Stt H s) : Ext s H H := ⟨fun _ _ _ e => e, h⟩
theorem Stt.ex {s : Addr} {H H' : Hp} (h : Stt H s) (e : Same H H') : Stt H' s := by
  obtain ⟨x, y, z, a, b⟩ := h
  exact ⟨x, y, z, e _ _ a, b⟩
theorem Ext.of {s : Addr} {H H' : Hp} (e : Same H H') (h : Stt H s) : Ext s H H' := ⟨fun b o _ q => e b o q, h.ex e⟩
theorem Ext.ex {s : Addr} {H H1 H2 : Hp} (a : Ext s H H1) (e : Same H1 H2) : Ext s H H2 := ⟨fun b o n q => e b o (a.keep b o n q), a.st.ex e⟩
theorem Ext.new {s : Addr} {H H1 : Hp} {p : Addr} {o : HO} (a : Ext s H H1) (h : H1 p = none) : Ext s H (upd H1 p o) := a.ex (same_new h)
theorem Stt.ne {s p : Addr} {H : Hp} (h : Stt H s) (q : H p = none) : p ≠ s := fun e => by
  obtain ⟨_, _, _, a, _⟩ := h
  rw [← e, q] at a
  cases a
theorem same_of_ext {s : Addr} {H0 H1 H2 : Hp} (n : H0 s = none) (a : Same H0 H1) (b : Ext s H1 H2) : Same H0 H2 := fun x o e => b.keep x o (ne_of_none e n) (a x o e)
def spSource : Sp := fun vs H Q _ => ∃ n : Int, vs = [.int n] ∧ ∀ (H' : Hp) (p : Addr), H p = none → Same H H' → Stt H' p → Q (.ref p) H'
def spDraw : Sp := fun vs H Q _ => ∃ (s : Addr) (b : Int), vs = [.ref s, .int b] ∧ Stt H s ∧ 0 < b ∧ b ≤ 18446744073709551616 ∧ ∀ (H' : Hp) (d : Int), Ext s H H' → 0 ≤ d → d < b → Q (.int d) H'
def spPick (K : PySem.W.Frag) : Sp := fun vs H Q _ => ∃ (s p : Addr) (xs : List V), vs = [.ref s, .ref p] ∧ Stt H s ∧ p ≠ s ∧ SqL K H p xs ∧ 0 < xs.length ∧ xs.length ≤ 1000 ∧ ∀ (H' : Hp) (v : V), Ext s H H' → v ∈ xs → Q v H'
theorem Ext.seq {s p : Addr} {K : PySem.W.Frag} {H H' : Hp} {xs : List V} (e : Ext s H H') (n : p ≠ s) (h : SqL K H p xs) : SqL K H' p xs := by
  rcases h with (h | ⟨o, h⟩) | h
  · exact .inl (.inl (e.keep _ _ n h))
  · exact .inl (.inr ⟨o, e.keep _ _ n h⟩)
  · exact .inr h
theorem ix_set {n : Nat} {d : Int} (h0 : 0 ≤ d) (h1 : d < (n : Int)) : ixN n d = some d.toNat := by
  unfold ixN
  rw [if_pos h0, if_pos h1]
theorem at_ix {xs : List V} {d : Int} (h0 : 0 ≤ d) (h1 : d.toNat < xs.length) : atI xs d = some xs[d.toNat] := by
  unfold atI
  rw [ix_set h0 (by omega)]
  show xs[d.toNat]? = _
  rw [List.getElem?_eq_getElem h1]
theorem ifT {c : Bool} {A B : Prop} (h : c = true) (a : A) : if c = true then A else B := by
  rw [if_pos h]
  exact a
theorem ifF {c : Bool} {A B : Prop} (h : c = false) (b : B) : if c = true then A else B := by
  rw [h, if_neg Bool.false_ne_true]
  exact b
/-- side conditions; and the plain steps of a reading -/
local macro_rules | `(tactic| walk_at "sd") => `(tactic| first
  | assumption | decide | omega | exact b64 b01 | (show (0 : Int) < _; first | decide | omega) | exact ⟨by decide, by decide, by decide⟩ | exact ⟨by decide, by decide⟩ | exact ⟨by omega, by omega⟩
  | exact .inl ⟨by omega, by omega⟩ | exact .inr ⟨by omega, by omega⟩ | exact sz (by simp) | exact szl (by simp))
local macro_rules | `(tactic| walk_at "rd") => `(tactic| repeat (first
  | refine ⟨_, rfl, ?_⟩
  | refine ⟨_, _, rfl, rfl, ?_⟩
  | refine ⟨_, _, _, _, rfl, rfl, SqL.of (by first | assumption | exact upd_same), rfl, ?_⟩
  | refine .inl ⟨_, rfl, ?_⟩
  | refine .inr ⟨_, rfl, ?_⟩
  | refine ⟨_, _, _, _, rfl, rfl, (by first | assumption | exact upd_same), rfl, ?_⟩
  | refine And.intro (by walk_at "sd") ?_))
section
variable {P : Program} {w : World} {K : PySem.W.Frag} {mg : Str → Option Value} {base : Heap} {f : Addr} {fd : FuncData}
abbrev s__law_source : Stmt := top 20
theorem sc__law_source : FnScope ["_law_cell"] ["_law_cell"] (defScope s__law_source) := ⟨rfl, rfl, rfl, by decide +kernel, rfl, by decide +kernel, by decide +kernel⟩
theorem ok_source (F : Fun K "_law_source" "_law_source" s__law_source f fd) (T : Txt K mg) : FnOk P w K mg base CX0 1 f fd ["_law_cell"] spSource := by
  refine F.ok sc__law_source (fun vs H Q E h => ?_) (fun cdv A outer s H vs Q E hr h => ?_)
  · obtain ⟨n, rfl, _⟩ := h
    rfl
  · obtain ⟨n, rfl, k⟩ := h
    refine ⟨_, (pss_one (ps_ret (pe_lst (pa_cons (pe_callB call_abs (by rfl) T.z_abs (by decide +kernel) (pa_cons (pv 0) pa_nil)) (pa_cons (pe_op op_mod (pe_callTy call_int1 (by rfl) T.z_int (by decide +kernel) (pa_cons (pv 0) pa_nil)) pe_int) (pa_cons pe_int pa_nil)))))), ?_⟩
    walk_at "rd"
    intro p hp
    refine k _ p hp (same_new hp) ⟨_, _, _, upd_same, ?_, Int.emod_nonneg _ (by decide), ?_, by decide⟩
    · split <;> omega
    · have := Int.emod_lt_of_pos n (b := 2147483629) (by decide)
      show n % 2147483629 < _
      omega
abbrev s__law_draw : Stmt := top 21
theorem sc__law_draw : FnScope ["_law_source_here", "_law_many", "_law_found", "_law_mixed"] ["_law_source_here", "_law_many"] (defScope s__law_draw) := ⟨rfl, rfl, rfl, by decide +kernel, rfl, by decide +kernel, by decide +kernel⟩
theorem ok_draw (F : Fun K "_law_draw" "_law_draw" s__law_draw f fd) (T : Txt K mg) : FnOk P w K mg base CX0 1 f fd ["_law_source_here", "_law_many"] spDraw := by
  refine F.ok sc__law_draw (fun vs H Q E h => ?_) (fun cdv A outer s H vs Q E hr h => ?_)
  · obtain ⟨s, b, rfl, _⟩ := h
    rfl
  · obtain ⟨p, b, rfl, ⟨x, y, z, hs, hx, hy, hy2, hz⟩, hb, hb2, k⟩ := h
    refine ⟨_, (pss_cons (ps_if (pt_cmpR op_ge (pe_ix ix_list (pv 0) pe_int (fun _ _ => rfl)) (pe_op op_pow pe_int pe_int) (nomark _))
      (pss_cons (ps_set (i := 2) sc__law_draw.nd rfl (Or.inl rfl) (pe_op op_mod (pe_callTy call_int1 (by rfl) T.z_int (by decide +kernel) (pa_cons (pe_ix ix_list (pv 0) pe_int (fun _ _ => rfl)) pa_nil)) (pv 1)))
        (pss_cons (ps_asg (pe_op op_fdivW (pe_ix ix_list (pv 0) pe_int (fun _ _ => rfl)) (pv 1)) (pg_sub (pv 0) pe_int set_list))
        (pss_one (ps_ret (pv 2)))))
      pss_nil)
      (pss_cons (ps_asg (pe_op op_add (pe_ix ix_list (pv 0) pe_int (fun _ _ => rfl)) pe_int) (pg_sub (pv 0) pe_int set_list))
      (pss_cons (ps_set (i := 3) sc__law_draw.nd rfl (Or.inl rfl) (pe_op op_mod (pe_callTy call_int1 (by rfl) T.z_int (by decide +kernel) (pa_cons (pe_op op_mul (pe_op op_add (pe_op op_add (pe_ix ix_list (pv 0) pe_int (fun _ _ => rfl)) (pe_op op_mul pe_int (pe_ix ix_list (pv 0) pe_int (fun _ _ => rfl)))) pe_int) pe_int) pa_nil)) pe_int))
      (pss_cons (ps_set (i := 3) sc__law_draw.nd rfl (Or.inl rfl) (pe_op op_mod (pe_callTy call_int1 (by rfl) T.z_int (by decide +kernel) (pa_cons (pe_op op_mul (pv 3) (pe_op op_add (pe_op op_fdiv (pv 3) pe_int) pe_int)) pa_nil)) pe_int))
      (pss_one (ps_ret (pe_op op_mod (pe_callTy call_int1 (by rfl) T.z_int (by decide +kernel) (pa_cons (pe_op op_mod (pe_callTy call_int1 (by rfl) T.z_int (by decide +kernel) (pa_cons (pe_op op_add (pe_op op_fdiv (pv 3) pe_int) (pe_op op_mul (pe_op op_mod (pe_callTy call_int1 (by rfl) T.z_int (by decide +kernel) (pa_cons (pv 3) pa_nil)) pe_int) pe_int)) pa_nil)) pe_int) pa_nil)) (pv 1)))))))), ?_⟩
    walk_at "rd"
    by_cases big : (10 : Int) ^ Int.toNat 18 ≤ x
    · refine ifT (decide_eq_true big) ?_
      walk_at "rd"
      refine ⟨wide_div (b := 66) hb (by omega) (by decide) (by decide), ?_⟩
      walk_at "rd"
      refine k _ _ ⟨fun a o n e => by rw [upd_ne n]; exact e, _, _, _, upd_same, ?_, hy, hy2, hz⟩ (Int.emod_nonneg _ (by omega)) (Int.emod_lt_of_pos _ hb)
      exact Int.ediv_nonneg hx (by omega)
    · refine ifF (decide_eq_false big) ?_
      walk_at "rd"
      refine k _ _ ⟨fun a o n e => by rw [upd_ne n]; exact e, _, _, _, upd_same, hx, hy, hy2, ?_⟩ (Int.emod_nonneg _ (by omega)) (Int.emod_lt_of_pos _ hb)
      show (0 : Int) ≤ z + 1
      omega
abbrev s__law_pick : Stmt := top 22
theorem sc__law_pick : FnScope ["_law_source_here", "_law_items"] ["_law_source_here", "_law_items"] (defScope s__law_pick) := ⟨rfl, rfl, rfl, by decide +kernel, rfl, by decide +kernel, by decide +kernel⟩
theorem ok_pick (F : Fun K "_law_pick" "_law_pick" s__law_pick f fd) (T : Txt K mg) (c_draw : Cal P w K mg base 1 "_law_draw" spDraw) : FnOk P w K mg base CX0 2 f fd ["_law_source_here", "_law_items"] (spPick K) := by
  refine F.ok sc__law_pick (fun vs H Q E h => ?_) (fun cdv A outer s H vs Q E hr h => ?_)
  · obtain ⟨s, p, xs, rfl, _⟩ := h
    rfl
  · obtain ⟨s, p, xs, rfl, hs, hps, hl, h0, h1, k⟩ := h
    refine ⟨_, (pss_one (ps_ret (pe_ix ix_list (pv 1) (pe_c c_draw hr (by decide) (by rfl) (pa_cons (pv 0) (pa_cons (pe_callB call_len_seq (by rfl) T.z_len PySem.boot_len (pa_cons (pv 1) pa_nil)) pa_nil))) (fun _ _ => rfl)))), ?_⟩
    refine ⟨_, rfl, _, rfl, _, rfl, p, _, rfl, .inl hl, ?_⟩
    refine ⟨s, _, rfl, hs, by omega, by omega, fun H1 d e d0 d1 => ?_⟩
    have lt : d.toNat < xs.length := by omega
    exact ⟨p, xs, d, _, rfl, rfl, e.seq hps hl, at_ix d0 lt, k H1 _ e (List.getElem_mem lt)⟩
end
end Q01


/-! values that are handed about; what a number is; the five classes made -/
namespace Q01
open PySem PySem.Spec PyProof.Rows L2 QT
/-- a thing and the name of its type -/
inductive Pl (H : Hp) : V → String → Prop
  | int (i : Int) : Pl H (.int i) "int"
  | bl (b : Bool) : Pl H (.bl b) "bool"
  | non : Pl H .non "NoneType"
  | str (x : Str) : Pl H (.str x) "str"
  | lst {a : Addr} {xs : List V} (h : H a = some (.lst xs)) : Pl H (.ref a) "list"
  | tup {a : Addr} {xs : List V} (h : H a = some (.tup xs)) : Pl H (.ref a) "tuple"
  | dk {a : Addr} {kvs : List (Key × V)} (h : H a = some (.dK kvs)) : Pl H (.ref a) "dict"
/-- no table -/
def NoT (o : HO) : Prop := ∀ ps, o ≠ .tbl ps
/-- all but tables stays -/
def Kp (H H' : Hp) : Prop := ∀ b o, NoT o → H b = some o → H' b = some o
theorem Kp.refl (H : Hp) : Kp H H := fun _ _ _ e => e
theorem Kp.trans {H H1 H2 : Hp} (a : Kp H H1) (b : Kp H1 H2) : Kp H H2 := fun x o n e => b x o n (a x o n e)
theorem Kp.of {H H' : Hp} (e : Same H H') : Kp H H' := fun b o _ q => e b o q
theorem Kp.ext {H H' : Hp} (e : Kp H H') : LamX.ExtN H H' := fun b o q n => e b o n q
theorem Kp.ofN {H H' : Hp} (e : LamX.ExtN H H') : Kp H H' := fun b o n q => e b o q n
theorem noL (xs : List V) : NoT (.lst xs) := fun _ z => by cases z
theorem noTu (xs : List V) : NoT (.tup xs) := fun _ z => by cases z
theorem noD (kvs : List (Key × V)) : NoT (.dK kvs) := fun _ z => by cases z
theorem noI (C dx : Addr) (fs : List (Str × V)) : NoT (.ins C dx fs) := fun _ z => by cases z
theorem noX (fs : List (Str × V)) : NoT (.xd fs) := fun _ z => by cases z
theorem Pl.kp {H H' : Hp} {v : V} {t : String} (h : Pl H v t) (e : Kp H H') : Pl H' v t := by
  cases h with
  | int i => exact .int i
  | bl b => exact .bl b
  | non => exact .non
  | str x => exact .str x
  | lst h => exact .lst (e _ _ (noL _) h)
  | tup h => exact .tup (e _ _ (noTu _) h)
  | dk h => exact .dk (e _ _ (noD _) h)
theorem Pl.ty {K : PySem.W.Frag} {H : Hp} {v : V} {t : String} (h : Pl H v t) : TyX K H v (.type t) := by
  cases h with
  | int i => exact .base (by constructor)
  | bl b => exact .base (by constructor)
  | non => exact .base (by constructor)
  | str x => exact .base (by constructor)
  | lst h => exact .base (by constructor; exact h)
  | tup h => exact .base (by constructor; exact h)
  | dk h => exact .base (by constructor; exact h)
def isInt : V → Bool
  | .int _ => true
  | _ => false
def numB (hi : Int) : V → Bool
  | .int i => decide (0 ≤ i) && decide (i ≤ hi)
  | _ => false
def plB : V → Bool
  | .int n => decide (32 ≤ n) && decide (n ≤ 126) && !decide (n = 37)
  | _ => false
/-- what is handed to a class: a sequence, a number, or something else -/
inductive Co
  | seq (xs : List V)
  | num (n : Int)
  | els
inductive Ag (H : Hp) : V → Co → Prop
  | lst {p : Addr} {xs : List V} (h : H p = some (.lst xs)) (l : xs.length ≤ 1000) (i : ∀ x ∈ xs, ∃ t, Pl H x t) : Ag H (.ref p) (.seq xs)
  | tup {p : Addr} {xs : List V} (h : H p = some (.tup xs)) (l : xs.length ≤ 1000) (i : ∀ x ∈ xs, ∃ t, Pl H x t) : Ag H (.ref p) (.seq xs)
  | num (n : Int) : Ag H (.int n) (.num n)
  | els {v : V} {t : String} (h : Pl H v t) (m : t = "bool" ∨ t = "NoneType" ∨ t = "str" ∨ t = "dict") : Ag H v .els
theorem Ag.kp {H H' : Hp} {v : V} {c : Co} (h : Ag H v c) (e : Kp H H') : Ag H' v c := by
  cases h with
  | lst h l i => exact .lst (e _ _ (noL _) h) l fun x m => let ⟨t, p⟩ := i x m; ⟨t, p.kp e⟩
  | tup h l i => exact .tup (e _ _ (noTu _) h) l fun x m => let ⟨t, p⟩ := i x m; ⟨t, p.kp e⟩
  | num n => exact .num n
  | els h m => exact .els (h.kp e) m
theorem Ag.same {H H' : Hp} {v : V} {c : Co} (h : Ag H v c) (e : Same H H') : Ag H' v c := h.kp (.of e)
theorem Ag.pl {H : Hp} {v : V} {c : Co} (h : Ag H v c) : ∃ t, Pl H v t := by
  cases h with
  | lst h l i => exact ⟨_, .lst h⟩
  | tup h l i => exact ⟨_, .tup h⟩
  | num n => exact ⟨_, .int n⟩
  | els h m => exact ⟨_, h⟩
def areB (hi : Int) : Co → Bool
  | .seq xs => xs.all (numB hi)
  | _ => false
def spIsInteger : Sp := fun vs H Q _ => ∃ (v : V) (t : String), vs = [v] ∧ Pl H v t ∧ Q (.bl (isInt v)) H
def spIsBetween : Sp := fun vs H Q _ => ∃ (v : V) (t : String) (hi : Int), vs = [v, .int 0, .int hi] ∧ Pl H v t ∧ Q (.bl (numB hi v)) H
def spPlains : Sp := fun vs H Q _ => ∃ (p : Addr) (ns : List Int), vs = [.ref p] ∧ ns.length ≤ 1000 ∧ (H p = some (.lst (ns.map V.int)) ∨ H p = some (.tup (ns.map V.int))) ∧ ∀ H', Same H H' → Q (.bl ((ns.map V.int).all plB)) H'
theorem Pl.kn {K : PySem.W.Frag} {H : Hp} {v : V} {t : String} (h : Pl H v t) : Kn K H v := by
  cases h with
  | int i => exact .int i
  | bl b => exact .bl b
  | non => exact .oth (t := "NoneType") rfl (fun b z => by cases z) (fun H' _ => (Pl.non (H := H')).ty) (kit_ty (a := "NoneType") (b := "int") (by decide +kernel))
  | str x => exact .oth (t := "str") rfl (fun b z => by cases z) (fun H' _ => (Pl.str (H := H') x).ty) (kit_ty (a := "str") (b := "int") (by decide +kernel))
  | lst h => exact .oth (t := "list") rfl (fun b z => by cases z) (fun H' e => (Pl.lst (e _ _ h)).ty) (kit_ty (a := "list") (b := "int") (by decide +kernel))
  | tup h => exact .oth (t := "tuple") rfl (fun b z => by cases z) (fun H' e => (Pl.tup (e _ _ h)).ty) (kit_ty (a := "tuple") (b := "int") (by decide +kernel))
  | dk h => exact .oth (t := "dict") rfl (fun b z => by cases z) (fun H' e => (Pl.dk (e _ _ h)).ty) (kit_ty (a := "dict") (b := "int") (by decide +kernel))
theorem btw_numB (hi : Int) : btw 0 hi = numB hi := by
  funext v
  cases v <;> rfl
def spAre : Sp := fun vs H Q _ => ∃ (v : V) (c : Co) (hi : Int), vs = [v, .int hi] ∧ Ag H v c ∧ ∀ H', Same H H' → Q (.bl (areB hi c)) H'
theorem numB_not {hi : Int} {v : V} (h : isInt v = false) : numB hi v = false := by
  cases v with
  | int i => cases h
  | _ => rfl
theorem all_map {f : V → Bool} {xs : List V} : (xs.map fun x => V.bl (f x)) = (xs.map f).map V.bl := by rw [List.map_map]; rfl
theorem all_id {f : V → Bool} {xs : List V} : (xs.map f).all id = xs.all f := by rw [List.all_map]; rfl
theorem take_step {f : V → V} {xs : List V} {i : Nat} {x : V} (h : xs[i]? = some x) : (xs.take (i + 1)).map f = (xs.take i).map f ++ [f x] := by
  rw [List.take_succ, h, List.map_append]
  rfl
/-- an own error with one field that is made a tuple -/
structure ErrC (K : PySem.W.Frag) (mg : Str → Option Value) (x : Str) (C fI : Addr) : Prop where
  oex : OexC K C
  xf : XfC K C
  ini : PySem.W.findIn K (.ref C) "__init__" = some (some (.ref fI))
  tI : PySem.W.typeIn K (.ref fI) = some (.type "function")
  mgC : mg x = some (.ref C)
def spInitP (K : PySem.W.Frag) (fld : Str) (C : Addr) : Sp := fun vs H Q _ => ∃ (a p : Addr) (xs : List V), vs = [.ref a, .ref p] ∧ SqT K H p xs ∧ H a = some (exo a C none) ∧ ∀ dx, H dx = none → dx ≠ a → Q .non (upd (upd H dx (exd dx [(fld, .ref p)])) a (exo a C (some dx)))
/-- NoValue with the path () -/
def outV (CV : Addr) (H : Hp) (E : XK) : Prop := ∀ (H' : Hp) (d p : Addr), Same H H' → H' d = some (.xd [("path", .ref p)]) → H' p = some (.tup []) → E (.ref CV) (some d) H'
theorem upd_none {H : Hp} {a b : Addr} {o : HO} (h : upd H a o b = none) : H b = none ∧ b ≠ a := by
  have n : b ≠ a := fun z => by
    rw [z, upd_same] at h
    cases h
  rw [upd_ne n] at h
  exact ⟨h, n⟩
/-- what making the error asks, by what its catcher wishes -/
theorem raiseP {K : PySem.W.Frag} {C p : Addr} {H1 : Hp} {Q E : XK} (hp : H1 p = some (.tup [])) (k : outV C H1 Q) (a : Addr) (ha : H1 a = none) :
    spInitP K "path" C (.ref a :: ([.ref p] ++ [])) (upd H1 a (exo a C none)) (fun u H2 => u = .non ∧ ∃ (d : Addr) (fs : List (Str × V)), H2 a = some (exo a C (some d)) ∧ H2 d = some (exd d fs) ∧ H1 d = none ∧ Q (.ref C) (some d) (upd (del H2 a) d (.xd fs))) E := by
  have pa := ne_of_none hp ha
  refine ⟨a, p, [], rfl, .inl (.inl (by rw [upd_ne pa]; exact hp)), upd_same, fun dx n ne => ⟨rfl, dx, [("path", .ref p)], upd_same, by rw [upd_ne ne, upd_same], (upd_none n).1, k _ dx p (fun b o e => ?_) upd_same ?_⟩⟩
  · have n1 := ne_of_none e ha
    have n2 := ne_of_none e (upd_none n).1
    rw [upd_ne n2, del_ne n1, upd_ne n1, upd_ne n2, upd_ne n1]
    exact e
  · have n2 := ne_of_none hp (upd_none n).1
    rw [upd_ne n2, del_ne pa, upd_ne pa, upd_ne n2, upd_ne pa]
    exact hp
/-- a field's value by what was handed -/
inductive FV (H : Hp) : V → Co → Prop
  | seq {q : Addr} {xs : List V} (h : H q = some (.tup xs)) : FV H (.ref q) (.seq xs)
  | num (n : Int) : FV H (.int n) (.num n)
theorem FV.kp {H H' : Hp} {v : V} {c : Co} (h : FV H v c) (e : Kp H H') : FV H' v c := by
  cases h with
  | seq h => exact .seq (e _ _ (noTu _) h)
  | num n => exact .num n
/-- __init__ of one of the five classes -/
def spIni (C CV : Addr) (fld : Str) (good : Co → Bool) : Sp := fun vs H Q E => ∃ (a dx : Addr) (v : V) (c : Co), vs = [.ref a, v] ∧ H a = some (.ins C dx []) ∧ Ag H v c ∧
  (good c = true → ∀ (H' : Hp) (fv : V), (∀ b o, b ≠ a → H b = some o → H' b = some o) → H' a = some (.ins C dx [(fld, fv)]) → FV H' fv c → Q .non H') ∧ (good c = false → outV CV H E)
def goodW : Co → Bool
  | .seq xs => xs.all (numB 65535) && !(xs.all plB)
  | _ => false
def goodD : Co → Bool
  | .seq xs => xs.all (numB 255)
  | _ => false
def goodU : Co → Bool
  | .num n => numB 18446744073709551615 (.int n)
  | _ => false
def goodR : Co → Bool
  | .seq xs => xs.all (numB 255) && (decide (xs.length = 4) || decide (xs.length = 8))
  | _ => false
def goodT : Co → Bool
  | .seq xs => xs.all (numB 255) && decide (xs.length = 8)
  | _ => false
/-- side conditions; and the plain steps of a reading -/
local macro_rules | `(tactic| walk_at "sd") => `(tactic| first
  | assumption | decide | omega | exact b64 b01 | (show (0 : Int) < _; first | decide | omega) | exact ⟨by decide, by decide, by decide⟩ | exact ⟨by decide, by decide⟩ | exact ⟨by omega, by omega⟩
  | exact .inl ⟨by omega, by omega⟩ | exact .inr ⟨by omega, by omega⟩ | exact sz (by simp) | exact szl (by simp))
local macro_rules | `(tactic| walk_at "rd") => `(tactic| repeat (first
  | refine ⟨_, rfl, ?_⟩
  | refine ⟨_, _, rfl, rfl, ?_⟩
  | refine ⟨_, _, _, _, rfl, rfl, SqL.of (by first | assumption | exact upd_same), rfl, ?_⟩
  | refine .inl ⟨_, rfl, ?_⟩
  | refine .inr ⟨_, rfl, ?_⟩
  | refine ⟨_, _, _, _, rfl, rfl, (by first | assumption | exact upd_same), rfl, ?_⟩
  | refine And.intro (by walk_at "sd") ?_))
section
variable {P : Program} {w : World} {K : PySem.W.Frag} {mg : Str → Option Value} {base : Heap} {f : Addr} {fd : FuncData}
abbrev s_is_integer : Stmt := top 9
theorem sc_is_integer : FnScope ["thing"] ["thing"] (defScope s_is_integer) := ⟨rfl, rfl, rfl, by decide +kernel, rfl, by decide +kernel, by decide +kernel⟩
theorem ok_is_integer (F : Fun K "is_integer" "is_integer" s_is_integer f fd) (T : Txt K mg) : FnOk P w K mg base CX0 1 f fd ["thing"] spIsInteger := by
  refine F.ok sc_is_integer (fun vs H Q E h => ?_) (fun cdv A outer st H vs Q E hr h => ?_)
  · obtain ⟨v, _, rfl, _⟩ := h
    rfl
  · obtain ⟨v, t, rfl, hv, k⟩ := h
    refine ⟨_, (pss_one (ps_ret (pe_and (pe_callB call_isi (by rfl) T.z_isinstance (by decide +kernel) (pa_cons (pv 0) (pa_cons (pe_bltn (v := .ty "int") (u := .type "int") (by rfl) T.z_int (by decide +kernel) rfl) pa_nil))) (pe_one (pe_not (pe_callB call_isi (by rfl) T.z_isinstance (by decide +kernel) (pa_cons (pv 0) (pa_cons (pe_bltn (v := .ty "bool") (u := .type "bool") (by rfl) T.z_bool (by decide +kernel) rfl) pa_nil)))))))), ?_⟩
    refine ⟨_, rfl, ?_⟩
    have ty := hv.ty (K := K)
    cases hv with
    | int i => exact ⟨_, _, _, _, true, rfl, .ty _, ty, kit_ty (a := "int") (b := "int") (by decide +kernel), true, rfl, ifT rfl ⟨_, rfl, _, _, _, _, false, rfl, .ty _, ty, kit_ty (a := "int") (b := "bool") (by decide +kernel), false, rfl, k⟩⟩
    | bl b => exact ⟨_, _, _, _, true, rfl, .ty _, ty, kit_ty (a := "bool") (b := "int") (by decide +kernel), true, rfl, ifT rfl ⟨_, rfl, _, _, _, _, true, rfl, .ty _, ty, kit_ty (a := "bool") (b := "bool") (by decide +kernel), true, rfl, k⟩⟩
    | non => exact ⟨_, _, _, _, false, rfl, .ty _, ty, kit_ty (a := "NoneType") (b := "int") (by decide +kernel), false, rfl, ifF rfl k⟩
    | str x => exact ⟨_, _, _, _, false, rfl, .ty _, ty, kit_ty (a := "str") (b := "int") (by decide +kernel), false, rfl, ifF rfl k⟩
    | lst h => exact ⟨_, _, _, _, false, rfl, .ty _, ty, kit_ty (a := "list") (b := "int") (by decide +kernel), false, rfl, ifF rfl k⟩
    | tup h => exact ⟨_, _, _, _, false, rfl, .ty _, ty, kit_ty (a := "tuple") (b := "int") (by decide +kernel), false, rfl, ifF rfl k⟩
    | dk h => exact ⟨_, _, _, _, false, rfl, .ty _, ty, kit_ty (a := "dict") (b := "int") (by decide +kernel), false, rfl, ifF rfl k⟩
abbrev s_is_between : Stmt := top 10
theorem sc_is_between : FnScope ["thing", "low", "high"] ["thing", "low", "high"] (defScope s_is_between) := ⟨rfl, rfl, rfl, by decide +kernel, rfl, by decide +kernel, by decide +kernel⟩
theorem ok_is_between (F : Fun K "is_between" "is_between" s_is_between f fd) (T : Txt K mg) (c_is_integer : Cal P w K mg base 1 "is_integer" spIsInteger) : FnOk P w K mg base CX0 2 f fd ["thing", "low", "high"] spIsBetween := by
  refine F.ok sc_is_between (fun vs H Q E h => ?_) (fun cdv A outer st H vs Q E hr h => ?_)
  · obtain ⟨v, _, hi, rfl, _⟩ := h
    rfl
  · obtain ⟨v, t, hi, rfl, hv, k⟩ := h
    refine ⟨_, (pss_one (ps_ret (pe_and (pe_c c_is_integer hr (by decide) (by rfl) (pa_cons (pv 0) pa_nil)) (pe_one (pe_chain op_le op_le (pv 1) (pv 0) (pv 2)))))), ?_⟩
    refine ⟨_, rfl, v, t, rfl, hv, _, rfl, ?_⟩
    cases hc : isInt v with
    | false =>
      rw [numB_not hc] at k
      exact ifF rfl k
    | true =>
      obtain ⟨i, rfl⟩ : ∃ i, v = .int i := by
        cases v with
        | int i => exact ⟨i, rfl⟩
        | _ => cases hc
      refine ifT rfl ?_
      refine ⟨_, rfl, _, rfl, _, _, rfl, rfl, _, rfl, ?_⟩
      by_cases c : (0 : Int) ≤ i
      · refine ifT (decide_eq_true c) ?_
        refine ⟨_, rfl, _, _, rfl, rfl, ?_⟩
        have e : numB hi (.int i) = decide (i ≤ hi) := by
          show (decide (0 ≤ i) && decide (i ≤ hi)) = _
          rw [decide_eq_true c, Bool.true_and]
        show Q (.bl (decide (i ≤ hi))) H
        rw [← e]
        exact k
      · refine ifF (decide_eq_false c) ?_
        have e : numB hi (.int i) = false := by
          show (decide (0 ≤ i) && decide (i ≤ hi)) = _
          rw [decide_eq_false c, Bool.false_and]
        rw [e] at k
        exact k
end
end Q01


/-! sequences of numbers -/
namespace Q01
open PySem PySem.Spec PyProof.Rows L2 QT
theorem all_plain {ns : List Int} : (ns.map V.int).all plB = ((ns.all fun n => decide (32 ≤ n)) && ((ns.all fun n => decide (n ≤ 126)) && !inV (.int 37) (ns.map V.int))) := by
  have e : (!inV (.int 37) (ns.map V.int)) = ns.all fun n => !decide (n = 37) := by
    induction ns with
    | nil => rfl
    | cons n r ih =>
      rw [List.map_cons, List.all_cons, ← ih]
      show (!(eqV _ _ || inV _ _)) = _
      rw [Bool.not_or]
      congr 2
  rw [e, ← all_and, ← all_and, List.all_map]
  congr 1
  funext n
  show (decide (32 ≤ n) && decide (n ≤ 126) && !decide (n = 37)) = _
  rw [Bool.and_assoc]
theorem flat_ints : ∀ ns : List Int, (ns.map V.int).all flatV = true
  | [] => rfl
  | n :: r => by
    rw [List.map_cons, List.all_cons, flat_ints r]
    rfl
/-- side conditions; and the plain steps of a reading -/
local macro_rules | `(tactic| walk_at "sd") => `(tactic| first
  | assumption | decide | omega | exact b64 b01 | (show (0 : Int) < _; first | decide | omega) | exact ⟨by decide, by decide, by decide⟩ | exact ⟨by decide, by decide⟩ | exact ⟨by omega, by omega⟩
  | exact .inl ⟨by omega, by omega⟩ | exact .inr ⟨by omega, by omega⟩ | exact sz (by simp) | exact szl (by simp))
local macro_rules | `(tactic| walk_at "rd") => `(tactic| repeat (first
  | refine ⟨_, rfl, ?_⟩
  | refine ⟨_, _, rfl, rfl, ?_⟩
  | refine ⟨_, _, _, _, rfl, rfl, SqL.of (by first | assumption | exact upd_same), rfl, ?_⟩
  | refine .inl ⟨_, rfl, ?_⟩
  | refine .inr ⟨_, rfl, ?_⟩
  | refine ⟨_, _, _, _, rfl, rfl, (by first | assumption | exact upd_same), rfl, ?_⟩
  | refine And.intro (by walk_at "sd") ?_))
section
variable {P : Program} {w : World} {K : PySem.W.Frag} {mg : Str → Option Value} {base : Heap} {f : Addr} {fd : FuncData}
abbrev s_are_between : Stmt := top 12
theorem sc_are_between : FnScope ["things", "low", "high", "thing"] ["things", "low", "high"] (defScope s_are_between) := ⟨rfl, rfl, rfl, by decide +kernel, rfl, by decide +kernel, by decide +kernel⟩
theorem ok_between (F : Fun K "are_between" "are_between" s_are_between f fd) (T : Txt K mg) : FnOk P w K mg base CX0 1 f fd ["things", "low", "high"] (spBtw K) := by
  refine F.ok sc_are_between (fun vs H Q E h => ?_) (fun cdv A outer st H vs Q E hr h => ?_)
  · obtain ⟨a, xs, lo, hi, rfl, _⟩ := h
    rfl
  · obtain ⟨a, xs, lo, hi, rfl, hs, kn, hl, k⟩ := h
    rcases hs with hs | hs
    · refine ⟨_, (pss_cons (ps_if (pt_truth (pe_lc (own := [("thing", 3)]) (g := (gName 3)) rfl sc_are_between.nd (pi_list (pv 0)) (blkOk_by (N := ["things", "low", "high", "thing"]) (sc := defScope s_are_between) (by decide +kernel)) (fun _ _ _ _ _ => (pg_name (i := 3) sc_are_between.nd rfl (Or.inl rfl))) (fun _ _ _ _ _ => (pts_one (PW.pt (pw_or (pt_cmpR op_isB (pv 3) pe_bl (nomark _)) (pw_or (pt_cmpR op_isB (pv 3) pe_bl (nomark _)) (pw_or1 (pt_not (pt_val (pe_callB (show CallR _ (.builtin "isinstance") (rIsi K) from call_isi) (by rfl) T.z_isinstance (by decide +kernel) (pa_cons (pv 3) (pa_cons (pe_bltn (v := .ty "int") (u := .type "int") (by rfl) T.z_int (by decide +kernel) rfl) pa_nil))))))))))) (fun _ _ _ _ _ => (pv 3))) (by intro _; rfl))
      (pss_one (ps_ret pe_bl))
      pss_nil)
      (pss_one (ps_ret (pe_and (pe_cmpR op_ge (pe_callBK (cr_minB rfl) (by rfl) T.z_min (by decide +kernel) (pa_cons (pv 0) pa_nil) (pk_cons (pv 1) pk_nil)) (pv 1) (nomark _)) (pe_one (pe_cmpR op_le (pe_callBK (cr_maxB rfl) (by rfl) T.z_max (by decide +kernel) (pa_cons (pv 0) pa_nil) (pk_cons (pv 2) pk_nil)) (pv 2) (nomark _))))))), ?_⟩
      dsimp only
      refine use_seq ?_
      refine ⟨_, rfl, a, rfl, ⟨_, hs⟩, fun D nD => ?_⟩
      refine lc_it (walk_list (K := K) (a := a) (xs := xs)) (fun i H' => Same H H' ∧ H' D = some (.lst ((xs.take i).filter nI))) ⟨same_new nD, upd_same⟩ (fun _ _ _ ⟨sm, _⟩ => sm.seq hs) ?_ ?_
      · rintro i x W1 W2 li ⟨sm, hD⟩ ⟨rfl, hx⟩
        refine ⟨rfl, kn_test rfl ((kn x (List.mem_of_getElem? hx)).same sm) ?_⟩
        cases c : nI x with
        | true =>
          refine ifT rfl ?_
          refine ⟨x, rfl, _, hD, Nat.lt_of_le_of_lt (filter_le xs i) hl, fun b o e => ?_, ?_⟩
          · rw [upd_ne (ne_of_none e nD)]
            exact sm b o e
          · rw [upd_same, take_filter hx, if_pos c]
        | false =>
          refine ifF rfl ⟨sm, ?_⟩
          rw [hD, take_filter hx, if_neg (by rw [c]; exact Bool.false_ne_true)]
      · rintro W ⟨sm, hD⟩
        rw [List.take_length] at hD
        refine btw_end (lo := lo) (hi := hi) (SqL.of hD) (fun e => ?_) fun ⟨ns, e⟩ => ?_
        · refine ifT rfl ?_
          have q := k W sm
          rw [e] at q
          exact q
        · refine ifF rfl ?_
          subst e
          exact use_bounds rfl rfl rfl (.inl (sm.seq hs)) (k W sm)
    · refine ⟨_, (pss_cons (ps_if (pt_truth (pe_lc (own := [("thing", 3)]) (g := (gName 3)) rfl sc_are_between.nd (pi_tup (pv 0)) (blkOk_by (N := ["things", "low", "high", "thing"]) (sc := defScope s_are_between) (by decide +kernel)) (fun _ _ _ _ _ => (pg_name (i := 3) sc_are_between.nd rfl (Or.inl rfl))) (fun _ _ _ _ _ => (pts_one (PW.pt (pw_or (pt_cmpR op_isB (pv 3) pe_bl (nomark _)) (pw_or (pt_cmpR op_isB (pv 3) pe_bl (nomark _)) (pw_or1 (pt_not (pt_val (pe_callB (show CallR _ (.builtin "isinstance") (rIsi K) from call_isi) (by rfl) T.z_isinstance (by decide +kernel) (pa_cons (pv 3) (pa_cons (pe_bltn (v := .ty "int") (u := .type "int") (by rfl) T.z_int (by decide +kernel) rfl) pa_nil))))))))))) (fun _ _ _ _ _ => (pv 3))) (by intro _; rfl))
      (pss_one (ps_ret pe_bl))
      pss_nil)
      (pss_one (ps_ret (pe_and (pe_cmpR op_ge (pe_callBK (cr_minB rfl) (by rfl) T.z_min (by decide +kernel) (pa_cons (pv 0) pa_nil) (pk_cons (pv 1) pk_nil)) (pv 1) (nomark _)) (pe_one (pe_cmpR op_le (pe_callBK (cr_maxB rfl) (by rfl) T.z_max (by decide +kernel) (pa_cons (pv 0) pa_nil) (pk_cons (pv 2) pk_nil)) (pv 2) (nomark _))))))), ?_⟩
      dsimp only
      refine use_seq ?_
      refine ⟨_, rfl, a, rfl, ⟨_, hs⟩, fun D nD => ?_⟩
      refine lc_it (walk_tup (K := K) (a := a) (xs := xs)) (fun i H' => Same H H' ∧ H' D = some (.lst ((xs.take i).filter nI))) ⟨same_new nD, upd_same⟩ (fun _ _ _ ⟨sm, _⟩ => seqT_same hs sm) ?_ ?_
      · rintro i x W1 W2 li ⟨sm, hD⟩ ⟨rfl, hx⟩
        refine ⟨rfl, kn_test rfl ((kn x (List.mem_of_getElem? hx)).same sm) ?_⟩
        cases c : nI x with
        | true =>
          refine ifT rfl ?_
          refine ⟨x, rfl, _, hD, Nat.lt_of_le_of_lt (filter_le xs i) hl, fun b o e => ?_, ?_⟩
          · rw [upd_ne (ne_of_none e nD)]
            exact sm b o e
          · rw [upd_same, take_filter hx, if_pos c]
        | false =>
          refine ifF rfl ⟨sm, ?_⟩
          rw [hD, take_filter hx, if_neg (by rw [c]; exact Bool.false_ne_true)]
      · rintro W ⟨sm, hD⟩
        rw [List.take_length] at hD
        refine btw_end (lo := lo) (hi := hi) (SqL.of hD) (fun e => ?_) fun ⟨ns, e⟩ => ?_
        · refine ifT rfl ?_
          have q := k W sm
          rw [e] at q
          exact q
        · refine ifF rfl ?_
          subst e
          exact use_bounds rfl rfl rfl (.inr (seqT_same hs sm)) (k W sm)
abbrev s_are_plain_numbers : Stmt := top 11
theorem sc_are_plain_numbers : FnScope ["numbers"] ["numbers"] (defScope s_are_plain_numbers) := ⟨rfl, rfl, rfl, by decide +kernel, rfl, by decide +kernel, by decide +kernel⟩
theorem ok_plains {tg : Tok} (F : Fun K "are_plain_numbers" "are_plain_numbers" s_are_plain_numbers f fd) (T : Txt K mg) (gp : mg "PERCENT" = some (.int 37 tg)) : FnOk P w K mg base CX0 1 f fd ["numbers"] spPlains := by
  refine F.ok sc_are_plain_numbers (fun vs H Q E h => ?_) (fun cdv A outer st H vs Q E hr h => ?_)
  · obtain ⟨p, ns, rfl, _⟩ := h
    rfl
  · obtain ⟨p, ns, rfl, hl, hs, k⟩ := h
    refine ⟨_, (pss_one (ps_ret (pe_and (pe_cmpR op_ge (pe_callBK (cr_minB rfl) (by rfl) T.z_min (by decide +kernel) (pa_cons (pv 0) pa_nil) (pk_cons pe_int pk_nil)) pe_int (nomark _)) (pe_and (pe_cmpR op_le (pe_callBK (cr_maxB rfl) (by rfl) T.z_max (by decide +kernel) (pa_cons (pv 0) pa_nil) (pk_cons pe_int pk_nil)) pe_int (nomark _)) (pe_one (pe_cmpR op_notIn_seq (pe_glob (v := .int 37) (by rfl) gp ⟨_, rfl⟩) (pv 0) (by with_unfolding_all rfl))))))), ?_⟩
    have q := k H (Same.refl H)
    rw [all_plain] at q
    have sq : SqL K H p (ns.map V.int) ∨ SqT K H p (ns.map V.int) := by
      rcases hs with h | h
      · exact .inl (SqL.of h)
      · exact .inr (SqT.of h)
    refine ⟨_, rfl, p, ns, 32, rfl, rfl, sq, fun m hm => ⟨m, 32, rfl, rfl, _, rfl, ?_⟩⟩
    try dsimp only
    have e1 := hm 32 (Int.le_refl _)
    rw [← e1] at q
    cases c : decide ((32 : Int) ≤ m) with
    | false =>
      refine ifF rfl ?_
      rw [c, Bool.false_and] at q
      exact q
    | true =>
      refine ifT rfl ?_
      rw [c, Bool.true_and] at q
      refine ⟨_, rfl, p, ns, 32, rfl, rfl, sq, fun m2 hm2 => ⟨m2, 126, rfl, rfl, _, rfl, ?_⟩⟩
      try dsimp only
      rw [← hm2 126 (by decide)] at q
      cases c2 : decide (m2 ≤ (126 : Int)) with
      | false =>
        refine ifF rfl ?_
        rw [c2, Bool.false_and] at q
        exact q
      | true =>
        refine ifT rfl ?_
        rw [c2, Bool.true_and] at q
        refine ⟨_, rfl, p, _, rfl, sq, rfl, flat_ints ns, ?_⟩
        exact q
abbrev s__are_numbers : Stmt := top 13
theorem sc__are_numbers : FnScope ["things", "highest"] ["things", "highest"] (defScope s__are_numbers) := ⟨rfl, rfl, rfl, by decide +kernel, rfl, by decide +kernel, by decide +kernel⟩
theorem ok_are (F : Fun K "_are_numbers" "_are_numbers" s__are_numbers f fd) (T : Txt K mg) (c_between : Cal P w K mg base 1 "are_between" (spBtw K)) : FnOk P w K mg base CX0 3 f fd ["things", "highest"] spAre := by
  refine F.ok sc__are_numbers (fun vs H Q E h => ?_) (fun cdv A outer st H vs Q E hr h => ?_)
  · obtain ⟨v, c, hi, rfl, _⟩ := h
    rfl
  · obtain ⟨v, c, hi, rfl, ag, k⟩ := h
    have other : ∀ (t : String) (H1 : Hp), Pl H1 v t → (t = "int" ∨ t = "bool" ∨ t = "NoneType" ∨ t = "str" ∨ t = "dict") → Same H H1 → areB hi c = false →
        ∃ tt : Value, TyX K H1 v tt ∧ PySem.W.kitAny K tt [.type "list", .type "tuple"] = some false ∧ Q (.bl false) H1 := fun t H1 pl m sm e => by
      refine ⟨.type t, pl.ty, ?_, e ▸ k H1 sm⟩
      rcases m with rfl | rfl | rfl | rfl | rfl
      · exact kitAny_cons (kit_ty (a := "int") (b := "list") (r := false) (by decide +kernel)) (fun _ => kitAny_cons (kit_ty (a := "int") (b := "tuple") (r := false) (by decide +kernel)) (fun _ => kitAny_nil) fun z => nomatch z) fun z => nomatch z
      · exact kitAny_cons (kit_ty (a := "bool") (b := "list") (r := false) (by decide +kernel)) (fun _ => kitAny_cons (kit_ty (a := "bool") (b := "tuple") (r := false) (by decide +kernel)) (fun _ => kitAny_nil) fun z => nomatch z) fun z => nomatch z
      · exact kitAny_cons (kit_ty (a := "NoneType") (b := "list") (r := false) (by decide +kernel)) (fun _ => kitAny_cons (kit_ty (a := "NoneType") (b := "tuple") (r := false) (by decide +kernel)) (fun _ => kitAny_nil) fun z => nomatch z) fun z => nomatch z
      · exact kitAny_cons (kit_ty (a := "str") (b := "list") (r := false) (by decide +kernel)) (fun _ => kitAny_cons (kit_ty (a := "str") (b := "tuple") (r := false) (by decide +kernel)) (fun _ => kitAny_nil) fun z => nomatch z) fun z => nomatch z
      · exact kitAny_cons (kit_ty (a := "dict") (b := "list") (r := false) (by decide +kernel)) (fun _ => kitAny_cons (kit_ty (a := "dict") (b := "tuple") (r := false) (by decide +kernel)) (fun _ => kitAny_nil) fun z => nomatch z) fun z => nomatch z
    cases ag with
    | @lst p xs h l its =>
      refine ⟨_, (pss_one (ps_ret (pe_and (pe_callB call_isiT (by rfl) T.z_isinstance (by decide +kernel) (pa_cons (pv 0) (pa_cons (pe_tup (pa_cons (pe_bltn (v := .ty "list") (u := .type "list") (by rfl) T.z_list (by decide +kernel) rfl) (pa_cons (pe_bltn (v := .ty "tuple") (u := .type "tuple") (by rfl) T.z_tuple (by decide +kernel) rfl) pa_nil))) pa_nil))) (pe_one (pe_c c_between hr (by decide) (by rfl) (pa_cons (pv 0) (pa_cons pe_int (pa_cons (pv 1) pa_nil)))))))), ?_⟩
      try dsimp only
      refine ⟨_, rfl, sz (by simp), fun t nt => ?_⟩
      have e1 := same_new (o := .tup [V.ty "list", V.ty "tuple"]) nt
      refine ⟨_, t, _, _, _, true, rfl, upd_same, .cons (.ty "list") (.cons (.ty "tuple") .nil), ((Pl.lst h).kp (.of e1)).ty, kitAny_cons (kit_ty (a := "list") (b := "list") (r := true) (by decide +kernel)) (fun z => nomatch z) (fun _ => rfl), true, rfl, ifT rfl ?_⟩
      refine ⟨_, rfl, _, rfl, p, xs, 0, hi, rfl, .inl (SqL.of (e1 _ _ h)), fun x m => (its x m).elim fun t pl => (pl.kp (.of e1)).kn, szl (by omega), fun H2 s2 => ?_⟩
      rw [btw_numB]
      exact k H2 (e1.trans s2)
    | @tup p xs h l its =>
      refine ⟨_, (pss_one (ps_ret (pe_and (pe_callB call_isiT (by rfl) T.z_isinstance (by decide +kernel) (pa_cons (pv 0) (pa_cons (pe_tup (pa_cons (pe_bltn (v := .ty "list") (u := .type "list") (by rfl) T.z_list (by decide +kernel) rfl) (pa_cons (pe_bltn (v := .ty "tuple") (u := .type "tuple") (by rfl) T.z_tuple (by decide +kernel) rfl) pa_nil))) pa_nil))) (pe_one (pe_c c_between hr (by decide) (by rfl) (pa_cons (pv 0) (pa_cons pe_int (pa_cons (pv 1) pa_nil)))))))), ?_⟩
      try dsimp only
      refine ⟨_, rfl, sz (by simp), fun t nt => ?_⟩
      have e1 := same_new (o := .tup [V.ty "list", V.ty "tuple"]) nt
      refine ⟨_, t, _, _, _, true, rfl, upd_same, .cons (.ty "list") (.cons (.ty "tuple") .nil), ((Pl.tup h).kp (.of e1)).ty, kitAny_cons (kit_ty (a := "tuple") (b := "list") (r := false) (by decide +kernel)) (fun _ => kitAny_cons (kit_ty (a := "tuple") (b := "tuple") (r := true) (by decide +kernel)) (fun z => nomatch z) fun _ => rfl) (fun z => nomatch z), true, rfl, ifT rfl ?_⟩
      refine ⟨_, rfl, _, rfl, p, xs, 0, hi, rfl, .inr (SqT.of (e1 _ _ h)), fun x m => (its x m).elim fun t pl => (pl.kp (.of e1)).kn, szl (by omega), fun H2 s2 => ?_⟩
      rw [btw_numB]
      exact k H2 (e1.trans s2)
    | num n =>
      refine ⟨_, (pss_one (ps_ret (pe_and (pe_callB call_isiT (by rfl) T.z_isinstance (by decide +kernel) (pa_cons (pv 0) (pa_cons (pe_tup (pa_cons (pe_bltn (v := .ty "list") (u := .type "list") (by rfl) T.z_list (by decide +kernel) rfl) (pa_cons (pe_bltn (v := .ty "tuple") (u := .type "tuple") (by rfl) T.z_tuple (by decide +kernel) rfl) pa_nil))) pa_nil))) (pe_one (pe_c c_between hr (by decide) (by rfl) (pa_cons (pv 0) (pa_cons pe_int (pa_cons (pv 1) pa_nil)))))))), ?_⟩
      try dsimp only
      refine ⟨_, rfl, sz (by simp), fun t nt => ?_⟩
      have e1 := same_new (o := .tup [V.ty "list", V.ty "tuple"]) nt
      obtain ⟨tt, t1, t2, q⟩ := other "int" _ (.int n) (.inl rfl) e1 rfl
      exact ⟨_, t, _, _, _, false, rfl, upd_same, .cons (.ty "list") (.cons (.ty "tuple") .nil), t1, t2, false, rfl, ifF rfl q⟩
    | @els v t h m =>
      refine ⟨_, (pss_one (ps_ret (pe_and (pe_callB call_isiT (by rfl) T.z_isinstance (by decide +kernel) (pa_cons (pv 0) (pa_cons (pe_tup (pa_cons (pe_bltn (v := .ty "list") (u := .type "list") (by rfl) T.z_list (by decide +kernel) rfl) (pa_cons (pe_bltn (v := .ty "tuple") (u := .type "tuple") (by rfl) T.z_tuple (by decide +kernel) rfl) pa_nil))) pa_nil))) (pe_one (pe_c c_between hr (by decide) (by rfl) (pa_cons (pv 0) (pa_cons pe_int (pa_cons (pv 1) pa_nil)))))))), ?_⟩
      try dsimp only
      refine ⟨_, rfl, sz (by simp), fun t nt => ?_⟩
      have e1 := same_new (o := .tup [V.ty "list", V.ty "tuple"]) nt
      obtain ⟨tt, t1, t2, q⟩ := other _ _ (h.kp (.of e1)) (.inr m) e1 rfl
      exact ⟨_, t, _, _, _, false, rfl, upd_same, .cons (.ty "list") (.cons (.ty "tuple") .nil), t1, t2, false, rfl, ifF rfl q⟩
end
end Q01


/-! the five classes made -/
namespace Q01
open PySem PySem.Spec PyProof.Rows L2 QT
/-- what a class of the program is asked for -/
structure OwnC (K : PySem.W.Frag) (C : Addr) (fld : Str) : Prop where
  cl : Cls K C
  no : NoAttr K C fld
/-- the last step, a list or a tuple handed -/
theorem fin_seq {σ : L2.St} {K : PySem.W.Frag} {H H1 : Hp} {a C dx : Addr} {fld : Str} {v : V} {xs : List V} {Q : VK} (h0 : σ[0]? = some (some (.ref a))) (O : OwnC K C fld) (ha : H a = some (.ins C dx [])) (ag : Ag H v (.seq xs)) (sm : Same H H1)
    (k : ∀ (H' : Hp) (fv : V), (∀ b o, b ≠ a → H b = some o → H' b = some o) → H' a = some (.ins C dx [(fld, fv)]) → FV H' fv (.seq xs) → Q .non H') :
    ∃ p ys, [v] = [V.ref p] ∧ ((SqL K H1 p ys ∧ ∀ l, H1 l = none → ∃ s0 : V, σ[0]? = some (some s0) ∧ ∃ (a' C' dx' : Addr) (fs : List (Str × V)), s0 = .ref a' ∧ (upd H1 l (.tup ys)) a' = some (.ins C' dx' fs) ∧ Cls K C' ∧ NoAttr K C' fld ∧ fs.length < 1000 ∧ Q .non (upd (upd H1 l (.tup ys)) a' (.ins C' dx' (putF fld (.ref l) fs)))) ∨
      (SqT K H1 p ys ∧ ∃ s0 : V, σ[0]? = some (some s0) ∧ ∃ (a' C' dx' : Addr) (fs : List (Str × V)), s0 = .ref a' ∧ H1 a' = some (.ins C' dx' fs) ∧ Cls K C' ∧ NoAttr K C' fld ∧ fs.length < 1000 ∧ Q .non (upd H1 a' (.ins C' dx' (putF fld (.ref p) fs))))) := by
  have a1 := sm _ _ ha
  cases ag with
  | @lst p _ h l its =>
    refine ⟨p, xs, rfl, .inl ⟨SqL.of (sm _ _ h), fun q nq => ⟨_, h0, a, C, dx, [], rfl, same_new nq _ _ a1, O.cl, O.no, (by show 0 < 1000; decide), k _ (.ref q) (fun b o n e => ?_) upd_same (.seq ?_)⟩⟩⟩
    · rw [upd_ne n]
      exact same_new nq _ _ (sm _ _ e)
    · rw [upd_ne (ne_of_none a1 nq).symm, upd_same]
  | @tup p _ h l its =>
    refine ⟨p, xs, rfl, .inr ⟨SqT.of (sm _ _ h), ⟨_, h0, a, C, dx, [], rfl, a1, O.cl, O.no, (by show 0 < 1000; decide), k _ (.ref p) (fun b o n e => ?_) upd_same (.seq ?_)⟩⟩⟩
    · rw [upd_ne n]
      exact sm _ _ e
    · rw [upd_ne (ne_of (sm _ _ h) a1 (by intro z; cases z))]
      exact sm _ _ h
theorem ints_list : ∀ {xs : List V}, (∀ x ∈ xs, ∃ n, x = V.int n) → ∃ ns : List Int, xs = ns.map V.int
  | [], _ => ⟨[], rfl⟩
  | x :: r, h => by
    obtain ⟨n, e⟩ := h x List.mem_cons_self
    obtain ⟨ns, z⟩ := ints_list (xs := r) fun y m => h y (List.mem_cons_of_mem _ m)
    exact ⟨n :: ns, by rw [e, z]; rfl⟩
theorem good_seq {g : Co → Bool} {c : Co} (hn : ∀ n, g (.num n) = false) (he : g .els = false) (h : g c = true) : ∃ xs, c = .seq xs := by
  cases c with
  | seq xs => exact ⟨xs, rfl⟩
  | num n => rw [hn n] at h; cases h
  | els => rw [he] at h; cases h
theorem ag_num {H : Hp} {v : V} {c : Co} {hi : Int} (h : Ag H v c) : numB hi v = (match c with | .num n => numB hi (.int n) | _ => false) := by
  cases h with
  | lst => rfl
  | tup => rfl
  | num n => rfl
  | els h m =>
    cases h with
    | int i => rcases m with z | z | z | z <;> exact absurd z (by decide)
    | _ => rfl
theorem plain_ints {hi : Int} {xs : List V} (h : xs.all (numB hi) = true) : ∀ x ∈ xs, ∃ n, x = V.int n := fun x hx => by
  have z := List.all_eq_true.mp h x hx
  cases x with
  | int n => exact ⟨n, rfl⟩
  | _ => cases z
theorem in48 {n : Nat} : inV (.int (n : Int)) [V.int 4, V.int 8] = (decide (n = 4) || decide (n = 8)) := by
  have h4 : eqV (.int 4) (.int (n : Int)) = decide (n = 4) := by
    show decide ((4 : Int) = (n : Int)) = _
    exact decide_eq_decide.mpr (by omega)
  have h8 : eqV (.int 8) (.int (n : Int)) = decide (n = 8) := by
    show decide ((8 : Int) = (n : Int)) = _
    exact decide_eq_decide.mpr (by omega)
  show (eqV (.int 4) (.int (n : Int)) || (eqV (.int 8) (.int (n : Int)) || false)) = _
  rw [h4, h8, Bool.or_false]
theorem len8 {n : Nat} : decide (V.int (n : Int) = V.int 8) = decide (n = 8) := by
  refine decide_eq_decide.mpr ⟨fun q => ?_, fun q => ?_⟩
  · have q2 : (n : Int) = 8 := by simpa using q
    omega
  · rw [q]
    rfl
/-- the items of what was handed, at one place -/
theorem ag_seq {K : PySem.W.Frag} {H H1 : Hp} {v : V} {xs : List V} (ag : Ag H v (.seq xs)) (sm : Same H H1) : ∃ p, v = .ref p ∧ (SqL K H1 p xs ∨ SqT K H1 p xs) ∧ xs.length ≤ 1000 := by
  cases ag with
  | lst h l i => exact ⟨_, rfl, .inl (SqL.of (sm _ _ h)), l⟩
  | tup h l i => exact ⟨_, rfl, .inr (SqT.of (sm _ _ h)), l⟩
/-- side conditions; and the plain steps of a reading -/
local macro_rules | `(tactic| walk_at "sd") => `(tactic| first
  | assumption | decide | omega | exact b64 b01 | (show (0 : Int) < _; first | decide | omega) | exact ⟨by decide, by decide, by decide⟩ | exact ⟨by decide, by decide⟩ | exact ⟨by omega, by omega⟩
  | exact .inl ⟨by omega, by omega⟩ | exact .inr ⟨by omega, by omega⟩ | exact sz (by simp) | exact szl (by simp))
local macro_rules | `(tactic| walk_at "rd") => `(tactic| repeat (first
  | refine ⟨_, rfl, ?_⟩
  | refine ⟨_, _, rfl, rfl, ?_⟩
  | refine ⟨_, _, _, _, rfl, rfl, SqL.of (by first | assumption | exact upd_same), rfl, ?_⟩
  | refine .inl ⟨_, rfl, ?_⟩
  | refine .inr ⟨_, rfl, ?_⟩
  | refine ⟨_, _, _, _, rfl, rfl, (by first | assumption | exact upd_same), rfl, ?_⟩
  | refine And.intro (by walk_at "sd") ?_))
section
variable {P : Program} {w : World} {K : PySem.W.Frag} {mg : Str → Option Value} {base : Heap} {f : Addr} {fd : FuncData}
abbrev s_NoValue___init__ : Stmt := inClass (top 3) 0
theorem sc_NoValue___init__ : FnScope ["self", "path"] ["self", "path"] (defScope s_NoValue___init__) := ⟨rfl, rfl, rfl, by decide +kernel, rfl, by decide +kernel, by decide +kernel⟩
theorem ok_iniN {C : Addr} (F : Fun K "__init__" "NoValue.__init__" s_NoValue___init__ f fd) (T : Txt K mg) (O : OexC K C) (nf : PySem.W.findIn K (.ref C) "path" = some none) : FnOk P w K mg base CX0 1 f fd ["self", "path"] (spInitP K "path" C) := by
  refine F.ok sc_NoValue___init__ (fun vs H Q E h => ?_) (fun cdv A outer st H vs Q E hr h => ?_)
  · obtain ⟨a, v, _, rfl, _⟩ := h
    rfl
  · obtain ⟨a, p, xs, rfl, hp, ha, k⟩ := h
    refine ⟨_, pss_one (ps_ost (pv 0) (pe_callTy call_tuple_of (by rfl) T.z_tuple (by decide +kernel) (pa_cons (pv 1) pa_nil))), ?_⟩
    exact ⟨_, rfl, p, xs, rfl, .inr ⟨hp, _, rfl, a, C, rfl, O, nf, .inl ⟨ha, fun dx n ne => k dx n ne⟩⟩⟩
abbrev s_Data___init__ : Stmt := inClass (top 15) 0
theorem sc_Data___init__ : FnScope ["self", "octets"] ["self", "octets"] (defScope s_Data___init__) := ⟨rfl, rfl, rfl, by decide +kernel, rfl, by decide +kernel, by decide +kernel⟩
theorem ok_iniD {C CV fN : Addr} {fdN : FuncData} {tg : Tok} (F : Fun K "__init__" "Data.__init__" s_Data___init__ f fd) (T : Txt K mg) (gb : mg "GREATEST_BYTE" = some (.int 255 tg)) (N : ErrC K mg "NoValue" CV fN) (bN : Binds K fdN ["self", "path"] [])
    (c_iniN : FnOk P w K mg base CX0 1 fN fdN ["self", "path"] (spInitP K "path" CV)) (O : OwnC K C "octets") (c_are : Cal P w K mg base 3 "_are_numbers" spAre) : FnOk P w K mg base (L2.CX P w) 4 f fd ["self", "octets"] (spIni C CV "octets" goodD) := by
  refine F.okX sc_Data___init__ (fun vs H Q E h => ?_) (fun cdv A outer st H vs Q E hr h => ?_)
  · obtain ⟨a, dx, v, c, rfl, _⟩ := h
    rfl
  · obtain ⟨a, dx, v, c, rfl, ha, ag, kg, kb⟩ := h
    refine ⟨_, (pss_cons (ps_if (pt_not (pt_val (pe_c c_are hr (by decide) (by rfl) (pa_cons (pv 1) (pa_cons (pe_glob (v := .int 255) (by rfl) gb ⟨_, rfl⟩) pa_nil)))))
      (pss_one (ps_raise rfl (takes_of rfl rfl rfl rfl) (pmk_oex N.oex N.ini N.tI c_iniN (hr.mono (by decide)) bN .nil pass0 (by rfl) N.mgC (pa_cons (pe_tup pa_nil) pa_nil))))
      pss_nil)
      (pss_one (ps_fld (pv 0) (pe_callTy call_tuple_of (by rfl) T.z_tuple (by decide +kernel) (pa_cons (pv 1) pa_nil)) rfl))), ?_⟩
    refine use_seq ?_
    refine ⟨_, rfl, v, c, _, rfl, ag, fun H1 s1 => ⟨_, rfl, ?_⟩⟩
    cases hg : goodD c with
    | false =>
      have e : areB 255 c = false := by
        cases c <;> first | exact hg | rfl
      refine ifT (by rw [e]; rfl) ?_
      refine ⟨sz (by simp), fun p np => ⟨(by show 1 ≤ 1000; decide), raiseP upd_same fun H' d q kp e1 e2 => ?_⟩⟩
      exact kb hg H' d q ((s1.trans (same_new np)).trans kp) e1 e2
    | true =>
      obtain ⟨xs, rfl⟩ := good_seq (fun _ => rfl) rfl hg
      have e : areB 255 (.seq xs) = true := hg
      refine ifF (by rw [e]; rfl) ?_
      dsimp only
      refine ⟨_, rfl, ?_⟩
      exact fin_seq rfl O ha ag s1 (kg hg)
abbrev s_Uid___init__ : Stmt := inClass (top 16) 0
theorem sc_Uid___init__ : FnScope ["self", "number"] ["self", "number"] (defScope s_Uid___init__) := ⟨rfl, rfl, rfl, by decide +kernel, rfl, by decide +kernel, by decide +kernel⟩
theorem ok_iniU {C CV fN : Addr} {fdN : FuncData} {tg : Tok} (F : Fun K "__init__" "Uid.__init__" s_Uid___init__ f fd) (T : Txt K mg) (gh : mg "HIGHEST" = some (.int 18446744073709551615 tg)) (N : ErrC K mg "NoValue" CV fN) (bN : Binds K fdN ["self", "path"] [])
    (c_iniN : FnOk P w K mg base CX0 1 fN fdN ["self", "path"] (spInitP K "path" CV)) (O : OwnC K C "number") (c_is_between : Cal P w K mg base 2 "is_between" spIsBetween) : FnOk P w K mg base (L2.CX P w) 3 f fd ["self", "number"] (spIni C CV "number" goodU) := by
  refine F.okX sc_Uid___init__ (fun vs H Q E h => ?_) (fun cdv A outer st H vs Q E hr h => ?_)
  · obtain ⟨a, dx, v, c, rfl, _⟩ := h
    rfl
  · obtain ⟨a, dx, v, c, rfl, ha, ag, kg, kb⟩ := h
    refine ⟨_, (pss_cons (ps_if (pt_not (pt_val (pe_c c_is_between hr (by decide) (by rfl) (pa_cons (pv 1) (pa_cons pe_int (pa_cons (pe_glob (v := .int 18446744073709551615) (by rfl) gh ⟨_, rfl⟩) pa_nil))))))
      (pss_one (ps_raise rfl (takes_of rfl rfl rfl rfl) (pmk_oex N.oex N.ini N.tI c_iniN (hr.mono (by decide)) bN .nil pass0 (by rfl) N.mgC (pa_cons (pe_tup pa_nil) pa_nil))))
      pss_nil)
      (pss_one (ps_fld (pv 0) (pv 1) rfl))), ?_⟩
    refine use_seq ?_
    obtain ⟨t, pl⟩ := ag.pl
    refine ⟨_, rfl, v, t, _, rfl, pl, _, rfl, ?_⟩
    have en := ag_num (hi := 18446744073709551615) ag
    cases hg : goodU c with
    | false =>
      have e : numB 18446744073709551615 v = false := by
        rw [en]
        cases c <;> first | exact hg | rfl
      refine ifT (by rw [e]; rfl) ?_
      refine ⟨sz (by simp), fun p np => ⟨(by show 1 ≤ 1000; decide), raiseP upd_same fun H' d q kp e1 e2 => ?_⟩⟩
      exact kb hg H' d q ((same_new np).trans kp) e1 e2
    | true =>
      obtain ⟨n, rfl⟩ : ∃ n, c = .num n := by
        cases c with
        | num n => exact ⟨n, rfl⟩
        | _ => cases hg
      have e : numB 18446744073709551615 v = true := by
        rw [en]
        exact hg
      refine ifF (by rw [e]; rfl) ?_
      dsimp only
      cases ag
      exact ⟨_, rfl, _, rfl, a, C, dx, [], rfl, ha, O.cl, O.no, (by show 0 < 1000; decide), kg hg _ (.int n) (fun b o ne e => by rw [upd_ne ne]; exact e) upd_same (.num n)⟩
abbrev s_Real___init__ : Stmt := inClass (top 17) 0
theorem sc_Real___init__ : FnScope ["self", "octets"] ["self", "octets"] (defScope s_Real___init__) := ⟨rfl, rfl, rfl, by decide +kernel, rfl, by decide +kernel, by decide +kernel⟩
theorem ok_iniR {C CV fN : Addr} {fdN : FuncData} {tg : Tok} (F : Fun K "__init__" "Real.__init__" s_Real___init__ f fd) (T : Txt K mg) (gb : mg "GREATEST_BYTE" = some (.int 255 tg)) (N : ErrC K mg "NoValue" CV fN) (bN : Binds K fdN ["self", "path"] [])
    (c_iniN : FnOk P w K mg base CX0 1 fN fdN ["self", "path"] (spInitP K "path" CV)) (O : OwnC K C "octets") (c_are : Cal P w K mg base 3 "_are_numbers" spAre) : FnOk P w K mg base (L2.CX P w) 4 f fd ["self", "octets"] (spIni C CV "octets" goodR) := by
  refine F.okX sc_Real___init__ (fun vs H Q E h => ?_) (fun cdv A outer st H vs Q E hr h => ?_)
  · obtain ⟨a, dx, v, c, rfl, _⟩ := h
    rfl
  · obtain ⟨a, dx, v, c, rfl, ha, ag, kg, kb⟩ := h
    refine ⟨_, (pss_cons (ps_if (PW.pt (pw_or (pt_not (pt_val (pe_c c_are hr (by decide) (by rfl) (pa_cons (pv 1) (pa_cons (pe_glob (v := .int 255) (by rfl) gb ⟨_, rfl⟩) pa_nil))))) (pw_or1 (pt_cmpR op_notIn_seq (pe_callB call_len_seq (by rfl) T.z_len PySem.boot_len (pa_cons (pv 1) pa_nil)) (pe_tup (pa_cons pe_int (pa_cons pe_int pa_nil))) (by with_unfolding_all rfl)))))
      (pss_one (ps_raise rfl (takes_of rfl rfl rfl rfl) (pmk_oex N.oex N.ini N.tI c_iniN (hr.mono (by decide)) bN .nil pass0 (by rfl) N.mgC (pa_cons (pe_tup pa_nil) pa_nil))))
      pss_nil)
      (pss_one (ps_fld (pv 0) (pe_callTy call_tuple_of (by rfl) T.z_tuple (by decide +kernel) (pa_cons (pv 1) pa_nil)) rfl))), ?_⟩
    refine use_seq ?_
    refine ⟨_, rfl, v, c, _, rfl, ag, fun H1 s1 => ⟨_, rfl, ?_⟩⟩
    cases ha2 : areB 255 c with
    | false =>
      have hg : goodR c = false := by
        cases c with
        | seq xs =>
          have z : xs.all (numB 255) = false := ha2
          show (xs.all (numB 255) && _) = false
          rw [z, Bool.false_and]
        | _ => rfl
      refine ifT rfl ?_
      refine ⟨sz (by simp), fun p2 np => ⟨(by show 1 ≤ 1000; decide), raiseP upd_same fun H' d q kp e1 e2 => ?_⟩⟩
      exact kb hg H' d q ((s1.trans (same_new np)).trans kp) e1 e2
    | true =>
      obtain ⟨xs, rfl⟩ := good_seq (g := areB 255) (fun _ => rfl) rfl ha2
      refine ifF rfl ?_
      obtain ⟨p, rfl, sq, sl⟩ := ag_seq (K := K) ag s1
      refine ⟨_, rfl, p, xs, rfl, sq, sz (by simp), fun t nt => ⟨t, _, rfl, .inr (SqT.of upd_same), rfl, rfl, _, rfl, ?_⟩⟩
      have s2 := s1.trans (same_new (o := .tup [V.int 4, V.int 8]) nt)
      have gd : goodR (.seq xs) = (decide (xs.length = 4) || decide (xs.length = 8)) := by
        show (xs.all (numB 255) && _) = _
        rw [show xs.all (numB 255) = true from ha2, Bool.true_and]
      cases d : (decide (xs.length = 4) || decide (xs.length = 8)) with
      | false =>
        have hg : goodR (.seq xs) = false := gd.trans d
        refine ifT (by show (!inV (.int (xs.length : Int)) [V.int 4, V.int 8]) = true; rw [in48, d]; rfl) ?_
        refine ⟨sz (by simp), fun p2 np => ⟨(by show 1 ≤ 1000; decide), raiseP upd_same fun H' d q kp e1 e2 => ?_⟩⟩
        exact kb hg H' d q ((s2.trans (same_new np)).trans kp) e1 e2
      | true =>
        have hg : goodR (.seq xs) = true := gd.trans d
        refine ifF (by show (!inV (.int (xs.length : Int)) [V.int 4, V.int 8]) = false; rw [in48, d]; rfl) ?_
        dsimp only
        refine ⟨_, rfl, ?_⟩
        exact fin_seq rfl O ha ag s2 (kg hg)
abbrev s_Date___init__ : Stmt := inClass (top 18) 0
theorem sc_Date___init__ : FnScope ["self", "octets"] ["self", "octets"] (defScope s_Date___init__) := ⟨rfl, rfl, rfl, by decide +kernel, rfl, by decide +kernel, by decide +kernel⟩
theorem ok_iniT {C CV fN : Addr} {fdN : FuncData} {tg : Tok} (F : Fun K "__init__" "Date.__init__" s_Date___init__ f fd) (T : Txt K mg) (gb : mg "GREATEST_BYTE" = some (.int 255 tg)) (N : ErrC K mg "NoValue" CV fN) (bN : Binds K fdN ["self", "path"] [])
    (c_iniN : FnOk P w K mg base CX0 1 fN fdN ["self", "path"] (spInitP K "path" CV)) (O : OwnC K C "octets") (c_are : Cal P w K mg base 3 "_are_numbers" spAre) : FnOk P w K mg base (L2.CX P w) 4 f fd ["self", "octets"] (spIni C CV "octets" goodT) := by
  refine F.okX sc_Date___init__ (fun vs H Q E h => ?_) (fun cdv A outer st H vs Q E hr h => ?_)
  · obtain ⟨a, dx, v, c, rfl, _⟩ := h
    rfl
  · obtain ⟨a, dx, v, c, rfl, ha, ag, kg, kb⟩ := h
    refine ⟨_, (pss_cons (ps_if (PW.pt (pw_or (pt_not (pt_val (pe_c c_are hr (by decide) (by rfl) (pa_cons (pv 1) (pa_cons (pe_glob (v := .int 255) (by rfl) gb ⟨_, rfl⟩) pa_nil))))) (pw_or1 (pt_cmpR op_ne (pe_callB call_len_seq (by rfl) T.z_len PySem.boot_len (pa_cons (pv 1) pa_nil)) pe_int (nomark _)))))
      (pss_one (ps_raise rfl (takes_of rfl rfl rfl rfl) (pmk_oex N.oex N.ini N.tI c_iniN (hr.mono (by decide)) bN .nil pass0 (by rfl) N.mgC (pa_cons (pe_tup pa_nil) pa_nil))))
      pss_nil)
      (pss_one (ps_fld (pv 0) (pe_callTy call_tuple_of (by rfl) T.z_tuple (by decide +kernel) (pa_cons (pv 1) pa_nil)) rfl))), ?_⟩
    refine use_seq ?_
    refine ⟨_, rfl, v, c, _, rfl, ag, fun H1 s1 => ⟨_, rfl, ?_⟩⟩
    cases ha2 : areB 255 c with
    | false =>
      have hg : goodT c = false := by
        cases c with
        | seq xs =>
          have z : xs.all (numB 255) = false := ha2
          show (xs.all (numB 255) && _) = false
          rw [z, Bool.false_and]
        | _ => rfl
      refine ifT rfl ?_
      refine ⟨sz (by simp), fun p2 np => ⟨(by show 1 ≤ 1000; decide), raiseP upd_same fun H' d q kp e1 e2 => ?_⟩⟩
      exact kb hg H' d q ((s1.trans (same_new np)).trans kp) e1 e2
    | true =>
      obtain ⟨xs, rfl⟩ := good_seq (g := areB 255) (fun _ => rfl) rfl ha2
      refine ifF rfl ?_
      obtain ⟨p, rfl, sq, sl⟩ := ag_seq (K := K) ag s1
      refine ⟨_, rfl, p, xs, rfl, sq, rfl, _, rfl, ?_⟩
      have s2 := s1
      have gd : goodT (.seq xs) = decide (xs.length = 8) := by
        show (xs.all (numB 255) && _) = _
        rw [show xs.all (numB 255) = true from ha2, Bool.true_and]
      cases d : decide (xs.length = 8) with
      | false =>
        have hg : goodT (.seq xs) = false := gd.trans d
        refine ifT (by show (!decide (V.int (xs.length : Int) = V.int 8)) = true; rw [len8, d]; rfl) ?_
        refine ⟨sz (by simp), fun p2 np => ⟨(by show 1 ≤ 1000; decide), raiseP upd_same fun H' d q kp e1 e2 => ?_⟩⟩
        exact kb hg H' d q ((s2.trans (same_new np)).trans kp) e1 e2
      | true =>
        have hg : goodT (.seq xs) = true := gd.trans d
        refine ifF (by show (!decide (V.int (xs.length : Int) = V.int 8)) = false; rw [len8, d]; rfl) ?_
        dsimp only
        refine ⟨_, rfl, ?_⟩
        exact fin_seq rfl O ha ag s2 (kg hg)
abbrev s_Wide___init__ : Stmt := inClass (top 14) 0
theorem sc_Wide___init__ : FnScope ["self", "units"] ["self", "units"] (defScope s_Wide___init__) := ⟨rfl, rfl, rfl, by decide +kernel, rfl, by decide +kernel, by decide +kernel⟩
theorem ok_iniW {C CV fN : Addr} {fdN : FuncData} {tg : Tok} (F : Fun K "__init__" "Wide.__init__" s_Wide___init__ f fd) (T : Txt K mg) (gu : mg "GREATEST_UNIT" = some (.int 65535 tg)) (N : ErrC K mg "NoValue" CV fN) (bN : Binds K fdN ["self", "path"] [])
    (c_iniN : FnOk P w K mg base CX0 1 fN fdN ["self", "path"] (spInitP K "path" CV)) (O : OwnC K C "units") (c_plains : Cal P w K mg base 1 "are_plain_numbers" spPlains) (c_are : Cal P w K mg base 3 "_are_numbers" spAre) : FnOk P w K mg base (L2.CX P w) 4 f fd ["self", "units"] (spIni C CV "units" goodW) := by
  refine F.okX sc_Wide___init__ (fun vs H Q E h => ?_) (fun cdv A outer st H vs Q E hr h => ?_)
  · obtain ⟨a, dx, v, c, rfl, _⟩ := h
    rfl
  · obtain ⟨a, dx, v, c, rfl, ha, ag, kg, kb⟩ := h
    have ag0 := ag
    cases ag with
    | @lst p xs h l its =>
      replace ag := ag0
      refine ⟨_, (pss_cons (ps_if (PW.pt (pw_or (pt_not (pt_val (pe_c c_are hr (by decide) (by rfl) (pa_cons (pv 1) (pa_cons (pe_glob (v := .int 65535) (by rfl) gu ⟨_, rfl⟩) pa_nil))))) (pw_or1 (pt_val (pe_c c_plains hr (by decide) (by rfl) (pa_cons (pv 1) pa_nil))))))
      (pss_one (ps_raise rfl (takes_of rfl rfl rfl rfl) (pmk_oex N.oex N.ini N.tI c_iniN (hr.mono (by decide)) bN .nil pass0 (by rfl) N.mgC (pa_cons (pe_tup pa_nil) pa_nil))))
      pss_nil)
      (pss_one (ps_fld (pv 0) (pe_callTy call_tuple_of (by rfl) T.z_tuple (by decide +kernel) (pa_cons (pv 1) pa_nil)) rfl))), ?_⟩
      refine use_seq ?_
      refine ⟨_, rfl, _, _, _, rfl, ag, fun H1 s1 => ⟨_, rfl, ?_⟩⟩
      cases ha2 : areB 65535 (.seq xs) with
      | false =>
        have hg : goodW (.seq xs) = false := by
          have z : xs.all (numB 65535) = false := ha2
          show (xs.all (numB 65535) && _) = false
          rw [z, Bool.false_and]
        refine ifT rfl ?_
        refine ⟨sz (by simp), fun p2 np => ⟨(by show 1 ≤ 1000; decide), raiseP upd_same fun H' d q kp e1 e2 => ?_⟩⟩
        exact kb hg H' d q ((s1.trans (same_new np)).trans kp) e1 e2
      | true =>
        refine ifF rfl ?_
        obtain ⟨ns, rfl⟩ := ints_list (plain_ints (hi := 65535) ha2)
        refine ⟨_, rfl, p, ns, rfl, by simpa using l, .inl (s1 _ _ h), fun H2 s3 => ⟨_, rfl, ?_⟩⟩
        have s2 := s1.trans s3
        have gd : goodW (.seq (ns.map V.int)) = !((ns.map V.int).all plB) := by
          show ((ns.map V.int).all (numB 65535) && _) = _
          rw [show (ns.map V.int).all (numB 65535) = true from ha2, Bool.true_and]
        cases d : (ns.map V.int).all plB with
        | true =>
          have hg : goodW (.seq (ns.map V.int)) = false := by rw [gd, d]; rfl
          refine ifT rfl ?_
          refine ⟨sz (by simp), fun p2 np => ⟨(by show 1 ≤ 1000; decide), raiseP upd_same fun H' d q kp e1 e2 => ?_⟩⟩
          exact kb hg H' d q ((s2.trans (same_new np)).trans kp) e1 e2
        | false =>
          have hg : goodW (.seq (ns.map V.int)) = true := by rw [gd, d]; rfl
          refine ifF rfl ?_
          dsimp only
          refine ⟨_, rfl, ?_⟩
          exact fin_seq rfl O ha ag s2 (kg hg)
    | @tup p xs h l its =>
      replace ag := ag0
      refine ⟨_, (pss_cons (ps_if (PW.pt (pw_or (pt_not (pt_val (pe_c c_are hr (by decide) (by rfl) (pa_cons (pv 1) (pa_cons (pe_glob (v := .int 65535) (by rfl) gu ⟨_, rfl⟩) pa_nil))))) (pw_or1 (pt_val (pe_c c_plains hr (by decide) (by rfl) (pa_cons (pv 1) pa_nil))))))
      (pss_one (ps_raise rfl (takes_of rfl rfl rfl rfl) (pmk_oex N.oex N.ini N.tI c_iniN (hr.mono (by decide)) bN .nil pass0 (by rfl) N.mgC (pa_cons (pe_tup pa_nil) pa_nil))))
      pss_nil)
      (pss_one (ps_fld (pv 0) (pe_callTy call_tuple_of (by rfl) T.z_tuple (by decide +kernel) (pa_cons (pv 1) pa_nil)) rfl))), ?_⟩
      refine use_seq ?_
      refine ⟨_, rfl, _, _, _, rfl, ag, fun H1 s1 => ⟨_, rfl, ?_⟩⟩
      cases ha2 : areB 65535 (.seq xs) with
      | false =>
        have hg : goodW (.seq xs) = false := by
          have z : xs.all (numB 65535) = false := ha2
          show (xs.all (numB 65535) && _) = false
          rw [z, Bool.false_and]
        refine ifT rfl ?_
        refine ⟨sz (by simp), fun p2 np => ⟨(by show 1 ≤ 1000; decide), raiseP upd_same fun H' d q kp e1 e2 => ?_⟩⟩
        exact kb hg H' d q ((s1.trans (same_new np)).trans kp) e1 e2
      | true =>
        refine ifF rfl ?_
        obtain ⟨ns, rfl⟩ := ints_list (plain_ints (hi := 65535) ha2)
        refine ⟨_, rfl, p, ns, rfl, by simpa using l, .inr (s1 _ _ h), fun H2 s3 => ⟨_, rfl, ?_⟩⟩
        have s2 := s1.trans s3
        have gd : goodW (.seq (ns.map V.int)) = !((ns.map V.int).all plB) := by
          show ((ns.map V.int).all (numB 65535) && _) = _
          rw [show (ns.map V.int).all (numB 65535) = true from ha2, Bool.true_and]
        cases d : (ns.map V.int).all plB with
        | true =>
          have hg : goodW (.seq (ns.map V.int)) = false := by rw [gd, d]; rfl
          refine ifT rfl ?_
          refine ⟨sz (by simp), fun p2 np => ⟨(by show 1 ≤ 1000; decide), raiseP upd_same fun H' d q kp e1 e2 => ?_⟩⟩
          exact kb hg H' d q ((s2.trans (same_new np)).trans kp) e1 e2
        | false =>
          have hg : goodW (.seq (ns.map V.int)) = true := by rw [gd, d]; rfl
          refine ifF rfl ?_
          dsimp only
          refine ⟨_, rfl, ?_⟩
          exact fin_seq rfl O ha ag s2 (kg hg)
    | num n =>
      replace ag := ag0
      refine ⟨_, (pss_cons (ps_if (PW.pt (pw_or (pt_not (pt_val (pe_c c_are hr (by decide) (by rfl) (pa_cons (pv 1) (pa_cons (pe_glob (v := .int 65535) (by rfl) gu ⟨_, rfl⟩) pa_nil))))) (pw_or1 (pt_val (pe_c c_plains hr (by decide) (by rfl) (pa_cons (pv 1) pa_nil))))))
      (pss_one (ps_raise rfl (takes_of rfl rfl rfl rfl) (pmk_oex N.oex N.ini N.tI c_iniN (hr.mono (by decide)) bN .nil pass0 (by rfl) N.mgC (pa_cons (pe_tup pa_nil) pa_nil))))
      pss_nil)
      (pss_one (ps_fld (pv 0) (pe_callTy call_tuple_of (by rfl) T.z_tuple (by decide +kernel) (pa_cons (pv 1) pa_nil)) rfl))), ?_⟩
      refine use_seq ?_
      refine ⟨_, rfl, _, _, _, rfl, ag, fun H1 s1 => ⟨_, rfl, ?_⟩⟩
      refine ifT rfl ?_
      have hg : goodW (.num n) = false := rfl
      refine ⟨sz (by simp), fun p2 np => ⟨(by show 1 ≤ 1000; decide), raiseP upd_same fun H' d q kp e1 e2 => ?_⟩⟩
      exact kb hg H' d q ((s1.trans (same_new np)).trans kp) e1 e2
    | els h m =>
      replace ag := ag0
      refine ⟨_, (pss_cons (ps_if (PW.pt (pw_or (pt_not (pt_val (pe_c c_are hr (by decide) (by rfl) (pa_cons (pv 1) (pa_cons (pe_glob (v := .int 65535) (by rfl) gu ⟨_, rfl⟩) pa_nil))))) (pw_or1 (pt_val (pe_c c_plains hr (by decide) (by rfl) (pa_cons (pv 1) pa_nil))))))
      (pss_one (ps_raise rfl (takes_of rfl rfl rfl rfl) (pmk_oex N.oex N.ini N.tI c_iniN (hr.mono (by decide)) bN .nil pass0 (by rfl) N.mgC (pa_cons (pe_tup pa_nil) pa_nil))))
      pss_nil)
      (pss_one (ps_fld (pv 0) (pe_callTy call_tuple_of (by rfl) T.z_tuple (by decide +kernel) (pa_cons (pv 1) pa_nil)) rfl))), ?_⟩
      refine use_seq ?_
      refine ⟨_, rfl, _, _, _, rfl, ag, fun H1 s1 => ⟨_, rfl, ?_⟩⟩
      refine ifT rfl ?_
      have hg : goodW .els = false := rfl
      refine ⟨sz (by simp), fun p2 np => ⟨(by show 1 ≤ 1000; decide), raiseP upd_same fun H' d q kp e1 e2 => ?_⟩⟩
      exact kb hg H' d q ((s1.trans (same_new np)).trans kp) e1 e2
end
end Q01


/-! things, and when two are equal -/
namespace Q01
open PySem PySem.Spec PyProof.Rows L2 QT
/-- contents that are numbers alone -/
inductive Nm : Co → Prop
  | seq (ns : List Int) (l : ns.length ≤ 1000) : Nm (.seq (ns.map V.int))
  | num (n : Int) : Nm (.num n)
def dat : Co → PyData
  | .seq xs => .tuple (xs.map fun x => match x with | .int i => .int i | _ => .none)
  | .num n => .int n
  | .els => .none
def eqC (c d : Co) : Bool := PyData.eqv (dat c) (dat d)
theorem dat_seq (ns : List Int) : dat (.seq (ns.map V.int)) = .tuple (ns.map PyData.int) := by
  show PyData.tuple ((ns.map V.int).map _) = _
  rw [List.map_map]
  rfl
theorem dp_ints {K : PySem.W.Frag} {H : Hp} : ∀ ns : List Int, DpAll K H (ns.map V.int) (ns.map PyData.int)
  | [] => .nil
  | n :: r => .cons (.int n) (dp_ints r)
theorem lay_ints : ∀ ns : List Int, PyData.canLayAll0 (ns.map PyData.int) = true
  | [] => rfl
  | _ :: r => lay_ints r
theorem deep_ints : ∀ ns : List Int, PyData.depthAll (ns.map PyData.int) = 0
  | [] => rfl
  | n :: r => by
    show max 0 (PyData.depthAll (r.map PyData.int)) = 0
    rw [deep_ints r]
    rfl
theorem shaped_tup (ns : List Int) : SeqAt.shaped (.tuple (ns.map PyData.int)) = true := by
  show (PyData.canLayAll0 (ns.map PyData.int) && decide (PyData.depthAll (ns.map PyData.int) + 1 ≤ 64)) = true
  rw [lay_ints, deep_ints]
  rfl
theorem Nm.shaped {c : Co} (h : Nm c) : SeqAt.shaped (dat c) = true := by
  cases h with
  | seq ns l => rw [dat_seq]; exact shaped_tup ns
  | num n => rfl
theorem Nm.refl {c : Co} (h : Nm c) : eqC c c = true := SeqAt.eqv_refl (dat c) (by
  have z := h.shaped
  exact (Bool.and_eq_true_iff.mp z).1)
theorem FV.dp {K : PySem.W.Frag} {H : Hp} {v : V} {c : Co} (h : FV H v c) (n : Nm c) : Dp K H v (dat c) := by
  cases n with
  | seq ns l =>
    cases h with
    | seq h => rw [dat_seq]; exact .tup (SqT.of h) (dp_ints ns)
  | num n =>
    cases h
    exact .int n
theorem look1 {f : Str} {v : V} : List.lookup f [(f, v)] = some v := by
  rw [lookup_put, if_pos rfl]
/-- a thing of a class -/
def Thing (H : Hp) (x C : Addr) (fld : Str) (c : Co) : Prop := ∃ (dx : Addr) (fv : V), H x = some (.ins C dx [(fld, fv)]) ∧ FV H fv c
theorem Thing.kp {H H' : Hp} {x C : Addr} {fld : Str} {c : Co} (h : Thing H x C fld c) (e : Kp H H') : Thing H' x C fld c := by
  obtain ⟨dx, fv, a, b⟩ := h
  exact ⟨dx, fv, e _ _ (noI _ _ _) a, b.kp e⟩
/-- what is asked of a class whose things are told by their class -/
structure TypC (K : PySem.W.Frag) (C : Addr) : Prop where
  cl : Cls K C
  ha : PySem.W.findIn K (.ref C) "__class__" = some (some (.builtin "object.__class__"))
  hn : PySem.W.specialIn K (.builtin "object.__class__") "__get__" = some (some (.builtin "getset_descriptor.__get__"))
  htk : PySem.W.takesIn K (.builtin "object.__class__") = some true
  hm : PySem.W.mroIn K C (.type "object") = some true
theorem Thing.ty {K : PySem.W.Frag} {H : Hp} {x C : Addr} {fld : Str} {c : Co} (h : Thing H x C fld c) (t : TypC K C) : TyX K H (.ref x) (.ref C) := by
  obtain ⟨dx, fv, a, b⟩ := h
  exact .base (.ins a t.cl t.ha t.hn t.htk t.hm)
theorem kit_self {K : PySem.W.Frag} {C : Addr} : PySem.W.kitOne K (.ref C) (.ref C) = some true := by
  unfold PySem.W.kitOne
  rw [if_pos]
  simp
def spEq (K : PySem.W.Frag) (C : Addr) (fld : Str) : Sp := fun vs H Q _ => ∃ (a : Addr) (y : V) (c : Co), vs = [.ref a, y] ∧ Thing H a C fld c ∧ Nm c ∧
  ((∃ (b : Addr) (d : Co), y = .ref b ∧ Thing H b C fld d ∧ Nm d ∧ Q (.bl (eqC c d)) H) ∨ (∃ t, TyX K H y t ∧ PySem.W.kitOne K t (.ref C) = some false ∧ Q (.bl false) H))
/-- side conditions; and the plain steps of a reading -/
local macro_rules | `(tactic| walk_at "sd") => `(tactic| first
  | assumption | decide | omega | exact b64 b01 | (show (0 : Int) < _; first | decide | omega) | exact ⟨by decide, by decide, by decide⟩ | exact ⟨by decide, by decide⟩ | exact ⟨by omega, by omega⟩
  | exact .inl ⟨by omega, by omega⟩ | exact .inr ⟨by omega, by omega⟩ | exact sz (by simp) | exact szl (by simp))
local macro_rules | `(tactic| walk_at "rd") => `(tactic| repeat (first
  | refine ⟨_, rfl, ?_⟩
  | refine ⟨_, _, rfl, rfl, ?_⟩
  | refine ⟨_, _, _, _, rfl, rfl, SqL.of (by first | assumption | exact upd_same), rfl, ?_⟩
  | refine .inl ⟨_, rfl, ?_⟩
  | refine .inr ⟨_, rfl, ?_⟩
  | refine ⟨_, _, _, _, rfl, rfl, (by first | assumption | exact upd_same), rfl, ?_⟩
  | refine And.intro (by walk_at "sd") ?_))
section
variable {P : Program} {w : World} {K : PySem.W.Frag} {mg : Str → Option Value} {base : Heap} {f : Addr} {fd : FuncData}
abbrev s_Wide___eq__ : Stmt := inClass (top 14) 1
theorem sc_Wide___eq__ : FnScope ["self", "other"] ["self", "other"] (defScope s_Wide___eq__) := ⟨rfl, rfl, rfl, by decide +kernel, rfl, by decide +kernel, by decide +kernel⟩
theorem ok_eqW {C : Addr} (F : Fun K "__eq__" "Wide.__eq__" s_Wide___eq__ f fd) (T : Txt K mg) (mC : mg "Wide" = some (.ref C)) (O : OwnC K C "units") (Y : TypC K C) : FnOk P w K mg base CX0 1 f fd ["self", "other"] (spEq K C "units") := by
  refine F.ok sc_Wide___eq__ (fun vs H Q E h => ?_) (fun cdv A outer st H vs Q E hr h => ?_)
  · obtain ⟨a, y, c, rfl, _⟩ := h
    rfl
  · obtain ⟨a, y, c, rfl, th, nc, h⟩ := h
    refine ⟨_, (pss_one (ps_ret (pe_and (pe_callB call_isi (by rfl) T.z_isinstance (by decide +kernel) (pa_cons (pv 1) (pa_cons (pe_glob (v := .ref C) (by rfl) mC rfl) pa_nil))) (pe_one (pe_cmpR (op_eqD hr.units) (pe_fld (pv 0) rfl) (pe_fld (pv 1) rfl) (nomark _)))))), ?_⟩
    rcases h with ⟨b, d, rfl, tb, nd, k⟩ | ⟨t, ty, no, k⟩
    · obtain ⟨dx, fv, ha, hv⟩ := id th
      obtain ⟨dx2, fv2, hb, hv2⟩ := id tb
      refine ⟨_, rfl, _, _, _, _, true, rfl, .own C, tb.ty Y, kit_self, true, rfl, ifT rfl ?_⟩
      refine ⟨_, rfl, a, C, dx, _, fv, rfl, ha, O.cl, O.no, look1, ?_⟩
      refine ⟨_, rfl, b, C, dx2, _, fv2, rfl, hb, O.cl, O.no, look1, ?_⟩
      exact ⟨dat c, dat d, hv.dp nc, hv2.dp nd, nc.shaped, nd.shaped, k⟩
    · exact ⟨_, rfl, _, _, _, _, false, rfl, .own C, ty, no, false, rfl, ifF rfl k⟩
abbrev s_Data___eq__ : Stmt := inClass (top 15) 1
theorem sc_Data___eq__ : FnScope ["self", "other"] ["self", "other"] (defScope s_Data___eq__) := ⟨rfl, rfl, rfl, by decide +kernel, rfl, by decide +kernel, by decide +kernel⟩
theorem ok_eqD {C : Addr} (F : Fun K "__eq__" "Data.__eq__" s_Data___eq__ f fd) (T : Txt K mg) (mC : mg "Data" = some (.ref C)) (O : OwnC K C "octets") (Y : TypC K C) : FnOk P w K mg base CX0 1 f fd ["self", "other"] (spEq K C "octets") := by
  refine F.ok sc_Data___eq__ (fun vs H Q E h => ?_) (fun cdv A outer st H vs Q E hr h => ?_)
  · obtain ⟨a, y, c, rfl, _⟩ := h
    rfl
  · obtain ⟨a, y, c, rfl, th, nc, h⟩ := h
    refine ⟨_, (pss_one (ps_ret (pe_and (pe_callB call_isi (by rfl) T.z_isinstance (by decide +kernel) (pa_cons (pv 1) (pa_cons (pe_glob (v := .ref C) (by rfl) mC rfl) pa_nil))) (pe_one (pe_cmpR (op_eqD hr.units) (pe_fld (pv 0) rfl) (pe_fld (pv 1) rfl) (nomark _)))))), ?_⟩
    rcases h with ⟨b, d, rfl, tb, nd, k⟩ | ⟨t, ty, no, k⟩
    · obtain ⟨dx, fv, ha, hv⟩ := id th
      obtain ⟨dx2, fv2, hb, hv2⟩ := id tb
      refine ⟨_, rfl, _, _, _, _, true, rfl, .own C, tb.ty Y, kit_self, true, rfl, ifT rfl ?_⟩
      refine ⟨_, rfl, a, C, dx, _, fv, rfl, ha, O.cl, O.no, look1, ?_⟩
      refine ⟨_, rfl, b, C, dx2, _, fv2, rfl, hb, O.cl, O.no, look1, ?_⟩
      exact ⟨dat c, dat d, hv.dp nc, hv2.dp nd, nc.shaped, nd.shaped, k⟩
    · exact ⟨_, rfl, _, _, _, _, false, rfl, .own C, ty, no, false, rfl, ifF rfl k⟩
abbrev s_Uid___eq__ : Stmt := inClass (top 16) 1
theorem sc_Uid___eq__ : FnScope ["self", "other"] ["self", "other"] (defScope s_Uid___eq__) := ⟨rfl, rfl, rfl, by decide +kernel, rfl, by decide +kernel, by decide +kernel⟩
theorem ok_eqU {C : Addr} (F : Fun K "__eq__" "Uid.__eq__" s_Uid___eq__ f fd) (T : Txt K mg) (mC : mg "Uid" = some (.ref C)) (O : OwnC K C "number") (Y : TypC K C) : FnOk P w K mg base CX0 1 f fd ["self", "other"] (spEq K C "number") := by
  refine F.ok sc_Uid___eq__ (fun vs H Q E h => ?_) (fun cdv A outer st H vs Q E hr h => ?_)
  · obtain ⟨a, y, c, rfl, _⟩ := h
    rfl
  · obtain ⟨a, y, c, rfl, th, nc, h⟩ := h
    refine ⟨_, (pss_one (ps_ret (pe_and (pe_callB call_isi (by rfl) T.z_isinstance (by decide +kernel) (pa_cons (pv 1) (pa_cons (pe_glob (v := .ref C) (by rfl) mC rfl) pa_nil))) (pe_one (pe_cmpR (op_eqD hr.units) (pe_fld (pv 0) rfl) (pe_fld (pv 1) rfl) (nomark _)))))), ?_⟩
    rcases h with ⟨b, d, rfl, tb, nd, k⟩ | ⟨t, ty, no, k⟩
    · obtain ⟨dx, fv, ha, hv⟩ := id th
      obtain ⟨dx2, fv2, hb, hv2⟩ := id tb
      refine ⟨_, rfl, _, _, _, _, true, rfl, .own C, tb.ty Y, kit_self, true, rfl, ifT rfl ?_⟩
      refine ⟨_, rfl, a, C, dx, _, fv, rfl, ha, O.cl, O.no, look1, ?_⟩
      refine ⟨_, rfl, b, C, dx2, _, fv2, rfl, hb, O.cl, O.no, look1, ?_⟩
      exact ⟨dat c, dat d, hv.dp nc, hv2.dp nd, nc.shaped, nd.shaped, k⟩
    · exact ⟨_, rfl, _, _, _, _, false, rfl, .own C, ty, no, false, rfl, ifF rfl k⟩
abbrev s_Real___eq__ : Stmt := inClass (top 17) 1
theorem sc_Real___eq__ : FnScope ["self", "other"] ["self", "other"] (defScope s_Real___eq__) := ⟨rfl, rfl, rfl, by decide +kernel, rfl, by decide +kernel, by decide +kernel⟩
theorem ok_eqR {C : Addr} (F : Fun K "__eq__" "Real.__eq__" s_Real___eq__ f fd) (T : Txt K mg) (mC : mg "Real" = some (.ref C)) (O : OwnC K C "octets") (Y : TypC K C) : FnOk P w K mg base CX0 1 f fd ["self", "other"] (spEq K C "octets") := by
  refine F.ok sc_Real___eq__ (fun vs H Q E h => ?_) (fun cdv A outer st H vs Q E hr h => ?_)
  · obtain ⟨a, y, c, rfl, _⟩ := h
    rfl
  · obtain ⟨a, y, c, rfl, th, nc, h⟩ := h
    refine ⟨_, (pss_one (ps_ret (pe_and (pe_callB call_isi (by rfl) T.z_isinstance (by decide +kernel) (pa_cons (pv 1) (pa_cons (pe_glob (v := .ref C) (by rfl) mC rfl) pa_nil))) (pe_one (pe_cmpR (op_eqD hr.units) (pe_fld (pv 0) rfl) (pe_fld (pv 1) rfl) (nomark _)))))), ?_⟩
    rcases h with ⟨b, d, rfl, tb, nd, k⟩ | ⟨t, ty, no, k⟩
    · obtain ⟨dx, fv, ha, hv⟩ := id th
      obtain ⟨dx2, fv2, hb, hv2⟩ := id tb
      refine ⟨_, rfl, _, _, _, _, true, rfl, .own C, tb.ty Y, kit_self, true, rfl, ifT rfl ?_⟩
      refine ⟨_, rfl, a, C, dx, _, fv, rfl, ha, O.cl, O.no, look1, ?_⟩
      refine ⟨_, rfl, b, C, dx2, _, fv2, rfl, hb, O.cl, O.no, look1, ?_⟩
      exact ⟨dat c, dat d, hv.dp nc, hv2.dp nd, nc.shaped, nd.shaped, k⟩
    · exact ⟨_, rfl, _, _, _, _, false, rfl, .own C, ty, no, false, rfl, ifF rfl k⟩
abbrev s_Date___eq__ : Stmt := inClass (top 18) 1
theorem sc_Date___eq__ : FnScope ["self", "other"] ["self", "other"] (defScope s_Date___eq__) := ⟨rfl, rfl, rfl, by decide +kernel, rfl, by decide +kernel, by decide +kernel⟩
theorem ok_eqT {C : Addr} (F : Fun K "__eq__" "Date.__eq__" s_Date___eq__ f fd) (T : Txt K mg) (mC : mg "Date" = some (.ref C)) (O : OwnC K C "octets") (Y : TypC K C) : FnOk P w K mg base CX0 1 f fd ["self", "other"] (spEq K C "octets") := by
  refine F.ok sc_Date___eq__ (fun vs H Q E h => ?_) (fun cdv A outer st H vs Q E hr h => ?_)
  · obtain ⟨a, y, c, rfl, _⟩ := h
    rfl
  · obtain ⟨a, y, c, rfl, th, nc, h⟩ := h
    refine ⟨_, (pss_one (ps_ret (pe_and (pe_callB call_isi (by rfl) T.z_isinstance (by decide +kernel) (pa_cons (pv 1) (pa_cons (pe_glob (v := .ref C) (by rfl) mC rfl) pa_nil))) (pe_one (pe_cmpR (op_eqD hr.units) (pe_fld (pv 0) rfl) (pe_fld (pv 1) rfl) (nomark _)))))), ?_⟩
    rcases h with ⟨b, d, rfl, tb, nd, k⟩ | ⟨t, ty, no, k⟩
    · obtain ⟨dx, fv, ha, hv⟩ := id th
      obtain ⟨dx2, fv2, hb, hv2⟩ := id tb
      refine ⟨_, rfl, _, _, _, _, true, rfl, .own C, tb.ty Y, kit_self, true, rfl, ifT rfl ?_⟩
      refine ⟨_, rfl, a, C, dx, _, fv, rfl, ha, O.cl, O.no, look1, ?_⟩
      refine ⟨_, rfl, b, C, dx2, _, fv2, rfl, hb, O.cl, O.no, look1, ?_⟩
      exact ⟨dat c, dat d, hv.dp nc, hv2.dp nd, nc.shaped, nd.shaped, k⟩
    · exact ⟨_, rfl, _, _, _, _, false, rfl, .own C, ty, no, false, rfl, ifF rfl k⟩
end
end Q01


/-! lambdas that make things: _law_made -/
namespace Q01
open PySem PySem.Spec PyProof.Rows L2 QT LamX
/-- a def whose code object is known -/
structure FunC (K : PySem.W.Frag) (x qual : Str) (st : Stmt) (f : Addr) (fd : FuncData) (co : Addr) : Prop where
  ex : ∃ (oc : Value) (od : Option Addr) (kV doc pm : Value) (an : Option Addr) (ct : Value) (osl : Array (Option Value)),
    fd = PySem.W.fnOf x qual (defArgs st) (defBody st) (defScope st) .none kV doc pm an (.ref co) ct ∧ K.lookup f = some ⟨oc, od, .func fd, osl⟩ ∧ PySem.W.codeIn K (.ref co) qual = true
theorem FunC.okX {P : Program} {w : World} {K : PySem.W.Frag} {mg : Str → Option Value} {base : Heap} {x qual : Str} {st : Stmt} {f co : Addr} {fd : FuncData} {N ps : List Str} {k : Nat} {sp : Sp} (F : FunC K x qual st f fd co) (S : FnScope N ps (defScope st)) (len : ∀ vs H Q E, sp vs H Q E → vs.length = ps.length)
    (body : ∀ (A : Around) (outer : List Env) (s : Shared) (H : Hp) (vs : List V) (Q : VK) (E : XK), Room k (A.deeper (envOfC qual (defScope st) s.heap.objs.size f (.ref co))) → sp vs H Q E →
      ∃ t, PSs (cxOf (L2.CX P w) P w K mg base N qual (defScope st) f (.ref co) A outer s H E) (defBody st) t ∧ t { nx := fun _ H' => Q .non H', rt := Q } (start N vs) H) : FnOk P w K mg base (L2.CX P w) (k + 1) f fd ps sp := by
  obtain ⟨oc, od, kV, doc, pm, an, ct, osl, rfl, at_, code⟩ := F.ex
  exact fn_of at_ code S len fun A outer s H vs Q E hr h => body A outer s H vs Q E hr h
/-- one of the five classes, by what its making does -/
structure ClsI (P : Program) (w : World) (K : PySem.W.Frag) (mg : Str → Option Value) (base : Heap) (x fld : Str) (C CV : Addr) (good : Co → Bool) : Prop where
  mgC : mg x = some (.ref C)
  ini : ∃ (fI : Addr) (fd : FuncData), Mk K C fI ∧ FnOk P w K mg base (L2.CX P w) 4 fI fd ["self", fld] (spIni C CV fld good) ∧ Binds K fd ["self", fld] [] ∧ KBn K fd ["self", fld] 1 [fld] (fun us ws => us ++ ws) (fun vs zs => vs ++ zs)
  own : OwnC K C fld
  typ : TypC K C
/-- what making a thing asks -/
theorem mk_imp {C CV : Addr} {fld : Str} {good : Co → Bool} {v : V} {c : Co} {H : Hp} {Q : VK} {E : XK} (ag : Ag H v c) (k1 : good c = true → ∀ (H' : Hp) (x : Addr), Same H H' → H x = none → Thing H' x C fld c → Q (.ref x) H') (k2 : good c = false → outV CV H E) :
    ∀ x dx, H x = none → H dx = none → dx ≠ x → spIni C CV fld good [.ref x, v] (upd (upd H dx (.own x)) x (.ins C dx [])) (fun v H2 => v = .non ∧ Q (.ref x) H2) E := fun x dx nx nd ne => by
  have S : Same H (upd (upd H dx (.own x)) x (.ins C dx [])) := fun b o e => by
    rw [upd_ne (ne_of_none e nx), upd_ne (ne_of_none e nd)]
    exact e
  refine ⟨x, dx, v, c, rfl, upd_same, ag.same S, fun g H' fv kp hx hfv => ⟨rfl, k1 g H' x (fun b o e => kp b o (ne_of_none e nx) (S b o e)) nx ⟨dx, fv, hx, hfv⟩⟩, fun b H' d p s e1 e2 => k2 b H' d p (S.trans s) e1 e2⟩
/-- .. of the value in slot 1, what a lambda asks -/
def tbT (C CV : Addr) (fld : Str) (good : Co → Bool) (E : XK) : TE := fun σ H Q => ∃ (v : V) (c : Co), σ[1]? = some (some v) ∧ Ag H v c ∧ (good c = true → ∀ (H' : Hp) (x : Addr), Same H H' → H x = none → Thing H' x C fld c → Q (.ref x) H') ∧ (good c = false → outV CV H E)
def flE : Fin 5 → Str
  | ⟨0, _⟩ => "units"
  | ⟨1, _⟩ => "octets"
  | ⟨2, _⟩ => "number"
  | ⟨3, _⟩ => "octets"
  | ⟨4, _⟩ => "octets"
def nmE : Fin 5 → Str
  | ⟨0, _⟩ => "Wide"
  | ⟨1, _⟩ => "Data"
  | ⟨2, _⟩ => "Uid"
  | ⟨3, _⟩ => "Real"
  | ⟨4, _⟩ => "Date"
def gdE : Fin 5 → Co → Bool
  | ⟨0, _⟩ => goodW
  | ⟨1, _⟩ => goodD
  | ⟨2, _⟩ => goodU
  | ⟨3, _⟩ => goodR
  | ⟨4, _⟩ => goodT
/-- the table of the lambdas -/
def tabM (PM : Addr) : List (Addr × Str) := [(PM, (envOfC "_law_made" (defScope (top 25)) 0 0 .none).qual ++ "<lambda>")]
theorem tabs_lst {T : List (Addr × Str)} {H : Hp} {L : Addr} {xs ys : List V} (t : Tabs T H) (h : H L = some (.lst xs)) : Tabs T (upd H L (.lst ys)) := fun p hp => by
  obtain ⟨ps, h1, h2, h3⟩ := t p hp
  refine ⟨ps, by rw [upd_ne (ne_of h1 h (by intro z; cases z))]; exact h1, h2, fun pos cv hc => ?_⟩
  obtain ⟨c, e1, e2⟩ := h3 pos cv hc
  exact ⟨c, e1, by rw [upd_ne (ne_of e2 h (by unfold CodeO; intro z; cases z))]; exact e2⟩
theorem tabs_same {T : List (Addr × Str)} {H H' : Hp} (t : Tabs T H) (s : Same H H') : Tabs T H' := t.ext s
/-- nothing but a table stands at x -/
def Fr (H : Hp) (x : Addr) : Prop := ∀ o, NoT o → H x ≠ some o
theorem Fr.of {H H' : Hp} {x : Addr} (k : Kp H H') (n : H' x = none) : Fr H x := fun o z e => by
  rw [k x o z e] at n
  cases n
theorem Fr.ne {H : Hp} {x b : Addr} {o : HO} (h : Fr H x) (e : H b = some o) (z : NoT o) : b ≠ x := fun y => h o z (y ▸ e)
theorem use_next {D : Ends} {σ : L2.St} {H : Hp} (h : D.nx σ H) : tNext D σ H := h
/-- NoValue, the tables told -/
def outT (T : List (Addr × Str)) (CV : Addr) (H : Hp) (E : XK) : Prop := ∀ (H' : Hp) (d p : Addr), Kp H H' → Tabs T H' → H' d = some (.xd [("path", .ref p)]) → H' p = some (.tup []) → E (.ref CV) (some d) H'
def spMade (T : List (Addr × Str)) (cs : Fin 5 → Addr) (CV : Addr) : Sp := fun vs H Q E => ∃ (i : Fin 5) (v : V) (c : Co) (b : Bool), vs = [.int (i.val : Int), v, .bl b] ∧ Tabs T H ∧ Ag H v c ∧
  (gdE i c = true → ∀ (H' : Hp) (x : Addr), Kp H H' → Tabs T H' → Fr H x → Thing H' x (cs i) (flE i) c → Q (.ref x) H') ∧ (gdE i c = false → outT T CV H E)
/-- the list of lambdas so far -/
structure Ls (T : List (Addr × Str)) (H0 H : Hp) (L : Addr) (fs : List V) : Prop where
  kp : Kp H0 H
  tb : Tabs T H
  at_ : H L = some (.lst fs)
  nl : Fr H0 L
theorem kp_lst {H0 H : Hp} {L : Addr} {ys : List V} (k : Kp H0 H) (n : Fr H0 L) : Kp H0 (upd H L (.lst ys)) := fun b o z e => by
  rw [upd_ne (n.ne e z)]
  exact k b o z e
theorem Ls.grow {T : List (Addr × Str)} {H0 H H1 : Hp} {L : Addr} {fs ys : List V} (h : Ls T H0 H L fs) (x : ExtN H H1) (t : Tabs T H1) : Ls T H0 (upd H1 L (.lst ys)) L ys :=
  have e := x _ _ h.at_ (noL _)
  ⟨kp_lst (h.kp.trans (.ofN x)) h.nl, tabs_lst t e, upd_same, h.nl⟩
theorem lam_put {H1 : Hp} {L f : Addr} {q : Str} {params : Arguments} {body : Expr} {scope : Scope} {cl : List (Str × Addr)} {xs ys : List V} (h : LamAt H1 f q params body scope cl) (e : H1 L = some (.lst xs)) : LamAt (upd H1 L (.lst ys)) f q params body scope cl :=
  h.keep fun b o n1 n2 z => by
    rw [upd_ne (ne_of z e (n2 xs))]
    exact z
/-- side conditions; and the plain steps of a reading -/
local macro_rules | `(tactic| walk_at "sd") => `(tactic| first
  | assumption | decide | omega | exact b64 b01 | (show (0 : Int) < _; first | decide | omega) | exact ⟨by decide, by decide, by decide⟩ | exact ⟨by decide, by decide⟩ | exact ⟨by omega, by omega⟩
  | exact .inl ⟨by omega, by omega⟩ | exact .inr ⟨by omega, by omega⟩ | exact sz (by simp) | exact szl (by simp))
local macro_rules | `(tactic| walk_at "rd") => `(tactic| repeat (first
  | refine ⟨_, rfl, ?_⟩
  | refine ⟨_, _, rfl, rfl, ?_⟩
  | refine ⟨_, _, _, _, rfl, rfl, SqL.of (by first | assumption | exact upd_same), rfl, ?_⟩
  | refine .inl ⟨_, rfl, ?_⟩
  | refine .inr ⟨_, rfl, ?_⟩
  | refine ⟨_, _, _, _, rfl, rfl, (by first | assumption | exact upd_same), rfl, ?_⟩
  | refine And.intro (by walk_at "sd") ?_))
section
variable {P : Program} {w : World} {K : PySem.W.Frag} {mg : Str → Option Value} {base : Heap} {f : Addr} {fd : FuncData}
abbrev s__law_made : Stmt := top 25
theorem sc__law_made : FnScope ["_law_way", "_law_some", "_law_is_named", "_law_made_here"] ["_law_way", "_law_some", "_law_is_named"] (defScope s__law_made) := ⟨rfl, rfl, rfl, by decide +kernel, rfl, by decide +kernel, by decide +kernel⟩
theorem ok_made {co PM CV : Addr} {cs : Fin 5 → Addr} (F : FunC K "_law_made" "_law_made" s__law_made f fd co) (TB : TabB base mg co PM) (al : ∀ i, ClsI P w K mg base (nmE i) (flE i) (cs i) CV (gdE i)) :
    FnOk P w K mg base (L2.CX P w) 7 f fd ["_law_way", "_law_some", "_law_is_named"] (spMade (tabM PM) cs CV) := by
  refine F.okX sc__law_made (fun vs H Q E h => ?_) (fun A outer st H vs Q E hr h => ?_)
  · obtain ⟨i, v, c, b, rfl, _⟩ := h
    rfl
  · obtain ⟨i, v, c, b, rfl, tb, ag, k1, k2⟩ := h
    have z0 : ClsI P w K mg base "Wide" "units" (cs ⟨0, by decide⟩) CV goodW := al ⟨0, by decide⟩
    have z1 : ClsI P w K mg base "Data" "octets" (cs ⟨1, by decide⟩) CV goodD := al ⟨1, by decide⟩
    have z2 : ClsI P w K mg base "Uid" "number" (cs ⟨2, by decide⟩) CV goodU := al ⟨2, by decide⟩
    have z3 : ClsI P w K mg base "Real" "octets" (cs ⟨3, by decide⟩) CV goodR := al ⟨3, by decide⟩
    have z4 : ClsI P w K mg base "Date" "octets" (cs ⟨4, by decide⟩) CV goodT := al ⟨4, by decide⟩
    refine ⟨_, pss_cons (ps_if (pt_val (pv 2)) (pss_cons (ps_set (i := 3) sc__law_made.nd rfl (Or.inl rfl) (pe_lst (pa_cons (pe_lamV TB rfl (List.mem_singleton.mpr rfl) (fun p hp _ => by rw [List.mem_singleton.mp hp]) (lamS_by (sc := defScope s__law_made) (by decide +kernel))) pa_nil)))
      (pss_cons (ps_expr (pe_bm PySem.F.plainAttrs_list PySem.F.slot_list_append PySem.F.type_list_append mt_append (pv 3) (pa_cons (pe_lamV TB rfl (List.mem_singleton.mpr rfl) (fun p hp _ => by rw [List.mem_singleton.mp hp]) (lamS_by (sc := defScope s__law_made) (by decide +kernel))) pa_nil)))
      (pss_cons (ps_expr (pe_bm PySem.F.plainAttrs_list PySem.F.slot_list_append PySem.F.type_list_append mt_append (pv 3) (pa_cons (pe_lamV TB rfl (List.mem_singleton.mpr rfl) (fun p hp _ => by rw [List.mem_singleton.mp hp]) (lamS_by (sc := defScope s__law_made) (by decide +kernel))) pa_nil)))
      (pss_cons (ps_expr (pe_bm PySem.F.plainAttrs_list PySem.F.slot_list_append PySem.F.type_list_append mt_append (pv 3) (pa_cons (pe_lamV TB rfl (List.mem_singleton.mpr rfl) (fun p hp _ => by rw [List.mem_singleton.mp hp]) (lamS_by (sc := defScope s__law_made) (by decide +kernel))) pa_nil)))
      (pss_cons (ps_expr (pe_bm PySem.F.plainAttrs_list PySem.F.slot_list_append PySem.F.type_list_append mt_append (pv 3) (pa_cons (pe_lamV TB rfl (List.mem_singleton.mpr rfl) (fun p hp _ => by rw [List.mem_singleton.mp hp]) (lamS_by (sc := defScope s__law_made) (by decide +kernel))) pa_nil)))
      (pss_one (ps_ret (pe_callL (k := 5) (pe_ix ix_list (pv 3) (pv 0) (fun _ _ => rfl)) (takes_of rfl rfl rfl rfl) (fun _ _ _ _ h => h) hr)))))))) pss_nil) (pss_cons (ps_set (i := 3) sc__law_made.nd rfl (Or.inl rfl) (pe_lst (pa_cons (pe_lamV TB rfl (List.mem_singleton.mpr rfl) (fun p hp _ => by rw [List.mem_singleton.mp hp]) (lamS_by (sc := defScope s__law_made) (by decide +kernel))) pa_nil)))
      (pss_cons (ps_expr (pe_bm PySem.F.plainAttrs_list PySem.F.slot_list_append PySem.F.type_list_append mt_append (pv 3) (pa_cons (pe_lamV TB rfl (List.mem_singleton.mpr rfl) (fun p hp _ => by rw [List.mem_singleton.mp hp]) (lamS_by (sc := defScope s__law_made) (by decide +kernel))) pa_nil)))
      (pss_cons (ps_expr (pe_bm PySem.F.plainAttrs_list PySem.F.slot_list_append PySem.F.type_list_append mt_append (pv 3) (pa_cons (pe_lamV TB rfl (List.mem_singleton.mpr rfl) (fun p hp _ => by rw [List.mem_singleton.mp hp]) (lamS_by (sc := defScope s__law_made) (by decide +kernel))) pa_nil)))
      (pss_cons (ps_expr (pe_bm PySem.F.plainAttrs_list PySem.F.slot_list_append PySem.F.type_list_append mt_append (pv 3) (pa_cons (pe_lamV TB rfl (List.mem_singleton.mpr rfl) (fun p hp _ => by rw [List.mem_singleton.mp hp]) (lamS_by (sc := defScope s__law_made) (by decide +kernel))) pa_nil)))
      (pss_cons (ps_expr (pe_bm PySem.F.plainAttrs_list PySem.F.slot_list_append PySem.F.type_list_append mt_append (pv 3) (pa_cons (pe_lamV TB rfl (List.mem_singleton.mpr rfl) (fun p hp _ => by rw [List.mem_singleton.mp hp]) (lamS_by (sc := defScope s__law_made) (by decide +kernel))) pa_nil)))
      (pss_one (ps_ret (pe_callL (k := 5) (pe_ix ix_list (pv 3) (pv 0) (fun _ _ => rfl)) (takes_of rfl rfl rfl rfl) (fun _ _ _ _ h => h) hr)))))))), ?_⟩
    refine use_seq (use_if ?_)
    refine ⟨_, rfl, b, rfl, ?_⟩
    cases b with
    | true =>
      refine ifT rfl ?_
      try dsimp only
      refine use_seq (use_set (use_lst (use_cons ⟨tb, fun f0 H0 x0 t0 n0 l0 => use_nil ⟨sz (by simp), fun L nL => ?_⟩⟩)))
      have nl : Fr H L := Fr.of (.ofN x0) nL
      have s0 : Ls (tabM PM) H (upd H0 L (.lst [V.ref f0])) L [V.ref f0] := ⟨kp_lst (.ofN x0) nl, tabs_same t0 (same_new nL), upd_same, nl⟩
      have m0 := l0.extN (.of (same_new (o := .lst [V.ref f0]) nL))
      clear l0 n0
      try dsimp only
      refine use_seq (use_drop ?_)
      refine ⟨_, rfl, .inl ⟨rfl, _, SqL.of s0.at_⟩, s0.tb, fun f1 H1 x1 t1 n1 l1 => ?_⟩
      have e1 := x1 _ _ s0.at_ (noL _)
      refine ⟨L, _, _, rfl, rfl, e1, (by show 1 < sizeLine; decide), ?_⟩
      have s1 := s0.grow (ys := [V.ref f0, V.ref f1]) x1 t1
      replace m0 := lam_put (ys := [V.ref f0, V.ref f1]) (m0.extN x1) e1
      have m1 := lam_put (ys := [V.ref f0, V.ref f1]) l1 e1
      clear l1 n1 e1
      try dsimp only
      refine use_seq (use_drop ?_)
      refine ⟨_, rfl, .inl ⟨rfl, _, SqL.of s1.at_⟩, s1.tb, fun f2 H2 x2 t2 n2 l2 => ?_⟩
      have e2 := x2 _ _ s1.at_ (noL _)
      refine ⟨L, _, _, rfl, rfl, e2, (by show 2 < sizeLine; decide), ?_⟩
      have s2 := s1.grow (ys := [V.ref f0, V.ref f1, V.ref f2]) x2 t2
      replace m0 := lam_put (ys := [V.ref f0, V.ref f1, V.ref f2]) (m0.extN x2) e2
      replace m1 := lam_put (ys := [V.ref f0, V.ref f1, V.ref f2]) (m1.extN x2) e2
      have m2 := lam_put (ys := [V.ref f0, V.ref f1, V.ref f2]) l2 e2
      clear l2 n2 e2
      try dsimp only
      refine use_seq (use_drop ?_)
      refine ⟨_, rfl, .inl ⟨rfl, _, SqL.of s2.at_⟩, s2.tb, fun f3 H3 x3 t3 n3 l3 => ?_⟩
      have e3 := x3 _ _ s2.at_ (noL _)
      refine ⟨L, _, _, rfl, rfl, e3, (by show 3 < sizeLine; decide), ?_⟩
      have s3 := s2.grow (ys := [V.ref f0, V.ref f1, V.ref f2, V.ref f3]) x3 t3
      replace m0 := lam_put (ys := [V.ref f0, V.ref f1, V.ref f2, V.ref f3]) (m0.extN x3) e3
      replace m1 := lam_put (ys := [V.ref f0, V.ref f1, V.ref f2, V.ref f3]) (m1.extN x3) e3
      replace m2 := lam_put (ys := [V.ref f0, V.ref f1, V.ref f2, V.ref f3]) (m2.extN x3) e3
      have m3 := lam_put (ys := [V.ref f0, V.ref f1, V.ref f2, V.ref f3]) l3 e3
      clear l3 n3 e3
      try dsimp only
      refine use_seq (use_drop ?_)
      refine ⟨_, rfl, .inl ⟨rfl, _, SqL.of s3.at_⟩, s3.tb, fun f4 H4 x4 t4 n4 l4 => ?_⟩
      have e4 := x4 _ _ s3.at_ (noL _)
      refine ⟨L, _, _, rfl, rfl, e4, (by show 4 < sizeLine; decide), ?_⟩
      have s4 := s3.grow (ys := [V.ref f0, V.ref f1, V.ref f2, V.ref f3, V.ref f4]) x4 t4
      replace m0 := lam_put (ys := [V.ref f0, V.ref f1, V.ref f2, V.ref f3, V.ref f4]) (m0.extN x4) e4
      replace m1 := lam_put (ys := [V.ref f0, V.ref f1, V.ref f2, V.ref f3, V.ref f4]) (m1.extN x4) e4
      replace m2 := lam_put (ys := [V.ref f0, V.ref f1, V.ref f2, V.ref f3, V.ref f4]) (m2.extN x4) e4
      replace m3 := lam_put (ys := [V.ref f0, V.ref f1, V.ref f2, V.ref f3, V.ref f4]) (m3.extN x4) e4
      have m4 := lam_put (ys := [V.ref f0, V.ref f1, V.ref f2, V.ref f3, V.ref f4]) l4 e4
      clear l4 n4 e4
      try dsimp only
      refine use_ret ?_
      have ag2 := ag.kp s4.kp
      match i, k1, k2 with
      | ⟨0, _⟩, k1, k2 =>
        refine ⟨_, rfl, _, rfl, L, _, _, _, rfl, rfl, SqL.of s4.at_, rfl, f0, _, _, _, _, tbT (cs ⟨0, by decide⟩) CV "units" goodW E, rfl, m0, rfl, lamS_by (sc := defScope s__law_made) (by decide +kernel), fun _ _ _ _ => rfl, fun A2 o2 st2 H2 g c2 hr2 => ?_, v, c, rfl, ag2, fun g H2 x s2 nx th => ?_, fun g H2 d p s2 e1 e2 => ?_⟩
        · obtain ⟨fI, fdI, M, FI, b, kb⟩ := z0.ini
          exact pe_imp (pe_makeK0 M FI hr2 (by rfl) z0.mgC kb (passes_call (takes_of rfl rfl rfl rfl) (fun _ _ _ _ h => h)) (pk_cons (pv 1) pk_nil)) fun σ H Q ⟨v, c, hv, hag, h1, h2⟩ => ⟨v, hv, rfl, rfl, mk_imp hag h1 h2⟩
        · exact k1 g H2 x (s4.kp.trans (.of s2)) (tabs_same s4.tb s2) (Fr.of s4.kp nx) th
        · exact k2 g H2 d p (s4.kp.trans (.of s2)) (tabs_same s4.tb s2) e1 e2
      | ⟨1, _⟩, k1, k2 =>
        refine ⟨_, rfl, _, rfl, L, _, _, _, rfl, rfl, SqL.of s4.at_, rfl, f1, _, _, _, _, tbT (cs ⟨1, by decide⟩) CV "octets" goodD E, rfl, m1, rfl, lamS_by (sc := defScope s__law_made) (by decide +kernel), fun _ _ _ _ => rfl, fun A2 o2 st2 H2 g c2 hr2 => ?_, v, c, rfl, ag2, fun g H2 x s2 nx th => ?_, fun g H2 d p s2 e1 e2 => ?_⟩
        · obtain ⟨fI, fdI, M, FI, b, kb⟩ := z1.ini
          exact pe_imp (pe_makeK0 M FI hr2 (by rfl) z1.mgC kb (passes_call (takes_of rfl rfl rfl rfl) (fun _ _ _ _ h => h)) (pk_cons (pv 1) pk_nil)) fun σ H Q ⟨v, c, hv, hag, h1, h2⟩ => ⟨v, hv, rfl, rfl, mk_imp hag h1 h2⟩
        · exact k1 g H2 x (s4.kp.trans (.of s2)) (tabs_same s4.tb s2) (Fr.of s4.kp nx) th
        · exact k2 g H2 d p (s4.kp.trans (.of s2)) (tabs_same s4.tb s2) e1 e2
      | ⟨2, _⟩, k1, k2 =>
        refine ⟨_, rfl, _, rfl, L, _, _, _, rfl, rfl, SqL.of s4.at_, rfl, f2, _, _, _, _, tbT (cs ⟨2, by decide⟩) CV "number" goodU E, rfl, m2, rfl, lamS_by (sc := defScope s__law_made) (by decide +kernel), fun _ _ _ _ => rfl, fun A2 o2 st2 H2 g c2 hr2 => ?_, v, c, rfl, ag2, fun g H2 x s2 nx th => ?_, fun g H2 d p s2 e1 e2 => ?_⟩
        · obtain ⟨fI, fdI, M, FI, b, kb⟩ := z2.ini
          exact pe_imp (pe_makeK0 M FI hr2 (by rfl) z2.mgC kb (passes_call (takes_of rfl rfl rfl rfl) (fun _ _ _ _ h => h)) (pk_cons (pv 1) pk_nil)) fun σ H Q ⟨v, c, hv, hag, h1, h2⟩ => ⟨v, hv, rfl, rfl, mk_imp hag h1 h2⟩
        · exact k1 g H2 x (s4.kp.trans (.of s2)) (tabs_same s4.tb s2) (Fr.of s4.kp nx) th
        · exact k2 g H2 d p (s4.kp.trans (.of s2)) (tabs_same s4.tb s2) e1 e2
      | ⟨3, _⟩, k1, k2 =>
        refine ⟨_, rfl, _, rfl, L, _, _, _, rfl, rfl, SqL.of s4.at_, rfl, f3, _, _, _, _, tbT (cs ⟨3, by decide⟩) CV "octets" goodR E, rfl, m3, rfl, lamS_by (sc := defScope s__law_made) (by decide +kernel), fun _ _ _ _ => rfl, fun A2 o2 st2 H2 g c2 hr2 => ?_, v, c, rfl, ag2, fun g H2 x s2 nx th => ?_, fun g H2 d p s2 e1 e2 => ?_⟩
        · obtain ⟨fI, fdI, M, FI, b, kb⟩ := z3.ini
          exact pe_imp (pe_makeK0 M FI hr2 (by rfl) z3.mgC kb (passes_call (takes_of rfl rfl rfl rfl) (fun _ _ _ _ h => h)) (pk_cons (pv 1) pk_nil)) fun σ H Q ⟨v, c, hv, hag, h1, h2⟩ => ⟨v, hv, rfl, rfl, mk_imp hag h1 h2⟩
        · exact k1 g H2 x (s4.kp.trans (.of s2)) (tabs_same s4.tb s2) (Fr.of s4.kp nx) th
        · exact k2 g H2 d p (s4.kp.trans (.of s2)) (tabs_same s4.tb s2) e1 e2
      | ⟨4, _⟩, k1, k2 =>
        refine ⟨_, rfl, _, rfl, L, _, _, _, rfl, rfl, SqL.of s4.at_, rfl, f4, _, _, _, _, tbT (cs ⟨4, by decide⟩) CV "octets" goodT E, rfl, m4, rfl, lamS_by (sc := defScope s__law_made) (by decide +kernel), fun _ _ _ _ => rfl, fun A2 o2 st2 H2 g c2 hr2 => ?_, v, c, rfl, ag2, fun g H2 x s2 nx th => ?_, fun g H2 d p s2 e1 e2 => ?_⟩
        · obtain ⟨fI, fdI, M, FI, b, kb⟩ := z4.ini
          exact pe_imp (pe_makeK0 M FI hr2 (by rfl) z4.mgC kb (passes_call (takes_of rfl rfl rfl rfl) (fun _ _ _ _ h => h)) (pk_cons (pv 1) pk_nil)) fun σ H Q ⟨v, c, hv, hag, h1, h2⟩ => ⟨v, hv, rfl, rfl, mk_imp hag h1 h2⟩
        · exact k1 g H2 x (s4.kp.trans (.of s2)) (tabs_same s4.tb s2) (Fr.of s4.kp nx) th
        · exact k2 g H2 d p (s4.kp.trans (.of s2)) (tabs_same s4.tb s2) e1 e2
    | false =>
      refine ifF rfl ?_
      refine use_next ?_
      try dsimp only
      refine use_seq (use_set (use_lst (use_cons ⟨tb, fun f0 H0 x0 t0 n0 l0 => use_nil ⟨sz (by simp), fun L nL => ?_⟩⟩)))
      have nl : Fr H L := Fr.of (.ofN x0) nL
      have s0 : Ls (tabM PM) H (upd H0 L (.lst [V.ref f0])) L [V.ref f0] := ⟨kp_lst (.ofN x0) nl, tabs_same t0 (same_new nL), upd_same, nl⟩
      have m0 := l0.extN (.of (same_new (o := .lst [V.ref f0]) nL))
      clear l0 n0
      try dsimp only
      refine use_seq (use_drop ?_)
      refine ⟨_, rfl, .inl ⟨rfl, _, SqL.of s0.at_⟩, s0.tb, fun f1 H1 x1 t1 n1 l1 => ?_⟩
      have e1 := x1 _ _ s0.at_ (noL _)
      refine ⟨L, _, _, rfl, rfl, e1, (by show 1 < sizeLine; decide), ?_⟩
      have s1 := s0.grow (ys := [V.ref f0, V.ref f1]) x1 t1
      replace m0 := lam_put (ys := [V.ref f0, V.ref f1]) (m0.extN x1) e1
      have m1 := lam_put (ys := [V.ref f0, V.ref f1]) l1 e1
      clear l1 n1 e1
      try dsimp only
      refine use_seq (use_drop ?_)
      refine ⟨_, rfl, .inl ⟨rfl, _, SqL.of s1.at_⟩, s1.tb, fun f2 H2 x2 t2 n2 l2 => ?_⟩
      have e2 := x2 _ _ s1.at_ (noL _)
      refine ⟨L, _, _, rfl, rfl, e2, (by show 2 < sizeLine; decide), ?_⟩
      have s2 := s1.grow (ys := [V.ref f0, V.ref f1, V.ref f2]) x2 t2
      replace m0 := lam_put (ys := [V.ref f0, V.ref f1, V.ref f2]) (m0.extN x2) e2
      replace m1 := lam_put (ys := [V.ref f0, V.ref f1, V.ref f2]) (m1.extN x2) e2
      have m2 := lam_put (ys := [V.ref f0, V.ref f1, V.ref f2]) l2 e2
      clear l2 n2 e2
      try dsimp only
      refine use_seq (use_drop ?_)
      refine ⟨_, rfl, .inl ⟨rfl, _, SqL.of s2.at_⟩, s2.tb, fun f3 H3 x3 t3 n3 l3 => ?_⟩
      have e3 := x3 _ _ s2.at_ (noL _)
      refine ⟨L, _, _, rfl, rfl, e3, (by show 3 < sizeLine; decide), ?_⟩
      have s3 := s2.grow (ys := [V.ref f0, V.ref f1, V.ref f2, V.ref f3]) x3 t3
      replace m0 := lam_put (ys := [V.ref f0, V.ref f1, V.ref f2, V.ref f3]) (m0.extN x3) e3
      replace m1 := lam_put (ys := [V.ref f0, V.ref f1, V.ref f2, V.ref f3]) (m1.extN x3) e3
      replace m2 := lam_put (ys := [V.ref f0, V.ref f1, V.ref f2, V.ref f3]) (m2.extN x3) e3
      have m3 := lam_put (ys := [V.ref f0, V.ref f1, V.ref f2, V.ref f3]) l3 e3
      clear l3 n3 e3
      try dsimp only
      refine use_seq (use_drop ?_)
      refine ⟨_, rfl, .inl ⟨rfl, _, SqL.of s3.at_⟩, s3.tb, fun f4 H4 x4 t4 n4 l4 => ?_⟩
      have e4 := x4 _ _ s3.at_ (noL _)
      refine ⟨L, _, _, rfl, rfl, e4, (by show 4 < sizeLine; decide), ?_⟩
      have s4 := s3.grow (ys := [V.ref f0, V.ref f1, V.ref f2, V.ref f3, V.ref f4]) x4 t4
      replace m0 := lam_put (ys := [V.ref f0, V.ref f1, V.ref f2, V.ref f3, V.ref f4]) (m0.extN x4) e4
      replace m1 := lam_put (ys := [V.ref f0, V.ref f1, V.ref f2, V.ref f3, V.ref f4]) (m1.extN x4) e4
      replace m2 := lam_put (ys := [V.ref f0, V.ref f1, V.ref f2, V.ref f3, V.ref f4]) (m2.extN x4) e4
      replace m3 := lam_put (ys := [V.ref f0, V.ref f1, V.ref f2, V.ref f3, V.ref f4]) (m3.extN x4) e4
      have m4 := lam_put (ys := [V.ref f0, V.ref f1, V.ref f2, V.ref f3, V.ref f4]) l4 e4
      clear l4 n4 e4
      try dsimp only
      refine use_ret ?_
      have ag2 := ag.kp s4.kp
      match i, k1, k2 with
      | ⟨0, _⟩, k1, k2 =>
        refine ⟨_, rfl, _, rfl, L, _, _, _, rfl, rfl, SqL.of s4.at_, rfl, f0, _, _, _, _, tbT (cs ⟨0, by decide⟩) CV "units" goodW E, rfl, m0, rfl, lamS_by (sc := defScope s__law_made) (by decide +kernel), fun _ _ _ _ => rfl, fun A2 o2 st2 H2 g c2 hr2 => ?_, v, c, rfl, ag2, fun g H2 x s2 nx th => ?_, fun g H2 d p s2 e1 e2 => ?_⟩
        · obtain ⟨fI, fdI, M, FI, b, kb⟩ := z0.ini
          exact pe_imp (pe_make M FI hr2 (by rfl) z0.mgC b .nil (passes_call (takes_of rfl rfl rfl rfl) (fun _ _ _ _ h => h)) (pa_cons (pv 1) pa_nil)) fun σ H Q ⟨v, c, hv, hag, h1, h2⟩ => ⟨v, hv, mk_imp hag h1 h2⟩
        · exact k1 g H2 x (s4.kp.trans (.of s2)) (tabs_same s4.tb s2) (Fr.of s4.kp nx) th
        · exact k2 g H2 d p (s4.kp.trans (.of s2)) (tabs_same s4.tb s2) e1 e2
      | ⟨1, _⟩, k1, k2 =>
        refine ⟨_, rfl, _, rfl, L, _, _, _, rfl, rfl, SqL.of s4.at_, rfl, f1, _, _, _, _, tbT (cs ⟨1, by decide⟩) CV "octets" goodD E, rfl, m1, rfl, lamS_by (sc := defScope s__law_made) (by decide +kernel), fun _ _ _ _ => rfl, fun A2 o2 st2 H2 g c2 hr2 => ?_, v, c, rfl, ag2, fun g H2 x s2 nx th => ?_, fun g H2 d p s2 e1 e2 => ?_⟩
        · obtain ⟨fI, fdI, M, FI, b, kb⟩ := z1.ini
          exact pe_imp (pe_make M FI hr2 (by rfl) z1.mgC b .nil (passes_call (takes_of rfl rfl rfl rfl) (fun _ _ _ _ h => h)) (pa_cons (pv 1) pa_nil)) fun σ H Q ⟨v, c, hv, hag, h1, h2⟩ => ⟨v, hv, mk_imp hag h1 h2⟩
        · exact k1 g H2 x (s4.kp.trans (.of s2)) (tabs_same s4.tb s2) (Fr.of s4.kp nx) th
        · exact k2 g H2 d p (s4.kp.trans (.of s2)) (tabs_same s4.tb s2) e1 e2
      | ⟨2, _⟩, k1, k2 =>
        refine ⟨_, rfl, _, rfl, L, _, _, _, rfl, rfl, SqL.of s4.at_, rfl, f2, _, _, _, _, tbT (cs ⟨2, by decide⟩) CV "number" goodU E, rfl, m2, rfl, lamS_by (sc := defScope s__law_made) (by decide +kernel), fun _ _ _ _ => rfl, fun A2 o2 st2 H2 g c2 hr2 => ?_, v, c, rfl, ag2, fun g H2 x s2 nx th => ?_, fun g H2 d p s2 e1 e2 => ?_⟩
        · obtain ⟨fI, fdI, M, FI, b, kb⟩ := z2.ini
          exact pe_imp (pe_make M FI hr2 (by rfl) z2.mgC b .nil (passes_call (takes_of rfl rfl rfl rfl) (fun _ _ _ _ h => h)) (pa_cons (pv 1) pa_nil)) fun σ H Q ⟨v, c, hv, hag, h1, h2⟩ => ⟨v, hv, mk_imp hag h1 h2⟩
        · exact k1 g H2 x (s4.kp.trans (.of s2)) (tabs_same s4.tb s2) (Fr.of s4.kp nx) th
        · exact k2 g H2 d p (s4.kp.trans (.of s2)) (tabs_same s4.tb s2) e1 e2
      | ⟨3, _⟩, k1, k2 =>
        refine ⟨_, rfl, _, rfl, L, _, _, _, rfl, rfl, SqL.of s4.at_, rfl, f3, _, _, _, _, tbT (cs ⟨3, by decide⟩) CV "octets" goodR E, rfl, m3, rfl, lamS_by (sc := defScope s__law_made) (by decide +kernel), fun _ _ _ _ => rfl, fun A2 o2 st2 H2 g c2 hr2 => ?_, v, c, rfl, ag2, fun g H2 x s2 nx th => ?_, fun g H2 d p s2 e1 e2 => ?_⟩
        · obtain ⟨fI, fdI, M, FI, b, kb⟩ := z3.ini
          exact pe_imp (pe_make M FI hr2 (by rfl) z3.mgC b .nil (passes_call (takes_of rfl rfl rfl rfl) (fun _ _ _ _ h => h)) (pa_cons (pv 1) pa_nil)) fun σ H Q ⟨v, c, hv, hag, h1, h2⟩ => ⟨v, hv, mk_imp hag h1 h2⟩
        · exact k1 g H2 x (s4.kp.trans (.of s2)) (tabs_same s4.tb s2) (Fr.of s4.kp nx) th
        · exact k2 g H2 d p (s4.kp.trans (.of s2)) (tabs_same s4.tb s2) e1 e2
      | ⟨4, _⟩, k1, k2 =>
        refine ⟨_, rfl, _, rfl, L, _, _, _, rfl, rfl, SqL.of s4.at_, rfl, f4, _, _, _, _, tbT (cs ⟨4, by decide⟩) CV "octets" goodT E, rfl, m4, rfl, lamS_by (sc := defScope s__law_made) (by decide +kernel), fun _ _ _ _ => rfl, fun A2 o2 st2 H2 g c2 hr2 => ?_, v, c, rfl, ag2, fun g H2 x s2 nx th => ?_, fun g H2 d p s2 e1 e2 => ?_⟩
        · obtain ⟨fI, fdI, M, FI, b, kb⟩ := z4.ini
          exact pe_imp (pe_make M FI hr2 (by rfl) z4.mgC b .nil (passes_call (takes_of rfl rfl rfl rfl) (fun _ _ _ _ h => h)) (pa_cons (pv 1) pa_nil)) fun σ H Q ⟨v, c, hv, hag, h1, h2⟩ => ⟨v, hv, mk_imp hag h1 h2⟩
        · exact k1 g H2 x (s4.kp.trans (.of s2)) (tabs_same s4.tb s2) (Fr.of s4.kp nx) th
        · exact k2 g H2 d p (s4.kp.trans (.of s2)) (tabs_same s4.tb s2) e1 e2
end
end Q01


/-! octets, units, fields that are drawn -/
namespace Q01
open PySem PySem.Spec PyProof.Rows L2 QT LamX
/-- a new list of numbers up to hi -/
structure NewL (s : Addr) (hi : Int) (H H' : Hp) (p : Addr) (ns : List Int) : Prop where
  ex : Ext s H H'
  np : H p = none
  at_ : H' p = some (.lst (ns.map V.int))
  in_ : ∀ m ∈ ns, 0 ≤ m ∧ m ≤ hi
theorem mem_ints {v : V} {ms : List Int} (h : v ∈ ms.map V.int) : ∃ m, v = .int m ∧ m ∈ ms := by
  obtain ⟨m, h1, h2⟩ := List.mem_map.mp h
  exact ⟨m, h2.symm, h1⟩
/-- a draw out of a few numbers, the last one drawn itself -/
theorem map_snoc (ns : List Int) (m : Int) : ns.map V.int ++ [V.int m] = (ns ++ [m]).map V.int := by
  rw [List.map_append]
  rfl
theorem ext_lst {s p : Addr} {H H' : Hp} {xs : List V} (x : Ext s H H') (n : H p = none) (ps : p ≠ s) : Ext s H (upd H' p (.lst xs)) :=
  ⟨fun b o ne e => by rw [upd_ne (ne_of_none e n)]; exact x.keep b o ne e, by
    obtain ⟨a, b, c, d, r⟩ := x.st
    exact ⟨a, b, c, by rw [upd_ne ps.symm]; exact d, r⟩⟩
def spOctets : Sp := fun vs H Q _ => ∃ (s : Addr) (n : Int), vs = [.ref s, .int n] ∧ Stt H s ∧ 0 ≤ n ∧ n ≤ 100 ∧ ∀ (H' : Hp) (p : Addr) (ns : List Int), NewL s 255 H H' p ns → (ns.length : Int) = n → Q (.ref p) H'
def spUnits : Sp := fun vs H Q _ => ∃ s : Addr, vs = [.ref s] ∧ Stt H s ∧ ∀ (H' : Hp) (p : Addr) (ns : List Int), NewL s 65535 H H' p ns → ns.length ≤ 6 → (∃ m ∈ ns, plB (.int m) = false) → Q (.ref p) H'
/-- side conditions; and the plain steps of a reading -/
local macro_rules | `(tactic| walk_at "sd") => `(tactic| first
  | assumption | decide | omega | exact b64 b01 | (show (0 : Int) < _; first | decide | omega) | exact ⟨by decide, by decide, by decide⟩ | exact ⟨by decide, by decide⟩ | exact ⟨by omega, by omega⟩
  | exact .inl ⟨by omega, by omega⟩ | exact .inr ⟨by omega, by omega⟩ | exact sz (by simp) | exact szl (by simp))
local macro_rules | `(tactic| walk_at "rd") => `(tactic| repeat (first
  | refine ⟨_, rfl, ?_⟩
  | refine ⟨_, _, rfl, rfl, ?_⟩
  | refine ⟨_, _, _, _, rfl, rfl, SqL.of (by first | assumption | exact upd_same), rfl, ?_⟩
  | refine .inl ⟨_, rfl, ?_⟩
  | refine .inr ⟨_, rfl, ?_⟩
  | refine ⟨_, _, _, _, rfl, rfl, (by first | assumption | exact upd_same), rfl, ?_⟩
  | refine And.intro (by walk_at "sd") ?_))
section
variable {P : Program} {w : World} {K : PySem.W.Frag} {mg : Str → Option Value} {base : Heap} {f : Addr} {fd : FuncData}
abbrev s__law_octets : Stmt := top 23
theorem sc__law_octets : FnScope ["_law_source_here", "_law_many", "_law_k"] ["_law_source_here", "_law_many"] (defScope s__law_octets) := ⟨rfl, rfl, rfl, by decide +kernel, rfl, by decide +kernel, by decide +kernel⟩
theorem ok_octets (F : Fun K "_law_octets" "_law_octets" s__law_octets f fd) (T : Txt K mg) (c_draw : Cal P w K mg base 1 "_law_draw" spDraw) (c_pick : Cal P w K mg base 2 "_law_pick" (spPick K)) : FnOk P w K mg base CX0 3 f fd ["_law_source_here", "_law_many"] spOctets := by
  refine F.ok sc__law_octets (fun vs H Q E h => ?_) (fun cdv A outer st H vs Q E hr h => ?_)
  · obtain ⟨s, n, rfl, _⟩ := h
    rfl
  · obtain ⟨s, n, rfl, hs, n0, n1, k⟩ := h
    refine ⟨_, (pss_one (ps_ret (pe_lc (own := [("_law_k", 2)]) (g := (gName 2)) rfl sc__law_octets.nd (pi_range1 (by rfl) T.z_range (pa_cons (pv 1) pa_nil)) (blkOk_by (N := ["_law_source_here", "_law_many", "_law_k"]) (sc := defScope s__law_octets) (by decide +kernel)) (fun _ _ _ _ _ => (pg_name (i := 2) sc__law_octets.nd rfl (Or.inl rfl))) (fun _ _ _ _ _ => pts_nil) (fun _ _ _ _ _ => (pe_c c_pick hr (by decide) (by rfl) (pa_cons (pv 0) (pa_cons (pe_lst (pa_cons pe_int (pa_cons pe_int (pa_cons pe_int (pa_cons (pe_c c_draw hr (by decide) (by rfl) (pa_cons (pv 0) (pa_cons pe_int pa_nil))) pa_nil))))) pa_nil))))))), ?_⟩
    refine ⟨_, rfl, n, rfl, by omega, by omega, fun D nD => ?_⟩
    have nDs : D ≠ s := hs.ne nD
    refine lc_it walk_range (fun i H' => ∃ ns : List Int, NewL s 255 H H' D ns ∧ ns.length = i) ⟨[], ⟨ext_lst (Ext.refl hs) nD nDs, nD, upd_same, fun m hm => absurd hm (by simp)⟩, rfl⟩ (fun _ _ _ _ => trivial) ?_ ?_
    · rintro i x W1 W2 li ⟨ns, h, hl⟩ ⟨rfl, rfl⟩
      refine ⟨rfl, _, rfl, ?_⟩
      refine ⟨_, rfl, s, _, rfl, h.ex.st, by decide, by decide, fun H1 d x1 d0 d1 => ?_⟩
      refine ⟨sz (by simp), fun l nl => ?_⟩
      refine ⟨s, l, _, rfl, x1.st.ex (same_new nl), x1.st.ne nl, SqL.of upd_same, by simp, by simp, fun H2 v x2 hv => ?_⟩
      have x3 := (x1.new nl).trans x2
      obtain ⟨m, rfl, hm⟩ := mem_ints (ms := [0, 255, 128, d]) hv
      have b : 0 ≤ m ∧ m ≤ 255 := by
        simp only [List.mem_cons, List.mem_nil_iff, or_false] at hm
        rcases hm with rfl | rfl | rfl | rfl <;> first | decide | exact ⟨d0, by omega⟩
      refine ⟨_, x3.keep _ _ nDs h.at_, szl (by rw [List.length_map]; omega), ns ++ [m], ⟨ext_lst (h.ex.trans x3) nD nDs, nD, by rw [upd_same, map_snoc], fun q hq => ?_⟩, by rw [List.length_append, hl]; rfl⟩
      rcases List.mem_append.mp hq with z | z
      · exact h.in_ q z
      · rw [List.mem_singleton.mp z]
        exact b
    · rintro W ⟨ns, h, hl⟩
      exact k W D ns h (by omega)
abbrev s__law_units : Stmt := top 24
theorem sc__law_units : FnScope ["_law_source_here", "_law_found", "_law_k"] ["_law_source_here"] (defScope s__law_units) := ⟨rfl, rfl, rfl, by decide +kernel, rfl, by decide +kernel, by decide +kernel⟩
theorem ok_units (F : Fun K "_law_units" "_law_units" s__law_units f fd) (T : Txt K mg) (c_draw : Cal P w K mg base 1 "_law_draw" spDraw) (c_pick : Cal P w K mg base 2 "_law_pick" (spPick K)) : FnOk P w K mg base CX0 3 f fd ["_law_source_here"] spUnits := by
  refine F.ok sc__law_units (fun vs H Q E h => ?_) (fun cdv A outer st H vs Q E hr h => ?_)
  · obtain ⟨s, rfl, _⟩ := h
    rfl
  · obtain ⟨s, rfl, hs, k⟩ := h
    refine ⟨_, (pss_cons (ps_setLc (i := 1) (own := [("_law_k", 2)]) (g := (gName 2)) (by rfl) sc__law_units.nd rfl rfl (sw_true rfl rfl rfl (by decide +kernel)) (pi_range1 (by rfl) T.z_range (pa_cons (pe_c c_draw hr (by decide) (by rfl) (pa_cons (pv 0) (pa_cons pe_int pa_nil))) pa_nil)) (blkOk_by (N := ["_law_source_here", "_law_found", "_law_k"]) (sc := defScope s__law_units) (by decide +kernel)) (fun _ _ _ _ _ => (pg_name (i := 2) sc__law_units.nd rfl (Or.inl rfl))) (fun _ _ _ _ _ => pts_nil) (fun _ _ _ _ _ => (pe_c c_pick hr (by decide) (by rfl) (pa_cons (pv 0) (pa_cons (pe_lst (pa_cons pe_int (pa_cons pe_int (pa_cons pe_int (pa_cons pe_int (pa_cons pe_int (pa_cons (pe_c c_draw hr (by decide) (by rfl) (pa_cons (pv 0) (pa_cons pe_int pa_nil))) pa_nil))))))) pa_nil)))))
      (pss_cons (ps_expr (pe_bm PySem.F.plainAttrs_list PySem.F.slot_list_insert PySem.F.type_list_insert mt_insert (pv 1) (pa_cons (pe_c c_draw hr (by decide) (by rfl) (pa_cons (pv 0) (pa_cons (pe_op op_add (pe_callB call_len_seq (by rfl) T.z_len PySem.boot_len (pa_cons (pv 1) pa_nil)) pe_int) pa_nil))) (pa_cons (pe_c c_pick hr (by decide) (by rfl) (pa_cons (pv 0) (pa_cons (pe_lst (pa_cons pe_int (pa_cons pe_int (pa_cons pe_int (pa_cons pe_int (pa_cons pe_int (pa_cons pe_int pa_nil))))))) pa_nil))) pa_nil))))
      (pss_one (ps_ret (pv 1))))), ?_⟩
    refine use_seq ?_
    refine ⟨_, rfl, s, _, rfl, hs, by decide, by decide, fun H0 n x0 n0 n1 => ?_⟩
    refine ⟨n, rfl, by omega, by omega, fun D nD => ?_⟩
    have nDs : D ≠ s := x0.st.ne nD
    refine lc_it walk_range (fun i H' => ∃ ns : List Int, NewL s 65535 H0 H' D ns ∧ ns.length = i) ⟨[], ⟨ext_lst (Ext.refl x0.st) nD nDs, nD, upd_same, fun m hm => absurd hm (by simp)⟩, rfl⟩ (fun _ _ _ _ => trivial) ?_ ?_
    · rintro i x W1 W2 li ⟨ns, h, hl⟩ ⟨rfl, rfl⟩
      refine ⟨rfl, _, rfl, ?_⟩
      refine ⟨_, rfl, s, _, rfl, h.ex.st, by decide, by decide, fun H1 d x1 d0 d1 => ?_⟩
      refine ⟨sz (by simp), fun l nl => ?_⟩
      refine ⟨s, l, _, rfl, x1.st.ex (same_new nl), x1.st.ne nl, SqL.of upd_same, by simp, by simp, fun H2 v x2 hv => ?_⟩
      have x3 := (x1.new nl).trans x2
      obtain ⟨m, rfl, hm⟩ := mem_ints (ms := [65, 32, 126, 0, 65535, d]) hv
      have b : 0 ≤ m ∧ m ≤ 65535 := by
        simp only [List.mem_cons, List.mem_nil_iff, or_false] at hm
        rcases hm with rfl | rfl | rfl | rfl | rfl | rfl <;> first | decide | exact ⟨d0, by omega⟩
      refine ⟨_, x3.keep _ _ nDs h.at_, szl (by rw [List.length_map]; omega), ns ++ [m], ⟨ext_lst (h.ex.trans x3) nD nDs, nD, by rw [upd_same, map_snoc], fun q hq => ?_⟩, by rw [List.length_append, hl]; rfl⟩
      rcases List.mem_append.mp hq with z | z
      · exact h.in_ q z
      · rw [List.mem_singleton.mp z]
        exact b
    · rintro W ⟨ns, h, hl⟩
      dsimp only
      refine use_seq (use_drop ?_)
      refine ⟨_, rfl, .inl ⟨rfl, _, SqL.of h.at_⟩, ?_⟩
      refine ⟨_, rfl, _, rfl, D, _, rfl, .inl (SqL.of h.at_), _, _, rfl, rfl, ?_⟩
      refine ⟨s, _, rfl, h.ex.st, by rw [List.length_map]; omega, by rw [List.length_map]; omega, fun H1 d x1 d0 d1 => ?_⟩
      rw [List.length_map] at d1
      refine ⟨_, rfl, sz (by simp), fun l nl => ?_⟩
      refine ⟨s, l, _, rfl, x1.st.ex (same_new nl), x1.st.ne nl, SqL.of upd_same, by simp, by simp, fun H2 v x2 hv => ?_⟩
      have x3 := (x1.new nl).trans x2
      obtain ⟨m, rfl, hm⟩ := mem_ints (ms := [37, 10, 31, 127, 128, 65535]) hv
      have b : (0 ≤ m ∧ m ≤ 65535) ∧ plB (.int m) = false := by
        simp only [List.mem_cons, List.mem_nil_iff, or_false] at hm
        rcases hm with rfl | rfl | rfl | rfl | rfl | rfl <;> decide
      refine ⟨D, _, d, _, rfl, rfl, x3.keep _ _ nDs h.at_, szl (by rw [List.length_map]; omega), d0, by omega, ?_⟩
      have e : (ns.map V.int).take d.toNat ++ [V.int m] ++ (ns.map V.int).drop d.toNat = (ns.take d.toNat ++ [m] ++ ns.drop d.toNat).map V.int := by
        rw [List.map_append, List.map_append, List.map_take, List.map_drop]
        rfl
      rw [e]
      have nD0 : H D = none := by
        cases q : H D with
        | none => rfl
        | some o =>
          have z := x0.keep _ _ nDs q
          rw [nD] at z
          cases z
      refine ⟨_, rfl, ?_⟩
      refine k _ D _ ⟨ext_lst (x0.trans (h.ex.trans x3)) nD0 nDs, nD0, upd_same, fun q hq => ?_⟩ ?_ ⟨m, by simp, b.2⟩
      · rcases List.mem_append.mp hq with z | z
        · rcases List.mem_append.mp z with z | z
          · exact h.in_ q (List.mem_of_mem_take z)
          · rw [List.mem_singleton.mp z]
            exact b.1
        · exact h.in_ q (List.mem_of_mem_drop z)
      · rw [List.length_append, List.length_append, List.length_take, List.length_drop, List.length_singleton]
        omega
end
end Q01


/-! fields drawn, asked for, refused -/
namespace Q01
open PySem PySem.Spec PyProof.Rows L2 QT LamX
/-- a field that is drawn -/
inductive Fld (s : Addr) (H H' : Hp) : V → Co → Prop
  | lst {p : Addr} {ns : List Int} (n : NewL s 65535 H H' p ns) (l : ns.length ≤ 100) : Fld s H H' (.ref p) (.seq (ns.map V.int))
  | num (n : Int) (x : Ext s H H') (b : 0 ≤ n ∧ n ≤ 18446744073709551615) : Fld s H H' (.int n) (.num n)
theorem all_num {hi : Int} : ∀ {ns : List Int}, (∀ m ∈ ns, 0 ≤ m ∧ m ≤ hi) → (ns.map V.int).all (numB hi) = true
  | [], _ => rfl
  | n :: r, h => by
    have z := h n List.mem_cons_self
    rw [List.map_cons, List.all_cons, all_num fun m hm => h m (List.mem_cons_of_mem _ hm), Bool.and_true]
    show (decide (0 ≤ n) && decide (n ≤ hi)) = true
    rw [decide_eq_true z.1, decide_eq_true z.2]
    rfl
theorem not_plain {ns : List Int} {m : Int} (h : m ∈ ns) (b : plB (.int m) = false) : (ns.map V.int).all plB = false := by
  cases e : (ns.map V.int).all plB with
  | false => rfl
  | true =>
    have z := List.all_eq_true.mp e (.int m) (List.mem_map.mpr ⟨m, h, rfl⟩)
    rw [b] at z
    cases z
theorem NewL.mono {s : Addr} {hi hj : Int} {H H' : Hp} {p : Addr} {ns : List Int} (h : NewL s hi H H' p ns) (l : hi ≤ hj) : NewL s hj H H' p ns := ⟨h.ex, h.np, h.at_, fun m hm => ⟨(h.in_ m hm).1, Int.le_trans (h.in_ m hm).2 l⟩⟩
theorem NewL.after {s : Addr} {hi : Int} {H H1 H' : Hp} {p : Addr} {ns : List Int} (x : Ext s H H1) (h : NewL s hi H1 H' p ns) (ne : p ≠ s) : NewL s hi H H' p ns := by
  refine ⟨x.trans h.ex, ?_, h.at_, h.in_⟩
  cases q : H p with
  | none => rfl
  | some o =>
    have z := x.keep _ _ ne q
    rw [h.np] at z
    cases z
def spDrawn : Sp := fun vs H Q _ => ∃ (s : Addr) (i : Fin 5), vs = [.ref s, .int (i.val : Int)] ∧ Stt H s ∧ ∀ (H' : Hp) (v : V) (c : Co), Fld s H H' v c → gdE i c = true → Q v H'
def spField (cs : Fin 5 → Addr) : Sp := fun vs H Q _ => ∃ (i : Fin 5) (x : Addr) (c : Co), vs = [.int (i.val : Int), .ref x] ∧ Thing H x (cs i) (flE i) c ∧ ∀ fv, FV H fv c → Q fv H
/-- side conditions; and the plain steps of a reading -/
local macro_rules | `(tactic| walk_at "sd") => `(tactic| first
  | assumption | decide | omega | exact b64 b01 | (show (0 : Int) < _; first | decide | omega) | exact ⟨by decide, by decide, by decide⟩ | exact ⟨by decide, by decide⟩ | exact ⟨by omega, by omega⟩
  | exact .inl ⟨by omega, by omega⟩ | exact .inr ⟨by omega, by omega⟩ | exact sz (by simp) | exact szl (by simp))
local macro_rules | `(tactic| walk_at "rd") => `(tactic| repeat (first
  | refine ⟨_, rfl, ?_⟩
  | refine ⟨_, _, rfl, rfl, ?_⟩
  | refine ⟨_, _, _, _, rfl, rfl, SqL.of (by first | assumption | exact upd_same), rfl, ?_⟩
  | refine .inl ⟨_, rfl, ?_⟩
  | refine .inr ⟨_, rfl, ?_⟩
  | refine ⟨_, _, _, _, rfl, rfl, (by first | assumption | exact upd_same), rfl, ?_⟩
  | refine And.intro (by walk_at "sd") ?_))
section
variable {P : Program} {w : World} {K : PySem.W.Frag} {mg : Str → Option Value} {base : Heap} {f : Addr} {fd : FuncData}
abbrev s__law_drawn : Stmt := top 27
theorem sc__law_drawn : FnScope ["_law_source_here", "_law_way"] ["_law_source_here", "_law_way"] (defScope s__law_drawn) := ⟨rfl, rfl, rfl, by decide +kernel, rfl, by decide +kernel, by decide +kernel⟩
theorem ok_drawn (F : Fun K "_law_drawn" "_law_drawn" s__law_drawn f fd) (T : Txt K mg) (c_draw : Cal P w K mg base 1 "_law_draw" spDraw) (c_pick : Cal P w K mg base 2 "_law_pick" (spPick K)) (c_octets : Cal P w K mg base 3 "_law_octets" spOctets) (c_units : Cal P w K mg base 3 "_law_units" spUnits) :
    FnOk P w K mg base CX0 4 f fd ["_law_source_here", "_law_way"] spDrawn := by
  refine F.ok sc__law_drawn (fun vs H Q E h => ?_) (fun cdv A outer st H vs Q E hr h => ?_)
  · obtain ⟨s, i, rfl, _⟩ := h
    rfl
  · obtain ⟨s, i, rfl, hs, k⟩ := h
    refine ⟨_, (pss_cons (ps_if (pt_cmpR op_eq (pv 1) pe_int (nomark _))
      (pss_one (ps_ret (pe_c c_units hr (by decide) (by rfl) (pa_cons (pv 0) pa_nil))))
      pss_nil)
      (pss_cons (ps_if (pt_cmpR op_eq (pv 1) pe_int (nomark _))
      (pss_one (ps_ret (pe_c c_pick hr (by decide) (by rfl) (pa_cons (pv 0) (pa_cons (pe_lst (pa_cons pe_int (pa_cons pe_int (pa_cons (pe_op op_sub (pe_op op_pow pe_int pe_int) pe_int) (pa_cons (pe_c c_draw hr (by decide) (by rfl) (pa_cons (pv 0) (pa_cons (pe_op op_pow pe_int pe_int) pa_nil))) pa_nil))))) pa_nil)))))
      pss_nil)
      (pss_one (ps_ret (pe_c c_octets hr (by decide) (by rfl) (pa_cons (pv 0) (pa_cons (pe_ix ix_list (pe_lst (pa_cons pe_int (pa_cons (pe_c c_pick hr (by decide) (by rfl) (pa_cons (pv 0) (pa_cons (pe_lst (pa_cons pe_int (pa_cons pe_int (pa_cons pe_int (pa_cons pe_int (pa_cons pe_int pa_nil)))))) pa_nil))) (pa_cons pe_int (pa_cons (pe_c c_pick hr (by decide) (by rfl) (pa_cons (pv 0) (pa_cons (pe_lst (pa_cons pe_int (pa_cons pe_int pa_nil))) pa_nil))) (pa_cons pe_int pa_nil)))))) (pv 1) (fun _ _ => rfl)) pa_nil))))))), ?_⟩
    refine use_seq (use_if ?_)
    have units : i.val = 0 → ∀ (H' : Hp) (p : Addr) (ns : List Int), NewL s 65535 H H' p ns → ns.length ≤ 6 → (∃ m ∈ ns, plB (.int m) = false) → Q (.ref p) H' := fun e H' p ns n l ⟨m, hm, b⟩ => by
      obtain rfl : i = ⟨0, by decide⟩ := Fin.ext e
      refine k H' _ _ (.lst n (by omega)) ?_
      show ((ns.map V.int).all (numB 65535) && !((ns.map V.int).all plB)) = true
      rw [all_num n.in_, not_plain hm b]
      rfl
    have rest : ∀ (H1 H' : Hp) (p : Addr) (ns : List Int) (n : Int), Ext s H H1 → NewL s 255 H1 H' p ns → (ns.length : Int) = n → n ≤ 100 → ((i.val = 1) ∨ (i.val = 3 ∧ (n = 4 ∨ n = 8)) ∨ (i.val = 4 ∧ n = 8)) → Q (.ref p) H' := fun H1 H' p ns n x h l nl e => by
      have ps : p ≠ s := x.st.ne h.np
      have h2 := h.after x ps
      have al := all_num h2.in_
      have ll : (ns.map V.int).length = ns.length := List.length_map ..
      refine k H' _ _ (.lst (h2.mono (by decide)) (by omega)) ?_
      rcases e with e | ⟨e, z⟩ | ⟨e, z⟩
      · obtain rfl : i = ⟨1, by decide⟩ := Fin.ext e
        exact al
      · obtain rfl : i = ⟨3, by decide⟩ := Fin.ext e
        show ((ns.map V.int).all (numB 255) && (decide ((ns.map V.int).length = 4) || decide ((ns.map V.int).length = 8))) = true
        rw [al, ll]
        rcases z with z | z
        · rw [decide_eq_true (show ns.length = 4 by omega)]
          rfl
        · rw [decide_eq_true (show ns.length = 8 by omega), Bool.or_true]
          rfl
      · obtain rfl : i = ⟨4, by decide⟩ := Fin.ext e
        show ((ns.map V.int).all (numB 255) && decide ((ns.map V.int).length = 8)) = true
        rw [al, ll, decide_eq_true (show ns.length = 8 by omega)]
        rfl
    match i, units, rest, k with
    | ⟨0, _⟩, units, rest, k =>
      refine ⟨_, rfl, rfl, _, rfl, ifT rfl ?_⟩
      exact ⟨_, rfl, s, rfl, hs, fun H' p ns n l e => units rfl H' p ns n l e⟩
    | ⟨2, _⟩, units, rest, k =>
      refine ⟨_, rfl, rfl, _, rfl, ifF rfl ?_⟩
      refine use_next ?_
      dsimp only
      refine use_seq (use_if ?_)
      refine ⟨_, rfl, rfl, _, rfl, ifT rfl ?_⟩
      refine use_ret ?_
      refine ⟨_, rfl, _, _, rfl, rfl, by walk_at "sd", _, _, rfl, rfl, ?_⟩
      refine ⟨_, rfl, _, _, rfl, rfl, by walk_at "sd", ?_⟩
      refine ⟨s, _, rfl, hs, by decide, by decide, fun H1 d x1 d0 d1 => ?_⟩
      refine ⟨sz (by simp), fun l nl => ?_⟩
      refine ⟨s, l, _, rfl, x1.st.ex (same_new nl), x1.st.ne nl, SqL.of upd_same, by simp, by simp, fun H2 v x2 hv => ?_⟩
      have d1' : d < 18446744073709551616 := d1
      obtain ⟨m, rfl, hm⟩ := mem_ints (ms := [0, 1, 18446744073709551615, d]) hv
      have b : 0 ≤ m ∧ m ≤ 18446744073709551615 := by
        simp only [List.mem_cons, List.mem_nil_iff, or_false] at hm
        rcases hm with rfl | rfl | rfl | rfl <;> first | decide | exact ⟨d0, by omega⟩
      refine k H2 _ _ (.num m ((x1.new nl).trans x2) b) ?_
      show (decide (0 ≤ m) && decide (m ≤ 18446744073709551615)) = true
      rw [decide_eq_true b.1, decide_eq_true b.2]
      rfl
    | ⟨1, _⟩, units, rest, k =>
      refine ⟨_, rfl, rfl, _, rfl, ifF rfl ?_⟩
      refine use_next ?_
      dsimp only
      refine use_seq (use_if ?_)
      refine ⟨_, rfl, rfl, _, rfl, ifF rfl ?_⟩
      refine use_next ?_
      dsimp only
      refine use_ret ?_
      refine ⟨_, rfl, _, rfl, sz (by simp), fun l1 nl1 => ?_⟩
      refine ⟨s, l1, _, rfl, hs.ex (same_new nl1), hs.ne nl1, SqL.of upd_same, by simp, by simp, fun H1 v x1 hv => ?_⟩
      obtain ⟨m, rfl, hm⟩ := mem_ints (ms := [0, 1, 4, 8, 20]) hv
      refine ⟨_, rfl, sz (by simp), fun l2 nl2 => ?_⟩
      refine ⟨s, l2, _, rfl, x1.st.ex (same_new nl2), x1.st.ne nl2, SqL.of upd_same, by simp, by simp, fun H2 u x2 hu => ?_⟩
      obtain ⟨n, rfl, hn⟩ := mem_ints (ms := [4, 8]) hu
      have x3 := ((Ext.refl hs).new nl1).trans ((x1.new nl2).trans x2)
      have bm : 0 ≤ m ∧ m ≤ 20 := by
        simp only [List.mem_cons, List.mem_nil_iff, or_false] at hm
        rcases hm with rfl | rfl | rfl | rfl | rfl <;> decide
      have bn : n = 4 ∨ n = 8 := by
        simpa using hn
      refine ⟨sz (by simp), fun l3 nl3 => ?_⟩
      refine ⟨_, rfl, l3, _, _, _, rfl, rfl, SqL.of upd_same, rfl, ?_⟩
      refine ⟨s, m, rfl, x3.st.ex (same_new nl3), by omega, by omega, fun H' p ns h hl => ?_⟩
      exact rest _ H' p ns _ (x3.new nl3) h hl (by omega) (.inl rfl)
    | ⟨3, _⟩, units, rest, k =>
      refine ⟨_, rfl, rfl, _, rfl, ifF rfl ?_⟩
      refine use_next ?_
      dsimp only
      refine use_seq (use_if ?_)
      refine ⟨_, rfl, rfl, _, rfl, ifF rfl ?_⟩
      refine use_next ?_
      dsimp only
      refine use_ret ?_
      refine ⟨_, rfl, _, rfl, sz (by simp), fun l1 nl1 => ?_⟩
      refine ⟨s, l1, _, rfl, hs.ex (same_new nl1), hs.ne nl1, SqL.of upd_same, by simp, by simp, fun H1 v x1 hv => ?_⟩
      obtain ⟨m, rfl, hm⟩ := mem_ints (ms := [0, 1, 4, 8, 20]) hv
      refine ⟨_, rfl, sz (by simp), fun l2 nl2 => ?_⟩
      refine ⟨s, l2, _, rfl, x1.st.ex (same_new nl2), x1.st.ne nl2, SqL.of upd_same, by simp, by simp, fun H2 u x2 hu => ?_⟩
      obtain ⟨n, rfl, hn⟩ := mem_ints (ms := [4, 8]) hu
      have x3 := ((Ext.refl hs).new nl1).trans ((x1.new nl2).trans x2)
      have bm : 0 ≤ m ∧ m ≤ 20 := by
        simp only [List.mem_cons, List.mem_nil_iff, or_false] at hm
        rcases hm with rfl | rfl | rfl | rfl | rfl <;> decide
      have bn : n = 4 ∨ n = 8 := by
        simpa using hn
      refine ⟨sz (by simp), fun l3 nl3 => ?_⟩
      refine ⟨_, rfl, l3, _, _, _, rfl, rfl, SqL.of upd_same, rfl, ?_⟩
      refine ⟨s, n, rfl, x3.st.ex (same_new nl3), by omega, by omega, fun H' p ns h hl => ?_⟩
      exact rest _ H' p ns _ (x3.new nl3) h hl (by omega) (.inr (.inl ⟨rfl, bn⟩))
    | ⟨4, _⟩, units, rest, k =>
      refine ⟨_, rfl, rfl, _, rfl, ifF rfl ?_⟩
      refine use_next ?_
      dsimp only
      refine use_seq (use_if ?_)
      refine ⟨_, rfl, rfl, _, rfl, ifF rfl ?_⟩
      refine use_next ?_
      dsimp only
      refine use_ret ?_
      refine ⟨_, rfl, _, rfl, sz (by simp), fun l1 nl1 => ?_⟩
      refine ⟨s, l1, _, rfl, hs.ex (same_new nl1), hs.ne nl1, SqL.of upd_same, by simp, by simp, fun H1 v x1 hv => ?_⟩
      obtain ⟨m, rfl, hm⟩ := mem_ints (ms := [0, 1, 4, 8, 20]) hv
      refine ⟨_, rfl, sz (by simp), fun l2 nl2 => ?_⟩
      refine ⟨s, l2, _, rfl, x1.st.ex (same_new nl2), x1.st.ne nl2, SqL.of upd_same, by simp, by simp, fun H2 u x2 hu => ?_⟩
      obtain ⟨n, rfl, hn⟩ := mem_ints (ms := [4, 8]) hu
      have x3 := ((Ext.refl hs).new nl1).trans ((x1.new nl2).trans x2)
      have bm : 0 ≤ m ∧ m ≤ 20 := by
        simp only [List.mem_cons, List.mem_nil_iff, or_false] at hm
        rcases hm with rfl | rfl | rfl | rfl | rfl <;> decide
      have bn : n = 4 ∨ n = 8 := by
        simpa using hn
      refine ⟨sz (by simp), fun l3 nl3 => ?_⟩
      refine ⟨_, rfl, l3, _, _, _, rfl, rfl, SqL.of upd_same, rfl, ?_⟩
      refine ⟨s, 8, rfl, x3.st.ex (same_new nl3), by omega, by omega, fun H' p ns h hl => ?_⟩
      exact rest _ H' p ns _ (x3.new nl3) h hl (by omega) (.inr (.inr ⟨rfl, rfl⟩))
abbrev s__law_field : Stmt := top 26
theorem sc__law_field : FnScope ["_law_way", "_law_thing"] ["_law_way", "_law_thing"] (defScope s__law_field) := ⟨rfl, rfl, rfl, by decide +kernel, rfl, by decide +kernel, by decide +kernel⟩
theorem ok_field {cs : Fin 5 → Addr} (F : Fun K "_law_field" "_law_field" s__law_field f fd) (own : ∀ i, OwnC K (cs i) (flE i)) : FnOk P w K mg base CX0 1 f fd ["_law_way", "_law_thing"] (spField cs) := by
  refine F.ok sc__law_field (fun vs H Q E h => ?_) (fun cdv A outer st H vs Q E hr h => ?_)
  · obtain ⟨i, x, c, rfl, _⟩ := h
    rfl
  · obtain ⟨i, x, c, rfl, ⟨dx, fv, hx, hf⟩, k⟩ := h
    have O := own i
    refine ⟨_, (pss_cons (ps_if (pt_cmpR op_eq (pv 0) pe_int (nomark _))
      (pss_one (ps_ret (pe_fld (pv 1) rfl)))
      pss_nil)
      (pss_one (ps_ret (pe_ifExp (pt_cmpR op_eq (pv 0) pe_int (nomark _)) (pe_fld (pv 1) rfl) (pe_fld (pv 1) rfl))))), ?_⟩
    refine use_seq (use_if ?_)
    match i, O, hx with
    | ⟨0, _⟩, O, hx =>
      refine ⟨_, rfl, rfl, _, rfl, ifT rfl ?_⟩
      exact ⟨_, rfl, x, _, dx, _, fv, rfl, hx, O.cl, O.no, look1, k fv hf⟩
    | ⟨2, _⟩, O, hx =>
      refine ⟨_, rfl, rfl, _, rfl, ifF rfl ?_⟩
      refine use_next ?_
      dsimp only
      refine use_ret ?_
      refine ⟨_, rfl, rfl, _, rfl, ?_⟩
      refine ifT rfl ?_
      exact ⟨_, rfl, x, _, dx, _, fv, rfl, hx, O.cl, O.no, look1, k fv hf⟩
    | ⟨1, _⟩, O, hx =>
      refine ⟨_, rfl, rfl, _, rfl, ifF rfl ?_⟩
      refine use_next ?_
      dsimp only
      refine use_ret ?_
      refine ⟨_, rfl, rfl, _, rfl, ?_⟩
      refine ifF rfl ?_
      exact ⟨_, rfl, x, _, dx, _, fv, rfl, hx, O.cl, O.no, look1, k fv hf⟩
    | ⟨3, _⟩, O, hx =>
      refine ⟨_, rfl, rfl, _, rfl, ifF rfl ?_⟩
      refine use_next ?_
      dsimp only
      refine use_ret ?_
      refine ⟨_, rfl, rfl, _, rfl, ?_⟩
      refine ifF rfl ?_
      exact ⟨_, rfl, x, _, dx, _, fv, rfl, hx, O.cl, O.no, look1, k fv hf⟩
    | ⟨4, _⟩, O, hx =>
      refine ⟨_, rfl, rfl, _, rfl, ifF rfl ?_⟩
      refine use_next ?_
      dsimp only
      refine use_ret ?_
      refine ⟨_, rfl, rfl, _, rfl, ?_⟩
      refine ifF rfl ?_
      exact ⟨_, rfl, x, _, dx, _, fv, rfl, hx, O.cl, O.no, look1, k fv hf⟩
end
end Q01


/-! what is refused -/
namespace Q01
open PySem PySem.Spec PyProof.Rows L2 QT LamX
def spRefused (T : List (Addr × Str)) : Sp := fun vs H Q _ => ∃ (i : Fin 5) (v : V) (c : Co), vs = [.int (i.val : Int), v] ∧ Tabs T H ∧ Ag H v c ∧ gdE i c = false ∧ ∀ H' : Hp, Kp H H' → Tabs T H' → Q (.bl true) H'
/-- side conditions; and the plain steps of a reading -/
local macro_rules | `(tactic| walk_at "sd") => `(tactic| first
  | assumption | decide | omega | exact b64 b01 | (show (0 : Int) < _; first | decide | omega) | exact ⟨by decide, by decide, by decide⟩ | exact ⟨by decide, by decide⟩ | exact ⟨by omega, by omega⟩
  | exact .inl ⟨by omega, by omega⟩ | exact .inr ⟨by omega, by omega⟩ | exact sz (by simp) | exact szl (by simp))
local macro_rules | `(tactic| walk_at "rd") => `(tactic| repeat (first
  | refine ⟨_, rfl, ?_⟩
  | refine ⟨_, _, rfl, rfl, ?_⟩
  | refine ⟨_, _, _, _, rfl, rfl, SqL.of (by first | assumption | exact upd_same), rfl, ?_⟩
  | refine .inl ⟨_, rfl, ?_⟩
  | refine .inr ⟨_, rfl, ?_⟩
  | refine ⟨_, _, _, _, rfl, rfl, (by first | assumption | exact upd_same), rfl, ?_⟩
  | refine And.intro (by walk_at "sd") ?_))
section
variable {P : Program} {w : World} {K : PySem.W.Frag} {mg : Str → Option Value} {base : Heap} {f : Addr} {fd : FuncData}
abbrev s__law_refused : Stmt := top 28
theorem sc__law_refused : FnScope ["_law_way", "_law_some", "_law_is_named", "_law_told", "e"] ["_law_way", "_law_some"] (defScope s__law_refused) := ⟨rfl, rfl, rfl, by decide +kernel, rfl, by decide +kernel, by decide +kernel⟩
theorem ok_refused {T0 : List (Addr × Str)} {cs : Fin 5 → Addr} {CV CN fN : Addr} (F : Fun K "_law_refused" "_law_refused" s__law_refused f fd) (T : Txt K mg) (N : ErrC K mg "NoValue" CV fN) (mN : mg "NestError" = some (.ref CN)) (nf : PySem.W.findIn K (.ref CV) "path" = some none)
    (xVV : PySem.W.exmOne K (.ref CV) (.ref CV) = some true) (c_made : CalX P w K mg base 7 "_law_made" (spMade T0 cs CV)) : FnOk P w K mg base CX0 8 f fd ["_law_way", "_law_some"] (spRefused T0) := by
  refine F.ok sc__law_refused (fun vs H Q E h => ?_) (fun cdv A outer st H vs Q E hr h => ?_)
  · obtain ⟨i, v, c, rfl, _⟩ := h
    rfl
  · obtain ⟨i, v, c, rfl, tb, ag, bad, k⟩ := h
    refine ⟨_, pss_cons (ps_for PassesOwn.never rfl (pi_tup (pe_tup (pa_cons pe_bl (pa_cons pe_bl pa_nil)))) (pg_name (i := 2) sc__law_refused.nd rfl (Or.inl rfl))
      (pss_cons (ps_set (i := 3) sc__law_refused.nd rfl (Or.inl rfl) pe_str) (pss_cons (ps_tryN rfl rfl L2.takes0
        (fun W pn xe tk _ => pss_one (ps_expr (pe_cX tk c_made hr (by decide) (by rfl) (pa_cons (pv 0) (pa_cons (pv 1) (pa_cons (pv 2) pa_nil))))))
        (.named (i := 4) ⟨by rfl, by decide, .inl N.mgC⟩ sc__law_refused.nd rfl rfl (fun a oe cls d pn hz hf => pss_one (ps_set (i := 3) sc__law_refused.nd rfl (Or.inl rfl) (pe_xf N.xf nf hz hf (pv 4))))
        (.bare ⟨by rfl, by decide, .inl mN⟩ (fun a oe cls d pn hz hf => pss_one (ps_set (i := 3) sc__law_refused.nd rfl (Or.inl rfl) pe_str)) .done)))
      (pss_one (ps_if (PW.pt (pw_or (pt_cmpR (op_neD hr.units) (pv 3) (pe_tup pa_nil) (nomark _)) (pw_or1 (pt_not (pt_val (pe_callB call_isi (by rfl) T.z_isinstance (by decide +kernel) (pa_cons (pv 3) (pa_cons (pe_bltn (v := .ty "tuple") (u := .type "tuple") (by rfl) T.z_tuple (by decide +kernel) rfl) pa_nil))))))))
        (pss_one (ps_ret pe_bl)) pss_nil))))) (pss_one (ps_ret pe_bl)), ?_⟩
    refine use_seq ?_
    refine ⟨sz (by simp), fun t nt => ⟨t, rfl, ⟨_, SqT.of upd_same⟩, ?_⟩⟩
    have S0 := same_new (o := .tup [V.bl false, V.bl true]) nt
    generalize hH0 : upd H t (.tup [V.bl false, V.bl true]) = Hs at S0
    have ht : Hs t = some (.tup [V.bl false, V.bl true]) := by
      rw [← hH0]
      exact upd_same
    refine for_it (walk_tup (K := K) (a := t) (xs := [V.bl false, V.bl true])) (fun _ σ H' => ∃ o1 o2 o3 : Option V, σ = [some (.int (i.val : Int)), some v, o1, o2, o3] ∧ Kp Hs H' ∧ Tabs T0 H') ⟨none, none, none, rfl, Kp.refl _, tabs_same tb S0⟩
      (fun _ _ _ _ ⟨_, _, _, _, kp, _⟩ => SqT.of (kp _ _ (noTu _) ht)) ?_ ?_
    · rintro j x σ G0 G1 hj ⟨o1, o2, o3, rfl, kp, tb1⟩ ⟨rfl, hx⟩
      obtain ⟨b, rfl⟩ : ∃ b, x = V.bl b := by
        have z := List.mem_of_getElem? hx
        simp only [List.mem_cons, List.mem_nil_iff, or_false] at z
        rcases z with rfl | rfl <;> exact ⟨_, rfl⟩
      try dsimp only
      refine use_seq (use_set ?_)
      show tSeq _ _ _ _ _
      refine use_seq ?_
      refine ⟨_, rfl, _, rfl, _, rfl, i, v, c, b, rfl, tb1, (ag.same S0).kp kp, fun g => ?_, fun _ H2 d p kp2 tb2 e1 e2 => ?_⟩
      · rw [bad] at g
        cases g
      · refine ⟨true, xVV, fun _ y ny => ?_, fun z => nomatch z⟩
        refine ⟨_, rfl, rfl, rfl, d, _, _, rfl, e1, look1, ?_⟩
        try dsimp only
        refine use_if ?_
        refine ⟨_, rfl, sz (by simp), fun q nq => ?_⟩
        have S3 := same_new (o := .tup []) nq
        refine ⟨.tuple [], .tuple [], .tup (SqT.of (S3 _ _ e2)) .nil, .tup (SqT.of upd_same) .nil, by decide, by decide, _, rfl, ifF (by decide) ?_⟩
        refine ⟨_, rfl, _, _, _, _, true, rfl, .ty _, (Pl.tup (S3 _ _ e2)).ty, kit_ty (a := "tuple") (b := "tuple") (by decide +kernel), true, rfl, ifF rfl ?_⟩
        refine use_next ?_
        exact ⟨_, _, _, rfl, (kp.trans kp2).trans (.of S3), tabs_same tb2 S3⟩
    · rintro σ G0 ⟨o1, o2, o3, rfl, kp, tb1⟩
      exact k _ ((Kp.of S0).trans kp) tb1
end
end Q01


/-! much that is refused -/
namespace Q01
open PySem PySem.Spec PyProof.Rows L2 QT LamX
/-- all but the state and tables stays -/
structure ExK (s : Addr) (T : List (Addr × Str)) (H H' : Hp) : Prop where
  keep : ∀ b o, b ≠ s → NoT o → H b = some o → H' b = some o
  st : Stt H' s
  tb : Tabs T H'
theorem Stt.kp {s : Addr} {H H' : Hp} (h : Stt H s) (k : Kp H H') : Stt H' s := by
  obtain ⟨x, y, z, a, b⟩ := h
  exact ⟨x, y, z, k _ _ (noL _) a, b⟩
theorem ExK.trans {s : Addr} {T : List (Addr × Str)} {H H1 H2 : Hp} (a : ExK s T H H1) (b : ExK s T H1 H2) : ExK s T H H2 := ⟨fun x o n z e => b.keep x o n z (a.keep x o n z e), b.st, b.tb⟩
theorem ExK.ofKp {s : Addr} {T : List (Addr × Str)} {H H1 : Hp} (k : Kp H H1) (h : Stt H s) (t : Tabs T H1) : ExK s T H H1 := ⟨fun x o _ z e => k x o z e, h.kp k, t⟩
theorem ExK.ofExt {s : Addr} {T : List (Addr × Str)} {H H1 : Hp} (x : Ext s H H1) (t : Tabs T H1) : ExK s T H H1 := ⟨fun b o n _ e => x.keep b o n e, x.st, t⟩
theorem ExK.kp {s : Addr} {T : List (Addr × Str)} {H H1 H2 : Hp} (a : ExK s T H H1) (k : Kp H1 H2) (t : Tabs T H2) : ExK s T H H2 := a.trans (.ofKp k a.st t)
theorem tabs_ext {s : Addr} {T : List (Addr × Str)} {H H' : Hp} (t : Tabs T H) (h : Stt H s) (x : Ext s H H') : Tabs T H' := fun p hp => by
  obtain ⟨ps, h1, h2, h3⟩ := t p hp
  obtain ⟨u, v, w, q, _⟩ := h
  refine ⟨ps, x.keep _ _ (ne_of h1 q (by intro z; cases z)) h1, h2, fun pos cv hc => ?_⟩
  obtain ⟨c, e1, e2⟩ := h3 pos cv hc
  exact ⟨c, e1, x.keep _ _ (ne_of e2 q (by unfold CodeO; intro z; cases z)) e2⟩
theorem new_at {H : Hp} {l : Addr} {o : HO} (_ : H l = none) : upd H l o l = some o := upd_same
theorem new_at2 {H : Hp} {l : Addr} {o o2 : HO} (_ : H l = none) : upd (upd H l o) l o2 l = some o2 := upd_same
theorem same_new2 {H : Hp} {l : Addr} {o o2 : HO} (n : H l = none) : Same H (upd (upd H l o) l o2) := fun b u e => by
  rw [upd_ne (ne_of_none e n), upd_ne (ne_of_none e n)]
  exact e
/-- refused by the classes that are meant -/
def Bd (is : Fin 5 → Prop) (H : Hp) (v : V) : Prop := ∃ c, Ag H v c ∧ ∀ i, is i → gdE i c = false
theorem Bd.kp {is : Fin 5 → Prop} {H H' : Hp} {v : V} (h : Bd is H v) (k : Kp H H') : Bd is H' v := by
  obtain ⟨c, a, b⟩ := h
  exact ⟨c, a.kp k, b⟩
theorem pl0 {H : Hp} : ∀ x ∈ ([] : List V), ∃ t, Pl H x t := fun x hx => absurd hx (by simp)
theorem pl1 {H : Hp} {v : V} {t : String} {xs : List V} (h : Pl H v t) (r : ∀ x ∈ xs, ∃ t, Pl H x t) : ∀ x ∈ v :: xs, ∃ t, Pl H x t := fun x hx => by
  rcases List.mem_cons.mp hx with rfl | hx
  · exact ⟨t, h⟩
  · exact r x hx
theorem bd0 {is : Fin 5 → Prop} {H : Hp} : ∀ x ∈ ([] : List V), Bd is H x := fun x hx => absurd hx (by simp)
theorem bd1 {is : Fin 5 → Prop} {H : Hp} {v : V} {xs : List V} (h : Bd is H v) (r : ∀ x ∈ xs, Bd is H x) : ∀ x ∈ v :: xs, Bd is H x := fun x hx => by
  rcases List.mem_cons.mp hx with rfl | hx
  · exact h
  · exact r x hx
theorem els_bad : ∀ i, gdE i .els = false
  | ⟨0, _⟩ | ⟨1, _⟩ | ⟨2, _⟩ | ⟨3, _⟩ | ⟨4, _⟩ => rfl
theorem num_bad {n : Int} : ∀ i : Fin 5, i.val ≠ 2 → gdE i (.num n) = false
  | ⟨0, _⟩, _ | ⟨1, _⟩, _ | ⟨3, _⟩, _ | ⟨4, _⟩, _ => rfl
  | ⟨2, _⟩, h => absurd rfl h
theorem all_less {xs : List V} (h : xs.all (numB 65535) = false) : xs.all (numB 255) = false := by
  cases e : xs.all (numB 255) with
  | false => rfl
  | true =>
    have z : xs.all (numB 65535) = true := List.all_eq_true.mpr fun x hx => by
      have y := List.all_eq_true.mp e x hx
      cases x with
      | int i =>
        have y2 : (decide (0 ≤ i) && decide (i ≤ 255)) = true := y
        rw [Bool.and_eq_true, decide_eq_true_eq, decide_eq_true_eq] at y2
        show (decide (0 ≤ i) && decide (i ≤ 65535)) = true
        rw [decide_eq_true y2.1, decide_eq_true (show i ≤ 65535 by omega)]
        rfl
      | _ => cases y
    rw [h] at z
    cases z
theorem seq_bad {xs : List V} (h : xs.all (numB 65535) = false) : ∀ i, gdE i (.seq xs) = false
  | ⟨0, _⟩ => by
    show (xs.all (numB 65535) && _) = false
    rw [h, Bool.false_and]
  | ⟨1, _⟩ => all_less h
  | ⟨2, _⟩ => rfl
  | ⟨3, _⟩ => by
    show (xs.all (numB 255) && _) = false
    rw [all_less h, Bool.false_and]
  | ⟨4, _⟩ => by
    show (xs.all (numB 255) && _) = false
    rw [all_less h, Bool.false_and]
theorem plain_bad {xs : List V} (h : xs.all plB = true) : ∀ i : Fin 5, i.val = 0 → gdE i (.seq xs) = false
  | ⟨0, _⟩, _ => by
    show (_ && !(xs.all plB)) = false
    rw [h]
    exact Bool.and_false _
  | ⟨1, _⟩, z => absurd (show (1 : Nat) = 0 from z) (by decide)
  | ⟨2, _⟩, z => absurd (show (2 : Nat) = 0 from z) (by decide)
  | ⟨3, _⟩, z => absurd (show (3 : Nat) = 0 from z) (by decide)
  | ⟨4, _⟩, z => absurd (show (4 : Nat) = 0 from z) (by decide)
theorem uid_bad {c : Co} (h : goodU c = false) : ∀ i : Fin 5, i.val = 2 → gdE i c = false
  | ⟨2, _⟩, _ => h
  | ⟨0, _⟩, z => absurd (show (0 : Nat) = 2 from z) (by decide)
  | ⟨1, _⟩, z => absurd (show (1 : Nat) = 2 from z) (by decide)
  | ⟨3, _⟩, z => absurd (show (3 : Nat) = 2 from z) (by decide)
  | ⟨4, _⟩, z => absurd (show (4 : Nat) = 2 from z) (by decide)
theorem ones_len {n : Nat} {v : V} : ((List.replicate n [v]).flatten).length = n := by
  rw [List.length_flatten, List.map_replicate]
  simp
theorem ones_pl {H : Hp} {n : Nat} {k : Int} : ∀ x ∈ (List.replicate n [V.int k]).flatten, ∃ t, Pl H x t := fun x hx => by
  obtain ⟨l, h1, h2⟩ := List.mem_flatten.mp hx
  rw [List.eq_of_mem_replicate h1] at h2
  rw [List.mem_singleton.mp h2]
  exact ⟨_, .int k⟩
theorem ones_bad {n : Nat} {v : V} (h4 : n ≠ 4) (h8 : n ≠ 8) : goodR (.seq (List.replicate n [v]).flatten) = false ∧ goodT (.seq (List.replicate n [v]).flatten) = false := by
  constructor
  · show (_ && (decide ((List.replicate n [v]).flatten.length = 4) || decide ((List.replicate n [v]).flatten.length = 8))) = false
    rw [ones_len, decide_eq_false h4, decide_eq_false h8]
    exact Bool.and_false _
  · show (_ && decide ((List.replicate n [v]).flatten.length = 8)) = false
    rw [ones_len, decide_eq_false h8]
    exact Bool.and_false _
/-- where a loop stands -/
structure At (s l : Addr) (T : List (Addr × Str)) (LL : List V) (is : Fin 5 → Prop) (H G : Hp) : Prop where
  ex : ExK s T H G
  at_ : G l = some (.lst LL)
  bd : ∀ x ∈ LL, Bd is G x
theorem At.kp {s l : Addr} {T : List (Addr × Str)} {LL : List V} {is : Fin 5 → Prop} {H G G' : Hp} (h : At s l T LL is H G) (k : Kp G G') (t : Tabs T G') : At s l T LL is H G' :=
  ⟨h.ex.kp k t, k _ _ (noL _) h.at_, fun x hx => (h.bd x hx).kp k⟩
def spOdd (T : List (Addr × Str)) : Sp := fun vs H Q _ => ∃ s : Addr, vs = [.ref s] ∧ Stt H s ∧ Tabs T H ∧ ∀ H' : Hp, ExK s T H H' → Q (.bl true) H'
/-- side conditions; and the plain steps of a reading -/
local macro_rules | `(tactic| walk_at "sd") => `(tactic| first
  | assumption | decide | omega | exact b64 b01 | (show (0 : Int) < _; first | decide | omega) | exact ⟨by decide, by decide, by decide⟩ | exact ⟨by decide, by decide⟩ | exact ⟨by omega, by omega⟩
  | exact .inl ⟨by omega, by omega⟩ | exact .inr ⟨by omega, by omega⟩ | exact sz (by simp) | exact szl (by simp))
local macro_rules | `(tactic| walk_at "rd") => `(tactic| repeat (first
  | refine ⟨_, rfl, ?_⟩
  | refine ⟨_, _, rfl, rfl, ?_⟩
  | refine ⟨_, _, _, _, rfl, rfl, SqL.of (by first | assumption | exact upd_same), rfl, ?_⟩
  | refine .inl ⟨_, rfl, ?_⟩
  | refine .inr ⟨_, rfl, ?_⟩
  | refine ⟨_, _, _, _, rfl, rfl, (by first | assumption | exact upd_same), rfl, ?_⟩
  | refine And.intro (by walk_at "sd") ?_))
section
variable {P : Program} {w : World} {K : PySem.W.Frag} {mg : Str → Option Value} {base : Heap} {f : Addr} {fd : FuncData}
abbrev s__law_odd_right : Stmt := top 29
theorem sc__law_odd_right : FnScope ["_law_source_here", "_law_odd", "_law_some", "_law_way", "_law_many"] ["_law_source_here"] (defScope s__law_odd_right) := ⟨rfl, rfl, rfl, by decide +kernel, rfl, by decide +kernel, by decide +kernel⟩
theorem ok_odd {T0 : List (Addr × Str)} (F : Fun K "_law_odd_right" "_law_odd_right" s__law_odd_right f fd) (T : Txt K mg) (c_pick : Cal P w K mg base 2 "_law_pick" (spPick K)) (c_refused : Cal P w K mg base 8 "_law_refused" (spRefused T0)) :
    FnOk P w K mg base CX0 9 f fd ["_law_source_here"] (spOdd T0) := by
  refine F.ok sc__law_odd_right (fun vs H Q E h => ?_) (fun cdv A outer stt H vs Q E hr h => ?_)
  · obtain ⟨s, rfl, _⟩ := h
    rfl
  · obtain ⟨s, rfl, hs, tb, k⟩ := h
    refine ⟨_, (pss_cons (ps_set (i := 1) sc__law_odd_right.nd rfl (Or.inl rfl) (pe_lst (pa_cons pe_non (pa_cons pe_bl (pa_cons pe_str (pa_cons pe_str (pa_cons (pe_un un_neg pe_int) (pa_cons pe_dnewK (pa_cons (pe_disp (pps_cons pe_str pe_int pps_nil) (by rfl) (by rfl) (fun z => by cases z) (by decide)) (pa_cons (pe_lst (pa_cons pe_bl pa_nil)) (pa_cons (pe_lst (pa_cons pe_non pa_nil)) (pa_cons (pe_lst (pa_cons pe_str pa_nil)) (pa_cons (pe_lst (pa_cons (pe_lst (pa_cons pe_int pa_nil)) pa_nil)) (pa_cons (pe_lst (pa_cons (pe_un un_neg pe_int) pa_nil)) (pa_cons (pe_lst (pa_cons pe_int pa_nil)) (pa_cons (pe_lst (pa_cons pe_int (pa_cons pe_int pa_nil))) pa_nil))))))))))))))))
      (pss_cons (ps_for PassesOwn.never rfl (pi_list (pe_op op_catS (pv 1) (pe_lst (pa_cons (pe_tup (pa_cons pe_int (pa_cons (pe_un un_neg pe_int) pa_nil))) (pa_cons (pe_lst (pa_cons (pe_op op_pow pe_int pe_int) pa_nil)) (pa_cons (pe_lst (pa_cons pe_int (pa_cons pe_int (pa_cons pe_non pa_nil)))) (pa_cons (pe_tup (pa_cons (pe_tup (pa_cons pe_int pa_nil)) pa_nil)) pa_nil))))))) (pg_name (i := 2) sc__law_odd_right.nd rfl (Or.inl rfl))
      (pss_one (ps_for PassesOwn.never rfl (pi_tup (pe_tup (pa_cons pe_int (pa_cons pe_int (pa_cons pe_int (pa_cons pe_int pa_nil)))))) (pg_name (i := 3) sc__law_odd_right.nd rfl (Or.inl rfl))
        (pss_one (ps_if (pt_not (pt_val (pe_c c_refused hr (by decide) (by rfl) (pa_cons (pv 3) (pa_cons (pv 2) pa_nil)))))
          (pss_one (ps_ret pe_bl))
          pss_nil)))))
      (pss_cons (ps_for PassesOwn.never rfl (pi_list (pe_lst (pa_cons (pe_lst pa_nil) (pa_cons (pe_tup pa_nil) (pa_cons (pe_lst (pa_cons pe_int pa_nil)) (pa_cons (pe_lst (pa_cons pe_int (pa_cons pe_int pa_nil))) (pa_cons (pe_op op_rep (pe_lst (pa_cons pe_int (pa_cons pe_int pa_nil))) pe_int) (pa_cons (pe_op op_rep (pe_lst (pa_cons (pe_c c_pick hr (by decide) (by rfl) (pa_cons (pv 0) (pa_cons (pe_lst (pa_cons pe_int (pa_cons pe_int (pa_cons pe_int pa_nil)))) pa_nil))) pa_nil)) pe_int) pa_nil)))))))) (pg_name (i := 2) sc__law_odd_right.nd rfl (Or.inl rfl))
      (pss_one (ps_if (pt_not (pt_val (pe_c c_refused hr (by decide) (by rfl) (pa_cons pe_int (pa_cons (pv 2) pa_nil)))))
        (pss_one (ps_ret pe_bl))
        pss_nil)))
      (pss_cons (ps_for PassesOwn.never rfl (pi_list (pe_lst (pa_cons (pe_un un_neg pe_int) (pa_cons (pe_op op_pow pe_int pe_int) (pa_cons (pe_op op_pow pe_int pe_int) (pa_cons pe_non (pa_cons pe_bl (pa_cons pe_bl (pa_cons pe_str (pa_cons (pe_lst (pa_cons pe_int pa_nil)) (pa_cons (pe_tup pa_nil) (pa_cons pe_dnewK (pa_cons (pe_un un_neg (pe_op op_pow pe_int pe_int)) pa_nil))))))))))))) (pg_name (i := 2) sc__law_odd_right.nd rfl (Or.inl rfl))
      (pss_one (ps_if (pt_not (pt_val (pe_c c_refused hr (by decide) (by rfl) (pa_cons pe_int (pa_cons (pv 2) pa_nil)))))
        (pss_one (ps_ret pe_bl))
        pss_nil)))
      (pss_cons (ps_for PassesOwn.never rfl (pi_list (pe_lst (pa_cons pe_int (pa_cons pe_int (pa_cons pe_int (pa_cons pe_int (pa_cons pe_int (pa_cons pe_int (pa_cons pe_int (pa_cons pe_int pa_nil)))))))))) (pg_name (i := 4) sc__law_odd_right.nd rfl (Or.inl rfl))
      (pss_one (ps_if (PW.pt (pw_or (pt_not (pt_val (pe_c c_refused hr (by decide) (by rfl) (pa_cons pe_int (pa_cons (pe_op op_rep (pe_lst (pa_cons pe_int pa_nil)) (pv 4)) pa_nil))))) (pw_or1 (pt_not (pt_val (pe_c c_refused hr (by decide) (by rfl) (pa_cons pe_int (pa_cons (pe_callTy call_tuple_of (by rfl) T.z_tuple (by decide +kernel) (pa_cons (pe_op op_rep (pe_lst (pa_cons pe_int pa_nil)) (pv 4)) pa_nil)) pa_nil))))))))
        (pss_one (ps_ret pe_bl))
        pss_nil)))
      (pss_one (ps_ret (pe_and (pe_c c_refused hr (by decide) (by rfl) (pa_cons pe_int (pa_cons (pe_op op_rep (pe_lst (pa_cons pe_int pa_nil)) pe_int) pa_nil))) (pe_and (pe_c c_refused hr (by decide) (by rfl) (pa_cons pe_int (pa_cons (pe_lst (pa_cons pe_int (pa_cons pe_int pa_nil))) pa_nil))) (pe_one (pe_c c_refused hr (by decide) (by rfl) (pa_cons pe_int (pa_cons (pe_lst (pa_cons pe_int (pa_cons pe_int (pa_cons pe_int (pa_cons pe_int pa_nil))))) pa_nil))))))))))))), ?_⟩
    have base := Kp.refl H
    refine use_seq ?_
    refine ⟨_, rfl, ?_⟩
    refine fun l0 n0 => ?_
    have S0 := same_new (o := .dK []) n0
    replace base := base.trans (.of S0)
    replace tb := tabs_same tb S0
    have h0 := new_at (o := HO.dK []) n0
    refine fun l1 n1 => ⟨upd_same, [(Sum.inr "a", V.int 1)], rfl, (by decide), ?_⟩
    have S1 := same_new2 (o := .dK []) (o2 := .dK (mergeK [] [(Sum.inr "a", V.int 1)])) n1
    replace h0 := S1 _ _ h0
    replace base := base.trans (.of S1)
    replace tb := tabs_same tb S1
    have h1 := new_at2 (o := .dK []) (o2 := HO.dK (mergeK [] [(Sum.inr "a", V.int 1)])) n1
    refine ⟨sz (by simp), fun l2 n2 => ?_⟩
    have S2 := same_new (o := .lst [V.bl true]) n2
    replace h0 := S2 _ _ h0
    replace h1 := S2 _ _ h1
    replace base := base.trans (.of S2)
    replace tb := tabs_same tb S2
    have h2 := new_at (o := HO.lst [V.bl true]) n2
    refine ⟨sz (by simp), fun l3 n3 => ?_⟩
    have S3 := same_new (o := .lst [V.non]) n3
    replace h0 := S3 _ _ h0
    replace h1 := S3 _ _ h1
    replace h2 := S3 _ _ h2
    replace base := base.trans (.of S3)
    replace tb := tabs_same tb S3
    have h3 := new_at (o := HO.lst [V.non]) n3
    refine ⟨sz (by simp), fun l4 n4 => ?_⟩
    have S4 := same_new (o := .lst [V.str "a"]) n4
    replace h0 := S4 _ _ h0
    replace h1 := S4 _ _ h1
    replace h2 := S4 _ _ h2
    replace h3 := S4 _ _ h3
    replace base := base.trans (.of S4)
    replace tb := tabs_same tb S4
    have h4 := new_at (o := HO.lst [V.str "a"]) n4
    refine ⟨sz (by simp), fun l5 n5 => ?_⟩
    have S5 := same_new (o := .lst [V.int 1]) n5
    replace h0 := S5 _ _ h0
    replace h1 := S5 _ _ h1
    replace h2 := S5 _ _ h2
    replace h3 := S5 _ _ h3
    replace h4 := S5 _ _ h4
    replace base := base.trans (.of S5)
    replace tb := tabs_same tb S5
    have h5 := new_at (o := HO.lst [V.int 1]) n5
    refine ⟨sz (by simp), fun l6 n6 => ?_⟩
    have S6 := same_new (o := .lst [V.ref l5]) n6
    replace h0 := S6 _ _ h0
    replace h1 := S6 _ _ h1
    replace h2 := S6 _ _ h2
    replace h3 := S6 _ _ h3
    replace h4 := S6 _ _ h4
    replace h5 := S6 _ _ h5
    replace base := base.trans (.of S6)
    replace tb := tabs_same tb S6
    have h6 := new_at (o := HO.lst [V.ref l5]) n6
    refine ⟨_, rfl, ?_⟩
    refine ⟨sz (by simp), fun l7 n7 => ?_⟩
    have S7 := same_new (o := .lst [V.int (-1)]) n7
    replace h0 := S7 _ _ h0
    replace h1 := S7 _ _ h1
    replace h2 := S7 _ _ h2
    replace h3 := S7 _ _ h3
    replace h4 := S7 _ _ h4
    replace h5 := S7 _ _ h5
    replace h6 := S7 _ _ h6
    replace base := base.trans (.of S7)
    replace tb := tabs_same tb S7
    have h7 := new_at (o := HO.lst [V.int (-1)]) n7
    refine ⟨sz (by simp), fun l8 n8 => ?_⟩
    have S8 := same_new (o := .lst [V.int 65536]) n8
    replace h0 := S8 _ _ h0
    replace h1 := S8 _ _ h1
    replace h2 := S8 _ _ h2
    replace h3 := S8 _ _ h3
    replace h4 := S8 _ _ h4
    replace h5 := S8 _ _ h5
    replace h6 := S8 _ _ h6
    replace h7 := S8 _ _ h7
    replace base := base.trans (.of S8)
    replace tb := tabs_same tb S8
    have h8 := new_at (o := HO.lst [V.int 65536]) n8
    refine ⟨sz (by simp), fun l9 n9 => ?_⟩
    have S9 := same_new (o := .lst [V.int 0, V.int 65536]) n9
    replace h0 := S9 _ _ h0
    replace h1 := S9 _ _ h1
    replace h2 := S9 _ _ h2
    replace h3 := S9 _ _ h3
    replace h4 := S9 _ _ h4
    replace h5 := S9 _ _ h5
    replace h6 := S9 _ _ h6
    replace h7 := S9 _ _ h7
    replace h8 := S9 _ _ h8
    replace base := base.trans (.of S9)
    replace tb := tabs_same tb S9
    have h9 := new_at (o := HO.lst [V.int 0, V.int 65536]) n9
    refine ⟨sz (by simp), fun l10 n10 => ?_⟩
    have S10 := same_new (o := .lst [V.non, V.bl true, V.str "ab", V.str "", V.int (-1), V.ref l0, V.ref l1, V.ref l2, V.ref l3, V.ref l4, V.ref l6, V.ref l7, V.ref l8, V.ref l9]) n10
    replace h0 := S10 _ _ h0
    replace h1 := S10 _ _ h1
    replace h2 := S10 _ _ h2
    replace h3 := S10 _ _ h3
    replace h4 := S10 _ _ h4
    replace h5 := S10 _ _ h5
    replace h6 := S10 _ _ h6
    replace h7 := S10 _ _ h7
    replace h8 := S10 _ _ h8
    replace h9 := S10 _ _ h9
    replace base := base.trans (.of S10)
    replace tb := tabs_same tb S10
    have h10 := new_at (o := HO.lst [V.non, V.bl true, V.str "ab", V.str "", V.int (-1), V.ref l0, V.ref l1, V.ref l2, V.ref l3, V.ref l4, V.ref l6, V.ref l7, V.ref l8, V.ref l9]) n10
    try dsimp only
    refine use_seq ?_
    refine ⟨_, rfl, ?_⟩
    refine ⟨_, rfl, ?_⟩
    refine ⟨sz (by simp), fun l11 n11 => ?_⟩
    have S11 := same_new (o := .tup [V.int 0, V.int (-1)]) n11
    replace h0 := S11 _ _ h0
    replace h1 := S11 _ _ h1
    replace h2 := S11 _ _ h2
    replace h3 := S11 _ _ h3
    replace h4 := S11 _ _ h4
    replace h5 := S11 _ _ h5
    replace h6 := S11 _ _ h6
    replace h7 := S11 _ _ h7
    replace h8 := S11 _ _ h8
    replace h9 := S11 _ _ h9
    replace h10 := S11 _ _ h10
    replace base := base.trans (.of S11)
    replace tb := tabs_same tb S11
    have h11 := new_at (o := HO.tup [V.int 0, V.int (-1)]) n11
    refine ⟨_, _, rfl, rfl, by walk_at "sd", ?_⟩
    refine ⟨sz (by simp), fun l12 n12 => ?_⟩
    have S12 := same_new (o := .lst [V.int (10 ^ 30)]) n12
    replace h0 := S12 _ _ h0
    replace h1 := S12 _ _ h1
    replace h2 := S12 _ _ h2
    replace h3 := S12 _ _ h3
    replace h4 := S12 _ _ h4
    replace h5 := S12 _ _ h5
    replace h6 := S12 _ _ h6
    replace h7 := S12 _ _ h7
    replace h8 := S12 _ _ h8
    replace h9 := S12 _ _ h9
    replace h10 := S12 _ _ h10
    replace h11 := S12 _ _ h11
    replace base := base.trans (.of S12)
    replace tb := tabs_same tb S12
    have h12 := new_at (o := HO.lst [V.int (10 ^ 30)]) n12
    refine ⟨sz (by simp), fun l13 n13 => ?_⟩
    have S13 := same_new (o := .lst [V.int 1, V.int 2, V.non]) n13
    replace h0 := S13 _ _ h0
    replace h1 := S13 _ _ h1
    replace h2 := S13 _ _ h2
    replace h3 := S13 _ _ h3
    replace h4 := S13 _ _ h4
    replace h5 := S13 _ _ h5
    replace h6 := S13 _ _ h6
    replace h7 := S13 _ _ h7
    replace h8 := S13 _ _ h8
    replace h9 := S13 _ _ h9
    replace h10 := S13 _ _ h10
    replace h11 := S13 _ _ h11
    replace h12 := S13 _ _ h12
    replace base := base.trans (.of S13)
    replace tb := tabs_same tb S13
    have h13 := new_at (o := HO.lst [V.int 1, V.int 2, V.non]) n13
    refine ⟨sz (by simp), fun l14 n14 => ?_⟩
    have S14 := same_new (o := .tup [V.int 1]) n14
    replace h0 := S14 _ _ h0
    replace h1 := S14 _ _ h1
    replace h2 := S14 _ _ h2
    replace h3 := S14 _ _ h3
    replace h4 := S14 _ _ h4
    replace h5 := S14 _ _ h5
    replace h6 := S14 _ _ h6
    replace h7 := S14 _ _ h7
    replace h8 := S14 _ _ h8
    replace h9 := S14 _ _ h9
    replace h10 := S14 _ _ h10
    replace h11 := S14 _ _ h11
    replace h12 := S14 _ _ h12
    replace h13 := S14 _ _ h13
    replace base := base.trans (.of S14)
    replace tb := tabs_same tb S14
    have h14 := new_at (o := HO.tup [V.int 1]) n14
    refine ⟨sz (by simp), fun l15 n15 => ?_⟩
    have S15 := same_new (o := .tup [V.ref l14]) n15
    replace h0 := S15 _ _ h0
    replace h1 := S15 _ _ h1
    replace h2 := S15 _ _ h2
    replace h3 := S15 _ _ h3
    replace h4 := S15 _ _ h4
    replace h5 := S15 _ _ h5
    replace h6 := S15 _ _ h6
    replace h7 := S15 _ _ h7
    replace h8 := S15 _ _ h8
    replace h9 := S15 _ _ h9
    replace h10 := S15 _ _ h10
    replace h11 := S15 _ _ h11
    replace h12 := S15 _ _ h12
    replace h13 := S15 _ _ h13
    replace h14 := S15 _ _ h14
    replace base := base.trans (.of S15)
    replace tb := tabs_same tb S15
    have h15 := new_at (o := HO.tup [V.ref l14]) n15
    refine ⟨sz (by simp), fun l16 n16 => ?_⟩
    have S16 := same_new (o := .lst [V.ref l11, V.ref l12, V.ref l13, V.ref l15]) n16
    replace h0 := S16 _ _ h0
    replace h1 := S16 _ _ h1
    replace h2 := S16 _ _ h2
    replace h3 := S16 _ _ h3
    replace h4 := S16 _ _ h4
    replace h5 := S16 _ _ h5
    replace h6 := S16 _ _ h6
    replace h7 := S16 _ _ h7
    replace h8 := S16 _ _ h8
    replace h9 := S16 _ _ h9
    replace h10 := S16 _ _ h10
    replace h11 := S16 _ _ h11
    replace h12 := S16 _ _ h12
    replace h13 := S16 _ _ h13
    replace h14 := S16 _ _ h14
    replace h15 := S16 _ _ h15
    replace base := base.trans (.of S16)
    replace tb := tabs_same tb S16
    have h16 := new_at (o := HO.lst [V.ref l11, V.ref l12, V.ref l13, V.ref l15]) n16
    refine ⟨l10, l16, _, _, rfl, rfl, SqL.of h10, SqL.of h16, sz (by simp), fun l17 n17 => ?_⟩
    have S17 := same_new (o := .lst ([V.non, V.bl true, V.str "ab", V.str "", V.int (-1), V.ref l0, V.ref l1, V.ref l2, V.ref l3, V.ref l4, V.ref l6, V.ref l7, V.ref l8, V.ref l9] ++ [V.ref l11, V.ref l12, V.ref l13, V.ref l15])) n17
    replace h0 := S17 _ _ h0
    replace h1 := S17 _ _ h1
    replace h2 := S17 _ _ h2
    replace h3 := S17 _ _ h3
    replace h4 := S17 _ _ h4
    replace h5 := S17 _ _ h5
    replace h6 := S17 _ _ h6
    replace h7 := S17 _ _ h7
    replace h8 := S17 _ _ h8
    replace h9 := S17 _ _ h9
    replace h10 := S17 _ _ h10
    replace h11 := S17 _ _ h11
    replace h12 := S17 _ _ h12
    replace h13 := S17 _ _ h13
    replace h14 := S17 _ _ h14
    replace h15 := S17 _ _ h15
    replace h16 := S17 _ _ h16
    replace base := base.trans (.of S17)
    replace tb := tabs_same tb S17
    have h17 := new_at (o := HO.lst ([V.non, V.bl true, V.str "ab", V.str "", V.int (-1), V.ref l0, V.ref l1, V.ref l2, V.ref l3, V.ref l4, V.ref l6, V.ref l7, V.ref l8, V.ref l9] ++ [V.ref l11, V.ref l12, V.ref l13, V.ref l15])) n17
    refine ⟨l17, rfl, ⟨_, SqL.of h17⟩, ?_⟩
    have all : ∀ x ∈ ([V.non, V.bl true, V.str "ab", V.str "", V.int (-1), V.ref l0, V.ref l1, V.ref l2, V.ref l3, V.ref l4, V.ref l6, V.ref l7, V.ref l8, V.ref l9, V.ref l11, V.ref l12, V.ref l13, V.ref l15]), Bd (fun i => i.val ≠ 2) _ x := (bd1 ⟨_, .els .non (by simp), fun i _ => els_bad i⟩
        (bd1 ⟨_, .els (.bl _) (by simp), fun i _ => els_bad i⟩
        (bd1 ⟨_, .els (.str _) (by simp), fun i _ => els_bad i⟩
        (bd1 ⟨_, .els (.str _) (by simp), fun i _ => els_bad i⟩
        (bd1 ⟨_, .num _, num_bad⟩
        (bd1 ⟨_, .els (.dk h0) (by simp), fun i _ => els_bad i⟩
        (bd1 ⟨_, .els (.dk h1) (by simp), fun i _ => els_bad i⟩
        (bd1 ⟨_, .lst h2 (by first | decide | (rw [ones_len]; decide) | simp) (pl1 (.bl _) pl0), fun i _ => seq_bad (by rfl) i⟩
        (bd1 ⟨_, .lst h3 (by first | decide | (rw [ones_len]; decide) | simp) (pl1 .non pl0), fun i _ => seq_bad (by rfl) i⟩
        (bd1 ⟨_, .lst h4 (by first | decide | (rw [ones_len]; decide) | simp) (pl1 (.str _) pl0), fun i _ => seq_bad (by rfl) i⟩
        (bd1 ⟨_, .lst h6 (by first | decide | (rw [ones_len]; decide) | simp) (pl1 (.lst h5) pl0), fun i _ => seq_bad (by rfl) i⟩
        (bd1 ⟨_, .lst h7 (by first | decide | (rw [ones_len]; decide) | simp) (pl1 (.int _) pl0), fun i _ => seq_bad (by rfl) i⟩
        (bd1 ⟨_, .lst h8 (by first | decide | (rw [ones_len]; decide) | simp) (pl1 (.int _) pl0), fun i _ => seq_bad (by rfl) i⟩
        (bd1 ⟨_, .lst h9 (by first | decide | (rw [ones_len]; decide) | simp) (pl1 (.int _) (pl1 (.int _) pl0)), fun i _ => seq_bad (by rfl) i⟩
        (bd1 ⟨_, .tup h11 (by first | decide | (rw [ones_len]; decide) | simp) (pl1 (.int _) (pl1 (.int _) pl0)), fun i _ => seq_bad (by rfl) i⟩
        (bd1 ⟨_, .lst h12 (by first | decide | (rw [ones_len]; decide) | simp) (pl1 (.int _) pl0), fun i _ => seq_bad (by rfl) i⟩
        (bd1 ⟨_, .lst h13 (by first | decide | (rw [ones_len]; decide) | simp) (pl1 (.int _) (pl1 (.int _) (pl1 .non pl0))), fun i _ => seq_bad (by rfl) i⟩
        (bd1 ⟨_, .tup h15 (by first | decide | (rw [ones_len]; decide) | simp) (pl1 (.tup h14) pl0), fun i _ => seq_bad (by rfl) i⟩
        bd0))))))))))))))))))
    have at0 : At s l17 T0 ([V.non, V.bl true, V.str "ab", V.str "", V.int (-1), V.ref l0, V.ref l1, V.ref l2, V.ref l3, V.ref l4, V.ref l6, V.ref l7, V.ref l8, V.ref l9] ++ [V.ref l11, V.ref l12, V.ref l13, V.ref l15]) (fun i => i.val ≠ 2) H _ := ⟨.ofKp base hs tb, h17, all⟩
    clear all base tb h0 h1 h2 h3 h4 h5 h6 h7 h8 h9 h10 h11 h12 h13 h14 h15 h16
    generalize ([V.non, V.bl true, V.str "ab", V.str "", V.int (-1), V.ref l0, V.ref l1, V.ref l2, V.ref l3, V.ref l4, V.ref l6, V.ref l7, V.ref l8, V.ref l9] ++ [V.ref l11, V.ref l12, V.ref l13, V.ref l15]) = LL at at0 ⊢
    refine for_it (walk_list (K := K) (a := l17) (xs := LL)) (fun _ σ G => ∃ o2 o3 o4 : Option V, σ = [some (.ref s), some (.ref l10), o2, o3, o4] ∧ At s l17 T0 LL (fun i => i.val ≠ 2) H G) ⟨none, none, none, rfl, at0⟩ (fun _ _ _ _ ⟨_, _, _, _, h⟩ => SqL.of h.at_) ?_ ?_
    · rintro j x σ G0 G1 hj ⟨o2, o3, o4, rfl, h⟩ ⟨rfl, hx⟩
      have bx := h.bd x (List.mem_of_getElem? hx)
      refine ⟨sz (by simp), fun t nt => ⟨t, rfl, ⟨_, SqT.of upd_same⟩, ?_⟩⟩
      have S0 := same_new (o := .tup [V.int 0, V.int 1, V.int 3, V.int 4]) nt
      have h0 := h.kp (.of S0) (tabs_same h.ex.tb S0)
      have ht := new_at (o := HO.tup [V.int 0, V.int 1, V.int 3, V.int 4]) nt
      have bx0 := bx.kp (.of S0)
      refine for_it (walk_tup (K := K) (a := t) (xs := [V.int 0, V.int 1, V.int 3, V.int 4])) (fun _ σ G => ∃ o3 o4 : Option V, σ = [some (.ref s), some (.ref l10), some x, o3, o4] ∧ At s l17 T0 LL (fun i => i.val ≠ 2) H G ∧ Bd (fun i => i.val ≠ 2) G x ∧ G t = some (.tup [V.int 0, V.int 1, V.int 3, V.int 4])) ⟨_, _, rfl, h0, bx0, ht⟩ (fun _ _ _ _ ⟨_, _, _, _, _, h⟩ => SqT.of h) ?_ ?_
      · rintro j2 y σ G2 G3 hj2 ⟨o3, o4, rfl, h2, b2, t2⟩ ⟨rfl, hy⟩
        obtain ⟨i, ni, rfl⟩ : ∃ i : Fin 5, i.val ≠ 2 ∧ y = V.int (i.val : Int) := by
          have z := List.mem_of_getElem? hy
          simp only [List.mem_cons, List.mem_nil_iff, or_false] at z
          rcases z with rfl | rfl | rfl | rfl
          · exact ⟨⟨0, by decide⟩, by decide, rfl⟩
          · exact ⟨⟨1, by decide⟩, by decide, rfl⟩
          · exact ⟨⟨3, by decide⟩, by decide, rfl⟩
          · exact ⟨⟨4, by decide⟩, by decide, rfl⟩
        obtain ⟨c, ag, bad⟩ := b2
        try dsimp only
        refine use_if ?_
        refine ⟨_, rfl, _, rfl, i, x, c, rfl, h2.ex.tb, ag, bad i ni, fun G4 kp4 tb4 => ⟨_, rfl, ifF rfl ?_⟩⟩
        refine use_next ?_
        exact ⟨_, _, rfl, h2.kp kp4 tb4, ⟨c, ag.kp kp4, bad⟩, kp4 _ _ (noTu _) t2⟩
      · rintro σ G2 ⟨o3, o4, rfl, h2, b2, t2⟩
        exact ⟨_, _, _, rfl, h2⟩
    · rintro σ G ⟨o2, o3, o4, rfl, ⟨ex0, _, _⟩⟩
      try dsimp only
      refine use_seq ?_
      have hsG := ex0.st
      have tb := ex0.tb
      have base := Kp.refl G
      refine ⟨sz (by simp), fun l18 n18 => ?_⟩
      have e018 : l18 ≠ s := (Stt.kp hsG base).ne n18
      have S18 := same_new (o := .lst []) n18
      replace base := base.trans (.of S18)
      replace tb := tabs_same tb S18
      have h18 := new_at (o := HO.lst []) n18
      refine ⟨sz (by simp), fun l19 n19 => ?_⟩
      have e019 : l19 ≠ s := (Stt.kp hsG base).ne n19
      have S19 := same_new (o := .tup []) n19
      replace h18 := S19 _ _ h18
      replace base := base.trans (.of S19)
      replace tb := tabs_same tb S19
      have h19 := new_at (o := HO.tup []) n19
      refine ⟨sz (by simp), fun l20 n20 => ?_⟩
      have e020 : l20 ≠ s := (Stt.kp hsG base).ne n20
      have S20 := same_new (o := .lst [V.int 65]) n20
      replace h18 := S20 _ _ h18
      replace h19 := S20 _ _ h19
      replace base := base.trans (.of S20)
      replace tb := tabs_same tb S20
      have h20 := new_at (o := HO.lst [V.int 65]) n20
      refine ⟨sz (by simp), fun l21 n21 => ?_⟩
      have e021 : l21 ≠ s := (Stt.kp hsG base).ne n21
      have S21 := same_new (o := .lst [V.int 32, V.int 126]) n21
      replace h18 := S21 _ _ h18
      replace h19 := S21 _ _ h19
      replace h20 := S21 _ _ h20
      replace base := base.trans (.of S21)
      replace tb := tabs_same tb S21
      have h21 := new_at (o := HO.lst [V.int 32, V.int 126]) n21
      refine ⟨sz (by simp), fun l22 n22 => ?_⟩
      have e022 : l22 ≠ s := (Stt.kp hsG base).ne n22
      have S22 := same_new (o := .lst [V.int 36, V.int 38]) n22
      replace h18 := S22 _ _ h18
      replace h19 := S22 _ _ h19
      replace h20 := S22 _ _ h20
      replace h21 := S22 _ _ h21
      replace base := base.trans (.of S22)
      replace tb := tabs_same tb S22
      have h22 := new_at (o := HO.lst [V.int 36, V.int 38]) n22
      refine ⟨l22, 3, _, rfl, rfl, h22, by decide, by decide, by show _ ≤ sizeLine; rw [sizeLine_eq]; decide, fun l23 n23 => ?_⟩
      have e023 : l23 ≠ s := (Stt.kp hsG base).ne n23
      have S23 := same_new (o := .lst (List.replicate 3 [V.int 36, V.int 38]).flatten) n23
      replace h18 := S23 _ _ h18
      replace h19 := S23 _ _ h19
      replace h20 := S23 _ _ h20
      replace h21 := S23 _ _ h21
      replace h22 := S23 _ _ h22
      replace base := base.trans (.of S23)
      replace tb := tabs_same tb S23
      have h23 := new_at (o := HO.lst (List.replicate 3 [V.int 36, V.int 38]).flatten) n23
      refine ⟨_, rfl, ?_⟩
      refine ⟨sz (by simp), fun l24 n24 => ?_⟩
      have e024 : l24 ≠ s := (Stt.kp hsG base).ne n24
      have S24 := same_new (o := .lst [V.int 33, V.int 90, V.int 120]) n24
      replace h18 := S24 _ _ h18
      replace h19 := S24 _ _ h19
      replace h20 := S24 _ _ h20
      replace h21 := S24 _ _ h21
      replace h22 := S24 _ _ h22
      replace h23 := S24 _ _ h23
      replace base := base.trans (.of S24)
      replace tb := tabs_same tb S24
      have h24 := new_at (o := HO.lst [V.int 33, V.int 90, V.int 120]) n24
      have st := Stt.kp hsG base
      have b1 := ExK.ofKp base hsG tb
      refine ⟨s, l24, _, rfl, st, e024, SqL.of h24, by simp, by simp, fun Gp vp xp hv => ?_⟩
      obtain ⟨mp, rfl, hm⟩ := mem_ints (ms := [33, 90, 120]) hv
      replace h18 := xp.keep _ _ e018 h18
      replace h19 := xp.keep _ _ e019 h19
      replace h20 := xp.keep _ _ e020 h20
      replace h21 := xp.keep _ _ e021 h21
      replace h22 := xp.keep _ _ e022 h22
      replace h23 := xp.keep _ _ e023 h23
      have base2 := b1.trans (.ofExt xp (tabs_ext tb st xp))
      refine ⟨sz (by simp), fun l25 n25 => ?_⟩
      have S25 := same_new (o := .lst [V.int mp]) n25
      replace h18 := S25 _ _ h18
      replace h19 := S25 _ _ h19
      replace h20 := S25 _ _ h20
      replace h21 := S25 _ _ h21
      replace h22 := S25 _ _ h22
      replace h23 := S25 _ _ h23
      replace base2 := base2.trans (.ofKp (.of S25) base2.st (tabs_same base2.tb S25))
      have h25 := new_at (o := HO.lst [V.int mp]) n25
      refine ⟨l25, 4, _, rfl, rfl, h25, by decide, by decide, sz (by show 1 * 4 ≤ _; decide), fun l26 n26 => ?_⟩
      have S26 := same_new (o := .lst (List.replicate 4 [V.int mp]).flatten) n26
      replace h18 := S26 _ _ h18
      replace h19 := S26 _ _ h19
      replace h20 := S26 _ _ h20
      replace h21 := S26 _ _ h21
      replace h22 := S26 _ _ h22
      replace h23 := S26 _ _ h23
      replace h25 := S26 _ _ h25
      replace base2 := base2.trans (.ofKp (.of S26) base2.st (tabs_same base2.tb S26))
      have h26 := new_at (o := HO.lst (List.replicate 4 [V.int mp]).flatten) n26
      refine ⟨sz (by simp), fun l27 n27 => ?_⟩
      have S27 := same_new (o := .lst [V.ref l18, V.ref l19, V.ref l20, V.ref l21, V.ref l23, V.ref l26]) n27
      replace h18 := S27 _ _ h18
      replace h19 := S27 _ _ h19
      replace h20 := S27 _ _ h20
      replace h21 := S27 _ _ h21
      replace h22 := S27 _ _ h22
      replace h23 := S27 _ _ h23
      replace h25 := S27 _ _ h25
      replace h26 := S27 _ _ h26
      replace base2 := base2.trans (.ofKp (.of S27) base2.st (tabs_same base2.tb S27))
      have h27 := new_at (o := HO.lst [V.ref l18, V.ref l19, V.ref l20, V.ref l21, V.ref l23, V.ref l26]) n27
      refine ⟨l27, rfl, ⟨_, SqL.of h27⟩, ?_⟩
      have pmp : (List.replicate 4 [V.int mp]).flatten.all plB = true := by
        simp only [List.mem_cons, List.mem_nil_iff, or_false] at hm
        rcases hm with rfl | rfl | rfl <;> decide
      have all : ∀ x ∈ [V.ref l18, V.ref l19, V.ref l20, V.ref l21, V.ref l23, V.ref l26], Bd (fun i => i.val = 0) _ x := (bd1 ⟨_, .lst h18 (by first | decide | (rw [ones_len]; decide) | simp) pl0, plain_bad (by rfl)⟩
        (bd1 ⟨_, .tup h19 (by first | decide | (rw [ones_len]; decide) | simp) pl0, plain_bad (by rfl)⟩
        (bd1 ⟨_, .lst h20 (by first | decide | (rw [ones_len]; decide) | simp) (pl1 (.int _) pl0), plain_bad (by rfl)⟩
        (bd1 ⟨_, .lst h21 (by first | decide | (rw [ones_len]; decide) | simp) (pl1 (.int _) (pl1 (.int _) pl0)), plain_bad (by rfl)⟩
        (bd1 ⟨_, .lst h23 (by first | decide | (rw [ones_len]; decide) | simp) (pl1 (.int _) (pl1 (.int _) (pl1 (.int _) (pl1 (.int _) (pl1 (.int _) (pl1 (.int _) pl0)))))), plain_bad (by rfl)⟩
        (bd1 ⟨_, .lst h26 (by first | decide | (rw [ones_len]; decide) | simp) (pl1 (.int _) (pl1 (.int _) (pl1 (.int _) (pl1 (.int _) pl0)))), plain_bad pmp⟩
        bd0))))))
      have at0 : At s l27 T0 [V.ref l18, V.ref l19, V.ref l20, V.ref l21, V.ref l23, V.ref l26] (fun i => i.val = 0) H _ := ⟨ex0.trans base2, h27, all⟩
      clear all base base2 b1 tb st hm pmp xp hv h18 h19 h20 h21 h22 h23 h25 h26
      generalize [V.ref l18, V.ref l19, V.ref l20, V.ref l21, V.ref l23, V.ref l26] = LL2 at at0 ⊢
      refine for_it (walk_list (K := K) (a := l27) (xs := LL2)) (fun _ σ G => ∃ o2 o3 o4 : Option V, σ = [some (.ref s), some (.ref l10), o2, o3, o4] ∧ At s l27 T0 LL2 (fun i => i.val = 0) H G) ⟨_, _, _, rfl, at0⟩ (fun _ _ _ _ ⟨_, _, _, _, h⟩ => SqL.of h.at_) ?_ ?_
      · rintro j x σ G0 G1 hj ⟨o2, o3, o4, rfl, h⟩ ⟨rfl, hx⟩
        obtain ⟨c, ag, bad⟩ := h.bd x (List.mem_of_getElem? hx)
        try dsimp only
        refine use_if ?_
        refine ⟨_, rfl, ⟨0, by decide⟩, x, c, rfl, h.ex.tb, ag, bad _ rfl, fun G4 kp4 tb4 => ⟨_, rfl, ifF rfl ?_⟩⟩
        refine use_next ?_
        exact ⟨_, _, _, rfl, h.kp kp4 tb4⟩
      · rintro σ G ⟨o2, o3, o4, rfl, ⟨ex0, _, _⟩⟩
        try dsimp only
        refine use_seq ?_
        have base2 : ExK s T0 G G := ⟨fun _ _ _ _ e => e, ex0.st, ex0.tb⟩
        refine ⟨_, rfl, ?_⟩
        refine ⟨_, _, rfl, rfl, by walk_at "sd", ?_⟩
        refine ⟨_, _, rfl, rfl, by walk_at "sd", ?_⟩
        refine ⟨sz (by simp), fun l28 n28 => ?_⟩
        have S28 := same_new (o := .lst [V.int 1]) n28
        replace base2 := base2.trans (.ofKp (.of S28) base2.st (tabs_same base2.tb S28))
        have h28 := new_at (o := HO.lst [V.int 1]) n28
        refine ⟨sz (by simp), fun l29 n29 => ?_⟩
        have S29 := same_new (o := .tup []) n29
        replace h28 := S29 _ _ h28
        replace base2 := base2.trans (.ofKp (.of S29) base2.st (tabs_same base2.tb S29))
        have h29 := new_at (o := HO.tup []) n29
        refine fun l30 n30 => ?_
        have S30 := same_new (o := .dK []) n30
        replace h28 := S30 _ _ h28
        replace h29 := S30 _ _ h29
        replace base2 := base2.trans (.ofKp (.of S30) base2.st (tabs_same base2.tb S30))
        have h30 := new_at (o := HO.dK []) n30
        refine ⟨_, _, rfl, rfl, by walk_at "sd", ?_⟩
        refine ⟨_, rfl, ?_⟩
        refine ⟨sz (by simp), fun l31 n31 => ?_⟩
        have S31 := same_new (o := .lst [V.int (-1), V.int (2 ^ 64), V.int (10 ^ 30), V.non, V.bl true, V.bl false, V.str "1", V.ref l28, V.ref l29, V.ref l30, V.int (-((10 ^ 30)))]) n31
        replace h28 := S31 _ _ h28
        replace h29 := S31 _ _ h29
        replace h30 := S31 _ _ h30
        replace base2 := base2.trans (.ofKp (.of S31) base2.st (tabs_same base2.tb S31))
        have h31 := new_at (o := HO.lst [V.int (-1), V.int (2 ^ 64), V.int (10 ^ 30), V.non, V.bl true, V.bl false, V.str "1", V.ref l28, V.ref l29, V.ref l30, V.int (-((10 ^ 30)))]) n31
        refine ⟨l31, rfl, ⟨_, SqL.of h31⟩, ?_⟩
        have all : ∀ x ∈ [V.int (-1), V.int (2 ^ 64), V.int (10 ^ 30), V.non, V.bl true, V.bl false, V.str "1", V.ref l28, V.ref l29, V.ref l30, V.int (-((10 ^ 30)))], Bd (fun i => i.val = 2) _ x := (bd1 ⟨_, .num _, uid_bad (by decide +kernel)⟩
        (bd1 ⟨_, .num _, uid_bad (by decide +kernel)⟩
        (bd1 ⟨_, .num _, uid_bad (by decide +kernel)⟩
        (bd1 ⟨_, .els .non (by simp), uid_bad rfl⟩
        (bd1 ⟨_, .els (.bl _) (by simp), uid_bad rfl⟩
        (bd1 ⟨_, .els (.bl _) (by simp), uid_bad rfl⟩
        (bd1 ⟨_, .els (.str _) (by simp), uid_bad rfl⟩
        (bd1 ⟨_, .lst h28 (by first | decide | (rw [ones_len]; decide) | simp) (pl1 (.int _) pl0), uid_bad rfl⟩
        (bd1 ⟨_, .tup h29 (by first | decide | (rw [ones_len]; decide) | simp) pl0, uid_bad rfl⟩
        (bd1 ⟨_, .els (.dk h30) (by simp), uid_bad rfl⟩
        (bd1 ⟨_, .num _, uid_bad (by decide +kernel)⟩
        bd0)))))))))))
        have at0 : At s l31 T0 [V.int (-1), V.int (2 ^ 64), V.int (10 ^ 30), V.non, V.bl true, V.bl false, V.str "1", V.ref l28, V.ref l29, V.ref l30, V.int (-((10 ^ 30)))] (fun i => i.val = 2) H _ := ⟨ex0.trans base2, h31, all⟩
        clear all base2 h28 h29 h30
        refine for_it (walk_list (K := K) (a := l31) (xs := [V.int (-1), V.int (2 ^ 64), V.int (10 ^ 30), V.non, V.bl true, V.bl false, V.str "1", V.ref l28, V.ref l29, V.ref l30, V.int (-((10 ^ 30)))])) (fun _ σ G => ∃ o2 o3 o4 : Option V, σ = [some (.ref s), some (.ref l10), o2, o3, o4] ∧ At s l31 T0 [V.int (-1), V.int (2 ^ 64), V.int (10 ^ 30), V.non, V.bl true, V.bl false, V.str "1", V.ref l28, V.ref l29, V.ref l30, V.int (-((10 ^ 30)))] (fun i => i.val = 2) H G) ⟨_, _, _, rfl, at0⟩ (fun _ _ _ _ ⟨_, _, _, _, h⟩ => SqL.of h.at_) ?_ ?_
        · rintro j x σ G0 G1 hj ⟨o2, o3, o4, rfl, h⟩ ⟨rfl, hx⟩
          obtain ⟨c, ag, bad⟩ := h.bd x (List.mem_of_getElem? hx)
          try dsimp only
          refine use_if ?_
          refine ⟨_, rfl, ⟨2, by decide⟩, x, c, rfl, h.ex.tb, ag, bad _ rfl, fun G4 kp4 tb4 => ⟨_, rfl, ifF rfl ?_⟩⟩
          refine use_next ?_
          exact ⟨_, _, _, rfl, h.kp kp4 tb4⟩
        · rintro σ G ⟨o2, o3, o4, rfl, ⟨ex0, _, _⟩⟩
          try dsimp only
          refine use_seq ?_
          refine ⟨sz (by simp), fun l32 n32 => ⟨l32, rfl, ⟨_, SqL.of upd_same⟩, ?_⟩⟩
          have S32 := same_new (o := .lst [V.int 0, V.int 1, V.int 3, V.int 5, V.int 6, V.int 7, V.int 9, V.int 16]) n32
          refine for_it (walk_list (K := K) (a := l32) (xs := [V.int 0, V.int 1, V.int 3, V.int 5, V.int 6, V.int 7, V.int 9, V.int 16])) (fun _ σ G => ∃ o2 o3 o4 : Option V, σ = [some (.ref s), some (.ref l10), o2, o3, o4] ∧ ExK s T0 H G ∧ G l32 = some (.lst [V.int 0, V.int 1, V.int 3, V.int 5, V.int 6, V.int 7, V.int 9, V.int 16])) ⟨_, _, _, rfl, ex0.kp (.of S32) (tabs_same ex0.tb S32), new_at n32⟩ (fun _ _ _ _ ⟨_, _, _, _, _, h⟩ => SqL.of h) ?_ ?_
          · rintro j x σ G0 G1 hj ⟨o2, o3, o4, rfl, ex, hl⟩ ⟨rfl, hx⟩
            obtain ⟨m, m0, m1, m4, m8, rfl⟩ : ∃ m : Int, 0 ≤ m ∧ m ≤ 16 ∧ m.toNat ≠ 4 ∧ m.toNat ≠ 8 ∧ x = V.int m := by
              have z := List.mem_of_getElem? hx
              simp only [List.mem_cons, List.mem_nil_iff, or_false] at z
              rcases z with rfl | rfl | rfl | rfl | rfl | rfl | rfl | rfl <;> exact ⟨_, by decide, by decide, by decide, by decide, rfl⟩
            have bb := ones_bad (v := V.int 1) m4 m8
            try dsimp only
            refine use_if ?_
            refine ⟨sz (by simp), fun w nw => ⟨_, rfl, w, m, _, rfl, rfl, upd_same, by omega, by omega, sz (by show 1 * m.toNat ≤ _; omega), fun p np => ?_⟩⟩
            have q1 := (same_new (o := .lst [V.int 1]) nw).trans (same_new (o := .lst (List.replicate m.toNat [V.int 1]).flatten) np)
            refine ⟨⟨3, by decide⟩, .ref p, .seq (List.replicate m.toNat [V.int 1]).flatten, rfl, tabs_same ex.tb q1, .lst upd_same (by rw [ones_len]; omega) ones_pl, bb.1, fun G4 kp4 tb4 => ⟨_, rfl, ifF rfl ?_⟩⟩
            have ex4 := (ex.kp (.of q1) (tabs_same ex.tb q1)).kp kp4 tb4
            have hl4 := kp4 _ _ (noL _) (q1 _ _ hl)
            refine ⟨sz (by simp), fun w2 nw2 => ⟨_, rfl, w2, m, _, rfl, rfl, upd_same, by omega, by omega, sz (by show 1 * m.toNat ≤ _; omega), fun p2 np2 => ?_⟩⟩
            refine ⟨p2, _, rfl, .inl ⟨SqL.of upd_same, fun p3 np3 => ?_⟩⟩
            have q2 := ((same_new (o := .lst [V.int 1]) nw2).trans (same_new (o := .lst (List.replicate m.toNat [V.int 1]).flatten) np2)).trans (same_new (o := .tup (List.replicate m.toNat [V.int 1]).flatten) np3)
            refine ⟨⟨4, by decide⟩, .ref p3, .seq (List.replicate m.toNat [V.int 1]).flatten, rfl, tabs_same tb4 q2, .tup upd_same (by rw [ones_len]; omega) ones_pl, bb.2, fun G5 kp5 tb5 => ⟨_, rfl, ifF rfl ?_⟩⟩
            refine use_next ?_
            exact ⟨_, _, _, rfl, (ex4.kp (.of q2) (tabs_same tb4 q2)).kp kp5 tb5, kp5 _ _ (noL _) (q2 _ _ hl4)⟩
          · rintro σ G ⟨o2, o3, o4, rfl, ex, _⟩
            try dsimp only
            refine use_ret ?_
            refine ⟨sz (by simp), fun w nw => ⟨w, 4, _, rfl, rfl, upd_same, by decide, by decide, by show _ ≤ sizeLine; rw [sizeLine_eq]; decide, fun p np => ?_⟩⟩
            have q1 := (same_new (o := .lst [V.int 0]) nw).trans (same_new (o := .lst (List.replicate 4 [V.int 0]).flatten) np)
            refine ⟨⟨4, by decide⟩, .ref p, .seq (List.replicate 4 [V.int 0]).flatten, rfl, tabs_same ex.tb q1, .lst upd_same (by decide) ones_pl, rfl, fun G4 kp4 tb4 => ⟨_, rfl, ifT rfl ?_⟩⟩
            have ex4 := (ex.kp (.of q1) (tabs_same ex.tb q1)).kp kp4 tb4
            refine ⟨sz (by simp), fun p2 np2 => ?_⟩
            have q2 := same_new (o := .lst [V.int 0, V.int 256]) np2
            refine ⟨⟨1, by decide⟩, .ref p2, .seq [V.int 0, V.int 256], rfl, tabs_same tb4 q2, .lst upd_same (by decide) (pl1 (.int _) (pl1 (.int _) pl0)), rfl, fun G5 kp5 tb5 => ⟨_, rfl, ifT rfl ?_⟩⟩
            have ex5 := (ex4.kp (.of q2) (tabs_same tb4 q2)).kp kp5 tb5
            refine ⟨sz (by simp), fun p4 np4 => ?_⟩
            have q4 := same_new (o := .lst [V.int 0, V.int 0, V.int 0, V.int 256]) np4
            refine ⟨⟨3, by decide⟩, .ref p4, .seq [V.int 0, V.int 0, V.int 0, V.int 256], rfl, tabs_same tb5 q4, .lst upd_same (by decide) (pl1 (.int _) (pl1 (.int _) (pl1 (.int _) (pl1 (.int _) pl0)))), rfl, fun G6 kp6 tb6 => ?_⟩
            have ex6 := (ex5.kp (.of q4) (tabs_same tb5 q4)).kp kp6 tb6
            exact k _ ex6
end
end Q01


/-! a thing, its twin, and others -/
namespace Q01
open PySem PySem.Spec PyProof.Rows L2 QT LamX
/-- a list of numbers, or a number -/
inductive Sq (H : Hp) : V → Co → Prop
  | lst {p : Addr} {ns : List Int} (h : H p = some (.lst (ns.map V.int))) (l : ns.length ≤ 100) : Sq H (.ref p) (.seq (ns.map V.int))
  | num (n : Int) : Sq H (.int n) (.num n)
inductive Hd (H H' : Hp) : V → Co → Prop
  | lst {p : Addr} {ns : List Int} (n : H p = none) (h : H' p = some (.lst (ns.map V.int))) (l : ns.length ≤ 100) : Hd H H' (.ref p) (.seq (ns.map V.int))
  | num (n : Int) : Hd H H' (.int n) (.num n)
def tDueV (j : Nat) : TE := fun σ H Q => ∃ (v : V) (c : Co), σ[j]? = some (some v) ∧ Sq H v c ∧ ∀ (H' : Hp) (dv : V), Same H H' → FV H' dv c → Q dv H'
def tHandV (j : Nat) : TE := fun σ H Q => ∃ (v : V) (c : Co), σ[j]? = some (some v) ∧ Sq H v c ∧ ∀ (H' : Hp) (hv : V), Same H H' → Hd H H' hv c → Q hv H'
/-- all but what stands at v -/
def Mu (v : V) (H H' : Hp) : Prop := ∀ b o, v ≠ .ref b → H b = some o → H' b = some o
def tMutV (j : Nat) : TS := fun D σ H => ∃ (v : V) (c : Co), σ[j]? = some (some v) ∧ Sq H v c ∧ ∀ H' : Hp, Mu v H H' → D.nx σ H'
theorem ps_imp {X : Cx} {st : Stmt} {t t2 : TS} (h : PS X st t) (i : ∀ D σ H, t2 D σ H → t D σ H) : PS X st t2 := ⟨fun pins s σ H D I q => h.run pins s σ H D I (i D σ H q)⟩
theorem isl_num {K : PySem.W.Frag} {H : Hp} {n : Int} : TyX K H (.int n) (.type "int") := (Pl.int n).ty
theorem call_reprA {X : Cx} (free : X.A.guards = some []) (hu : X.A.units + 64 < cLine) : CallR X (.builtin "repr") (fun xs H Q => rReprD X.K xs H Q ∨ ∃ i, xs = [.int i] ∧ i.natAbs.log2 < 1920 ∧ Q (.str (toString i)) H) := by
  intro pins s σ H xs us Q I r h
  rcases h with h | h
  · exact call_reprD free hu pins s σ H xs us Q I r h
  · exact SkE.call_repr_int pins s σ H xs us Q I r h
theorem Sq.fv {H : Hp} {v : V} {c : Co} (h : Sq H v c) : Ag H v c := by
  cases h with
  | @lst p ns h l =>
    exact .lst h (by rw [List.length_map]; omega) fun x hx => let ⟨m, e, _⟩ := mem_ints hx; ⟨_, e ▸ Pl.int m⟩
  | num n => exact .num n
theorem Hd.ag {H H' : Hp} {v : V} {c : Co} (h : Hd H H' v c) : Ag H' v c := by
  cases h with
  | @lst p ns n h l => exact (Sq.lst h l).fv
  | num n => exact .num n
theorem Hd.sq {H H' : Hp} {v : V} {c : Co} (h : Hd H H' v c) : Sq H' v c := by
  cases h with
  | @lst p ns n h l => exact .lst h l
  | num n => exact .num n
theorem Sq.kp {H H' : Hp} {v : V} {c : Co} (h : Sq H v c) (k : Kp H H') : Sq H' v c := by
  cases h with
  | lst h l => exact .lst (k _ _ (noL _) h) l
  | num n => exact .num n
theorem Sq.nm {H : Hp} {v : V} {c : Co} (h : Sq H v c) : Nm c := by
  cases h with
  | lst h l => exact .seq _ (by omega)
  | num n => exact .num n
theorem FV.ag {H : Hp} {v : V} {c : Co} (h : FV H v c) (n : Nm c) : Ag H v c := by
  cases n with
  | seq ns l =>
    cases h with
    | seq h => exact .tup h (by rw [List.length_map]; omega) fun x hx => let ⟨m, e, _⟩ := mem_ints hx; ⟨_, e ▸ Pl.int m⟩
  | num n =>
    cases h
    exact .num n
/-- what is no list doesn't stand where the numbers stand -/
theorem Sq.ne {H : Hp} {v : V} {c : Co} {b : Addr} {o : HO} (h : Sq H v c) (e : H b = some o) (n : ∀ xs, o ≠ .lst xs) : v ≠ .ref b := fun z => by
  cases h with
  | @lst p ns h l =>
    cases z
    rw [h] at e
    exact n _ (Option.some.inj e).symm
  | num n => cases z
theorem Hd.ne {H H' : Hp} {v : V} {c : Co} {b : Addr} {o : HO} (h : Hd H H' v c) (e : H b = some o) : v ≠ .ref b := fun z => by
  cases h with
  | lst n _ _ =>
    cases z
    rw [n] at e
    cases e
  | num n => cases z
theorem Mu.thing {H H' : Hp} {v : V} {c c2 : Co} {x C : Addr} {fld : Str} (m : Mu v H H') (q : Sq H v c) (t : Thing H x C fld c2) : Thing H' x C fld c2 := by
  obtain ⟨dx, fv, e, f⟩ := t
  refine ⟨dx, fv, m _ _ (q.ne e fun _ z => by cases z) e, ?_⟩
  cases f with
  | seq h => exact .seq (m _ _ (q.ne h fun _ z => by cases z) h)
  | num n => exact .num n
theorem Mu.fv {H H' : Hp} {v u : V} {c c2 : Co} (m : Mu v H H') (q : Sq H v c) (t : FV H u c2) : FV H' u c2 := by
  cases t with
  | seq h => exact .seq (m _ _ (q.ne h fun _ z => by cases z) h)
  | num n => exact .num n
theorem Mu.tabs {T : List (Addr × Str)} {H H' : Hp} {v : V} {c : Co} (m : Mu v H H') (q : Sq H v c) (t : Tabs T H) : Tabs T H' := fun p hp => by
  obtain ⟨ps, h1, h2, h3⟩ := t p hp
  refine ⟨ps, m _ _ (q.ne h1 fun _ z => by cases z) h1, h2, fun pos cv hc => ?_⟩
  obtain ⟨c, e1, e2⟩ := h3 pos cv hc
  exact ⟨c, e1, m _ _ (q.ne e2 fun _ z => by unfold CodeO at z; cases z) e2⟩
/-- which types the builtin ones are -/
def bts : List String := ["int", "tuple", "list", "NoneType", "str"]
/-- what repr says of a field -/
def Shw (c : Co) : Prop := ∀ (K : PySem.W.Frag) (H : Hp) (v : V) (Q : VK), FV H v c → Q (.str (dat c).shown) H → (rReprD K [v] H Q ∨ ∃ i, [v] = [V.int i] ∧ i.natAbs.log2 < 1920 ∧ Q (.str (toString i)) H)
theorem log_small {n : Int} (h : 0 ≤ n) (h2 : n ≤ 18446744073709551615) : n.natAbs.log2 < 1920 := by
  by_cases z : n.natAbs = 0
  · rw [z]
    decide
  · exact Nat.lt_of_lt_of_le ((Nat.log2_lt z).mpr (show n.natAbs < 2 ^ 65 by omega)) (by decide)
theorem show_ints : ∀ {ns : List Int}, (∀ m ∈ ns, 0 ≤ m ∧ m ≤ 65535) → PyData.showableAll (ns.map PyData.int) = true ∧ PyData.hasDictAll (ns.map PyData.int) = false ∧ ((PyData.shownAll (ns.map PyData.int)).map (·.length)).sum ≤ 13 * ns.length ∧ (PyData.shownAll (ns.map PyData.int)).length = ns.length
  | [], _ => ⟨rfl, rfl, Nat.le_refl _, rfl⟩
  | n :: r, h => by
    obtain ⟨a, b, c, d⟩ := show_ints (ns := r) fun m hm => h m (List.mem_cons_of_mem _ hm)
    obtain ⟨n0, n1⟩ := h n List.mem_cons_self
    have l := PyData.shown_int_le2 (i := n) (by omega) (by omega)
    refine ⟨?_, ?_, ?_, ?_⟩
    · show (decide (n.natAbs.log2 < 1920) && PyData.showableAll (r.map PyData.int)) = true
      rw [a, decide_eq_true (log_small n0 (by omega))]
      rfl
    · exact b
    · show (PyData.shown (.int n)).length + ((PyData.shownAll (r.map PyData.int)).map (·.length)).sum ≤ 13 * (r.length + 1)
      omega
    · show (PyData.shownAll (r.map PyData.int)).length + 1 = r.length + 1
      omega
theorem Fld.shw {s : Addr} {H H' : Hp} {v : V} {c : Co} (f : Fld s H H' v c) : Shw c := fun K G u Q fv k => by
  cases f with
  | @lst p ns n l =>
    obtain ⟨a, b, e, d⟩ := show_ints n.in_
    cases fv with
    | @seq q xs h =>
      rw [dat_seq] at k
      refine .inl ⟨q, .tuple (ns.map PyData.int), rfl, .tup (SqT.of h) (dp_ints ns), a, b, ?_, ?_, k⟩
      · refine Nat.le_trans (tupleText_len_le (PyData.shownAll (ns.map PyData.int))) ?_
        rw [sizeLine_eq, d]
        omega
      · show PyData.depthAll (ns.map PyData.int) + 1 ≤ 60
        rw [deep_ints]
        decide
  | num n x b =>
    cases fv
    exact .inr ⟨n, rfl, log_small b.1 b.2, k⟩
theorem Fld.ex {s : Addr} {H H' : Hp} {v : V} {c : Co} (f : Fld s H H' v c) : Ext s H H' := by
  cases f with
  | lst n l => exact n.ex
  | num n x b => exact x
theorem Fld.sq {s : Addr} {H H' : Hp} {v : V} {c : Co} (f : Fld s H H' v c) : Sq H' v c := by
  cases f with
  | lst n l => exact .lst n.at_ l
  | num n x b => exact .num n
theorem Fld.ns {s : Addr} {H H' : Hp} {v : V} {c : Co} (f : Fld s H H' v c) (h : Stt H s) : v ≠ .ref s := by
  cases f with
  | lst n l => exact fun z => h.ne n.np (V.ref.inj z)
  | num n x b => exact fun z => by cases z
theorem Sq.at_ {H : Hp} {v : V} {c : Co} {p : Addr} (f : Sq H v c) (e : v = .ref p) : ∃ xs, H p = some (.lst xs) := by
  cases f with
  | lst h l =>
    cases e
    exact ⟨_, h⟩
  | num n => cases e
theorem Mu.sq {H2 H3 H H' : Hp} {v u : V} {c c2 : Co} (m : Mu u H H') (d : Hd H2 H3 u c2) (q2 : Sq H2 v c) (q : Sq H v c) : Sq H' v c := by
  cases q with
  | @lst p ns h l =>
    obtain ⟨xs, e⟩ := q2.at_ rfl
    exact .lst (m _ _ (d.ne e) h) l
  | num n => exact .num n
theorem Thing.ext {s : Addr} {H H' : Hp} {x C : Addr} {fld : Str} {c : Co} (t : Thing H x C fld c) (h : Stt H s) (e : Ext s H H') : Thing H' x C fld c := by
  obtain ⟨a, b, z, q, _⟩ := h
  obtain ⟨dx, fv, e1, f⟩ := t
  refine ⟨dx, fv, e.keep _ _ (ne_of e1 q (by intro z; cases z)) e1, ?_⟩
  cases f with
  | seq h => exact .seq (e.keep _ _ (ne_of h q (by intro z; cases z)) h)
  | num n => exact .num n
theorem FV.ext {s : Addr} {H H' : Hp} {v : V} {c : Co} (f : FV H v c) (h : Stt H s) (e : Ext s H H') : FV H' v c := by
  obtain ⟨a, b, z, q, _⟩ := h
  cases f with
  | seq h => exact .seq (e.keep _ _ (ne_of h q (by intro z; cases z)) h)
  | num n => exact .num n
theorem Sq.ext {s : Addr} {H H' : Hp} {v : V} {c : Co} (f : Sq H v c) (n : v ≠ .ref s) (e : Ext s H H') : Sq H' v c := by
  cases f with
  | @lst p ns h l => exact .lst (e.keep _ _ (fun z => n (by rw [z])) h) l
  | num k => exact .num k
theorem Sq.pl {H : Hp} {v : V} {c : Co} (f : Sq H v c) : ∃ t, Pl H v t ∧ t ∈ bts := by
  cases f with
  | lst h l => exact ⟨_, .lst h, by decide⟩
  | num n => exact ⟨_, .int n, by decide⟩
theorem FV.pl {H : Hp} {v : V} {c : Co} (f : FV H v c) : ∃ t, Pl H v t ∧ t ∈ bts := by
  cases f with
  | seq h => exact ⟨_, .tup h, by decide⟩
  | num n => exact ⟨_, .int n, by decide⟩
theorem Nm.no {c : Co} (h : Nm c) : (!PyData.eqv (dat c) (dat c)) = false := by
  have z : PyData.eqv (dat c) (dat c) = true := h.refl
  rw [z]
  rfl

/-- the five classes among each other -/
structure Five (K : PySem.W.Frag) (cs : Fin 5 → Addr) : Prop where
  sub : ∀ i j, PySem.W.subIn K (.ref (cs i)) (.ref (cs j)) = some (decide (i = j))
  bt : ∀ i, ∀ t ∈ bts, PySem.W.subIn K (.type t) (.ref (cs i)) = some false
  ic : ∀ i, PySem.W.isClsIn K (cs i) = true
  ty : ∀ i, PySem.W.typeIn K (.ref (cs i)) = some (.type "type")
theorem kit_no {K : PySem.W.Frag} {v : Value} {C : Addr} (ne : v ≠ .ref C) (h2 : PySem.W.isClsIn K C = true) (h3 : PySem.W.typeIn K (.ref C) = some (.type "type")) (h4 : PySem.W.subIn K v (.ref C) = some false) : PySem.W.kitOne K v (.ref C) = some false := by
  have isT : ((PySem.W.clsIn K C).isSome && PySem.W.typeIn K (.ref C) == some (.type "type")) = true := by
    have y3 : (PySem.W.clsIn K C).isSome = true := h2
    rw [y3, h3]
    rfl
  unfold PySem.W.kitOne PySem.W.kitCls
  rw [if_neg (by simpa using ne)]
  dsimp only
  rw [if_pos isT]
  exact h4
theorem Five.kitT {K : PySem.W.Frag} {cs : Fin 5 → Addr} (f : Five K cs) (i : Fin 5) {t : String} (h : t ∈ bts) : PySem.W.kitOne K (.type t) (.ref (cs i)) = some false := kit_no (by intro z; cases z) (f.ic i) (f.ty i) (f.bt i t h)
theorem Five.inj {K : PySem.W.Frag} {cs : Fin 5 → Addr} (f : Five K cs) {i j : Fin 5} (n : i ≠ j) : cs i ≠ cs j := fun z => by
  have a := f.sub i j
  have b := f.sub i i
  rw [← z, b, decide_eq_true rfl, decide_eq_false n] at a
  cases a
theorem Five.kitC {K : PySem.W.Frag} {cs : Fin 5 → Addr} (f : Five K cs) {i j : Fin 5} (n : i ≠ j) : PySem.W.kitOne K (.ref (cs i)) (.ref (cs j)) = some false :=
  kit_no (fun z => f.inj n (Value.ref.inj z)) (f.ic j) (f.ty j) (by rw [f.sub, decide_eq_false n])
theorem Five.nfT {K : PySem.W.Frag} {cs : Fin 5 → Addr} (f : Five K cs) (i : Fin 5) {t : String} (h : t ∈ bts) : PySem.W.notFirst K (cs i) (.type t) = true := by
  unfold PySem.W.notFirst
  rw [f.bt i t h]
  simp
theorem Five.nfC {K : PySem.W.Frag} {cs : Fin 5 → Addr} (f : Five K cs) (i j : Fin 5) : PySem.W.notFirst K (cs i) (.ref (cs j)) = true := by
  unfold PySem.W.notFirst
  by_cases e : i = j
  · subst e
    simp
  · rw [f.sub, decide_eq_false (fun z => e z.symm)]
    simp
/-- side conditions; and the plain steps of a reading -/
local macro_rules | `(tactic| walk_at "sd") => `(tactic| first
  | assumption | decide | omega | exact b64 b01 | (show (0 : Int) < _; first | decide | omega) | exact ⟨by decide, by decide, by decide⟩ | exact ⟨by decide, by decide⟩ | exact ⟨by omega, by omega⟩
  | exact .inl ⟨by omega, by omega⟩ | exact .inr ⟨by omega, by omega⟩ | exact sz (by simp) | exact szl (by simp))
local macro_rules | `(tactic| walk_at "rd") => `(tactic| repeat (first
  | refine ⟨_, rfl, ?_⟩
  | refine ⟨_, _, rfl, rfl, ?_⟩
  | refine ⟨_, _, _, _, rfl, rfl, SqL.of (by first | assumption | exact upd_same), rfl, ?_⟩
  | refine .inl ⟨_, rfl, ?_⟩
  | refine .inr ⟨_, rfl, ?_⟩
  | refine ⟨_, _, _, _, rfl, rfl, (by first | assumption | exact upd_same), rfl, ?_⟩
  | refine And.intro (by walk_at "sd") ?_))
section
variable {P : Program} {w : World} {K : PySem.W.Frag} {mg : Str → Option Value} {base : Heap} {cs : Fin 5 → Addr} {H : Hp} {x y : Addr} {i j : Fin 5} {c d : Co} {Q : VK} {n : Nat}
/-- == and != of two things of one class -/
theorem eq_same (q : ∀ i, EqC P w K mg base (cs i) 1 (spEq K (cs i) (flE i))) (tp : ∀ i, TypC K (cs i)) (f : Five K cs) (l : 1 ≤ n) (a : Thing H x (cs i) (flE i) c) (na : Nm c) (b : Thing H y (cs i) (flE i) d) (nb : Nm d) (k : Q (.bl (eqC c d)) H) : rEqI P w K mg base n (.ref x) (.ref y) H Q := by
  have a0 := a
  obtain ⟨dx, fv, e, _⟩ := a
  exact ⟨x, _, dx, _, _, 1, _, rfl, e, b.ty (tp i), f.nfC i i, q i, l, x, .ref y, c, rfl, a0, na, .inl ⟨y, d, rfl, b, nb, _, rfl, k⟩⟩
theorem ne_same (q : ∀ i, EqC P w K mg base (cs i) 1 (spEq K (cs i) (flE i))) (tp : ∀ i, TypC K (cs i)) (f : Five K cs) (l : 1 ≤ n) (a : Thing H x (cs i) (flE i) c) (na : Nm c) (b : Thing H y (cs i) (flE i) d) (nb : Nm d) (k : Q (.bl (!eqC c d)) H) : rNeI P w K mg base n (.ref x) (.ref y) H Q := by
  have a0 := a
  obtain ⟨dx, fv, e, _⟩ := a
  exact ⟨x, _, dx, _, _, 1, _, rfl, e, b.ty (tp i), f.nfC i i, q i, l, x, .ref y, c, rfl, a0, na, .inl ⟨y, d, rfl, b, nb, _, rfl, k⟩⟩
/-- .. of things of two classes -/
theorem eq_two (q : ∀ i, EqC P w K mg base (cs i) 1 (spEq K (cs i) (flE i))) (tp : ∀ i, TypC K (cs i)) (f : Five K cs) (l : 1 ≤ n) (a : Thing H x (cs i) (flE i) c) (na : Nm c) (b : Thing H y (cs j) (flE j) d) (ne : j ≠ i) (k : Q (.bl false) H) : rEqI P w K mg base n (.ref x) (.ref y) H Q := by
  have a0 := a
  obtain ⟨dx, fv, e, _⟩ := a
  exact ⟨x, _, dx, _, _, 1, _, rfl, e, b.ty (tp j), f.nfC i j, q i, l, x, .ref y, c, rfl, a0, na, .inr ⟨_, b.ty (tp j), f.kitC ne, _, rfl, k⟩⟩
/-- .. with something else -/
theorem eq_else (q : ∀ i, EqC P w K mg base (cs i) 1 (spEq K (cs i) (flE i))) (f : Five K cs) (l : 1 ≤ n) (a : Thing H x (cs i) (flE i) c) (na : Nm c) {u : V} {t : String} (b : Pl H u t) (m : t ∈ bts) (k : Q (.bl false) H) : rEqI P w K mg base n (.ref x) u H Q := by
  have a0 := a
  obtain ⟨dx, fv, e, _⟩ := a
  exact ⟨x, _, dx, _, _, 1, _, rfl, e, b.ty, f.nfT i m, q i, l, x, u, c, rfl, a0, na, .inr ⟨_, b.ty, f.kitT i m, _, rfl, k⟩⟩
theorem ne_else (q : ∀ i, EqC P w K mg base (cs i) 1 (spEq K (cs i) (flE i))) (f : Five K cs) (l : 1 ≤ n) (a : Thing H x (cs i) (flE i) c) (na : Nm c) {u : V} {t : String} (b : Pl H u t) (m : t ∈ bts) (k : Q (.bl true) H) : rNeI P w K mg base n (.ref x) u H Q := by
  have a0 := a
  obtain ⟨dx, fv, e, _⟩ := a
  exact ⟨x, _, dx, _, _, 1, _, rfl, e, b.ty, f.nfT i m, q i, l, x, u, c, rfl, a0, na, .inr ⟨_, b.ty, f.kitT i m, _, rfl, k⟩⟩
end
section
variable {P : Program} {w : World} {K : PySem.W.Frag} {mg : Str → Option Value} {base : Heap} {f : Addr} {fd : FuncData}
def spOne (T : List (Addr × Str)) : Sp := fun vs H Q _ => ∃ (s : Addr) (i : Fin 5), vs = [.ref s, .int (i.val : Int)] ∧ Stt H s ∧ Tabs T H ∧ ∀ H' : Hp, ExK s T H H' → Q (.bl true) H'
abbrev s__law_one_right : Stmt := top 30
theorem sc__law_one_right : FnScope ["_law_source_here", "_law_way", "_law_some", "_law_due", "_law_handed", "_law_thing", "_law_twin", "_law_other", "_law_one"] ["_law_source_here", "_law_way"] (defScope s__law_one_right) := ⟨rfl, rfl, rfl, by decide +kernel, rfl, by decide +kernel, by decide +kernel⟩
theorem ok_one (F : Fun K "_law_one_right" "_law_one_right" s__law_one_right f fd) (T : Txt K mg) {T0 : List (Addr × Str)} {cs : Fin 5 → Addr} {CV : Addr} (c_drawn : Cal P w K mg base 4 "_law_drawn" spDrawn) (c_made : CalX P w K mg base 7 "_law_made" (spMade T0 cs CV)) (c_field : Cal P w K mg base 1 "_law_field" (spField cs))
    (eqs : ∀ i, EqC P w K mg base (cs i) 1 (spEq K (cs i) (flE i))) (tp : ∀ i, TypC K (cs i)) (five : Five K cs) : FnOkG P w K mg base 8 f fd ["_law_source_here", "_law_way"] (spOne T0) := by
  refine okG F sc__law_one_right (fun vs H Q E h => ?_) (fun cdv A outer st H vs Q E free hr h => ?_)
  · obtain ⟨s, i, rfl, _⟩ := h
    rfl
  · obtain ⟨s, i, rfl, hs, tb, k⟩ := h
    have hu := hr.units
    refine ⟨_, (pss_cons (ps_set (i := 2) sc__law_one_right.nd rfl (Or.inl rfl) (pe_c c_drawn hr (by decide) (by rfl) (pa_cons (pv 0) (pa_cons (pv 1) pa_nil))))
      (pss_cons (ps_set (i := 3) sc__law_one_right.nd rfl (Or.inl rfl) (pe_imp (t2 := tDueV 2) (pe_ifExp (pt_val (pe_callB call_isi (by rfl) T.z_isinstance (by decide +kernel) (pa_cons (pv 2) (pa_cons (pe_bltn (v := .ty "list") (u := .type "list") (by rfl) T.z_list (by decide +kernel) rfl) pa_nil)))) (pe_callTy call_tuple_of (by rfl) T.z_tuple (by decide +kernel) (pa_cons (pv 2) pa_nil)) (pv 2)) (fun σ H Q h => by
        obtain ⟨v, c, hv, sq, k⟩ := h
        cases sq with
        | @lst p ns hp l => exact ⟨_, hv, _, _, _, _, true, rfl, .ty "list", (Pl.lst hp).ty, kit_ty (a := "list") (b := "list") (r := true) (by decide +kernel), true, rfl, ifT rfl ⟨_, hv, p, _, rfl, .inl ⟨SqL.of hp, fun q nq => k _ _ (same_new nq) (.seq upd_same)⟩⟩⟩
        | num n => exact ⟨_, hv, _, _, _, _, false, rfl, .ty "list", (Pl.int n).ty, kit_ty (a := "int") (b := "list") (r := false) (by decide +kernel), false, rfl, ifF rfl ⟨_, hv, k _ _ (Same.refl _) (.num n)⟩⟩)))
      (pss_cons (ps_set (i := 4) sc__law_one_right.nd rfl (Or.inl rfl) (pe_imp (t2 := tHandV 2) (pe_ifExp (pt_val (pe_callB call_isi (by rfl) T.z_isinstance (by decide +kernel) (pa_cons (pv 2) (pa_cons (pe_bltn (v := .ty "list") (u := .type "list") (by rfl) T.z_list (by decide +kernel) rfl) pa_nil)))) (pe_callTy call_list_of (by rfl) T.z_list (by decide +kernel) (pa_cons (pv 2) pa_nil)) (pv 2)) (fun σ H Q h => by
        obtain ⟨v, c, hv, sq, k⟩ := h
        cases sq with
        | @lst p ns hp l => exact ⟨_, hv, _, _, _, _, true, rfl, .ty "list", (Pl.lst hp).ty, kit_ty (a := "list") (b := "list") (r := true) (by decide +kernel), true, rfl, ifT rfl ⟨_, hv, p, _, rfl, .inl (SqL.of hp), fun q nq => k _ _ (same_new nq) (.lst nq upd_same l)⟩⟩
        | num n => exact ⟨_, hv, _, _, _, _, false, rfl, .ty "list", (Pl.int n).ty, kit_ty (a := "int") (b := "list") (r := false) (by decide +kernel), false, rfl, ifF rfl ⟨_, hv, k _ _ (Same.refl _) (.num n)⟩⟩)))
      (pss_cons (ps_asg (pe_tup (pa_cons (pe_cX L2.takes0 c_made hr (by decide) (by rfl) (pa_cons (pv 1) (pa_cons (pv 4) (pa_cons pe_bl pa_nil)))) (pa_cons (pe_cX L2.takes0 c_made hr (by decide) (by rfl) (pa_cons (pv 1) (pa_cons (pv 3) (pa_cons pe_bl pa_nil)))) pa_nil))) (pg_tup rfl (pgs_cons (pg_name (i := 5) sc__law_one_right.nd rfl (Or.inr rfl)) (pgs_cons (pg_name (i := 6) sc__law_one_right.nd rfl (Or.inl rfl)) pgs_nil))))
      (pss_cons (ps_imp (t2 := tMutV 4) (ps_if (pt_val (pe_callB call_isi (by rfl) T.z_isinstance (by decide +kernel) (pa_cons (pv 4) (pa_cons (pe_bltn (v := .ty "list") (u := .type "list") (by rfl) T.z_list (by decide +kernel) rfl) pa_nil)))) (pss_cons (ps_expr (pe_bm PySem.F.plainAttrs_list PySem.F.slot_list_append PySem.F.type_list_append mt_append (pv 4) (pa_cons pe_int pa_nil))) (pss_one (ps_expr (pe_bm PySem.F.plainAttrs_list PySem.F.slot_list_insert PySem.F.type_list_insert mt_insert (pv 4) (pa_cons pe_int (pa_cons pe_int pa_nil)))))) pss_nil) (fun D σ H h => by
        obtain ⟨v, c, hv, sq, k⟩ := h
        cases sq with
        | @lst p ns hp l =>
          refine ⟨_, hv, _, _, _, _, true, rfl, .ty "list", (Pl.lst hp).ty, kit_ty (a := "list") (b := "list") (r := true) (by decide +kernel), true, rfl, ifT rfl ?_⟩
          refine use_seq ⟨_, hv, .inl ⟨rfl, _, SqL.of hp⟩, p, _, _, rfl, rfl, hp, szl (by rw [List.length_map]; omega), ?_⟩
          refine ⟨_, hv, .inl ⟨rfl, _, SqL.of upd_same⟩, p, _, 0, _, rfl, rfl, upd_same, szl (by rw [List.length_append, List.length_map, List.length_singleton]; omega), by decide, by decide, ?_⟩
          refine k _ fun b o ne e => ?_
          rw [upd_ne (fun z => ne (by rw [z])), upd_ne (fun z => ne (by rw [z]))]
          exact e
        | num n =>
          refine ⟨_, hv, _, _, _, _, false, rfl, .ty "list", (Pl.int n).ty, kit_ty (a := "int") (b := "list") (r := false) (by decide +kernel), false, rfl, ifF rfl ?_⟩
          exact k _ fun _ _ _ e => e))
      (pss_cons (ps_if (PW.pt (pw_or (pt_cmpR (op_neD hr.units) (pe_c c_field hr (by decide) (by rfl) (pa_cons (pv 1) (pa_cons (pv 5) pa_nil))) (pv 3) (nomark _)) (pw_or (pt_cmpR (op_neD hr.units) (pe_c c_field hr (by decide) (by rfl) (pa_cons (pv 1) (pa_cons (pv 6) pa_nil))) (pv 3) (nomark _)) (pw_or1 (pt_cmpR op_ne (pe_callB (call_reprA free hu) (by rfl) T.z_repr (by decide +kernel) (pa_cons (pe_c c_field hr (by decide) (by rfl) (pa_cons (pv 1) (pa_cons (pv 5) pa_nil))) pa_nil)) (pe_callB (call_reprA free hu) (by rfl) T.z_repr (by decide +kernel) (pa_cons (pv 3) pa_nil)) (nomark _))))))
      (pss_one (ps_ret pe_bl))
      pss_nil)
      (pss_cons (ps_if (PW.pt (pw_or (pt_not (pt_cmpR (show OpR _ (compareOp .Eq) (rEqI P w K mg base 7) from op_eqI (j := 7) hr) (pv 5) (pv 6) (nomark _))) (pw_or (pt_cmpR (show OpR _ (compareOp .NotEq) (rNeI P w K mg base 6) from op_neI (j := 6) hr) (pv 5) (pv 6) (nomark _)) (pw_or1 (pt_not (pt_cmpR (show OpR _ (compareOp .Eq) (rEqI P w K mg base 7) from op_eqI (j := 7) hr) (pv 6) (pv 5) (nomark _)))))))
      (pss_one (ps_ret pe_bl))
      pss_nil)
      (pss_cons (ps_set (i := 7) sc__law_one_right.nd rfl (Or.inl rfl) (pe_c c_drawn hr (by decide) (by rfl) (pa_cons (pv 0) (pa_cons (pv 1) pa_nil))))
      (pss_cons (ps_if (pt_cmpR op_ne (pe_cmpR (show OpR _ (compareOp .Eq) (rEqI P w K mg base 7) from op_eqI (j := 7) hr) (pv 5) (pe_cX L2.takes0 c_made hr (by decide) (by rfl) (pa_cons (pv 1) (pa_cons (pv 7) (pa_cons pe_bl pa_nil)))) (nomark _)) (pe_cmpR (op_eqD hr.units) (pv 3) (pe_imp (t2 := tDueV 7) (pe_ifExp (pt_val (pe_callB call_isi (by rfl) T.z_isinstance (by decide +kernel) (pa_cons (pv 7) (pa_cons (pe_bltn (v := .ty "list") (u := .type "list") (by rfl) T.z_list (by decide +kernel) rfl) pa_nil)))) (pe_callTy call_tuple_of (by rfl) T.z_tuple (by decide +kernel) (pa_cons (pv 7) pa_nil)) (pv 7)) (fun σ H Q h => by
        obtain ⟨v, c, hv, sq, k⟩ := h
        cases sq with
        | @lst p ns hp l => exact ⟨_, hv, _, _, _, _, true, rfl, .ty "list", (Pl.lst hp).ty, kit_ty (a := "list") (b := "list") (r := true) (by decide +kernel), true, rfl, ifT rfl ⟨_, hv, p, _, rfl, .inl ⟨SqL.of hp, fun q nq => k _ _ (same_new nq) (.seq upd_same)⟩⟩⟩
        | num n => exact ⟨_, hv, _, _, _, _, false, rfl, .ty "list", (Pl.int n).ty, kit_ty (a := "int") (b := "list") (r := false) (by decide +kernel), false, rfl, ifF rfl ⟨_, hv, k _ _ (Same.refl _) (.num n)⟩⟩)) (nomark _)) (nomark _))
      (pss_one (ps_ret pe_bl))
      pss_nil)
      (pss_one (ps_ret (pe_cmpR (op_eqD hr.units) (pe_lc (own := [("_law_one", 8)]) (g := (gName 8)) rfl sc__law_one_right.nd (pi_tup (pe_tup (pa_cons (pv 3) (pa_cons (pv 2) (pa_cons pe_non (pa_cons (pe_callB (call_reprA free hu) (by rfl) T.z_repr (by decide +kernel) (pa_cons (pv 3) pa_nil)) (pa_cons (pv 1) pa_nil))))))) (blkOk_by (N := ["_law_source_here", "_law_way", "_law_some", "_law_due", "_law_handed", "_law_thing", "_law_twin", "_law_other", "_law_one"]) (sc := defScope s__law_one_right) (by decide +kernel)) (fun _ _ _ _ _ => (pg_name (i := 8) sc__law_one_right.nd rfl (Or.inl rfl))) (fun _ _ _ _ _ => (pts_one (PW.pt (pw_or (pt_cmpR (show OpR _ (compareOp .Eq) (rEqI P w K mg base 7) from op_eqI (j := 7) hr) (pv 5) (pv 8) (nomark _)) (pw_or1 (pt_not (pt_cmpR (show OpR _ (compareOp .NotEq) (rNeI P w K mg base 6) from op_neI (j := 6) hr) (pv 5) (pv 8) (nomark _)))))))) (fun _ _ _ _ _ => pe_int)) (pe_lst pa_nil) (nomark _))))))))))))), ?_⟩
    refine use_seq ?_
    refine ⟨_, rfl, _, rfl, s, i, rfl, hs, fun H1 v c fl good => ?_⟩
    have x1 := fl.ex
    have sq1 := fl.sq
    have nm := sq1.nm
    have tb1 := tabs_ext tb hs x1
    have shw := fl.shw
    have nvs := fl.ns hs
    clear fl
    try dsimp only
    refine use_seq (use_set ?_)
    refine ⟨v, c, rfl, sq1, fun H2 dv s2 fv => ?_⟩
    try dsimp only
    refine use_seq (use_set ?_)
    refine ⟨v, c, rfl, sq1.kp (.of s2), fun H3 hv s3 hd => ?_⟩
    have tb3 := tabs_same (tabs_same tb1 s2) s3
    try dsimp only
    refine use_seq ?_
    refine ⟨_, rfl, _, rfl, i, hv, c, false, rfl, tb3, hd.ag, fun _ H4 x kp4 tb4 _ th4 => ?_, fun g => absurd (g.symm.trans good) (by decide)⟩
    refine ⟨_, rfl, _, rfl, i, dv, c, true, rfl, tb4, ((fv.kp (.of s3)).kp kp4).ag nm, fun _ H5 y kp5 tb5 _ th5 => ?_, fun g => absurd (g.symm.trans good) (by decide)⟩
    refine ⟨sz (by simp), fun t nt => ⟨t, _, rfl, .inl (.inl upd_same), rfl, _, _, rfl, _, _, rfl, rfl, ?_⟩⟩
    have k35 := (kp4.trans kp5).trans (.of (same_new (o := .tup [V.ref x, V.ref y]) nt))
    have k45 := kp5.trans (.of (same_new (o := .tup [V.ref x, V.ref y]) nt))
    have k55 := Kp.of (same_new (o := .tup [V.ref x, V.ref y]) nt)
    try dsimp only
    refine use_seq ?_
    have sq5 := hd.sq.kp k35
    refine ⟨hv, c, rfl, sq5, fun H6 mu => ?_⟩
    have thx := mu.thing sq5 (th4.kp k45)
    have thy := mu.thing sq5 (th5.kp k55)
    have fv6 := mu.fv sq5 ((fv.kp (.of s3)).kp k35)
    have tb6 := mu.tabs sq5 (tabs_same tb5 (same_new (o := .tup [V.ref x, V.ref y]) nt))
    have sq6 := mu.sq hd (sq1.kp (.of s2)) (((sq1.kp (.of s2)).kp (.of s3)).kp k35)
    have h2s : Stt H2 s := x1.st.ex s2
    have st6 : Stt H6 s := by
      obtain ⟨a, b, z, q, r⟩ := h2s
      exact ⟨a, b, z, mu _ _ (hd.ne q) (k35 _ _ (noL _) (s3 _ _ q)), r⟩
    have ex6 : ExK s T0 H H6 := ⟨fun b o n z e => mu _ _ (hd.ne (s2 _ _ (x1.keep _ _ n e))) (k35 _ _ z (s3 _ _ (s2 _ _ (x1.keep _ _ n e)))), st6, tb6⟩
    clear mu sq5 k35 k45 k55 h2s th4 th5 kp4 kp5 tb4 tb5 tb3 hd fv sq1 s2 s3 x1 tb1
    try dsimp only
    refine use_seq (use_if ?_)
    refine ⟨_, rfl, _, rfl, i, x, c, rfl, thx, fun u hu1 => ?_⟩
    refine ⟨_, rfl, dat c, dat c, hu1.dp nm, fv6.dp nm, nm.shaped, nm.shaped, _, rfl, ifF nm.no ?_⟩
    refine ⟨_, rfl, _, rfl, i, y, c, rfl, thy, fun u2 hu2 => ?_⟩
    refine ⟨_, rfl, dat c, dat c, hu2.dp nm, fv6.dp nm, nm.shaped, nm.shaped, _, rfl, ifF nm.no ?_⟩
    refine ⟨_, rfl, _, rfl, i, x, c, rfl, thx, fun u3 hu3 => ?_⟩
    refine shw K H6 u3 _ hu3 ?_
    refine ⟨_, rfl, shw K H6 dv _ fv6 ⟨rfl, _, rfl, ifF (by simp) ?_⟩⟩
    refine use_next ?_
    try dsimp only
    refine use_seq (use_if ?_)
    refine ⟨_, rfl, _, rfl, eq_same eqs tp five (by decide) thx nm thy nm ⟨_, rfl, ifF (by rw [nm.refl]; rfl) ?_⟩⟩
    refine ⟨_, rfl, _, rfl, ne_same eqs tp five (by decide) thx nm thy nm ⟨_, rfl, ifF (by rw [nm.refl]; rfl) ?_⟩⟩
    refine ⟨_, rfl, _, rfl, eq_same eqs tp five (by decide) thy nm thx nm ⟨_, rfl, ifF (by rw [nm.refl]; rfl) ?_⟩⟩
    refine use_next ?_
    try dsimp only
    refine use_seq ?_
    refine ⟨_, rfl, _, rfl, s, i, rfl, st6, fun H7 v2 c2 fl2 good2 => ?_⟩
    have x7 := fl2.ex
    have sq7 := fl2.sq
    have nm2 := sq7.nm
    have tb7 := tabs_ext tb6 st6 x7
    have thx7 := thx.ext st6 x7
    have fv7 := fv6.ext st6 x7
    have sq67 := sq6.ext nvs x7
    have ex7 := ex6.trans (.ofExt x7 tb7)
    clear fl2 thx thy fv6 sq6 ex6 tb6
    try dsimp only
    refine use_seq (use_if ?_)
    refine ⟨_, rfl, ?_⟩
    refine ⟨_, rfl, _, rfl, i, v2, c2, false, rfl, tb7, sq7.fv, fun _ H8 z kp8 tb8 _ th8 => ?_, fun g => absurd (g.symm.trans good2) (by decide)⟩
    refine eq_same eqs tp five (by decide) (thx7.kp kp8) nm th8 nm2 ?_
    refine ⟨_, rfl, ?_⟩
    refine ⟨v2, c2, rfl, sq7.kp kp8, fun H9 ov s9 fv9 => ?_⟩
    refine ⟨dat c, dat c2, ((fv7.kp kp8).kp (.of s9)).dp nm, fv9.dp nm2, nm.shaped, nm2.shaped, rfl, _, rfl, ifF (by simp [eqC]) ?_⟩
    have k79 := kp8.trans (.of s9)
    have thx9 := thx7.kp k79
    have fv9' := fv7.kp k79
    have sq9 := sq67.kp k79
    have ex9 := ex7.kp k79 (tabs_same tb8 s9)
    clear thx7 fv7 sq67 ex7 th8 kp8 k79 tb8 tb7 sq7
    refine use_next ?_
    try dsimp only
    refine use_ret ?_
    refine ⟨_, rfl, _, rfl, _, rfl, ?_⟩
    refine shw K H9 dv _ fv9' ?_
    refine ⟨_, rfl, sz (by simp), fun t2 nt2 => ⟨t2, rfl, ⟨_, SqT.of upd_same⟩, fun D nD => ?_⟩⟩
    have S0 := same_new (o := .tup [dv, v, V.non, V.str (dat c).shown, V.int (i.val : Int)]) nt2
    have thx0 := thx9.kp (.of S0)
    have ex0 := ex9.kp (.of S0) (tabs_same ex9.tb S0)
    have ht2 := new_at (o := .tup [dv, v, V.non, V.str (dat c).shown, V.int (i.val : Int)]) nt2
    have pls : ∀ y ∈ [dv, v, V.non, V.str (dat c).shown, V.int (i.val : Int)], ∃ t, Pl (upd H9 t2 (.tup [dv, v, V.non, V.str (dat c).shown, V.int (i.val : Int)])) y t ∧ t ∈ bts := fun y hy => by
      simp only [List.mem_cons, List.mem_nil_iff, or_false] at hy
      rcases hy with rfl | rfl | rfl | rfl | rfl
      · exact (fv9'.kp (.of S0)).pl
      · exact (sq9.kp (.of S0)).pl
      · exact ⟨_, .non, by decide⟩
      · exact ⟨_, .str _, by decide⟩
      · exact ⟨_, .int _, by decide⟩
    refine lc_it (walk_tup (K := K) (a := t2) (xs := [dv, v, V.non, V.str (dat c).shown, V.int (i.val : Int)])) (fun _ H' => Same (upd H9 t2 (.tup [dv, v, V.non, V.str (dat c).shown, V.int (i.val : Int)])) H' ∧ H' D = some (.lst [])) ⟨same_new nD, upd_same⟩ (fun _ _ _ ⟨sm, _⟩ => SqT.of (sm _ _ ht2)) ?_ ?_
    · rintro j u W1 W2 lj ⟨sm, hD⟩ ⟨rfl, hx⟩
      obtain ⟨ty, pl, mt⟩ := pls u (List.mem_of_getElem? hx)
      have plW := pl.kp (.of sm)
      have thW := thx0.kp (.of sm)
      refine ⟨rfl, _, rfl, _, rfl, eq_else eqs five (by decide) thW nm plW mt ⟨_, rfl, ifF rfl ?_⟩⟩
      refine ⟨_, rfl, _, rfl, ne_else eqs five (by decide) thW nm plW mt ⟨_, rfl, ifF rfl ?_⟩⟩
      exact ⟨sm, hD⟩
    · rintro W ⟨sm, hD⟩
      refine ⟨sz (by simp), fun e ne => ?_⟩
      have S1 := same_new (o := .lst []) ne
      refine ⟨.list [], .list [], .lst (SqL.of (S1 _ _ hD)) .nil, .lst (SqL.of upd_same) .nil, by decide, by decide, ?_⟩
      exact k _ (ex0.kp (.of (sm.trans S1)) (tabs_same ex0.tb (sm.trans S1)))
end
end Q01


/-! right, the law -/
namespace Q01
open PySem PySem.Spec PyProof.Rows L2 QT LamX
/-- an entry: class, contents, place -/
structure Ent where
  i : Fin 5
  c : Co
  a : Addr
def sameB (e d : Ent) : Bool := decide (e.i = d.i) && eqC e.c d.c
def entOk (cs : Fin 5 → Addr) (H : Hp) (e : Ent) : Prop := Thing H e.a (cs e.i) (flE e.i) e.c ∧ Nm e.c
theorem entOk.kp {cs : Fin 5 → Addr} {H H' : Hp} {e : Ent} (h : entOk cs H e) (k : Kp H H') : entOk cs H' e := ⟨h.1.kp k, h.2⟩
theorem eq_ent {P : Program} {w : World} {K : PySem.W.Frag} {mg : Str → Option Value} {base : Heap} {cs : Fin 5 → Addr} {H : Hp} {e d : Ent} {Q : VK} {n : Nat} (q : ∀ i, EqC P w K mg base (cs i) 1 (spEq K (cs i) (flE i))) (tp : ∀ i, TypC K (cs i)) (f : Five K cs) (l : 1 ≤ n)
    (a : entOk cs H e) (b : entOk cs H d) (k : Q (.bl (sameB e d)) H) : rEqI P w K mg base n (.ref e.a) (.ref d.a) H Q := by
  obtain ⟨i, c, x⟩ := e
  obtain ⟨j, c2, y⟩ := d
  by_cases z : i = j
  · subst z
    refine eq_same q tp f l a.1 a.2 b.1 b.2 ?_
    have z : sameB ⟨i, c, x⟩ ⟨i, c2, y⟩ = eqC c c2 := by
      show (decide (i = i) && eqC c c2) = _
      rw [decide_eq_true rfl, Bool.true_and]
    rw [z] at k
    exact k
  · refine eq_two q tp f l a.1 a.2 b.1 (fun y => z y.symm) ?_
    have z : sameB ⟨i, c, x⟩ ⟨j, c2, y⟩ = false := by
      show (decide (i = j) && eqC c c2) = _
      rw [decide_eq_false z, Bool.false_and]
    rw [z] at k
    exact k
theorem eqv_len : ∀ {ns ms : List Int}, ns.length ≠ ms.length → PyData.eqvAll (ns.map PyData.int) (ms.map PyData.int) = false
  | [], [], h => absurd rfl h
  | [], _ :: _, _ => rfl
  | _ :: _, [], _ => rfl
  | n :: r, m :: t, h => by
    show (_ && PyData.eqvAll (r.map PyData.int) (t.map PyData.int)) = false
    rw [eqv_len (ns := r) (ms := t) (fun z => h (by rw [List.length_cons, List.length_cons, z])), Bool.and_false]
theorem eqC_len {ns ms : List Int} (h : ns.length ≠ ms.length) : eqC (.seq (ns.map V.int)) (.seq (ms.map V.int)) = false := by
  unfold eqC
  rw [dat_seq, dat_seq]
  exact eqv_len h
/-- the seven things -/
def seven (ns : List Int) (n : Int) (a0 a1 a2 a3 a4 a5 a6 : Addr) : List Ent := [⟨⟨1, by decide⟩, .seq (ns.map V.int), a0⟩, ⟨⟨3, by decide⟩, .seq (ns.map V.int), a1⟩, ⟨⟨4, by decide⟩, .seq (ns.map V.int), a2⟩, ⟨⟨0, by decide⟩, .seq ((ns ++ [300]).map V.int), a3⟩, ⟨⟨2, by decide⟩, .num n, a4⟩,
  ⟨⟨1, by decide⟩, .seq ((ns.take 4).map V.int), a5⟩, ⟨⟨3, by decide⟩, .seq ((ns.take 4).map V.int), a6⟩]
theorem sameB_two {i j : Fin 5} {c d : Co} {a b : Addr} (h : decide (i = j) = false) : sameB ⟨i, c, a⟩ ⟨j, d, b⟩ = false := by
  show (decide (i = j) && _) = false
  rw [h, Bool.false_and]
theorem sameB_self {e : Ent} (h : Nm e.c) : sameB e e = true := by
  unfold sameB
  rw [decide_eq_true rfl, Bool.true_and]
  exact h.refl
theorem sameB_len {i j : Fin 5} {ns ms : List Int} {a b : Addr} (h : ns.length ≠ ms.length) : sameB ⟨i, .seq (ns.map V.int), a⟩ ⟨j, .seq (ms.map V.int), b⟩ = false := by
  unfold sameB
  show (_ && eqC (.seq (ns.map V.int)) (.seq (ms.map V.int))) = false
  rw [eqC_len h, Bool.and_false]
theorem seven_same {ns : List Int} {n : Int} {a0 a1 a2 a3 a4 a5 a6 : Addr} (h : ns.length = 8) (nm : ∀ e ∈ seven ns n a0 a1 a2 a3 a4 a5 a6, Nm e.c) {k j : Nat} {e d : Ent} (he : (seven ns n a0 a1 a2 a3 a4 a5 a6)[k]? = some e) (hd : (seven ns n a0 a1 a2 a3 a4 a5 a6)[j]? = some d) : sameB e d = decide (k = j) := by
  by_cases z : k = j
  · subst z
    rw [he] at hd
    cases hd
    rw [decide_eq_true rfl]
    exact sameB_self (nm e (List.mem_of_getElem? he))
  · rw [decide_eq_false z]
    have l : (ns.take 4).length = 4 := by
      rw [List.length_take, h]
      rfl
    have kl : k < 7 := (List.getElem?_eq_some_iff.mp he).1
    have jl : j < 7 := (List.getElem?_eq_some_iff.mp hd).1
    match k, j, kl, jl, he, hd, z with
    | 0, 0, _, _, he, hd, z => exact absurd rfl z
    | 0, 1, _, _, he, hd, z => cases he; cases hd; exact sameB_two rfl
    | 0, 2, _, _, he, hd, z => cases he; cases hd; exact sameB_two rfl
    | 0, 3, _, _, he, hd, z => cases he; cases hd; exact sameB_two rfl
    | 0, 4, _, _, he, hd, z => cases he; cases hd; exact sameB_two rfl
    | 0, 5, _, _, he, hd, z => cases he; cases hd; exact sameB_len (by rw [l, h]; decide)
    | 0, 6, _, _, he, hd, z => cases he; cases hd; exact sameB_two rfl
    | 1, 0, _, _, he, hd, z => cases he; cases hd; exact sameB_two rfl
    | 1, 1, _, _, he, hd, z => exact absurd rfl z
    | 1, 2, _, _, he, hd, z => cases he; cases hd; exact sameB_two rfl
    | 1, 3, _, _, he, hd, z => cases he; cases hd; exact sameB_two rfl
    | 1, 4, _, _, he, hd, z => cases he; cases hd; exact sameB_two rfl
    | 1, 5, _, _, he, hd, z => cases he; cases hd; exact sameB_two rfl
    | 1, 6, _, _, he, hd, z => cases he; cases hd; exact sameB_len (by rw [l, h]; decide)
    | 2, 0, _, _, he, hd, z => cases he; cases hd; exact sameB_two rfl
    | 2, 1, _, _, he, hd, z => cases he; cases hd; exact sameB_two rfl
    | 2, 2, _, _, he, hd, z => exact absurd rfl z
    | 2, 3, _, _, he, hd, z => cases he; cases hd; exact sameB_two rfl
    | 2, 4, _, _, he, hd, z => cases he; cases hd; exact sameB_two rfl
    | 2, 5, _, _, he, hd, z => cases he; cases hd; exact sameB_two rfl
    | 2, 6, _, _, he, hd, z => cases he; cases hd; exact sameB_two rfl
    | 3, 0, _, _, he, hd, z => cases he; cases hd; exact sameB_two rfl
    | 3, 1, _, _, he, hd, z => cases he; cases hd; exact sameB_two rfl
    | 3, 2, _, _, he, hd, z => cases he; cases hd; exact sameB_two rfl
    | 3, 3, _, _, he, hd, z => exact absurd rfl z
    | 3, 4, _, _, he, hd, z => cases he; cases hd; exact sameB_two rfl
    | 3, 5, _, _, he, hd, z => cases he; cases hd; exact sameB_two rfl
    | 3, 6, _, _, he, hd, z => cases he; cases hd; exact sameB_two rfl
    | 4, 0, _, _, he, hd, z => cases he; cases hd; exact sameB_two rfl
    | 4, 1, _, _, he, hd, z => cases he; cases hd; exact sameB_two rfl
    | 4, 2, _, _, he, hd, z => cases he; cases hd; exact sameB_two rfl
    | 4, 3, _, _, he, hd, z => cases he; cases hd; exact sameB_two rfl
    | 4, 4, _, _, he, hd, z => exact absurd rfl z
    | 4, 5, _, _, he, hd, z => cases he; cases hd; exact sameB_two rfl
    | 4, 6, _, _, he, hd, z => cases he; cases hd; exact sameB_two rfl
    | 5, 0, _, _, he, hd, z => cases he; cases hd; exact sameB_len (by rw [l, h]; decide)
    | 5, 1, _, _, he, hd, z => cases he; cases hd; exact sameB_two rfl
    | 5, 2, _, _, he, hd, z => cases he; cases hd; exact sameB_two rfl
    | 5, 3, _, _, he, hd, z => cases he; cases hd; exact sameB_two rfl
    | 5, 4, _, _, he, hd, z => cases he; cases hd; exact sameB_two rfl
    | 5, 5, _, _, he, hd, z => exact absurd rfl z
    | 5, 6, _, _, he, hd, z => cases he; cases hd; exact sameB_two rfl
    | 6, 0, _, _, he, hd, z => cases he; cases hd; exact sameB_two rfl
    | 6, 1, _, _, he, hd, z => cases he; cases hd; exact sameB_len (by rw [l, h]; decide)
    | 6, 2, _, _, he, hd, z => cases he; cases hd; exact sameB_two rfl
    | 6, 3, _, _, he, hd, z => cases he; cases hd; exact sameB_two rfl
    | 6, 4, _, _, he, hd, z => cases he; cases hd; exact sameB_two rfl
    | 6, 5, _, _, he, hd, z => cases he; cases hd; exact sameB_two rfl
    | 6, 6, _, _, he, hd, z => exact absurd rfl z
theorem mk_goal {C CV : Addr} {fld : Str} {good : Co → Bool} {v : V} {c : Co} {H : Hp} {x dx : Addr} {Q : VK} {E : XK} (nx : H x = none) (nd : H dx = none) (ne : dx ≠ x) (ag : Ag H v c) (g : good c = true) (k : ∀ H' : Hp, Same H H' → Thing H' x C fld c → Q .non H') :
    spIni C CV fld good [.ref x, v] (upd (upd H dx (.own x)) x (.ins C dx [])) Q E := by
  have S : Same H (upd (upd H dx (.own x)) x (.ins C dx [])) := fun b o e => by
    rw [upd_ne (ne_of_none e nx), upd_ne (ne_of_none e nd)]
    exact e
  exact ⟨x, dx, v, c, rfl, upd_same, ag.same S, fun _ H' fv kp hx hfv => k H' (fun b o e => kp b o (ne_of_none e nx) (S b o e)) ⟨dx, fv, hx, hfv⟩, fun z => absurd (z.symm.trans g) (by decide)⟩
theorem cut_ints (ms : List Int) (lo hi : Option Int) : ∃ ks : List Int, cutV (ms.map V.int) lo hi = ks.map V.int ∧ ks.length ≤ ms.length := by
  refine ⟨(ms.drop (HT.sIx (ms.map V.int).length 0 lo)).take (HT.sIx (ms.map V.int).length (ms.map V.int).length hi - HT.sIx (ms.map V.int).length 0 lo), ?_, ?_⟩
  · unfold cutV
    rw [List.map_take, List.map_drop]
  · rw [List.length_take, List.length_drop]
    omega
theorem cut4 {ns : List Int} (h : ns.length = 8) : cutV (ns.map V.int) none (some 4) = (ns.take 4).map V.int := by
  unfold cutV
  rw [List.length_map, h, show HT.sIx 8 0 none = 0 from rfl, show HT.sIx 8 8 (some 4) = 4 from by decide, List.map_take]
  rfl
theorem items {H : Hp} {ns : List Int} : ∀ x ∈ ns.map V.int, ∃ t, Pl H x t := fun x hx => by
  obtain ⟨m, e, _⟩ := mem_ints hx
  exact ⟨_, e ▸ Pl.int m⟩
def spRight (T : List (Addr × Str)) : Sp := fun vs H Q _ => ∃ s : Addr, vs = [.ref s] ∧ Stt H s ∧ Tabs T H ∧ ∀ H' : Hp, ExK s T H H' → Q (.bl true) H'
def spLaw (K : PySem.W.Frag) (T : List (Addr × Str)) : Sp := fun vs H Q _ => ∃ (a : Addr) (ns : List Int), vs = [.ref a] ∧ SqL K H a (ns.map V.int) ∧ ns.length ≤ 63 ∧ Tabs T H ∧ ∀ H', Q (.bl true) H'
/-- side conditions; and the plain steps of a reading -/
local macro_rules | `(tactic| walk_at "sd") => `(tactic| first
  | assumption | decide | omega | exact b64 b01 | (show (0 : Int) < _; first | decide | omega) | exact ⟨by decide, by decide, by decide⟩ | exact ⟨by decide, by decide⟩ | exact ⟨by omega, by omega⟩
  | exact .inl ⟨by omega, by omega⟩ | exact .inr ⟨by omega, by omega⟩ | exact sz (by simp) | exact szl (by simp))
local macro_rules | `(tactic| walk_at "rd") => `(tactic| repeat (first
  | refine ⟨_, rfl, ?_⟩
  | refine ⟨_, _, rfl, rfl, ?_⟩
  | refine ⟨_, _, _, _, rfl, rfl, SqL.of (by first | assumption | exact upd_same), rfl, ?_⟩
  | refine .inl ⟨_, rfl, ?_⟩
  | refine .inr ⟨_, rfl, ?_⟩
  | refine ⟨_, _, _, _, rfl, rfl, (by first | assumption | exact upd_same), rfl, ?_⟩
  | refine And.intro (by walk_at "sd") ?_))
section
variable {P : Program} {w : World} {K : PySem.W.Frag} {mg : Str → Option Value} {base : Heap} {f : Addr} {fd : FuncData}
abbrev s__law_right : Stmt := top 31
theorem sc__law_right : FnScope ["_law_source_here", "_law_way", "_law_turn", "_law_eight", "_law_some", "_law_k", "_law_one", "_law_j"] ["_law_source_here"] (defScope s__law_right) := ⟨rfl, rfl, rfl, by decide +kernel, rfl, by decide +kernel, by decide +kernel⟩
theorem ok_right (F : Fun K "_law_right" "_law_right" s__law_right f fd) (T : Txt K mg) {T0 : List (Addr × Str)} {cs : Fin 5 → Addr} {CV : Addr} (al : ∀ i, ClsI P w K mg base (nmE i) (flE i) (cs i) CV (gdE i)) (c_octets : Cal P w K mg base 3 "_law_octets" spOctets) (c_one : CalG P w K mg base 8 "_law_one_right" (spOne T0)) (c_odd : Cal P w K mg base 9 "_law_odd_right" (spOdd T0))
    (eqs : ∀ i, EqC P w K mg base (cs i) 1 (spEq K (cs i) (flE i))) (tp : ∀ i, TypC K (cs i)) (five : Five K cs) : FnOkG P w K mg base 10 f fd ["_law_source_here"] (spRight T0) := by
  refine okG F sc__law_right (fun vs H Q E h => ?_) (fun cdv A outer st H vs Q E free hr h => ?_)
  · obtain ⟨s, rfl, _⟩ := h
    rfl
  · obtain ⟨s, rfl, hs, tb, k⟩ := h
    obtain ⟨fW, fdW, MW, FW, bW, _⟩ := (al ⟨0, by decide⟩).ini
    obtain ⟨fD, fdD, MD, FD, bD, _⟩ := (al ⟨1, by decide⟩).ini
    obtain ⟨fU, fdU, MU, FU, bU, _⟩ := (al ⟨2, by decide⟩).ini
    obtain ⟨fR, fdR, MR, FR, bR, _⟩ := (al ⟨3, by decide⟩).ini
    obtain ⟨fT, fdT, MT, FT, bT, _⟩ := (al ⟨4, by decide⟩).ini
    refine ⟨_, (pss_cons (ps_for PassesOwn.never rfl (pi_tup (pe_tup (pa_cons pe_int (pa_cons pe_int (pa_cons pe_int (pa_cons pe_int (pa_cons pe_int pa_nil))))))) (pg_name (i := 1) sc__law_right.nd rfl (Or.inl rfl))
      (pss_one (ps_for PassesOwn.never rfl (pi_range1 (by rfl) T.z_range (pa_cons pe_int pa_nil)) (pg_name (i := 2) sc__law_right.nd rfl (Or.inl rfl))
        (pss_one (ps_if (pt_not (pt_val (pe_cG c_one free hr (by decide) (by rfl) (pa_cons (pv 0) (pa_cons (pv 1) pa_nil)))))
          (pss_one (ps_ret pe_bl))
          pss_nil)))))
      (pss_cons (ps_set (i := 3) sc__law_right.nd rfl (Or.inl rfl) (pe_c c_octets hr (by decide) (by rfl) (pa_cons (pv 0) (pa_cons pe_int pa_nil))))
      (pss_cons (ps_set (i := 4) sc__law_right.nd rfl (Or.inr rfl) (pe_lst (pa_cons (pe_make MD FD (hr.mono (by decide)) (by rfl) (al ⟨1, by decide⟩).mgC bD .nil passL (pa_cons (pv 3) pa_nil)) (pa_cons (pe_make MR FR (hr.mono (by decide)) (by rfl) (al ⟨3, by decide⟩).mgC bR .nil passL (pa_cons (pv 3) pa_nil)) (pa_cons (pe_make MT FT (hr.mono (by decide)) (by rfl) (al ⟨4, by decide⟩).mgC bT .nil passL (pa_cons (pv 3) pa_nil)) (pa_cons (pe_make MW FW (hr.mono (by decide)) (by rfl) (al ⟨0, by decide⟩).mgC bW .nil passL (pa_cons (pe_op op_catS (pv 3) (pe_lst (pa_cons pe_int pa_nil))) pa_nil)) (pa_cons (pe_make MU FU (hr.mono (by decide)) (by rfl) (al ⟨2, by decide⟩).mgC bU .nil passL (pa_cons (pe_ix ix_list (pv 3) pe_int (fun _ _ => rfl)) pa_nil)) (pa_cons (pe_make MD FD (hr.mono (by decide)) (by rfl) (al ⟨1, by decide⟩).mgC bD .nil passL (pa_cons (pe_slice sl_list (pv 3) po_none (po_some pe_int)) pa_nil)) (pa_cons (pe_make MR FR (hr.mono (by decide)) (by rfl) (al ⟨3, by decide⟩).mgC bR .nil passL (pa_cons (pe_slice sl_list (pv 3) po_none (po_some pe_int)) pa_nil)) pa_nil)))))))))
      (pss_cons (ps_for PassesOwn.never rfl (pi_enumS (by rfl) T.z_enumerate (pa_cons (pv 4) pa_nil)) (pg_tup rfl (pgs_cons (pg_name (i := 5) sc__law_right.nd rfl (Or.inl rfl)) (pgs_cons (pg_name (i := 6) sc__law_right.nd rfl (Or.inr rfl)) pgs_nil)))
      (pss_one (ps_if (pt_cmpR (op_neD hr.units) (pe_lc (own := [("_law_j", 7)]) (g := (gName 7)) rfl sc__law_right.nd (pi_range1 (by rfl) T.z_range (pa_cons (pe_callB call_len_seq (by rfl) T.z_len PySem.boot_len (pa_cons (pv 4) pa_nil)) pa_nil)) (blkOk_by (N := ["_law_source_here", "_law_way", "_law_turn", "_law_eight", "_law_some", "_law_k", "_law_one", "_law_j"]) (sc := defScope s__law_right) (by decide +kernel)) (fun _ _ _ _ _ => (pg_name (i := 7) sc__law_right.nd rfl (Or.inl rfl))) (fun _ _ _ _ _ => (pts_one (pt_cmpR (show OpR _ (compareOp .Eq) (rEqI P w K mg base 9) from op_eqI (j := 9) hr) (pv 6) (pe_ix (show IxR _ (rIxL K) from ix_list) (pv 4) (pv 7) (fun _ _ => rfl)) (nomark _)))) (fun _ _ _ _ _ => (pv 7))) (pe_lst (pa_cons (pv 5) pa_nil)) (nomark _))
        (pss_one (ps_ret pe_bl))
        pss_nil)))
      (pss_one (ps_ret (pe_c c_odd hr (by decide) (by rfl) (pa_cons (pv 0) pa_nil)))))))), ?_⟩
    refine use_seq ?_
    refine ⟨sz (by simp), fun t nt => ⟨t, rfl, ⟨_, SqT.of upd_same⟩, ?_⟩⟩
    have S0 := same_new (o := .tup [V.int 0, V.int 1, V.int 2, V.int 3, V.int 4]) nt
    have nts : t ≠ s := hs.ne nt
    refine for_it (walk_tup (K := K) (a := t) (xs := [V.int 0, V.int 1, V.int 2, V.int 3, V.int 4])) (fun _ σ G => ∃ o1 o2 o3 o4 o5 o6 o7 : Option V, σ = [some (.ref s), o1, o2, o3, o4, o5, o6, o7] ∧ ExK s T0 H G ∧ G t = some (.tup [V.int 0, V.int 1, V.int 2, V.int 3, V.int 4])) ⟨none, none, none, none, none, none, none, rfl, .ofKp (.of S0) hs (tabs_same tb S0), new_at nt⟩ (fun _ _ _ _ ⟨_, _, _, _, _, _, _, _, _, h⟩ => SqT.of h) ?_ ?_
    · rintro j x σ G0 G1 hj ⟨o1, o2, o3, o4, o5, o6, o7, rfl, ex, ht⟩ ⟨rfl, hx⟩
      obtain ⟨i, rfl⟩ : ∃ i : Fin 5, x = V.int (i.val : Int) := by
        have z := List.mem_of_getElem? hx
        simp only [List.mem_cons, List.mem_nil_iff, or_false] at z
        rcases z with rfl | rfl | rfl | rfl | rfl
        · exact ⟨⟨0, by decide⟩, rfl⟩
        · exact ⟨⟨1, by decide⟩, rfl⟩
        · exact ⟨⟨2, by decide⟩, rfl⟩
        · exact ⟨⟨3, by decide⟩, rfl⟩
        · exact ⟨⟨4, by decide⟩, rfl⟩
      try dsimp only
      refine ⟨3, rfl, by decide, by decide, ?_⟩
      refine for_it walk_range (fun _ σ G => ∃ o2 o3 o4 o5 o6 o7 : Option V, σ = [some (.ref s), some (.int (i.val : Int)), o2, o3, o4, o5, o6, o7] ∧ ExK s T0 H G ∧ G t = some (.tup [V.int 0, V.int 1, V.int 2, V.int 3, V.int 4])) ⟨_, _, _, _, _, _, rfl, ex, ht⟩ (fun _ _ _ _ _ => trivial) ?_ ?_
      · rintro j2 x2 σ G2 G3 hj2 ⟨o2, o3, o4, o5, o6, o7, rfl, ex2, ht2⟩ ⟨rfl, rfl⟩
        try dsimp only
        refine use_if ?_
        refine ⟨_, rfl, _, rfl, s, i, rfl, ex2.st, ex2.tb, fun G4 ex4 => ⟨_, rfl, ifF rfl ?_⟩⟩
        refine use_next ?_
        exact ⟨_, _, _, _, _, _, rfl, ex2.trans ex4, ex4.keep _ _ nts (noTu _) ht2⟩
      · rintro σ G2 ⟨o2, o3, o4, o5, o6, o7, rfl, ex2, ht2⟩
        exact ⟨_, _, _, _, _, _, _, rfl, ex2, ht2⟩
    · rintro σ G ⟨o1, o2, o3, o4, o5, o6, o7, rfl, ex, _⟩
      try dsimp only
      refine use_seq ?_
      refine ⟨_, rfl, s, 8, rfl, ex.st, by decide, by decide, fun H1 p ns nl len => ?_⟩
      have ex1 := ex.trans (.ofExt nl.ex (tabs_ext ex.tb ex.st nl.ex))
      have hp := nl.at_
      have in_ := nl.in_
      have len8 : ns.length = 8 := by omega
      clear nl ex
      obtain ⟨n0, r, rfl⟩ : ∃ n0 r, ns = n0 :: r := by
        cases ns with
        | nil => cases len8
        | cons n r => exact ⟨n, r, rfl⟩
      have all255 := all_num in_
      have all65 : ((n0 :: r).map V.int).all (numB 65535) = true := all_num fun m hm => ⟨(in_ m hm).1, by have := (in_ m hm).2; omega⟩
      have b0 := in_ n0 List.mem_cons_self
      have l8 : ((n0 :: r).map V.int).length = 8 := by rw [List.length_map]; exact len8
      have gR : goodR (.seq ((n0 :: r).map V.int)) = true := by
        show (((n0 :: r).map V.int).all (numB 255) && (decide (((n0 :: r).map V.int).length = 4) || decide (((n0 :: r).map V.int).length = 8))) = true
        rw [all255, l8]
        rfl
      have gT : goodT (.seq ((n0 :: r).map V.int)) = true := by
        show (((n0 :: r).map V.int).all (numB 255) && decide (((n0 :: r).map V.int).length = 8)) = true
        rw [all255, l8]
        rfl
      have gW : goodW (.seq (((n0 :: r) ++ [300]).map V.int)) = true := by
        show ((((n0 :: r) ++ [300]).map V.int).all (numB 65535) && !((((n0 :: r) ++ [300]).map V.int).all plB)) = true
        rw [List.map_append, List.all_append, List.all_append, all65]
        simp [numB, plB]
      have gU : goodU (.num n0) = true := by
        show (decide (0 ≤ n0) && decide (n0 ≤ 18446744073709551615)) = true
        rw [decide_eq_true b0.1, decide_eq_true (show n0 ≤ 18446744073709551615 by omega)]
        rfl
      have l4 : ((n0 :: r).take 4).length = 4 := by
        rw [List.length_take, len8]
        rfl
      have all4 : (((n0 :: r).take 4).map V.int).all (numB 255) = true := all_num fun m hm => in_ m (List.mem_of_mem_take hm)
      have gR4 : goodR (.seq (((n0 :: r).take 4).map V.int)) = true := by
        show ((((n0 :: r).take 4).map V.int).all (numB 255) && (decide ((((n0 :: r).take 4).map V.int).length = 4) || decide ((((n0 :: r).take 4).map V.int).length = 8))) = true
        rw [all4, List.length_map, l4]
        rfl
      have ag0 : Ag H1 (.ref p) (.seq ((n0 :: r).map V.int)) := .lst hp (by omega) items
      try dsimp only
      refine use_seq ?_
      refine ⟨_, rfl, fun a0 da0 ma0 mda0 nea0 => mk_goal ma0 mda0 nea0 ag0 all255 fun G1 s1 th0 => ⟨rfl, ?_⟩⟩
      have k1 := s1
      refine ⟨_, rfl, fun a1 da1 ma1 mda1 nea1 => mk_goal ma1 mda1 nea1 (ag0.same k1) gR fun G2 s2 th1 => ⟨rfl, ?_⟩⟩
      have k2 := k1.trans s2
      refine ⟨_, rfl, fun a2 da2 ma2 mda2 nea2 => mk_goal ma2 mda2 nea2 (ag0.same k2) gT fun G3 s3 th2 => ⟨rfl, ?_⟩⟩
      have k3 := k2.trans s3
      refine ⟨_, rfl, sz (by simp), fun l nl => ⟨p, l, _, _, rfl, rfl, SqL.of (same_new nl _ _ (k3 _ _ hp)), SqL.of upd_same, sz (by rw [List.length_map, len8]; decide), fun q nq => ?_⟩⟩
      rw [show (n0 :: r).map V.int ++ [V.int 300] = ((n0 :: r) ++ [300]).map V.int by rw [List.map_append]; rfl]
      have s4a := (same_new (o := .lst [V.int 300]) nl).trans (same_new (o := .lst (((n0 :: r) ++ [300]).map V.int)) nq)
      refine fun a3 da3 ma3 mda3 nea3 => mk_goal ma3 mda3 nea3 (.lst upd_same (by rw [List.length_map, List.length_append, len8]; decide) items) gW fun G4 s4 th3 => ⟨rfl, ?_⟩
      have k34 := s4a.trans s4
      have k4 := k3.trans k34
      have at0 : atI ((n0 :: r).map V.int) 0 = some (V.int n0) := at_ix (d := 0) (by decide) (by rw [l8]; decide)
      refine ⟨_, rfl, p, _, _, _, rfl, rfl, SqL.of (k4 _ _ hp), at0, ?_⟩
      refine fun a4 da4 ma4 mda4 nea4 => mk_goal ma4 mda4 nea4 (.num n0) gU fun G5 s5 th4 => ⟨rfl, ?_⟩
      have k5 := k4.trans s5
      refine ⟨_, rfl, _, rfl, p, _, rfl, SqL.of (k5 _ _ hp), fun q2 nq2 => ?_⟩
      rw [cut4 len8]
      refine fun a5 da5 ma5 mda5 nea5 => mk_goal ma5 mda5 nea5 (.lst upd_same (by rw [List.length_map, l4]; decide) items) all4 fun G6 s6 th5 => ⟨rfl, ?_⟩
      have k56 := (same_new (o := .lst (((n0 :: r).take 4).map V.int)) nq2).trans s6
      have k6 := k5.trans k56
      refine ⟨_, rfl, _, rfl, p, _, rfl, SqL.of (k6 _ _ hp), fun q3 nq3 => ?_⟩
      rw [cut4 len8]
      refine fun a6 da6 ma6 mda6 nea6 => mk_goal ma6 mda6 nea6 (.lst upd_same (by rw [List.length_map, l4]; decide) items) gR4 fun G7 s7 th6 => ⟨rfl, ?_⟩
      have k67 := (same_new (o := .lst (((n0 :: r).take 4).map V.int)) nq3).trans s7
      have k7 := k6.trans k67
      refine ⟨sz (by simp), fun L nL => ?_⟩
      have S8 := same_new (o := .lst [V.ref a0, V.ref a1, V.ref a2, V.ref a3, V.ref a4, V.ref a5, V.ref a6]) nL
      have hL := new_at (o := .lst [V.ref a0, V.ref a1, V.ref a2, V.ref a3, V.ref a4, V.ref a5, V.ref a6]) nL
      have ex8 := ex1.kp (.of (k7.trans S8)) (tabs_same ex1.tb (k7.trans S8))
      have nm8 : Nm (.seq ((n0 :: r).map V.int)) := .seq _ (by omega)
      have nm4 : Nm (.seq (((n0 :: r).take 4).map V.int)) := .seq _ (by omega)
      have nm9 : Nm (.seq (((n0 :: r) ++ [300]).map V.int)) := .seq _ (by rw [List.length_append, len8]; decide)
      have ok8 : ∀ e ∈ seven (n0 :: r) n0 a0 a1 a2 a3 a4 a5 a6, entOk cs (upd G7 L (.lst [V.ref a0, V.ref a1, V.ref a2, V.ref a3, V.ref a4, V.ref a5, V.ref a6])) e := fun e he => by
        simp only [seven, List.mem_cons, List.mem_nil_iff, or_false] at he
        rcases he with rfl | rfl | rfl | rfl | rfl | rfl | rfl
        · exact ⟨th0.kp (.of ((((((s2.trans s3).trans k34).trans s5).trans k56).trans k67).trans S8)), nm8⟩
        · exact ⟨th1.kp (.of (((((s3.trans k34).trans s5).trans k56).trans k67).trans S8)), nm8⟩
        · exact ⟨th2.kp (.of ((((k34.trans s5).trans k56).trans k67).trans S8)), nm8⟩
        · exact ⟨th3.kp (.of (((s5.trans k56).trans k67).trans S8)), nm9⟩
        · exact ⟨th4.kp (.of ((k56.trans k67).trans S8)), .num _⟩
        · exact ⟨th5.kp (.of (k67.trans S8)), nm4⟩
        · exact ⟨th6.kp (.of S8), nm4⟩
      have same8 := fun {k j : Nat} {e d : Ent} (he : (seven (n0 :: r) n0 a0 a1 a2 a3 a4 a5 a6)[k]? = some e) (hd : (seven (n0 :: r) n0 a0 a1 a2 a3 a4 a5 a6)[j]? = some d) => seven_same len8 (fun e he => (ok8 e he).2) he hd
      have hl8 : (seven (n0 :: r) n0 a0 a1 a2 a3 a4 a5 a6).length = 7 := rfl
      replace hL : (upd G7 L (.lst [V.ref a0, V.ref a1, V.ref a2, V.ref a3, V.ref a4, V.ref a5, V.ref a6])) L = some (.lst ((seven (n0 :: r) n0 a0 a1 a2 a3 a4 a5 a6).map fun e => V.ref e.a)) := hL
      generalize seven (n0 :: r) n0 a0 a1 a2 a3 a4 a5 a6 = ES at ok8 same8 hl8 hL
      have nLs : L ≠ s := ((ex1.kp (.of k7) (tabs_same ex1.tb k7)).st).ne nL
      clear k1 k2 k3 k34 k4 k5 k56 k6 k67 k7 th0 th1 th2 th3 th4 th5 th6 s1 s2 s3 s4 s5 s6 s7 nm8 nm4 nm9 gR gT gW gU gR4 all4 l4 all65 all255 s4a
      try dsimp only
      refine use_seq ?_
      refine ⟨_, rfl, L, rfl, .inl ⟨ES.map fun e => V.ref e.a, SqL.of hL, ?_⟩⟩
      have XSl : (ES.map fun e => V.ref e.a).length = 7 := by rw [List.length_map]; exact hl8
      refine for_it (walk_enum (K := K) (a := L) (xs := ES.map fun e => V.ref e.a)) (fun _ σ G => ∃ o1 o2 o5 o6 o7 : Option V, σ = [some (.ref s), o1, o2, some (.ref p), some (.ref L), o5, o6, o7] ∧ ExK s T0 H G ∧ G L = some (.lst (ES.map fun e => V.ref e.a)) ∧ ∀ e ∈ ES, entOk cs G e) ⟨_, _, _, _, _, rfl, ex8, hL, ok8⟩ (fun _ _ _ _ ⟨_, _, _, _, _, _, _, h, _⟩ => SqL.of h) ?_ ?_
      · rintro i x σ W0 W1 hi ⟨o1, o2, o5, o6, o7, rfl, exw, hLw, okw⟩ ⟨t, u, v, rfl, nt, rfl, eu, ev⟩
        cases eu
        replace ev : (ES.map fun e => V.ref e.a)[i]? = some v := ev
        have li : i < 7 := by rw [XSl] at hi; exact hi
        obtain ⟨e, he⟩ : ∃ e, ES[i]? = some e := ⟨_, List.getElem?_eq_getElem (by rw [hl8]; exact li)⟩
        rw [List.getElem?_map, he] at ev
        cases ev
        have S0 := same_new (o := .tup [V.int (i : Nat), V.ref e.a]) nt
        have exw0 := exw.kp (.of S0) (tabs_same exw.tb S0)
        have hLw0 := S0 _ _ hLw
        have okw0 : ∀ d ∈ ES, entOk cs _ d := fun d hd => (okw d hd).kp (.of S0)
        refine ⟨t, _, rfl, .inl (.inl upd_same), rfl, _, _, rfl, _, _, rfl, rfl, ?_⟩
        try dsimp only
        refine use_if ?_
        refine ⟨_, rfl, L, _, rfl, .inl (SqL.of hLw0), _, rfl, ?_, ?_, fun D nD => ?_⟩
        · rw [XSl]; decide
        · rw [XSl]; decide
        refine lc_it walk_range (fun m H' => Same (upd W0 t (.tup [V.int (i : Nat), V.ref e.a])) H' ∧ H' D = some (.lst (if i < m then [V.int (i : Nat)] else []))) ⟨same_new nD, by rw [upd_same, if_neg (Nat.not_lt_zero i)]⟩ (fun _ _ _ _ => trivial) ?_ ?_
        · rintro m x W2 W3 lm ⟨sm, hD⟩ ⟨rfl, rfl⟩
          have lm7 : m < 7 := by rw [XSl] at lm; exact lm
          obtain ⟨d, hd⟩ : ∃ d, ES[m]? = some d := ⟨_, List.getElem?_eq_getElem (by rw [hl8]; exact lm7)⟩
          have dat0 : atI (ES.map fun e => V.ref e.a) (0 + (m : Nat)) = some (V.ref d.a) := by
            rw [show (0 : Int) + (m : Nat) = ((m : Nat) : Int) from Int.zero_add _]
            exact atI_nat (by rw [List.getElem?_map, hd]; rfl)
          refine ⟨rfl, _, rfl, _, rfl, _, rfl, L, _, _, _, rfl, rfl, SqL.of (sm _ _ hLw0), dat0, ?_⟩
          refine eq_ent eqs tp five (by decide) ((okw0 e (List.mem_of_getElem? he)).kp (.of sm)) ((okw0 d (List.mem_of_getElem? hd)).kp (.of sm)) ⟨_, rfl, ?_⟩
          rw [same8 he hd]
          by_cases im : i = m
          · subst im
            rw [decide_eq_true rfl]
            refine ifT rfl ?_
            rw [if_neg (Nat.lt_irrefl i)] at hD
            refine ⟨_, rfl, _, hD, (by show 0 < sizeLine; decide), fun b o z => ?_, ?_⟩
            · rw [upd_ne (ne_of_none z nD)]
              exact sm b o z
            · rw [upd_same, if_pos (Nat.lt_succ_self i)]
              show some (HO.lst [V.int (0 + (i : Nat))]) = _
              rw [Int.zero_add]
          · rw [decide_eq_false im]
            refine ifF rfl ?_
            refine ⟨sm, ?_⟩
            rw [hD]
            by_cases z : i < m
            · rw [if_pos z, if_pos (by omega)]
            · rw [if_neg z, if_neg (by omega)]
        · rintro W2 ⟨sm, hD⟩
          rw [XSl, if_pos (show i < Int.toNat ((7 : Nat) : Int) from li)] at hD
          refine ⟨_, rfl, sz (by simp), fun l2 nl2 => ?_⟩
          have S1 := same_new (o := .lst [V.int (i : Nat)]) nl2
          refine ⟨.list [.int (i : Nat)], .list [.int (i : Nat)], .lst (SqL.of (S1 _ _ hD)) (.cons (.int _) .nil), .lst (SqL.of upd_same) (.cons (.int _) .nil), rfl, rfl, _, rfl, ifF (by simp [PyData.eqv, PyData.eqvAll]) ?_⟩
          refine use_next ?_
          have S2 := sm.trans S1
          exact ⟨_, _, _, _, _, rfl, exw0.kp (.of S2) (tabs_same exw0.tb S2), S2 _ _ hLw0, fun d hd => (okw0 d hd).kp (.of S2)⟩
      · rintro σ W0 ⟨o1, o2, o5, o6, o7, rfl, exw, _, _⟩
        try dsimp only
        refine use_ret ?_
        exact ⟨_, rfl, s, rfl, exw.st, exw.tb, fun H' ex' => k _ (exw.trans ex')⟩
abbrev s_law : Stmt := top 32
theorem sc_law : FnScope ["_law_script", "_law_cell", "_law_source_here"] ["_law_script"] (defScope s_law) := ⟨rfl, rfl, rfl, by decide +kernel, rfl, by decide +kernel, by decide +kernel⟩
theorem ok_law (F : Fun K "law" "law" s_law f fd) (T : Txt K mg) {T0 : List (Addr × Str)} (c_source : Cal P w K mg base 1 "_law_source" spSource) (c_right : CalG P w K mg base 10 "_law_right" (spRight T0)) : FnOkG P w K mg base 11 f fd ["_law_script"] (spLaw K T0) := by
  refine okG F sc_law (fun vs H Q E h => ?_) (fun cdv A outer st H vs Q E free hr h => ?_)
  · obtain ⟨a, ns, rfl, _⟩ := h
    rfl
  · obtain ⟨a, ns, rfl, hs, hl, tb, k⟩ := h
    refine ⟨_, (pss_cons (ps_for PassesOwn.never rfl (pi_list (pe_slice sl_list (pe_op op_catS (pv 0) (pe_lst (pa_cons pe_int pa_nil))) po_none (po_some pe_int))) (pg_name (i := 1) sc_law.nd rfl (Or.inl rfl))
      (pss_cons (ps_set (i := 2) sc_law.nd rfl (Or.inl rfl) (pe_c c_source hr (by decide) (by rfl) (pa_cons (pv 1) pa_nil)))
        (pss_one (ps_if (pt_not (pt_val (pe_cG c_right free hr (by decide) (by rfl) (pa_cons (pv 2) pa_nil))))
        (pss_one (ps_ret pe_bl))
        pss_nil))))
      (pss_one (ps_ret pe_bl))), ?_⟩
    refine use_seq ?_
    refine ⟨_, rfl, sz (by simp), fun l1 n1 => ⟨a, l1, _, _, rfl, rfl, (same_new n1).seq hs, SqL.of upd_same, sz (by rw [List.length_map]; simp; omega), fun l2 n2 => ⟨_, rfl, l2, _, rfl, SqL.of upd_same, fun u nu => ?_⟩⟩⟩
    have e1 : ns.map V.int ++ [V.int 0] = (ns ++ [0]).map V.int := map_snoc ns 0
    rw [e1] at nu ⊢
    obtain ⟨ks, ek, kl⟩ := cut_ints (ns ++ [0]) none (some 4)
    rw [ek]
    have S0 := ((same_new (o := .lst [V.int 0]) n1).trans (same_new (o := .lst ((ns ++ [0]).map V.int)) n2)).trans (same_new (o := .lst (ks.map V.int)) nu)
    refine ⟨u, rfl, ⟨_, SqL.of upd_same⟩, ?_⟩
    refine for_it (walk_list (K := K) (a := u) (xs := ks.map V.int)) (fun _ σ G => ∃ o1 o2 : Option V, σ = [some (.ref a), o1, o2] ∧ Tabs T0 G ∧ G u = some (.lst (ks.map V.int))) ⟨none, none, rfl, tabs_same tb S0, upd_same⟩ (fun _ _ _ _ ⟨_, _, _, _, h⟩ => SqL.of h) ?_ ?_
    · rintro i x σ G0 G1 hi ⟨o1, o2, rfl, tb1, hu⟩ ⟨rfl, hx⟩
      rw [List.length_map] at hi
      obtain ⟨n, rfl⟩ : ∃ n, x = V.int n := by
        obtain ⟨m, e, _⟩ := mem_ints (List.mem_of_getElem? hx)
        exact ⟨m, e⟩
      try dsimp only
      refine use_seq ?_
      refine ⟨_, rfl, n, rfl, fun G2 s ns2 s2 st2 => ?_⟩
      try dsimp only
      refine use_if ?_
      refine ⟨_, rfl, s, rfl, st2, tabs_same tb1 s2, fun G3 ex3 => ⟨_, rfl, ifF rfl ?_⟩⟩
      refine use_next ?_
      exact ⟨_, _, rfl, ex3.tb, ex3.keep _ _ (ne_of_none hu ns2) (noL _) (s2 _ _ hu)⟩
    · rintro σ G0 ⟨o1, o2, rfl, _, _⟩
      exact k _
end
end Q01


/-! the end -/
namespace Q01
open PySem PySem.Spec PyProof.Rows L2 QT LamX
def mk5 (a0 a1 a2 a3 a4 : Addr) : Fin 5 → Addr
  | ⟨0, _⟩ => a0
  | ⟨1, _⟩ => a1
  | ⟨2, _⟩ => a2
  | ⟨3, _⟩ => a3
  | ⟨4, _⟩ => a4
def all5 : List (Fin 5) := [⟨0, by decide⟩, ⟨1, by decide⟩, ⟨2, by decide⟩, ⟨3, by decide⟩, ⟨4, by decide⟩]
theorem mem5 : ∀ j : Fin 5, j ∈ all5 := by decide
theorem row5 {K : PySem.W.Frag} {cs : Fin 5 → Addr} {i : Fin 5} (h : (all5.map fun j => PySem.W.subIn K (.ref (cs i)) (.ref (cs j))) = all5.map fun j => some (decide (i = j))) (j : Fin 5) : PySem.W.subIn K (.ref (cs i)) (.ref (cs j)) = some (decide (i = j)) :=
  List.map_inj_left.mp h j (mem5 j)
theorem bts_of {K : PySem.W.Frag} {C : Addr} (h : (bts.map fun t => PySem.W.subIn K (.type t) (.ref C)) = bts.map fun _ => some false) (t : String) (m : t ∈ bts) : PySem.W.subIn K (.type t) (.ref C) = some false := List.map_inj_left.mp h t m
theorem fn_is {K : PySem.W.Frag} {v : Value} (h : PySem.W.typeIn K v = some (.type "function")) : PySem.W.isFn K v = true := by
  unfold PySem.W.isFn
  rw [h]
  rfl
theorem exm_is {K : PySem.W.Frag} {c C : Addr} {b : Bool} (h1 : PySem.W.subIn K (.ref C) (.type "BaseException") = some true) (h2 : PySem.W.isClsIn K C = true) (h3 : PySem.W.typeIn K (.ref C) = some (.type "type")) (h4 : PySem.W.subIn K (.ref c) (.ref C) = some b) : PySem.W.exmOne K (.ref c) (.ref C) = some b := by
  have y1 : (PySem.W.subIn K (.ref C) (.type "BaseException") == some true) = true := by
    rw [h1]
    rfl
  have y2 : ((PySem.W.clsIn K C).isSome && PySem.W.typeIn K (.ref C) == some (.type "type")) = true := by
    have y3 : (PySem.W.clsIn K C).isSome = true := h2
    rw [y3, h3]
    rfl
  unfold PySem.W.exmOne PySem.W.kitCls
  rw [if_pos y1]
  dsimp only
  rw [if_pos y2]
  exact h4
theorem all_mk {l : PySem.W.OpenLaw} {ts : List Addr} {w : World} {K : PySem.W.Frag} {h : Heap} {mg : Str → Option Value} {fa coM PM fSo fDr fPi fOc fUn fMa fFi fDw fRe fOd fOn fRi fLa fIn fBe fPl fBw fAr fIV fIW fEW fID fED fIU fEU fIR fER fIT fET CV CW CD CU CR CT CN : Addr} (X : K.In h) (G : h.Ns mainGlobals mg) (hfa : mg "law" = some (.ref fa))
    {odSo anSo odDr anDr odPi anPi odOc anOc odUn anUn odMa anMa odFi anFi odDw anDw odRe anRe odOd anOd odOn anOn odRi anRi odLa anLa odIn anIn odBe anBe odPl anPl odBw anBw odAr anAr odIV anIV odIW anIW odEW anEW odID anID odED anED odIU anIU odEU anEU odIR anIR odER anER odIT anIT odET anET : Option Addr} {slSo slDr slPi slOc slUn slMa slFi slDw slRe slOd slOn slRi slLa slIn slBe slPl slBw slAr slIV slIW slEW slID slED slIU slEU slIR slER slIT slET : Array (Option Value)} {ocSo kVSo dcSo pmSo cdSo ctSo ocDr kVDr dcDr pmDr cdDr ctDr ocPi kVPi dcPi pmPi cdPi ctPi ocOc kVOc dcOc pmOc cdOc ctOc ocUn kVUn dcUn pmUn cdUn ctUn ocMa kVMa dcMa pmMa ctMa ocFi kVFi dcFi pmFi cdFi ctFi ocDw kVDw dcDw pmDw cdDw ctDw ocRe kVRe dcRe pmRe cdRe ctRe ocOd kVOd dcOd pmOd cdOd ctOd ocOn kVOn dcOn pmOn cdOn ctOn ocRi kVRi dcRi pmRi cdRi ctRi ocLa kVLa dcLa pmLa cdLa ctLa ocIn kVIn dcIn pmIn cdIn ctIn ocBe kVBe dcBe pmBe cdBe ctBe ocPl kVPl dcPl pmPl cdPl ctPl ocBw kVBw dcBw pmBw cdBw ctBw ocAr kVAr dcAr pmAr cdAr ctAr ocIV kVIV dcIV pmIV cdIV ctIV ocIW kVIW dcIW pmIW cdIW ctIW ocEW kVEW dcEW pmEW cdEW ctEW ocID kVID dcID pmID cdID ctID ocED kVED dcED pmED cdED ctED ocIU kVIU dcIU pmIU cdIU ctIU ocEU kVEU dcEU pmEU cdEU ctEU ocIR kVIR dcIR pmIR cdIR ctIR ocER kVER dcER pmER cdER ctER ocIT kVIT dcIT pmIT cdIT ctIT ocET kVET dcET pmET cdET ctET : Value}
    {nmV qV : Str} {NV : Addr} {bsV subV bmV : List Value} {snV : List Str} {abV : Bool} {colV : Option Bool} {ddV : Option Addr} {m0V m1V m2V m3V m5V : Option Value}
    {tkPc : Tok}
    {tkGb : Tok}
    {tkGu : Tok}
    {tkHi : Tok}
    (gV : PySem.W.nsIn K mainGlobals "NoValue" = some (some (.ref CV)))
    (xV : K.lookup CV = some (excClassObj nmV qV CV NV bsV bmV true snV subV abV colV ddV m0V m1V m2V m3V m5V "ValueError.__new__"))
    (rV : PySem.HandSPX.refsVE bmV = true)
    (saV : PySem.W.findIn K (.ref CV) "__setattr__" = some (some (.builtin "object.__setattr__")))
    (gaV : PySem.W.findIn K (.ref CV) "__getattribute__" = some (some (.builtin "BaseException.__getattribute__")))
    (ggV : PySem.W.findIn K (.ref CV) "__getattr__" = some none)
    (keV : PySem.W.keepIn K (.ref CV) = true)
    (beV : PySem.W.subIn K (.ref CV) (.type "BaseException") = some true)
    (tyV : PySem.W.typeIn K (.ref CV) = some (.type "type"))
    (hdV : PySem.W.hasDictIn K CV = true)
    (icV : PySem.W.isClsIn K CV = true)
    (nV_path : PySem.W.findIn K (.ref CV) "path" = some none)
    (suVV : PySem.W.subIn K (.ref CV) (.ref CV) = some true)
    (gW : PySem.W.nsIn K mainGlobals "Wide" = some (some (.ref CW)))
    (gD : PySem.W.nsIn K mainGlobals "Data" = some (some (.ref CD)))
    (gU : PySem.W.nsIn K mainGlobals "Uid" = some (some (.ref CU)))
    (gR : PySem.W.nsIn K mainGlobals "Real" = some (some (.ref CR)))
    (gT : PySem.W.nsIn K mainGlobals "Date" = some (some (.ref CT)))
    (gN : PySem.W.nsIn K mainGlobals "NestError" = some (some (.ref CN)))
    (iPc : PySem.W.nsIn K mainGlobals "PERCENT" = some (some (.int 37 tkPc)))
    (iGb : PySem.W.nsIn K mainGlobals "GREATEST_BYTE" = some (some (.int 255 tkGb)))
    (iGu : PySem.W.nsIn K mainGlobals "GREATEST_UNIT" = some (some (.int 65535 tkGu)))
    (iHi : PySem.W.nsIn K mainGlobals "HIGHEST" = some (some (.int 18446744073709551615 tkHi)))
    (z_len : PySem.W.nsIn K mainGlobals "len" = some none)
    (z_abs : PySem.W.nsIn K mainGlobals "abs" = some none)
    (z_int : PySem.W.nsIn K mainGlobals "int" = some none)
    (z_bool : PySem.W.nsIn K mainGlobals "bool" = some none)
    (z_tuple : PySem.W.nsIn K mainGlobals "tuple" = some none)
    (z_list : PySem.W.nsIn K mainGlobals "list" = some none)
    (z_isinstance : PySem.W.nsIn K mainGlobals "isinstance" = some none)
    (z_all : PySem.W.nsIn K mainGlobals "all" = some none)
    (z_range : PySem.W.nsIn K mainGlobals "range" = some none)
    (z_enumerate : PySem.W.nsIn K mainGlobals "enumerate" = some none)
    (z_repr : PySem.W.nsIn K mainGlobals "repr" = some none)
    (z_min : PySem.W.nsIn K mainGlobals "min" = some none)
    (z_max : PySem.W.nsIn K mainGlobals "max" = some none)
    (tM : PySem.W.tabIn K "_law_made" = some (coM, PM))
    (nM : K.lookup PM = none)
    (aSo : PySem.W.nsIn K mainGlobals "_law_source" = some (some (.ref fSo)))
    (lSo : K.lookup fSo = some ⟨ocSo, odSo, .func (PySem.W.fnOf "_law_source" "_law_source" (defArgs s__law_source) (defBody s__law_source) (defScope s__law_source) .none kVSo dcSo pmSo anSo cdSo ctSo), slSo⟩)
    (cSo : PySem.W.codeIn K cdSo "_law_source" = true)
    (kSo : PySem.W.keepIn K (.ref fSo) = true)
    (aDr : PySem.W.nsIn K mainGlobals "_law_draw" = some (some (.ref fDr)))
    (lDr : K.lookup fDr = some ⟨ocDr, odDr, .func (PySem.W.fnOf "_law_draw" "_law_draw" (defArgs s__law_draw) (defBody s__law_draw) (defScope s__law_draw) .none kVDr dcDr pmDr anDr cdDr ctDr), slDr⟩)
    (cDr : PySem.W.codeIn K cdDr "_law_draw" = true)
    (kDr : PySem.W.keepIn K (.ref fDr) = true)
    (aPi : PySem.W.nsIn K mainGlobals "_law_pick" = some (some (.ref fPi)))
    (lPi : K.lookup fPi = some ⟨ocPi, odPi, .func (PySem.W.fnOf "_law_pick" "_law_pick" (defArgs s__law_pick) (defBody s__law_pick) (defScope s__law_pick) .none kVPi dcPi pmPi anPi cdPi ctPi), slPi⟩)
    (cPi : PySem.W.codeIn K cdPi "_law_pick" = true)
    (kPi : PySem.W.keepIn K (.ref fPi) = true)
    (aOc : PySem.W.nsIn K mainGlobals "_law_octets" = some (some (.ref fOc)))
    (lOc : K.lookup fOc = some ⟨ocOc, odOc, .func (PySem.W.fnOf "_law_octets" "_law_octets" (defArgs s__law_octets) (defBody s__law_octets) (defScope s__law_octets) .none kVOc dcOc pmOc anOc cdOc ctOc), slOc⟩)
    (cOc : PySem.W.codeIn K cdOc "_law_octets" = true)
    (kOc : PySem.W.keepIn K (.ref fOc) = true)
    (aUn : PySem.W.nsIn K mainGlobals "_law_units" = some (some (.ref fUn)))
    (lUn : K.lookup fUn = some ⟨ocUn, odUn, .func (PySem.W.fnOf "_law_units" "_law_units" (defArgs s__law_units) (defBody s__law_units) (defScope s__law_units) .none kVUn dcUn pmUn anUn cdUn ctUn), slUn⟩)
    (cUn : PySem.W.codeIn K cdUn "_law_units" = true)
    (kUn : PySem.W.keepIn K (.ref fUn) = true)
    (aMa : PySem.W.nsIn K mainGlobals "_law_made" = some (some (.ref fMa)))
    (lMa : K.lookup fMa = some ⟨ocMa, odMa, .func (PySem.W.fnOf "_law_made" "_law_made" (defArgs s__law_made) (defBody s__law_made) (defScope s__law_made) .none kVMa dcMa pmMa anMa (.ref coM) ctMa), slMa⟩)
    (cMa : PySem.W.codeIn K (.ref coM) "_law_made" = true)
    (kMa : PySem.W.keepIn K (.ref fMa) = true)
    (aFi : PySem.W.nsIn K mainGlobals "_law_field" = some (some (.ref fFi)))
    (lFi : K.lookup fFi = some ⟨ocFi, odFi, .func (PySem.W.fnOf "_law_field" "_law_field" (defArgs s__law_field) (defBody s__law_field) (defScope s__law_field) .none kVFi dcFi pmFi anFi cdFi ctFi), slFi⟩)
    (cFi : PySem.W.codeIn K cdFi "_law_field" = true)
    (kFi : PySem.W.keepIn K (.ref fFi) = true)
    (aDw : PySem.W.nsIn K mainGlobals "_law_drawn" = some (some (.ref fDw)))
    (lDw : K.lookup fDw = some ⟨ocDw, odDw, .func (PySem.W.fnOf "_law_drawn" "_law_drawn" (defArgs s__law_drawn) (defBody s__law_drawn) (defScope s__law_drawn) .none kVDw dcDw pmDw anDw cdDw ctDw), slDw⟩)
    (cDw : PySem.W.codeIn K cdDw "_law_drawn" = true)
    (kDw : PySem.W.keepIn K (.ref fDw) = true)
    (aRe : PySem.W.nsIn K mainGlobals "_law_refused" = some (some (.ref fRe)))
    (lRe : K.lookup fRe = some ⟨ocRe, odRe, .func (PySem.W.fnOf "_law_refused" "_law_refused" (defArgs s__law_refused) (defBody s__law_refused) (defScope s__law_refused) .none kVRe dcRe pmRe anRe cdRe ctRe), slRe⟩)
    (cRe : PySem.W.codeIn K cdRe "_law_refused" = true)
    (kRe : PySem.W.keepIn K (.ref fRe) = true)
    (aOd : PySem.W.nsIn K mainGlobals "_law_odd_right" = some (some (.ref fOd)))
    (lOd : K.lookup fOd = some ⟨ocOd, odOd, .func (PySem.W.fnOf "_law_odd_right" "_law_odd_right" (defArgs s__law_odd_right) (defBody s__law_odd_right) (defScope s__law_odd_right) .none kVOd dcOd pmOd anOd cdOd ctOd), slOd⟩)
    (cOd : PySem.W.codeIn K cdOd "_law_odd_right" = true)
    (kOd : PySem.W.keepIn K (.ref fOd) = true)
    (aOn : PySem.W.nsIn K mainGlobals "_law_one_right" = some (some (.ref fOn)))
    (lOn : K.lookup fOn = some ⟨ocOn, odOn, .func (PySem.W.fnOf "_law_one_right" "_law_one_right" (defArgs s__law_one_right) (defBody s__law_one_right) (defScope s__law_one_right) .none kVOn dcOn pmOn anOn cdOn ctOn), slOn⟩)
    (cOn : PySem.W.codeIn K cdOn "_law_one_right" = true)
    (kOn : PySem.W.keepIn K (.ref fOn) = true)
    (aRi : PySem.W.nsIn K mainGlobals "_law_right" = some (some (.ref fRi)))
    (lRi : K.lookup fRi = some ⟨ocRi, odRi, .func (PySem.W.fnOf "_law_right" "_law_right" (defArgs s__law_right) (defBody s__law_right) (defScope s__law_right) .none kVRi dcRi pmRi anRi cdRi ctRi), slRi⟩)
    (cRi : PySem.W.codeIn K cdRi "_law_right" = true)
    (kRi : PySem.W.keepIn K (.ref fRi) = true)
    (aLa : PySem.W.nsIn K mainGlobals "law" = some (some (.ref fLa)))
    (lLa : K.lookup fLa = some ⟨ocLa, odLa, .func (PySem.W.fnOf "law" "law" (defArgs s_law) (defBody s_law) (defScope s_law) .none kVLa dcLa pmLa anLa cdLa ctLa), slLa⟩)
    (cLa : PySem.W.codeIn K cdLa "law" = true)
    (kLa : PySem.W.keepIn K (.ref fLa) = true)
    (aIn : PySem.W.nsIn K mainGlobals "is_integer" = some (some (.ref fIn)))
    (lIn : K.lookup fIn = some ⟨ocIn, odIn, .func (PySem.W.fnOf "is_integer" "is_integer" (defArgs s_is_integer) (defBody s_is_integer) (defScope s_is_integer) .none kVIn dcIn pmIn anIn cdIn ctIn), slIn⟩)
    (cIn : PySem.W.codeIn K cdIn "is_integer" = true)
    (kIn : PySem.W.keepIn K (.ref fIn) = true)
    (aBe : PySem.W.nsIn K mainGlobals "is_between" = some (some (.ref fBe)))
    (lBe : K.lookup fBe = some ⟨ocBe, odBe, .func (PySem.W.fnOf "is_between" "is_between" (defArgs s_is_between) (defBody s_is_between) (defScope s_is_between) .none kVBe dcBe pmBe anBe cdBe ctBe), slBe⟩)
    (cBe : PySem.W.codeIn K cdBe "is_between" = true)
    (kBe : PySem.W.keepIn K (.ref fBe) = true)
    (aPl : PySem.W.nsIn K mainGlobals "are_plain_numbers" = some (some (.ref fPl)))
    (lPl : K.lookup fPl = some ⟨ocPl, odPl, .func (PySem.W.fnOf "are_plain_numbers" "are_plain_numbers" (defArgs s_are_plain_numbers) (defBody s_are_plain_numbers) (defScope s_are_plain_numbers) .none kVPl dcPl pmPl anPl cdPl ctPl), slPl⟩)
    (cPl : PySem.W.codeIn K cdPl "are_plain_numbers" = true)
    (kPl : PySem.W.keepIn K (.ref fPl) = true)
    (aBw : PySem.W.nsIn K mainGlobals "are_between" = some (some (.ref fBw)))
    (lBw : K.lookup fBw = some ⟨ocBw, odBw, .func (PySem.W.fnOf "are_between" "are_between" (defArgs s_are_between) (defBody s_are_between) (defScope s_are_between) .none kVBw dcBw pmBw anBw cdBw ctBw), slBw⟩)
    (cBw : PySem.W.codeIn K cdBw "are_between" = true)
    (kBw : PySem.W.keepIn K (.ref fBw) = true)
    (aAr : PySem.W.nsIn K mainGlobals "_are_numbers" = some (some (.ref fAr)))
    (lAr : K.lookup fAr = some ⟨ocAr, odAr, .func (PySem.W.fnOf "_are_numbers" "_are_numbers" (defArgs s__are_numbers) (defBody s__are_numbers) (defScope s__are_numbers) .none kVAr dcAr pmAr anAr cdAr ctAr), slAr⟩)
    (cAr : PySem.W.codeIn K cdAr "_are_numbers" = true)
    (kAr : PySem.W.keepIn K (.ref fAr) = true)
    (aIV : PySem.W.findIn K (.ref CV) "__init__" = some (some (.ref fIV)))
    (tIV : PySem.W.typeIn K (.ref fIV) = some (.type "function"))
    (lIV : K.lookup fIV = some ⟨ocIV, odIV, .func (PySem.W.fnOf "__init__" "NoValue.__init__" (defArgs s_NoValue___init__) (defBody s_NoValue___init__) (defScope s_NoValue___init__) .none kVIV dcIV pmIV anIV cdIV ctIV), slIV⟩)
    (cIV : PySem.W.codeIn K cdIV "NoValue.__init__" = true)
    (kIV : PySem.W.keepIn K (.ref fIV) = true)
    (aIW : PySem.W.findIn K (.ref CW) "__init__" = some (some (.ref fIW)))
    (tIW : PySem.W.typeIn K (.ref fIW) = some (.type "function"))
    (lIW : K.lookup fIW = some ⟨ocIW, odIW, .func (PySem.W.fnOf "__init__" "Wide.__init__" (defArgs s_Wide___init__) (defBody s_Wide___init__) (defScope s_Wide___init__) .none kVIW dcIW pmIW anIW cdIW ctIW), slIW⟩)
    (cIW : PySem.W.codeIn K cdIW "Wide.__init__" = true)
    (kIW : PySem.W.keepIn K (.ref fIW) = true)
    (aEW : PySem.W.findIn K (.ref CW) "__eq__" = some (some (.ref fEW)))
    (tEW : PySem.W.typeIn K (.ref fEW) = some (.type "function"))
    (lEW : K.lookup fEW = some ⟨ocEW, odEW, .func (PySem.W.fnOf "__eq__" "Wide.__eq__" (defArgs s_Wide___eq__) (defBody s_Wide___eq__) (defScope s_Wide___eq__) .none kVEW dcEW pmEW anEW cdEW ctEW), slEW⟩)
    (cEW : PySem.W.codeIn K cdEW "Wide.__eq__" = true)
    (kEW : PySem.W.keepIn K (.ref fEW) = true)
    (aID : PySem.W.findIn K (.ref CD) "__init__" = some (some (.ref fID)))
    (tID : PySem.W.typeIn K (.ref fID) = some (.type "function"))
    (lID : K.lookup fID = some ⟨ocID, odID, .func (PySem.W.fnOf "__init__" "Data.__init__" (defArgs s_Data___init__) (defBody s_Data___init__) (defScope s_Data___init__) .none kVID dcID pmID anID cdID ctID), slID⟩)
    (cID : PySem.W.codeIn K cdID "Data.__init__" = true)
    (kID : PySem.W.keepIn K (.ref fID) = true)
    (aED : PySem.W.findIn K (.ref CD) "__eq__" = some (some (.ref fED)))
    (tED : PySem.W.typeIn K (.ref fED) = some (.type "function"))
    (lED : K.lookup fED = some ⟨ocED, odED, .func (PySem.W.fnOf "__eq__" "Data.__eq__" (defArgs s_Data___eq__) (defBody s_Data___eq__) (defScope s_Data___eq__) .none kVED dcED pmED anED cdED ctED), slED⟩)
    (cED : PySem.W.codeIn K cdED "Data.__eq__" = true)
    (kED : PySem.W.keepIn K (.ref fED) = true)
    (aIU : PySem.W.findIn K (.ref CU) "__init__" = some (some (.ref fIU)))
    (tIU : PySem.W.typeIn K (.ref fIU) = some (.type "function"))
    (lIU : K.lookup fIU = some ⟨ocIU, odIU, .func (PySem.W.fnOf "__init__" "Uid.__init__" (defArgs s_Uid___init__) (defBody s_Uid___init__) (defScope s_Uid___init__) .none kVIU dcIU pmIU anIU cdIU ctIU), slIU⟩)
    (cIU : PySem.W.codeIn K cdIU "Uid.__init__" = true)
    (kIU : PySem.W.keepIn K (.ref fIU) = true)
    (aEU : PySem.W.findIn K (.ref CU) "__eq__" = some (some (.ref fEU)))
    (tEU : PySem.W.typeIn K (.ref fEU) = some (.type "function"))
    (lEU : K.lookup fEU = some ⟨ocEU, odEU, .func (PySem.W.fnOf "__eq__" "Uid.__eq__" (defArgs s_Uid___eq__) (defBody s_Uid___eq__) (defScope s_Uid___eq__) .none kVEU dcEU pmEU anEU cdEU ctEU), slEU⟩)
    (cEU : PySem.W.codeIn K cdEU "Uid.__eq__" = true)
    (kEU : PySem.W.keepIn K (.ref fEU) = true)
    (aIR : PySem.W.findIn K (.ref CR) "__init__" = some (some (.ref fIR)))
    (tIR : PySem.W.typeIn K (.ref fIR) = some (.type "function"))
    (lIR : K.lookup fIR = some ⟨ocIR, odIR, .func (PySem.W.fnOf "__init__" "Real.__init__" (defArgs s_Real___init__) (defBody s_Real___init__) (defScope s_Real___init__) .none kVIR dcIR pmIR anIR cdIR ctIR), slIR⟩)
    (cIR : PySem.W.codeIn K cdIR "Real.__init__" = true)
    (kIR : PySem.W.keepIn K (.ref fIR) = true)
    (aER : PySem.W.findIn K (.ref CR) "__eq__" = some (some (.ref fER)))
    (tER : PySem.W.typeIn K (.ref fER) = some (.type "function"))
    (lER : K.lookup fER = some ⟨ocER, odER, .func (PySem.W.fnOf "__eq__" "Real.__eq__" (defArgs s_Real___eq__) (defBody s_Real___eq__) (defScope s_Real___eq__) .none kVER dcER pmER anER cdER ctER), slER⟩)
    (cER : PySem.W.codeIn K cdER "Real.__eq__" = true)
    (kER : PySem.W.keepIn K (.ref fER) = true)
    (aIT : PySem.W.findIn K (.ref CT) "__init__" = some (some (.ref fIT)))
    (tIT : PySem.W.typeIn K (.ref fIT) = some (.type "function"))
    (lIT : K.lookup fIT = some ⟨ocIT, odIT, .func (PySem.W.fnOf "__init__" "Date.__init__" (defArgs s_Date___init__) (defBody s_Date___init__) (defScope s_Date___init__) .none kVIT dcIT pmIT anIT cdIT ctIT), slIT⟩)
    (cIT : PySem.W.codeIn K cdIT "Date.__init__" = true)
    (kIT : PySem.W.keepIn K (.ref fIT) = true)
    (aET : PySem.W.findIn K (.ref CT) "__eq__" = some (some (.ref fET)))
    (tET : PySem.W.typeIn K (.ref fET) = some (.type "function"))
    (lET : K.lookup fET = some ⟨ocET, odET, .func (PySem.W.fnOf "__eq__" "Date.__eq__" (defArgs s_Date___eq__) (defBody s_Date___eq__) (defScope s_Date___eq__) .none kVET dcET pmET anET cdET ctET), slET⟩)
    (cET : PySem.W.codeIn K cdET "Date.__eq__" = true)
    (kET : PySem.W.keepIn K (.ref fET) = true)
    (pgW : PySem.W.plainGet K CW Str.empty = true)
    (phW : PySem.W.hasDictIn K CW = true)
    (poW : PySem.W.plainOver K CW = true)
    (psW : PySem.W.findIn K (.ref CW) "__setattr__" = some (some (.builtin "object.__setattr__")))
    (pnW : PySem.W.findIn K (.ref CW) "units" = some none)
    (pcW : PySem.W.findIn K (.ref CW) "__class__" = some (some (.builtin "object.__class__")))
    (pmW : PySem.W.mroIn K CW (.type "object") = some true)
    (pkW : PySem.W.makesIn K CW = true)
    (peW : PySem.W.keepIn K (.ref CW) = true)
    (pqW : PySem.W.findIn K (.ref CW) "__ne__" = some (some (.builtin "object.__ne__")))
    (piW : PySem.W.isClsIn K CW = true)
    (ptW : PySem.W.typeIn K (.ref CW) = some (.type "type"))
    (qW : [PySem.W.subIn K (.ref CW) (.ref CW), PySem.W.subIn K (.ref CW) (.ref CD), PySem.W.subIn K (.ref CW) (.ref CU), PySem.W.subIn K (.ref CW) (.ref CR), PySem.W.subIn K (.ref CW) (.ref CT)] = [some true, some false, some false, some false, some false])
    (qbW : [PySem.W.subIn K (.type "int") (.ref CW), PySem.W.subIn K (.type "tuple") (.ref CW), PySem.W.subIn K (.type "list") (.ref CW), PySem.W.subIn K (.type "NoneType") (.ref CW), PySem.W.subIn K (.type "str") (.ref CW)] = [some false, some false, some false, some false, some false])
    (pgD : PySem.W.plainGet K CD Str.empty = true)
    (phD : PySem.W.hasDictIn K CD = true)
    (poD : PySem.W.plainOver K CD = true)
    (psD : PySem.W.findIn K (.ref CD) "__setattr__" = some (some (.builtin "object.__setattr__")))
    (pnD : PySem.W.findIn K (.ref CD) "octets" = some none)
    (pcD : PySem.W.findIn K (.ref CD) "__class__" = some (some (.builtin "object.__class__")))
    (pmD : PySem.W.mroIn K CD (.type "object") = some true)
    (pkD : PySem.W.makesIn K CD = true)
    (peD : PySem.W.keepIn K (.ref CD) = true)
    (pqD : PySem.W.findIn K (.ref CD) "__ne__" = some (some (.builtin "object.__ne__")))
    (piD : PySem.W.isClsIn K CD = true)
    (ptD : PySem.W.typeIn K (.ref CD) = some (.type "type"))
    (qD : [PySem.W.subIn K (.ref CD) (.ref CW), PySem.W.subIn K (.ref CD) (.ref CD), PySem.W.subIn K (.ref CD) (.ref CU), PySem.W.subIn K (.ref CD) (.ref CR), PySem.W.subIn K (.ref CD) (.ref CT)] = [some false, some true, some false, some false, some false])
    (qbD : [PySem.W.subIn K (.type "int") (.ref CD), PySem.W.subIn K (.type "tuple") (.ref CD), PySem.W.subIn K (.type "list") (.ref CD), PySem.W.subIn K (.type "NoneType") (.ref CD), PySem.W.subIn K (.type "str") (.ref CD)] = [some false, some false, some false, some false, some false])
    (pgU : PySem.W.plainGet K CU Str.empty = true)
    (phU : PySem.W.hasDictIn K CU = true)
    (poU : PySem.W.plainOver K CU = true)
    (psU : PySem.W.findIn K (.ref CU) "__setattr__" = some (some (.builtin "object.__setattr__")))
    (pnU : PySem.W.findIn K (.ref CU) "number" = some none)
    (pcU : PySem.W.findIn K (.ref CU) "__class__" = some (some (.builtin "object.__class__")))
    (pmU : PySem.W.mroIn K CU (.type "object") = some true)
    (pkU : PySem.W.makesIn K CU = true)
    (peU : PySem.W.keepIn K (.ref CU) = true)
    (pqU : PySem.W.findIn K (.ref CU) "__ne__" = some (some (.builtin "object.__ne__")))
    (piU : PySem.W.isClsIn K CU = true)
    (ptU : PySem.W.typeIn K (.ref CU) = some (.type "type"))
    (qU : [PySem.W.subIn K (.ref CU) (.ref CW), PySem.W.subIn K (.ref CU) (.ref CD), PySem.W.subIn K (.ref CU) (.ref CU), PySem.W.subIn K (.ref CU) (.ref CR), PySem.W.subIn K (.ref CU) (.ref CT)] = [some false, some false, some true, some false, some false])
    (qbU : [PySem.W.subIn K (.type "int") (.ref CU), PySem.W.subIn K (.type "tuple") (.ref CU), PySem.W.subIn K (.type "list") (.ref CU), PySem.W.subIn K (.type "NoneType") (.ref CU), PySem.W.subIn K (.type "str") (.ref CU)] = [some false, some false, some false, some false, some false])
    (pgR : PySem.W.plainGet K CR Str.empty = true)
    (phR : PySem.W.hasDictIn K CR = true)
    (poR : PySem.W.plainOver K CR = true)
    (psR : PySem.W.findIn K (.ref CR) "__setattr__" = some (some (.builtin "object.__setattr__")))
    (pnR : PySem.W.findIn K (.ref CR) "octets" = some none)
    (pcR : PySem.W.findIn K (.ref CR) "__class__" = some (some (.builtin "object.__class__")))
    (pmR : PySem.W.mroIn K CR (.type "object") = some true)
    (pkR : PySem.W.makesIn K CR = true)
    (peR : PySem.W.keepIn K (.ref CR) = true)
    (pqR : PySem.W.findIn K (.ref CR) "__ne__" = some (some (.builtin "object.__ne__")))
    (piR : PySem.W.isClsIn K CR = true)
    (ptR : PySem.W.typeIn K (.ref CR) = some (.type "type"))
    (qR : [PySem.W.subIn K (.ref CR) (.ref CW), PySem.W.subIn K (.ref CR) (.ref CD), PySem.W.subIn K (.ref CR) (.ref CU), PySem.W.subIn K (.ref CR) (.ref CR), PySem.W.subIn K (.ref CR) (.ref CT)] = [some false, some false, some false, some true, some false])
    (qbR : [PySem.W.subIn K (.type "int") (.ref CR), PySem.W.subIn K (.type "tuple") (.ref CR), PySem.W.subIn K (.type "list") (.ref CR), PySem.W.subIn K (.type "NoneType") (.ref CR), PySem.W.subIn K (.type "str") (.ref CR)] = [some false, some false, some false, some false, some false])
    (pgT : PySem.W.plainGet K CT Str.empty = true)
    (phT : PySem.W.hasDictIn K CT = true)
    (poT : PySem.W.plainOver K CT = true)
    (psT : PySem.W.findIn K (.ref CT) "__setattr__" = some (some (.builtin "object.__setattr__")))
    (pnT : PySem.W.findIn K (.ref CT) "octets" = some none)
    (pcT : PySem.W.findIn K (.ref CT) "__class__" = some (some (.builtin "object.__class__")))
    (pmT : PySem.W.mroIn K CT (.type "object") = some true)
    (pkT : PySem.W.makesIn K CT = true)
    (peT : PySem.W.keepIn K (.ref CT) = true)
    (pqT : PySem.W.findIn K (.ref CT) "__ne__" = some (some (.builtin "object.__ne__")))
    (piT : PySem.W.isClsIn K CT = true)
    (ptT : PySem.W.typeIn K (.ref CT) = some (.type "type"))
    (qT : [PySem.W.subIn K (.ref CT) (.ref CW), PySem.W.subIn K (.ref CT) (.ref CD), PySem.W.subIn K (.ref CT) (.ref CU), PySem.W.subIn K (.ref CT) (.ref CR), PySem.W.subIn K (.ref CT) (.ref CT)] = [some false, some false, some false, some false, some true])
    (qbT : [PySem.W.subIn K (.type "int") (.ref CT), PySem.W.subIn K (.type "tuple") (.ref CT), PySem.W.subIn K (.type "list") (.ref CT), PySem.W.subIn K (.type "NoneType") (.ref CT), PySem.W.subIn K (.type "str") (.ref CT)] = [some false, some false, some false, some false, some false])
    (psg : PySem.W.specialIn K (.builtin "object.__class__") "__get__" = some (some (.builtin "getset_descriptor.__get__")))
    (psk : PySem.W.takesIn K (.builtin "object.__class__") = some true)
    (uM : PySem.W.codeHdIn K coM PM = true)
    (vM : PM ∈ ts)
    : QT.LawG l w K 11 63 "_law_script" ts mg fa := by
  have e := hfa.symm.trans (PySem.W.mg_of X G aLa)
  cases e
  have FSo := fun_mk (st := s__law_source) lSo cSo kSo
  have bSo := FSo.binds (ps := ["_law_cell"]) fun _ _ _ _ _ _ us hl => match us, hl with | [_], _ => rfl
  have FDr := fun_mk (st := s__law_draw) lDr cDr kDr
  have bDr := FDr.binds (ps := ["_law_source_here", "_law_many"]) fun _ _ _ _ _ _ us hl => match us, hl with | [_, _], _ => rfl
  have FPi := fun_mk (st := s__law_pick) lPi cPi kPi
  have bPi := FPi.binds (ps := ["_law_source_here", "_law_items"]) fun _ _ _ _ _ _ us hl => match us, hl with | [_, _], _ => rfl
  have FOc := fun_mk (st := s__law_octets) lOc cOc kOc
  have bOc := FOc.binds (ps := ["_law_source_here", "_law_many"]) fun _ _ _ _ _ _ us hl => match us, hl with | [_, _], _ => rfl
  have FUn := fun_mk (st := s__law_units) lUn cUn kUn
  have bUn := FUn.binds (ps := ["_law_source_here"]) fun _ _ _ _ _ _ us hl => match us, hl with | [_], _ => rfl
  have FMa := fun_mk (st := s__law_made) lMa cMa kMa
  have bMa := FMa.binds (ps := ["_law_way", "_law_some", "_law_is_named"]) fun _ _ _ _ _ _ us hl => match us, hl with | [_, _, _], _ => rfl
  have FFi := fun_mk (st := s__law_field) lFi cFi kFi
  have bFi := FFi.binds (ps := ["_law_way", "_law_thing"]) fun _ _ _ _ _ _ us hl => match us, hl with | [_, _], _ => rfl
  have FDw := fun_mk (st := s__law_drawn) lDw cDw kDw
  have bDw := FDw.binds (ps := ["_law_source_here", "_law_way"]) fun _ _ _ _ _ _ us hl => match us, hl with | [_, _], _ => rfl
  have FRe := fun_mk (st := s__law_refused) lRe cRe kRe
  have bRe := FRe.binds (ps := ["_law_way", "_law_some"]) fun _ _ _ _ _ _ us hl => match us, hl with | [_, _], _ => rfl
  have FOd := fun_mk (st := s__law_odd_right) lOd cOd kOd
  have bOd := FOd.binds (ps := ["_law_source_here"]) fun _ _ _ _ _ _ us hl => match us, hl with | [_], _ => rfl
  have FOn := fun_mk (st := s__law_one_right) lOn cOn kOn
  have bOn := FOn.binds (ps := ["_law_source_here", "_law_way"]) fun _ _ _ _ _ _ us hl => match us, hl with | [_, _], _ => rfl
  have FRi := fun_mk (st := s__law_right) lRi cRi kRi
  have bRi := FRi.binds (ps := ["_law_source_here"]) fun _ _ _ _ _ _ us hl => match us, hl with | [_], _ => rfl
  have FLa := fun_mk (st := s_law) lLa cLa kLa
  have FIn := fun_mk (st := s_is_integer) lIn cIn kIn
  have bIn := FIn.binds (ps := ["thing"]) fun _ _ _ _ _ _ us hl => match us, hl with | [_], _ => rfl
  have FBe := fun_mk (st := s_is_between) lBe cBe kBe
  have bBe := FBe.binds (ps := ["thing", "low", "high"]) fun _ _ _ _ _ _ us hl => match us, hl with | [_, _, _], _ => rfl
  have FPl := fun_mk (st := s_are_plain_numbers) lPl cPl kPl
  have bPl := FPl.binds (ps := ["numbers"]) fun _ _ _ _ _ _ us hl => match us, hl with | [_], _ => rfl
  have FBw := fun_mk (st := s_are_between) lBw cBw kBw
  have bBw := FBw.binds (ps := ["things", "low", "high"]) fun _ _ _ _ _ _ us hl => match us, hl with | [_, _, _], _ => rfl
  have FAr := fun_mk (st := s__are_numbers) lAr cAr kAr
  have bAr := FAr.binds (ps := ["things", "highest"]) fun _ _ _ _ _ _ us hl => match us, hl with | [_, _], _ => rfl
  have FIV := fun_mk (st := s_NoValue___init__) lIV cIV kIV
  have bIV := FIV.binds (ps := ["self", "path"]) fun _ _ _ _ _ _ us hl => match us, hl with | [_, _], _ => rfl
  have FIW := fun_mk (st := s_Wide___init__) lIW cIW kIW
  have bIW := FIW.binds (ps := ["self", "units"]) fun _ _ _ _ _ _ us hl => match us, hl with | [_, _], _ => rfl
  have FEW := fun_mk (st := s_Wide___eq__) lEW cEW kEW
  have bEW := FEW.binds (ps := ["self", "other"]) fun _ _ _ _ _ _ us hl => match us, hl with | [_, _], _ => rfl
  have FID := fun_mk (st := s_Data___init__) lID cID kID
  have bID := FID.binds (ps := ["self", "octets"]) fun _ _ _ _ _ _ us hl => match us, hl with | [_, _], _ => rfl
  have FED := fun_mk (st := s_Data___eq__) lED cED kED
  have bED := FED.binds (ps := ["self", "other"]) fun _ _ _ _ _ _ us hl => match us, hl with | [_, _], _ => rfl
  have FIU := fun_mk (st := s_Uid___init__) lIU cIU kIU
  have bIU := FIU.binds (ps := ["self", "number"]) fun _ _ _ _ _ _ us hl => match us, hl with | [_, _], _ => rfl
  have FEU := fun_mk (st := s_Uid___eq__) lEU cEU kEU
  have bEU := FEU.binds (ps := ["self", "other"]) fun _ _ _ _ _ _ us hl => match us, hl with | [_, _], _ => rfl
  have FIR := fun_mk (st := s_Real___init__) lIR cIR kIR
  have bIR := FIR.binds (ps := ["self", "octets"]) fun _ _ _ _ _ _ us hl => match us, hl with | [_, _], _ => rfl
  have FER := fun_mk (st := s_Real___eq__) lER cER kER
  have bER := FER.binds (ps := ["self", "other"]) fun _ _ _ _ _ _ us hl => match us, hl with | [_, _], _ => rfl
  have FIT := fun_mk (st := s_Date___init__) lIT cIT kIT
  have bIT := FIT.binds (ps := ["self", "octets"]) fun _ _ _ _ _ _ us hl => match us, hl with | [_, _], _ => rfl
  have FET := fun_mk (st := s_Date___eq__) lET cET kET
  have bET := FET.binds (ps := ["self", "other"]) fun _ _ _ _ _ _ us hl => match us, hl with | [_, _], _ => rfl
  have FC : FunC K "_law_made" "_law_made" s__law_made fMa _ coM := ⟨_, _, _, _, _, _, _, _, rfl, lMa, cMa⟩
  have T : Txt K mg := ⟨PySem.W.mg_none_of X G z_len, PySem.W.mg_none_of X G z_abs, PySem.W.mg_none_of X G z_int, PySem.W.mg_none_of X G z_bool, PySem.W.mg_none_of X G z_tuple, PySem.W.mg_none_of X G z_list, PySem.W.mg_none_of X G z_isinstance, PySem.W.mg_none_of X G z_all, PySem.W.mg_none_of X G z_range, PySem.W.mg_none_of X G z_enumerate, PySem.W.mg_none_of X G z_repr, PySem.W.mg_none_of X G z_min, PySem.W.mg_none_of X G z_max⟩
  have O : OexC K CV := ⟨⟨_, _, _, _, _, _, _, _, _, _, _, _, _, _, _, xV, rV⟩, saV, beV, tyV, keV⟩
  have N : ErrC K mg "NoValue" CV fIV := ⟨O, ⟨gaV, ggV, beV, hdV⟩, aIV, tIV, PySem.W.mg_of X G gV⟩
  have clW : Cls K CW := ⟨pgW, phW, poW, psW⟩
  have owW : OwnC K CW "units" := ⟨clW, pnW⟩
  have tyW : TypC K CW := ⟨clW, pcW, psg, psk, pmW⟩
  have clD : Cls K CD := ⟨pgD, phD, poD, psD⟩
  have owD : OwnC K CD "octets" := ⟨clD, pnD⟩
  have tyD : TypC K CD := ⟨clD, pcD, psg, psk, pmD⟩
  have clU : Cls K CU := ⟨pgU, phU, poU, psU⟩
  have owU : OwnC K CU "number" := ⟨clU, pnU⟩
  have tyU : TypC K CU := ⟨clU, pcU, psg, psk, pmU⟩
  have clR : Cls K CR := ⟨pgR, phR, poR, psR⟩
  have owR : OwnC K CR "octets" := ⟨clR, pnR⟩
  have tyR : TypC K CR := ⟨clR, pcR, psg, psk, pmR⟩
  have clT : Cls K CT := ⟨pgT, phT, poT, psT⟩
  have owT : OwnC K CT "octets" := ⟨clT, pnT⟩
  have tyT : TypC K CT := ⟨clT, pcT, psg, psk, pmT⟩
  have five : Five K (mk5 CW CD CU CR CT) := ⟨(fun
      | ⟨0, _⟩ => row5 (cs := (mk5 CW CD CU CR CT)) (i := 0) qW
      | ⟨1, _⟩ => row5 (cs := (mk5 CW CD CU CR CT)) (i := 1) qD
      | ⟨2, _⟩ => row5 (cs := (mk5 CW CD CU CR CT)) (i := 2) qU
      | ⟨3, _⟩ => row5 (cs := (mk5 CW CD CU CR CT)) (i := 3) qR
      | ⟨4, _⟩ => row5 (cs := (mk5 CW CD CU CR CT)) (i := 4) qT),
    (fun
      | ⟨0, _⟩ => bts_of qbW
      | ⟨1, _⟩ => bts_of qbD
      | ⟨2, _⟩ => bts_of qbU
      | ⟨3, _⟩ => bts_of qbR
      | ⟨4, _⟩ => bts_of qbT),
    (fun
      | ⟨0, _⟩ => piW
      | ⟨1, _⟩ => piD
      | ⟨2, _⟩ => piU
      | ⟨3, _⟩ => piR
      | ⟨4, _⟩ => piT),
    (fun
      | ⟨0, _⟩ => ptW
      | ⟨1, _⟩ => ptD
      | ⟨2, _⟩ => ptU
      | ⟨3, _⟩ => ptR
      | ⟨4, _⟩ => ptT)⟩
  have tp : ∀ i, TypC K ((mk5 CW CD CU CR CT) i) := (fun
      | ⟨0, _⟩ => tyW
      | ⟨1, _⟩ => tyD
      | ⟨2, _⟩ => tyU
      | ⟨3, _⟩ => tyR
      | ⟨4, _⟩ => tyT)
  have own : ∀ i, OwnC K ((mk5 CW CD CU CR CT) i) (flE i) := (fun
      | ⟨0, _⟩ => owW
      | ⟨1, _⟩ => owD
      | ⟨2, _⟩ => owU
      | ⟨3, _⟩ => owR
      | ⟨4, _⟩ => owT)
  refine ⟨⟨PySem.W.fnOf "law" "law" (defArgs s_law) (defBody s_law) (defScope s_law) .none kVLa dcLa pmLa anLa cdLa ctLa, coM, PM, spLaw K (tabM PM), uM, vM, nM, fun s v => .of_eq rfl, fun H a ns hl hT hS => ⟨a, ns, rfl, hS, hl, fun p hp => by rw [List.mem_singleton.mp hp]; exact TabS.nil hT, fun _ => rfl⟩, fun base _ _ TB => ?_⟩⟩
  have c_source : Cal l.prog w K mg base 1 "_law_source" spSource := ⟨_, _, _, ok_source FSo T, PySem.W.mg_of X G aSo, kSo, bSo⟩
  have c_draw : Cal l.prog w K mg base 1 "_law_draw" spDraw := ⟨_, _, _, ok_draw FDr T, PySem.W.mg_of X G aDr, kDr, bDr⟩
  have c_pick : Cal l.prog w K mg base 2 "_law_pick" (spPick K) := ⟨_, _, _, ok_pick FPi T c_draw, PySem.W.mg_of X G aPi, kPi, bPi⟩
  have c_is_integer : Cal l.prog w K mg base 1 "is_integer" spIsInteger := ⟨_, _, _, ok_is_integer FIn T, PySem.W.mg_of X G aIn, kIn, bIn⟩
  have c_is_between : Cal l.prog w K mg base 2 "is_between" spIsBetween := ⟨_, _, _, ok_is_between FBe T c_is_integer, PySem.W.mg_of X G aBe, kBe, bBe⟩
  have c_are_between : Cal l.prog w K mg base 1 "are_between" (spBtw K) := ⟨_, _, _, ok_between FBw T, PySem.W.mg_of X G aBw, kBw, bBw⟩
  have c_are_plain_numbers : Cal l.prog w K mg base 1 "are_plain_numbers" spPlains := ⟨_, _, _, ok_plains FPl T (PySem.W.mg_of X G iPc), PySem.W.mg_of X G aPl, kPl, bPl⟩
  have c_are_numbers : Cal l.prog w K mg base 3 "_are_numbers" spAre := ⟨_, _, _, ok_are FAr T c_are_between, PySem.W.mg_of X G aAr, kAr, bAr⟩
  have c_iniN : FnOk l.prog w K mg base CX0 1 fIV _ ["self", "path"] (spInitP K "path" CV) := ok_iniN FIV T O nV_path
  have zW : ClsI l.prog w K mg base "Wide" "units" CW CV goodW := ⟨PySem.W.mg_of X G gW, ⟨_, _, ⟨pkW, aIW, fn_is tIW, peW⟩, ok_iniW FIW T (PySem.W.mg_of X G iGu) N bIV c_iniN owW c_are_plain_numbers c_are_numbers, bIW, ⟨fun s us ws _ l1 l2 => match us, ws, l1, l2 with | [_], [_], _, _ => .of_eq rfl, fun a b => a.append b⟩⟩, owW, tyW⟩
  have eW : EqC l.prog w K mg base CW 1 (spEq K CW "units") := ⟨⟨_, _, _, ok_eqW FEW T (PySem.W.mg_of X G gW) owW tyW, aEW, fn_is tEW, bEW⟩, pqW, pmW⟩
  have zD : ClsI l.prog w K mg base "Data" "octets" CD CV goodD := ⟨PySem.W.mg_of X G gD, ⟨_, _, ⟨pkD, aID, fn_is tID, peD⟩, ok_iniD FID T (PySem.W.mg_of X G iGb) N bIV c_iniN owD c_are_numbers, bID, ⟨fun s us ws _ l1 l2 => match us, ws, l1, l2 with | [_], [_], _, _ => .of_eq rfl, fun a b => a.append b⟩⟩, owD, tyD⟩
  have eD : EqC l.prog w K mg base CD 1 (spEq K CD "octets") := ⟨⟨_, _, _, ok_eqD FED T (PySem.W.mg_of X G gD) owD tyD, aED, fn_is tED, bED⟩, pqD, pmD⟩
  have zU : ClsI l.prog w K mg base "Uid" "number" CU CV goodU := ⟨PySem.W.mg_of X G gU, ⟨_, _, ⟨pkU, aIU, fn_is tIU, peU⟩, (ok_iniU FIU T (PySem.W.mg_of X G iHi) N bIV c_iniN owU c_is_between).mono (by decide), bIU, ⟨fun s us ws _ l1 l2 => match us, ws, l1, l2 with | [_], [_], _, _ => .of_eq rfl, fun a b => a.append b⟩⟩, owU, tyU⟩
  have eU : EqC l.prog w K mg base CU 1 (spEq K CU "number") := ⟨⟨_, _, _, ok_eqU FEU T (PySem.W.mg_of X G gU) owU tyU, aEU, fn_is tEU, bEU⟩, pqU, pmU⟩
  have zR : ClsI l.prog w K mg base "Real" "octets" CR CV goodR := ⟨PySem.W.mg_of X G gR, ⟨_, _, ⟨pkR, aIR, fn_is tIR, peR⟩, ok_iniR FIR T (PySem.W.mg_of X G iGb) N bIV c_iniN owR c_are_numbers, bIR, ⟨fun s us ws _ l1 l2 => match us, ws, l1, l2 with | [_], [_], _, _ => .of_eq rfl, fun a b => a.append b⟩⟩, owR, tyR⟩
  have eR : EqC l.prog w K mg base CR 1 (spEq K CR "octets") := ⟨⟨_, _, _, ok_eqR FER T (PySem.W.mg_of X G gR) owR tyR, aER, fn_is tER, bER⟩, pqR, pmR⟩
  have zT : ClsI l.prog w K mg base "Date" "octets" CT CV goodT := ⟨PySem.W.mg_of X G gT, ⟨_, _, ⟨pkT, aIT, fn_is tIT, peT⟩, ok_iniT FIT T (PySem.W.mg_of X G iGb) N bIV c_iniN owT c_are_numbers, bIT, ⟨fun s us ws _ l1 l2 => match us, ws, l1, l2 with | [_], [_], _, _ => .of_eq rfl, fun a b => a.append b⟩⟩, owT, tyT⟩
  have eT : EqC l.prog w K mg base CT 1 (spEq K CT "octets") := ⟨⟨_, _, _, ok_eqT FET T (PySem.W.mg_of X G gT) owT tyT, aET, fn_is tET, bET⟩, pqT, pmT⟩
  have al : ∀ i, ClsI l.prog w K mg base (nmE i) (flE i) ((mk5 CW CD CU CR CT) i) CV (gdE i) := (fun
      | ⟨0, _⟩ => zW
      | ⟨1, _⟩ => zD
      | ⟨2, _⟩ => zU
      | ⟨3, _⟩ => zR
      | ⟨4, _⟩ => zT)
  have eqs : ∀ i, EqC l.prog w K mg base ((mk5 CW CD CU CR CT) i) 1 (spEq K ((mk5 CW CD CU CR CT) i) (flE i)) := (fun
      | ⟨0, _⟩ => eW
      | ⟨1, _⟩ => eD
      | ⟨2, _⟩ => eU
      | ⟨3, _⟩ => eR
      | ⟨4, _⟩ => eT)
  have c_made : CalX l.prog w K mg base 7 "_law_made" (spMade (tabM PM) (mk5 CW CD CU CR CT) CV) := ⟨_, _, _, ok_made FC TB al, PySem.W.mg_of X G aMa, kMa, bMa⟩
  have c_octets : Cal l.prog w K mg base 3 "_law_octets" spOctets := ⟨_, _, _, ok_octets FOc T c_draw c_pick, PySem.W.mg_of X G aOc, kOc, bOc⟩
  have c_units : Cal l.prog w K mg base 3 "_law_units" spUnits := ⟨_, _, _, ok_units FUn T c_draw c_pick, PySem.W.mg_of X G aUn, kUn, bUn⟩
  have c_drawn : Cal l.prog w K mg base 4 "_law_drawn" spDrawn := ⟨_, _, _, ok_drawn FDw T c_draw c_pick c_octets c_units, PySem.W.mg_of X G aDw, kDw, bDw⟩
  have c_field : Cal l.prog w K mg base 1 "_law_field" (spField (mk5 CW CD CU CR CT)) := ⟨_, _, _, ok_field FFi own, PySem.W.mg_of X G aFi, kFi, bFi⟩
  have c_refused : Cal l.prog w K mg base 8 "_law_refused" (spRefused (tabM PM)) := ⟨_, _, _, ok_refused (cs := (mk5 CW CD CU CR CT)) FRe T N (PySem.W.mg_of X G gN) nV_path (exm_is beV icV tyV suVV) c_made, PySem.W.mg_of X G aRe, kRe, bRe⟩
  have c_odd_right : Cal l.prog w K mg base 9 "_law_odd_right" (spOdd (tabM PM)) := ⟨_, _, _, ok_odd FOd T c_pick c_refused, PySem.W.mg_of X G aOd, kOd, bOd⟩
  have c_one_right : CalG l.prog w K mg base 8 "_law_one_right" (spOne (tabM PM)) := ⟨_, _, _, ok_one FOn T c_drawn c_made c_field eqs tp five, PySem.W.mg_of X G aOn, kOn, bOn⟩
  have c_right : CalG l.prog w K mg base 10 "_law_right" (spRight (tabM PM)) := ⟨_, _, _, ok_right FRi T al c_octets c_one_right c_odd_right eqs tp five, PySem.W.mg_of X G aRi, kRi, bRi⟩
  exact ok_law FLa T c_source c_right
theorem walk {l : PySem.W.OpenLaw} {q : Program} {loose : List Str} {XP : (Str → Option Value) → Heap → Prop} {YP : World → Heap → Prop} {d : DefRec} {K : Params → PySem.W.Frag} (hn : l.most = some 63) (hdf : d.params.defaults = [])
    {ts : List Addr} (hY : ∀ (w : World) (h : Heap), YP w h → (K w.params).In h) (hT : ∀ (w : World) (h : Heap), YP w h → ∀ Tb ∈ ts, h.get? Tb = some { cls := .none, data := .fields #[] })
    (F : ∀ (w : World) (mg : Str → Option Value) (fa : Addr) (h : Heap), (K w.params).In h → h.Ns mainGlobals mg → mg d.name = some (.ref fa) → QT.LawG l w (K w.params) 11 63 "_law_script" ts mg fa) :
    PySem.W.WalkO q loose XP YP l.row.toRowW d [] (fun f vs => PySem.call f vs) :=
  QT.walk_ofGT (n := 63) (k := 11) (x := "_law_script") hn (by decide) hdf ⟨rfl, by decide, by decide⟩ hY hT F
end Q01
open PySem PySem.W PyProof.Rows in
set_option maxRecDepth 100000 in
set_option maxHeartbeats 0 in
theorem PySem.Challenge.cw_nestfile_k01_things_of_the_package_holds : PySem.Challenge.rw_nestfile_k01_things_of_the_package.Holds := by
  w_on; o_law; k_head; (case hw => w_witness2)
  k_fill
  refine Q01.walk (l := PySem.Challenge.rw_nestfile_k01_things_of_the_package) rfl rfl (fun w h Y => PySem.W.km_in_of Y) (fun w h Y => PySem.W.km_tabs_of Y) ?F
  case F =>
    intro w mg fa h KX G hmg
    refine' Q01.all_mk KX G hmg ?gV ?xV ?rV ?saV ?gaV ?ggV ?keV ?beV ?tyV ?hdV ?icV ?nV_path ?suVV ?gW ?gD ?gU ?gR ?gT ?gN ?iPc ?iGb ?iGu ?iHi ?z_len ?z_abs ?z_int ?z_bool ?z_tuple ?z_list ?z_isinstance ?z_all ?z_range ?z_enumerate ?z_repr ?z_min ?z_max ?tM ?nM ?aSo ?lSo ?cSo ?kSo ?aDr ?lDr ?cDr ?kDr ?aPi ?lPi ?cPi ?kPi ?aOc ?lOc ?cOc ?kOc ?aUn ?lUn ?cUn ?kUn ?aMa ?lMa ?cMa ?kMa ?aFi ?lFi ?cFi ?kFi ?aDw ?lDw ?cDw ?kDw ?aRe ?lRe ?cRe ?kRe ?aOd ?lOd ?cOd ?kOd ?aOn ?lOn ?cOn ?kOn ?aRi ?lRi ?cRi ?kRi ?aLa ?lLa ?cLa ?kLa ?aIn ?lIn ?cIn ?kIn ?aBe ?lBe ?cBe ?kBe ?aPl ?lPl ?cPl ?kPl ?aBw ?lBw ?cBw ?kBw ?aAr ?lAr ?cAr ?kAr ?aIV ?tIV ?lIV ?cIV ?kIV ?aIW ?tIW ?lIW ?cIW ?kIW ?aEW ?tEW ?lEW ?cEW ?kEW ?aID ?tID ?lID ?cID ?kID ?aED ?tED ?lED ?cED ?kED ?aIU ?tIU ?lIU ?cIU ?kIU ?aEU ?tEU ?lEU ?cEU ?kEU ?aIR ?tIR ?lIR ?cIR ?kIR ?aER ?tER ?lER ?cER ?kER ?aIT ?tIT ?lIT ?cIT ?kIT ?aET ?tET ?lET ?cET ?kET ?pgW ?phW ?poW ?psW ?pnW ?pcW ?pmW ?pkW ?peW ?pqW ?piW ?ptW ?qW ?qbW ?pgD ?phD ?poD ?psD ?pnD ?pcD ?pmD ?pkD ?peD ?pqD ?piD ?ptD ?qD ?qbD ?pgU ?phU ?poU ?psU ?pnU ?pcU ?pmU ?pkU ?peU ?pqU ?piU ?ptU ?qU ?qbU ?pgR ?phR ?poR ?psR ?pnR ?pcR ?pmR ?pkR ?peR ?pqR ?piR ?ptR ?qR ?qbR ?pgT ?phT ?poT ?psT ?pnT ?pcT ?pmT ?pkT ?peT ?pqT ?piT ?ptT ?qT ?qbT ?psg ?psk ?uM ?vM
    (case gV => k_is)
    (case xV => k_is)
    (case rV => decide +kernel)
    (case saV => k_is)
    (case gaV => k_is)
    (case ggV => k_is)
    (case keV => k_is)
    (case beV => k_is)
    (case tyV => k_is)
    (case hdV => k_is)
    (case icV => k_is)
    (case nV_path => k_is)
    (case suVV => first | rfl | k_is)
    (case gW => k_is)
    (case gD => k_is)
    (case gU => k_is)
    (case gR => k_is)
    (case gT => k_is)
    (case gN => k_is)
    (case iPc => k_is)
    (case iGb => k_is)
    (case iGu => k_is)
    (case iHi => k_is)
    (case z_len => k_is)
    (case z_abs => k_is)
    (case z_int => k_is)
    (case z_bool => k_is)
    (case z_tuple => k_is)
    (case z_list => k_is)
    (case z_isinstance => k_is)
    (case z_all => k_is)
    (case z_range => k_is)
    (case z_enumerate => k_is)
    (case z_repr => k_is)
    (case z_min => k_is)
    (case z_max => k_is)
    (case tM => first | rfl | k_is)
    (case nM => first | rfl | k_is)
    (case aSo => k_is)
    (case lSo => k_is)
    (case cSo => k_is)
    (case kSo => k_is)
    (case aDr => k_is)
    (case lDr => k_is)
    (case cDr => k_is)
    (case kDr => k_is)
    (case aPi => k_is)
    (case lPi => k_is)
    (case cPi => k_is)
    (case kPi => k_is)
    (case aOc => k_is)
    (case lOc => k_is)
    (case cOc => k_is)
    (case kOc => k_is)
    (case aUn => k_is)
    (case lUn => k_is)
    (case cUn => k_is)
    (case kUn => k_is)
    (case aMa => k_is)
    (case lMa => k_is)
    (case cMa => k_is)
    (case kMa => k_is)
    (case aFi => k_is)
    (case lFi => k_is)
    (case cFi => k_is)
    (case kFi => k_is)
    (case aDw => k_is)
    (case lDw => k_is)
    (case cDw => k_is)
    (case kDw => k_is)
    (case aRe => k_is)
    (case lRe => k_is)
    (case cRe => k_is)
    (case kRe => k_is)
    (case aOd => k_is)
    (case lOd => k_is)
    (case cOd => k_is)
    (case kOd => k_is)
    (case aOn => k_is)
    (case lOn => k_is)
    (case cOn => k_is)
    (case kOn => k_is)
    (case aRi => k_is)
    (case lRi => k_is)
    (case cRi => k_is)
    (case kRi => k_is)
    (case aLa => k_is)
    (case lLa => k_is)
    (case cLa => k_is)
    (case kLa => k_is)
    (case aIn => k_is)
    (case lIn => k_is)
    (case cIn => k_is)
    (case kIn => k_is)
    (case aBe => k_is)
    (case lBe => k_is)
    (case cBe => k_is)
    (case kBe => k_is)
    (case aPl => k_is)
    (case lPl => k_is)
    (case cPl => k_is)
    (case kPl => k_is)
    (case aBw => k_is)
    (case lBw => k_is)
    (case cBw => k_is)
    (case kBw => k_is)
    (case aAr => k_is)
    (case lAr => k_is)
    (case cAr => k_is)
    (case kAr => k_is)
    (case aIV => k_is)
    (case tIV => k_is)
    (case lIV => k_is)
    (case cIV => k_is)
    (case kIV => k_is)
    (case aIW => k_is)
    (case tIW => k_is)
    (case lIW => k_is)
    (case cIW => k_is)
    (case kIW => k_is)
    (case aEW => k_is)
    (case tEW => k_is)
    (case lEW => k_is)
    (case cEW => k_is)
    (case kEW => k_is)
    (case aID => k_is)
    (case tID => k_is)
    (case lID => k_is)
    (case cID => k_is)
    (case kID => k_is)
    (case aED => k_is)
    (case tED => k_is)
    (case lED => k_is)
    (case cED => k_is)
    (case kED => k_is)
    (case aIU => k_is)
    (case tIU => k_is)
    (case lIU => k_is)
    (case cIU => k_is)
    (case kIU => k_is)
    (case aEU => k_is)
    (case tEU => k_is)
    (case lEU => k_is)
    (case cEU => k_is)
    (case kEU => k_is)
    (case aIR => k_is)
    (case tIR => k_is)
    (case lIR => k_is)
    (case cIR => k_is)
    (case kIR => k_is)
    (case aER => k_is)
    (case tER => k_is)
    (case lER => k_is)
    (case cER => k_is)
    (case kER => k_is)
    (case aIT => k_is)
    (case tIT => k_is)
    (case lIT => k_is)
    (case cIT => k_is)
    (case kIT => k_is)
    (case aET => k_is)
    (case tET => k_is)
    (case lET => k_is)
    (case cET => k_is)
    (case kET => k_is)
    (case pgW => first | rfl | k_is)
    (case phW => first | rfl | k_is)
    (case poW => first | rfl | k_is)
    (case psW => first | rfl | k_is)
    (case pnW => first | rfl | k_is)
    (case pcW => first | rfl | k_is)
    (case pmW => first | rfl | k_is)
    (case pkW => first | rfl | k_is)
    (case peW => first | rfl | k_is)
    (case pqW => first | rfl | k_is)
    (case piW => first | rfl | k_is)
    (case ptW => first | rfl | k_is)
    (case qW => first | rfl | k_is)
    (case qbW => first | rfl | k_is)
    (case pgD => first | rfl | k_is)
    (case phD => first | rfl | k_is)
    (case poD => first | rfl | k_is)
    (case psD => first | rfl | k_is)
    (case pnD => first | rfl | k_is)
    (case pcD => first | rfl | k_is)
    (case pmD => first | rfl | k_is)
    (case pkD => first | rfl | k_is)
    (case peD => first | rfl | k_is)
    (case pqD => first | rfl | k_is)
    (case piD => first | rfl | k_is)
    (case ptD => first | rfl | k_is)
    (case qD => first | rfl | k_is)
    (case qbD => first | rfl | k_is)
    (case pgU => first | rfl | k_is)
    (case phU => first | rfl | k_is)
    (case poU => first | rfl | k_is)
    (case psU => first | rfl | k_is)
    (case pnU => first | rfl | k_is)
    (case pcU => first | rfl | k_is)
    (case pmU => first | rfl | k_is)
    (case pkU => first | rfl | k_is)
    (case peU => first | rfl | k_is)
    (case pqU => first | rfl | k_is)
    (case piU => first | rfl | k_is)
    (case ptU => first | rfl | k_is)
    (case qU => first | rfl | k_is)
    (case qbU => first | rfl | k_is)
    (case pgR => first | rfl | k_is)
    (case phR => first | rfl | k_is)
    (case poR => first | rfl | k_is)
    (case psR => first | rfl | k_is)
    (case pnR => first | rfl | k_is)
    (case pcR => first | rfl | k_is)
    (case pmR => first | rfl | k_is)
    (case pkR => first | rfl | k_is)
    (case peR => first | rfl | k_is)
    (case pqR => first | rfl | k_is)
    (case piR => first | rfl | k_is)
    (case ptR => first | rfl | k_is)
    (case qR => first | rfl | k_is)
    (case qbR => first | rfl | k_is)
    (case pgT => first | rfl | k_is)
    (case phT => first | rfl | k_is)
    (case poT => first | rfl | k_is)
    (case psT => first | rfl | k_is)
    (case pnT => first | rfl | k_is)
    (case pcT => first | rfl | k_is)
    (case pmT => first | rfl | k_is)
    (case pkT => first | rfl | k_is)
    (case peT => first | rfl | k_is)
    (case pqT => first | rfl | k_is)
    (case piT => first | rfl | k_is)
    (case ptT => first | rfl | k_is)
    (case qT => first | rfl | k_is)
    (case qbT => first | rfl | k_is)
    (case psg => first | rfl | k_is)
    (case psk => first | rfl | k_is)
    (case uM => first | rfl | decide +kernel | k_is)
    (case vM => decide)
