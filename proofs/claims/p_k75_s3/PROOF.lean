import PyProof.Rows.All
import Wide.All
import OpenK.AllK
import Wide.FinOn
import HandS.ForMost
import HandS.Exc
import HandS.TryMany
import HandS.Walk
import KE.GoesMore
import PyProof.Draws
import HandS.ForExc
import HandS.ExcInit
import HandS.ExcField
import HandS.IsInst
import HandS.EndBits
import HandS.Style
import HandS.WordsExc
import HandS.SortKw
import KE.DataMinMax
import HandS.ExcValue
import HandS.ExcIs
import HandS.MakeKw
import KE.KExcMore
import KE.KExcIs
import PyProof.ReprRoads
import HandS.ExcBuiltin
import PyProof.ListStr
import PyProof.StrBlock2
import HandS.Base
import HandS.Call
import HandS.List
import HandS.Text
import HandS.More
import HandS.Codes
import HandS.ReplaceList
import HandS.Conv
import HandS.Wide
import HandS.ReplaceLit
import PyProof.ReprBulk
import HandS.DeepEq
import HandS.HeadHook3
import PySem.Challenge.RW_nestfile_k75_paths_as_texts
set_option Elab.async false
set_option linter.all false
set_option maxRecDepth 100000
set_option maxHeartbeats 2000000
/-! try with several clauses, each with a name or without. -/
namespace QT
open PySem PySem.Spec PyProof.Rows L2
/-- a suite whose clause keeps the exception under slot i -/
def tsAs (i : Nat) (ts : Addr → Value → Option Addr → TS) : Addr → Value → Option Addr → TS := fun a cls d D σ H =>
  ts a cls d { nx := fun σq Hq => D.nx (σq.set i none) Hq, rt := D.rt, bk := fun σq Hq => D.bk (σq.set i none) Hq, ct := fun σq Hq => D.ct (σq.set i none) Hq } (σ.set i (some (.ref a))) H
inductive Clauses (X : Cx) : List ExceptHandler → List (Value × (Addr → Value → Option Addr → TS)) → Prop
  | done : Clauses X [] []
  | bare {x : Str} {c : Value} {ts : Addr → Value → Option Addr → TS} {b : Stmt} {bs : List Stmt} {p q : Pos} {hs : List ExceptHandler} {l : List (Value × (Addr → Value → Option Addr → TS))} (names : Names X x c)
      (su : ∀ (a : Addr) (oe : Obj) (cls : Value) (d : Option Addr) (pn : List (Addr × Obj)), Zc cls d oe → (∃ vs, oe.data = .fields vs) → PSs (X.suite a ((a, oe) :: pn)) (b :: bs) (ts a cls d)) (rest : Clauses X hs l) :
      Clauses X (.ExceptHandler (some (.Name x p)) none (b :: bs) q :: hs) ((c, ts) :: l)
  | named {x n : Str} {i : Nat} {c : Value} {ts : Addr → Value → Option Addr → TS} {b : Stmt} {bs : List Stmt} {p q : Pos} {hs : List ExceptHandler} {l : List (Value × (Addr → Value → Option Addr → TS))} (names : Names X x c)
      (hN : X.N.Nodup) (hi : X.N[i]? = some n) (hl : X.env.kindOf n = some .local)
      (su : ∀ (a : Addr) (oe : Obj) (cls : Value) (d : Option Addr) (pn : List (Addr × Obj)), Zc cls d oe → (∃ vs, oe.data = .fields vs) → PSs (X.suite a ((a, oe) :: pn)) (b :: bs) (ts a cls d)) (rest : Clauses X hs l) :
      Clauses X (.ExceptHandler (some (.Name x p)) (some n) (b :: bs) q :: hs) ((c, tsAs i ts) :: l)
section
variable {X : Cx} {body : List Stmt} {h0 : ExceptHandler} {hs : List ExceptHandler} {l : List (Value × (Addr → Value → Option Addr → TS))} {pos : Pos} {tb : WX → TS} {Wout : WX}
theorem ps_tryN (st : X.stack = X.env :: X.outer) (hf : X.env.frame = some X.env.locals) (tk : Takes X Wout)
    (hb : ∀ (W : WX) (pn : List (Addr × Obj)) (xe : Value → Shared → Prop), Takes (X.tr pn xe) W → PassesOwn (model X.prog X.w) X.A X.env xe → PSs (X.tr pn xe) body (tb W))
    (cl : Clauses X (h0 :: hs) l) : PS X (.Try body (h0 :: hs) [] [] pos) (fun D σ H => tb (wMany X.K Wout D l) D σ H) := by
  refine ⟨fun pins s σ H D I0 reading => ?_⟩
  have hok := I0.ok
  have frames : X.A.frames = some (X.env :: X.outer) := by rw [hok.frames, st]
  refine wpAny_Try_except ?_
  refine wpAny_mono ((hb (wMany X.K Wout D l) (X.pn ++ pins) (fun e s₁ => wpAny (model X.prog X.w) X.A (noteFrame e X.env) (fun _ s₂ => wpAny (model X.prog X.w) X.A (setFlight e none) (fun _ s₃ =>
    wpAny (model X.prog X.w) X.A (handleBy e X.env (h0 :: hs)) (SP X pins D) X.xe s₃) X.xe s₂) X.xe s₁) (fun u t caught => ?_) PassesOwn.looking).run [] s σ H D (I0.toTry _) reading) (fun f s1 through => ?_) (fun e s1 he => he)
  · obtain ⟨a, B, sI, pinsQ, σq, Hq, cls, d, rfl, I1, fresh, grown, sky, na, hos, agree, wish⟩ := caught
    have I2 : Inv X pins σq Hq sI := I1.ofTry hok
    have sky2 : Sky B (X.env :: X.outer) a (Zc cls d) X.env.locals t.heap := by rw [← st]; exact sky
    show wpAny (model X.prog X.w) X.A (noteFrame (.ref a) X.env) _ _ _
    refine Sky.land Zc.steady frames hf sky2 fun g3 flight grown3 => ?_
    have I3 : Inv X pins σq Hq { t with heap := g3 } := I2.landed fresh flight.1 (grown.trans grown3) hos agree
    obtain ⟨o3, fs3, at3, zc3, data3⟩ := flight.there
    have off : ∀ {h : Heap} {o : Obj} {vs : Array Value}, h.FunFrames B (X.env :: X.outer) → h.get? a = some o → o.data = .fields vs → a ∉ frs (X.env :: X.outer) := fun {h o vs} ff at_ dd mem => by
      obtain ⟨_, oo, at', nf⟩ := ff.mem mem
      rw [at_] at at'
      cases at'
      exact nf _ dd
    have offA := off flight.2.2.1 at3 data3
    have offL : a ≠ X.env.locals := fun z => offA (List.mem_filterMap.mpr ⟨X.env, List.mem_cons_self, by rw [hf, z]⟩)
    have offF : a ∉ X.fs := fun mem => by
      obtain ⟨en, hen, q⟩ := List.mem_filterMap.mp mem
      exact offA (List.mem_filterMap.mpr ⟨en, List.mem_cons_of_mem _ hen, q⟩)
    have IS := I3.suite at3 data3 na offL offF
    have tested : ∀ {x : Str} {c : Value} {np : Pos} {Q : Value → Shared → Prop} {E : Value → Shared → Prop}, Names X x c → Q c { t with heap := g3 } → wpAny (model X.prog X.w) (X.A.mark (some (.ref a))) (eval (.Name x np) X.env) Q E { t with heap := g3 } := fun {x c np Q E} nm q => by
      obtain ⟨hg, hdbg, hm | ⟨hm, hv, hnn⟩⟩ := nm
      · exact ld_glob (X := X.suite a ((a, o3) :: (X.pn ++ pins))) IS hg hm q hdbg
      · exact ld_blt (X := X.suite a ((a, o3) :: (X.pn ++ pins))) IS hg hm hv q hnn hdbg
    have typed : PySem.W.Looks (model X.prog X.w) g3 (typeOf (.ref a)) cls := fun A Q E s k q => wpAny_typeOf_ref (k _ _ at3) (by rw [zc3.1]; exact q)
    have walk : ∀ {hs' : List ExceptHandler} {l' : List (Value × (Addr → Value → Option Addr → TS))}, Clauses X hs' l' → wMany X.K Wout D l' cls d σq Hq →
        wpAny (model X.prog X.w) X.A (handleBy (.ref a) X.env hs') (SP X pins D) X.xe { t with heap := g3 } := by
      intro hs' l' hk
      induction hk with
      | done =>
        intro w
        refine wpAny_handleBy_nil ?_
        obtain ⟨_, _, _, oe, vs, T, oT, ts', he, hz, hd, h1, hr⟩ := id flight
        unfold PySem.passOn
        refine wpAny_bind (wpAny_field he hd h1 ?_)
        rw [if_neg (show ¬ ((Value.ref T == Value.none) = true) from by simp)]
        have onward : wpAny (model X.prog X.w) X.A (setFlight (.ref a) X.env.frame) (fun _ s4 => wpAny (model X.prog X.w) X.A (throw (.ref a) : Sem Flow) (SP X pins D) X.xe s4) X.xe { t with heap := g3 } := by
          rw [hf]
          refine HandSPX.setFlight_upZ flight fun g4 hg4 grown4 => wpAny_throw (tk _ _ ?_)
          exact ⟨a, B, sI, pins, σq, Hq, cls, d, rfl, I2, fresh, (grown.trans grown3).trans grown4, .inr (.inr (by rw [st]; exact hg4)), na, hos, agree, w⟩
        first
          | exact wpAny_bind (wpAny_pure (wpAny_bind onward))
          | exact wpAny_bind onward
      | @bare x c ts b bs p q hs2 l2 names su rest ih =>
        intro w
        obtain ⟨hit, hx, yes, no⟩ := w
        refine wpAny_handleBy_cons (codeAny_handlers_test ?_) (by intro z; cases z)
        refine tested names ((PySem.W.exm_one (M := model X.prog X.w) (I3.kIn) typed hx).here ?_)
        cases hit with
        | true =>
          refine codeAny_handlers_suite ?_
          refine HandSPX.lands_againZ flight fun g4 flight4 grown4 => ?_
          have I4 : Inv X pins σq Hq { t with heap := g4 } := I2.landed fresh flight4.1 ((grown.trans grown3).trans grown4) hos agree
          obtain ⟨o4, fs4, at4, zc4, data4⟩ := flight4.there
          refine wpAny_mono ((su a o4 cls d (X.pn ++ pins) zc4 ⟨_, data4⟩).run [] _ _ Hq _ (I4.suite at4 data4 na offL offF) (yes rfl a na)) (fun f s6 hsp => ?_) (fun _ _ z => False.elim z)
          cases f with
          | ret u =>
            obtain ⟨v6, σ6, H6, S6, r6, q6⟩ := hsp
            exact ⟨_, _, _, S6.unsuite hok, r6, q6⟩
          | next | brk | cont =>
            obtain ⟨σ6, H6, S6, q6⟩ := hsp
            exact ⟨_, _, S6.unsuite hok, q6⟩
        | false =>
          show wpAny _ X.A (handleBy (.ref a) X.env hs2) _ _ _
          exact ih (no rfl)
      | @named x n i c ts b bs p q hs2 l2 names hN hi hl su rest ih =>
        intro w
        obtain ⟨hit, hx, yes, no⟩ := w
        refine wpAny_handleBy_cons (codeAny_handlers_test ?_) (by intro z; cases z)
        refine tested names ((PySem.W.exm_one (M := model X.prog X.w) (I3.kIn) typed hx).here ?_)
        cases hit with
        | true =>
          refine codeAny_handlers_suite_as ?_
          refine HandSPX.lands_againZ flight fun g4 flight4 grown4 => ?_
          have I4 : Inv X pins σq Hq { t with heap := g4 } := I2.landed fresh flight4.1 ((grown.trans grown3).trans grown4) hos agree
          obtain ⟨o4, fs4, at4, zc4, data4⟩ := flight4.there
          refine store_ok (X := X.suite a ((a, o4) :: (X.pn ++ pins))) (v := .ref a) (I4.suite at4 data4 na offL offF) hN hi (.inl hl) rfl (fun s5 S5 => ?_) (.inr hl)
          refine wpAny_mono ((su a o4 cls d (X.pn ++ pins) zc4 ⟨_, data4⟩).run [] s5 _ Hq _ S5 (yes rfl a na)) (fun f s6 hsp => ?_) (fun _ _ z => False.elim z)
          have gone : ∀ {σ6 : L2.St} {H6 : Hp} {R : Shared → Prop}, Inv (X.suite a ((a, o4) :: (X.pn ++ pins))) [] σ6 H6 s6 → (∀ s7, Inv X pins (σ6.set i none) H6 s7 → R s7) →
              wpAny (model X.prog X.w) X.A (do bindName X.env n .none; unbindBehindTheSuite X.env n q) (fun _ s7 => R s7) X.xe s6 := fun {σ6 H6 R} S6 hq => gone_ok (S6.unsuite hok) hN hi hl hq
          cases f with
          | ret u =>
            obtain ⟨v6, σ6, H6, S6, r6, q6⟩ := hsp
            exact gone S6 fun s7 J7 => ⟨_, _, _, J7, r6, q6⟩
          | next | brk | cont =>
            obtain ⟨σ6, H6, S6, q6⟩ := hsp
            exact gone S6 fun s7 J7 => ⟨_, _, J7, q6⟩
        | false =>
          show wpAny _ X.A (handleBy (.ref a) X.env hs2) _ _ _
          exact ih (no rfl)
    exact walk cl wish
  · cases f with
    | ret u =>
      obtain ⟨v, σq, Hq, I1, r, q⟩ := through
      exact ⟨v, σq, Hq, I1.ofTry hok, r, q⟩
    | next =>
      obtain ⟨σq, Hq, I1, q⟩ := through
      exact wpAny_execs_nil ⟨σq, Hq, I1.ofTry hok, q⟩
    | brk | cont =>
      obtain ⟨σq, Hq, I1, q⟩ := through
      exact ⟨σq, Hq, I1.ofTry hok, q⟩
end
end QT

/-! list + list where either may be the script. -/
namespace QT
open PySem PySem.Spec PySem.P PyProof PyProof.Rows L2
theorem meets_cat (l b : Addr) (xs ys : Array Value) (n m : Nat) (sl sb : Array (Option Value)) (hc : xs.size + ys.size ≤ sizeLine) :
    Meets (Builtin.«list.__add__» ⟨[.ref l, .ref b], []⟩) (fun _ R s => s.heap.get? l = some (⟨.type "list", none, .seq xs n, sl⟩ : Obj) ∧ s.heap.get? b = some (⟨.type "list", none, .seq ys m, sb⟩ : Obj) ∧
      R (.ok (.ret (Value.ref s.heap.objs.size))) { s with heap := s.heap.push { cls := Value.type "list", data := Data.seq (xs ++ ys) } }) :=
  .of_wp fun prog w A R s h => by
    obtain ⟨hp, g, d, tk, os⟩ := s
    obtain ⟨hl, hb, h⟩ := h
    have g1 := PySem.AutoSeq1.idx_int
    have g2 := PySem.AutoSeq1.sub_tuple_tuple
    have g3 := PySem.AutoSeq1.sub_list_list
    have g4 := PySem.AutoSeq1.sub_tuple_list
    have g5 := PySem.AutoSeq1.sub_list_tuple
    wp_walk using PySem.AutoSeq1.wpAny_loadPart' hl, PySem.AutoSeq1.wpAny_loadPart' hb
    exact ⟨_, rfl, h⟩

/-- what an Inv says of a list that may be read -/
theorem list_at {X : Cx} {pins : List (Addr × Obj)} {σ : L2.St} {H : Hp} {s : Shared} {a : Addr} {xs : List V} (I : Inv X pins σ H s) (h : SqL X.K H a xs) :
    ∃ (its : List Value) (n : Nat) (sl : Array (Option Value)), Vals xs its ∧ s.heap.get? a = some (⟨.type "list", none, .seq its.toArray n, sl⟩ : Obj) := by
  obtain ⟨its, r, ⟨o, n, e, hc, hd, hs⟩, _⟩ := I.list h
  obtain ⟨c, d, dt, sl⟩ := o
  cases hc
  cases hd
  cases hs
  exact ⟨its, n, sl, r, e⟩
def rCatS (K : PySem.W.Frag) : R2 := fun x y H Q => ∃ a b xs ys, x = .ref a ∧ y = .ref b ∧ SqL K H a xs ∧ SqL K H b ys ∧ xs.length + ys.length ≤ sizeLine ∧
  ∀ p, H p = none → Q (.ref p) (upd H p (.lst (xs ++ ys)))
theorem op_catS {X : Cx} : OpR X (binaryOp .Add) (rCatS X.K) := by
  intro pins s σ H x y v u Q I rx ry h
  obtain ⟨a, b, xs, ys, rfl, rfl, ha, hb, hz, q⟩ := h
  cases rx
  cases ry
  obtain ⟨is, n, sl, ra, ea⟩ := list_at I ha
  obtain ⟨js, m, sb, rb, eb⟩ := list_at I hb
  have la := Paired.length ra
  have lb := Paired.length rb
  refine concat_meets ⟨_, ea, rfl⟩ ⟨_, eb, rfl⟩ noFill_list_add seq_list_add F.slot_list_add F.entry_list_add (F.args_list_add_2 _ _) (meets_cat a b is.toArray js.toArray n m sl sb (by rw [List.size_toArray, List.size_toArray]; omega)) ⟨ea, eb, ?_⟩
  have e2 : is.toArray ++ js.toArray = (is ++ js).toArray := by simp
  rw [e2]
  exact ⟨.ref _, _, I.lnew (t' := s.toks) (ra.append rb) (by rw [List.length_append]; omega), rfl, q _ I.fresh⟩
end QT

set_option maxHeartbeats 4000000
/-! for a, b in enumerate(t), t a tuple; and of either kind. -/
namespace QT
open PySem PySem.Spec PyProof.Rows L2
/-- enumerate's own making over a tuple -/
theorem meets_enumT (l : Addr) (items : Array Value) :
    Meets (Builtin.«enumerate.__new__» ⟨[.type "enumerate", .ref l], []⟩) (fun _ R s => s.heap.IsTuple l items ∧
      R (.ok (.ret (.ref (s.heap.push { cls := .type "tuple_iterator", data := .fields #[.ref l, .int 0 0] }).objs.size)))
        { s with heap := (s.heap.push { cls := .type "tuple_iterator", data := .fields #[.ref l, .int 0 0] }).push { cls := .type "enumerate", data := .fields #[.none, .bool false, .ref s.heap.objs.size, rawInt 0, .none, .none] } }) :=
  .of_wp fun prog w A R s h => by
    obtain ⟨hp, g, d, tk, os⟩ := s
    obtain ⟨hl, h⟩ := h
    have kind := sub_enumerate
    wp_walk
    refine wpAny_stack_any fun st => wpAny_pure ?_
    split
    · rename_i c _ _ _ _ _
      cases (c == Value.type "enumerate")
      · wp_walk using wpAny_pyIter_tuple hl
        exact ⟨_, rfl, h⟩
      · wp_walk using wpAny_pyIter_tuple hl
        exact ⟨_, rfl, h⟩
    · wp_walk using wpAny_pyIter_tuple hl
      exact ⟨_, rfl, h⟩
section
variable {prog : Program} {w : World} {A : Around} {E : Value → Shared → Prop} {s : Shared}
theorem call_enumT {l : Addr} {items : Array Value} {Q : Value → Shared → Prop} (hL : s.heap.IsTuple l items)
    (h : ∀ g, IsEnum g (s.heap.objs.size + 1) s.heap.objs.size 0 .none → g.IsTupleIter s.heap.objs.size l 0 → g.objs.size = s.heap.objs.size + 2 →
      (∀ b o, s.heap.get? b = some o → g.get? b = some o) → Q (.ref (s.heap.objs.size + 1)) { s with heap := g }) :
    wpAny (model prog w) A (call (.type "enumerate") [.ref l]) Q E s := by
  refine callType_new F.called_enumerate (by decide) (F.typeCall_enumerate_1 _) (F.newCall_enumerate_1 _) (fun obj => F.args_object_init_2 obj _) F.entry_enumerate_new (meets_enumT l items) ⟨hL, ?_⟩
  have big : (s.heap.push { cls := .type "tuple_iterator", data := .fields #[.ref l, .int 0 0] }).objs.size = s.heap.objs.size + 1 := Heap.size_push ..
  show _ ∧ _
  rw [big]
  have made : IsEnum ((s.heap.push { cls := .type "tuple_iterator", data := .fields #[.ref l, .int 0 0] }).push
      { cls := .type "enumerate", data := .fields #[.none, .bool false, .ref s.heap.objs.size, rawInt 0, .none, .none] }) (s.heap.objs.size + 1) s.heap.objs.size 0 .none := by
    have there := Heap.get?_push_size (s.heap.push { cls := .type "tuple_iterator", data := .fields #[.ref l, .int 0 0] })
      (o := { cls := .type "enumerate", data := .fields #[.none, .bool false, .ref s.heap.objs.size, rawInt 0, .none, .none] }) rfl
    rw [big] at there
    exact there
  exact ⟨⟨_, made, rfl⟩, h _ made ⟨_, Heap.get?_push_of_some _ (Heap.get?_push_size _ rfl), rfl, rfl⟩ (by rw [Heap.size_push, big]) fun b o x => Heap.get?_push_of_some _ (Heap.get?_push_of_some _ x)⟩
end
/-- the tuple at a as it stands, each item in a new pair -/
def IteT (K : PySem.W.Frag) (a : Addr) : It :=
  ⟨fun i H => ∃ (xs : List V) (x : V), SqT K H a xs ∧ xs[i]? = some x, fun i H v Hn => ∃ T x, v = .ref T ∧ H T = none ∧ Hn = upd H T (.tup [.int (i : Nat), x]) ∧ ∀ xs, SqT K H a xs → xs[i]? = some x, fun i H => ∃ xs : List V, SqT K H a xs ∧ xs.length ≤ i⟩
theorem isTuple_of {h : Heap} {a : Addr} {its : Array Value} (p : IsTup h a its) : h.IsTuple a its := p
theorem turn_enumT {P : Program} {w : World} {K : PySem.W.Frag} {elts : List Expr} {kk : Nat} {tpos : Pos} (a e it : Addr) :
    Turn P w K (.Tuple elts kk tpos) (IteT K a) [e, it] e (fun i h => (∃ old, IsEnum h e it ((i : Nat) : Int) old) ∧ h.IsTupleIter it a i ∧ e ≠ it) where
  mem := by simp
  obj := fun i h st b hb => by
    obtain ⟨⟨old, he⟩, ⟨o, ho, hc, hd⟩, _⟩ := st
    rcases (show b = e ∨ b = it by simpa using hb) with z | z
    · rw [z]
      exact ⟨_, he, fun v q => nomatch q⟩
    · rw [z]
      exact ⟨o, ho, fun v q => by rw [hd] at q; cases q⟩
  keep := fun i h h' st k => let ⟨⟨old, he⟩, ⟨o, ho, r⟩, hne⟩ := st; ⟨⟨old, k e (by simp) _ he⟩, ⟨o, k it (by simp) _ ho, r⟩, hne⟩
  item := by
    intro X hP hw hK hc i pins s σ H E I hf st hg
    subst hP hw hK
    obtain ⟨⟨old, he⟩, hit, hne⟩ := st
    obtain ⟨xs, x, hq, hx⟩ := hg
    obtain ⟨its, rv, p, hz⟩ := I.tuple hq
    obtain ⟨u, hu, ru⟩ := rv.get hx
    have sizeE : e < s.heap.objs.size := Heap.lt_size he
    have sizeI : it < s.heap.objs.size := by
      obtain ⟨_, q, _⟩ := hit
      exact Heap.lt_size q
    have T0 : s.heap.IsTuple a its.toArray := isTuple_of p
    have nat : a ≠ it := fun z => by
      obtain ⟨o1, e1, c1, _⟩ := hit
      obtain ⟨o2, e2, c2, _⟩ := T0
      rw [z, e1] at e2
      cases e2
      rw [c1] at c2
      exact absurd (Value.type.inj c2) (by decide)
    have nae : e ∉ [it, a] := by
      intro z
      rcases (show e = it ∨ e = a by simpa using z) with z | z
      · exact hne z
      · obtain ⟨o2, e2, c2, _⟩ := T0
        rw [← z, he] at e2
        cases e2
        exact absurd (Value.type.inj c2) (by decide)
    have lt : i < its.toArray.size := by
      have z := (List.getElem?_eq_some_iff.mp hu).1
      simpa using z
    refine wpAny_pyNext_enum_itemD (Draws.tuple (A := X.A.in1) (I.ok.hd hc) it a nat its.toArray) he ⟨hit, T0⟩ lt hne nae fun y g tk hy out st1 hT hsz hk => ?_
    have ey : y = u := by
      have z : its[i]? = some y := by simpa using hy
      rw [hu] at z
      exact (Option.some.inj z).symm
    subst ey
    refine ⟨_, rfl, wpAny_letOwnedTupleGo_enum (s := { s with heap := g, toks := tk + 1 }) out fun g2 he2 sb => ?_⟩
    have hT2 : g2.get? s.heap.objs.size = some { cls := .type "tuple", data := .seq #[.int i tk, y] } := (sb.2 _ (Nat.ne_of_gt sizeE)).trans hT
    have new : ObjOk X.prog X.w (upd H s.heap.objs.size (.tup [.int (i : Nat), x])) g2 s.heap.objs.size (.tup [.int (i : Nat), x]) :=
      ⟨by show 2 ≤ sizeLine; decide, [.int i tk, y], .cons ⟨_, rfl⟩ (.cons ru .nil), ⟨_, hT2, rfl, _, rfl⟩⟩
    have kept : ∀ b ob, b ∉ [e, it] → s.heap.get? b = some ob → g2.get? b = some ob := fun b ob hb q => (sb.2 b (fun z => hb (by simp [z]))).trans (hk b ob (fun z => hb (by simp [z])) (fun z => hb (by simp [z])) q)
    have I1 : Inv X pins σ (upd H s.heap.objs.size (.tup [.int (i : Nat), x])) { s with heap := g2, toks := tk + 1 } := I.turnedNew (ch := [e, it]) kept hf (Nat.le_refl _) new
    refine ⟨.ref s.heap.objs.size, _, I1, rfl, ⟨_, x, rfl, I.hok.fresh (Nat.le_refl _), rfl, fun ys hy2 => by rw [I.tuple_inj hy2 hq]; exact hx⟩, ⟨⟨y, ?_⟩, ?_, hne⟩, fun b hb => ?_⟩
    · have e1 : ((i + 1 : Nat) : Int) = (i : Int) + 1 := by omega
      rw [e1]
      exact he2
    · obtain ⟨⟨o, ho, r⟩, _⟩ := st1
      exact ⟨o, (sb.2 it (Ne.symm hne)).trans ho, r⟩
    · have hb2 : b < s.heap.objs.size := by
        rcases (show b = e ∨ b = it by simpa using hb) with z | z
        · rw [z]; exact sizeE
        · rw [z]; exact sizeI
      rw [upd_ne (Nat.ne_of_lt hb2)]
      exact (hf b hb).1
  done := by
    intro X hP hw hK hc i pins s σ H E I hf st hg
    subst hP hw hK
    obtain ⟨⟨old, he⟩, hit, hne⟩ := st
    obtain ⟨xs, hq, hx⟩ := hg
    obtain ⟨its, rv, p, hz⟩ := I.tuple hq
    obtain ⟨f0, f1, f2, f3, f4, f5⟩ := hf it (by simp)
    have T0 : s.heap.IsTuple a its.toArray := isTuple_of p
    have nat : a ≠ it := fun z => by
      obtain ⟨o1, e1, c1, _⟩ := hit
      obtain ⟨o2, e2, c2, _⟩ := T0
      rw [z, e1] at e2
      cases e2
      rw [c1] at c2
      exact absurd (Value.type.inj c2) (by decide)
    have hl := rv.length
    have none_ : its.toArray[i]? = none := by simp; omega
    have fin : ∀ g, Heap.ExtBut it s.heap g → (none : Option Value) = none ∧ Inv X pins σ H { s with heap := g } := fun g eb => ⟨rfl, I.turned (t' := s.toks) (fun b o hb q => eb b o hb q) f0 f1 f3 f4 f5⟩
    -- the end is met at any place behind the last
    have hT : s.TypeIs (.ref e) "enumerate" := ⟨_, he, rfl⟩
    unfold pyNext
    refine wpAny_bind (wpAny_attempt (wpAny_callSpecial?_slot (name := Str.ofString "__next__") hT F.slot_enumerate_next (wpAny_call_entry F.slot_enumerate_next hT F.entry_enumerate_next ?_ (F.args_enumerate_next_1 _))))
    show wpAny _ _ (field (.ref e) 2 >>= _) _ _ _
    refine wpAny_bind (wpAny_field he rfl (x := .ref it) rfl ?_)
    refine wpAny_bind (wpAny_nextOf_tuple_end (I.ok.hd hc) hit T0 none_ fun g x eb hx2 => ?_)
    obtain ⟨o, ho, hcl⟩ := hx2
    refine wpAny_bind (wpAny_isInstance (T := "StopIteration") (b := true) ⟨o, ho, hcl⟩ isSubtype_stop ?_)
    exact wpAny_pure (fin g eb)
  self := fun A i s Q E st h => let ⟨⟨_, he⟩, _⟩ := st; wpAny_pyIter_enum he h
/-- enumerate over a list or a tuple -/
def iEnumS (K : PySem.W.Frag) (ta : TA) : TI := fun σ H R => ta σ H fun vs H1 => ∃ a, vs = [.ref a] ∧ ((∃ xs, SqL K H1 a xs ∧ R (Ite K a) H1) ∨ ∃ xs, SqT K H1 a xs ∧ R (IteT K a) H1)
theorem pi_enumS {X : Cx} {e : Expr} {ta : TA} {p pos tpos : Pos} {elts : List Expr} {kk : Nat} (hg : Gl X "enumerate") (hm : X.mg "enumerate" = none) (ha : PA X [e] ta) (hs : starEach [e] X.env = [(false, eval e X.env)] := by rfl) :
    PI X (.Tuple elts kk tpos) (.Call (.Name "enumerate" p) [e] [] pos) (iEnumS X.K ta) := by
  refine ⟨fun pins s σ H R I h => ?_⟩
  refine Call_ (ld_blt I hg hm boot_enumerate (PyProof.Rows.callWith_type1 (thn (ha.run pos pins s σ H _ I h) fun us s1 ⟨vs, H1, I1, r1, q1⟩ => ?_) hs rfl))
  obtain ⟨a, ex, q⟩ := q1
  subst ex
  cases r1 with
  | cons r rr =>
    cases rr
    cases r
    have near : ∀ b, b ∈ [s1.heap.objs.size + 1, s1.heap.objs.size] → FpOk X pins H1 b := fun b hb => by
      have hle : s1.heap.objs.size ≤ b := by
        rcases (show b = s1.heap.objs.size + 1 ∨ b = s1.heap.objs.size by simpa using hb) with z | z
        · rw [z]; exact Nat.le_add_right _ _
        · rw [z]; exact Nat.le_refl _
      exact I1.fpOk hle (I1.hok.fresh hle)
    rcases q with ⟨xs, hq, q⟩ | ⟨xs, hq, q⟩
    · obtain ⟨its, rv, pl, hz⟩ := I1.list hq
      refine call_enumerate_list pl.isList fun g he hit hsz hk => wpAny_pyIter_enum he ?_
      exact ⟨_, [s1.heap.objs.size + 1, s1.heap.objs.size], _, _, H1, rfl, I1.kept (t' := s1.toks) hk, turn_enum a (s1.heap.objs.size + 1) s1.heap.objs.size, ⟨⟨.none, he⟩, hit, Nat.succ_ne_self _⟩, near, q⟩
    · obtain ⟨its, rv, pl, hz⟩ := I1.tuple hq
      refine call_enumT (isTuple_of pl) fun g he hit hsz hk => wpAny_pyIter_enum he ?_
      exact ⟨_, [s1.heap.objs.size + 1, s1.heap.objs.size], _, _, H1, rfl, I1.kept (t' := s1.toks) hk, turn_enumT a (s1.heap.objs.size + 1) s1.heap.objs.size, ⟨⟨.none, he⟩, hit, Nat.succ_ne_self _⟩, near, q⟩
theorem walk_enumT {K : PySem.W.Frag} {a : Addr} {xs : List V} : Walk (IteT K a) xs.length (fun H => SqT K H a xs) (YPair (fun i => some (.int (i : Nat))) (fun i => xs[i]?)) := by
  refine ⟨fun i _ hi q => ⟨xs, xs[i], q, by simp [hi]⟩, fun _ q => ⟨xs, q, Nat.le_refl _⟩, fun i H v Hn _ q y => ?_⟩
  obtain ⟨T, x, y1, y2, y3, y4⟩ := y
  exact ⟨T, .int (i : Nat), x, y1, y2, y3, rfl, y4 xs q⟩
end QT

/-! Words of my own: a def that may be called by its name. -/
namespace QT
open PySem PySem.Spec PyProof.Rows L2
structure Cal (P : Program) (w : World) (K : PySem.W.Frag) (mg : Str → Option Value) (base : Heap) (k : Nat) (x : Str) (sp : Sp) : Prop where
  ex : ∃ (f : Addr) (fd : FuncData) (ps : List Str), FnOk P w K mg base CX0 k f fd ps sp ∧ mg x = some (.ref f) ∧ PySem.W.keepIn K (.ref f) = true ∧ Binds K fd ps []
/-- one that may raise -/
structure CalX (P : Program) (w : World) (K : PySem.W.Frag) (mg : Str → Option Value) (base : Heap) (k : Nat) (x : Str) (sp : Sp) : Prop where
  ex : ∃ (f : Addr) (fd : FuncData) (ps : List Str), FnOk P w K mg base (L2.CX P w) k f fd ps sp ∧ mg x = some (.ref f) ∧ PySem.W.keepIn K (.ref f) = true ∧ Binds K fd ps []
section
variable {X : Cx} {k j : Nat} {x : Str} {sp : Sp} {p pos : Pos} {e : Expr} {es : List Expr} {t : TA} {W : WX}
theorem pe_c (c : Cal X.prog X.w X.K X.mg X.base k x sp) (hr : Room j X.A) (hk : k ≤ j) (hg : Gl X x) (ha : PA X (e :: es) t)
    (hdb : (x == ("__debug__" : Str)) = false := by decide) (he : starEach (e :: es) X.env = (false, eval e X.env) :: starEach es X.env := by rfl) (hpl : (backTo pos (starEach es X.env)).any (·.1) = false := by rfl) :
    PE X (.Call (.Name x p) (e :: es) [] pos) (tCall sp [] E0 t) := by
  obtain ⟨f, fd, ps, F, hm, kp, b⟩ := c.ex
  exact pe_call F (hr.mono hk) hg hm kp b .nil pass0 ha hdb he hpl
/-- what it raises goes to W, at the caller's slots -/
theorem pe_cX (tk : Takes X W) (c : CalX X.prog X.w X.K X.mg X.base k x sp) (hr : Room j X.A) (hk : k ≤ j) (hg : Gl X x) (ha : PA X (e :: es) t)
    (hdb : (x == ("__debug__" : Str)) = false := by decide) (he : starEach (e :: es) X.env = (false, eval e X.env) :: starEach es X.env := by rfl) (hpl : (backTo pos (starEach es X.env)).any (·.1) = false := by rfl) :
    PE X (.Call (.Name x p) (e :: es) [] pos) (tCallS sp (WE W) t) := by
  obtain ⟨f, fd, ps, F, hm, kp, b⟩ := c.ex
  exact pe_callS F (hr.mono hk) hg hm kp b (fun σ => passAt tk σ) ha hdb he hpl
end

/-! one step of a reading by its head -/
section
variable {σ : L2.St} {H : Hp} {D : Ends} {Q : VK} {QA : List V → Hp → Prop} {QT' : Bool → Hp → Prop}
theorem use_seq {t u : TS} (h : t { D with nx := u D } σ H) : tSeq t u D σ H := h
theorem use_asg {te : TE} {g : TG} (h : te σ H fun x H1 => g x σ H1 D.nx) : tAsg te g D σ H := h
theorem use_set {te : TE} {i : Nat} (h : te σ H fun x H1 => D.nx (σ.set i (some x)) H1) : tAsg te (gName i) D σ H := h
theorem use_drop {te : TE} (h : te σ H fun _ H1 => D.nx σ H1) : tDrop te D σ H := h
theorem use_ret {te : TE} (h : te σ H D.rt) : tRet te D σ H := h
theorem use_if {c : TT} {t u : TS} (h : c σ H fun b H1 => if b = true then t D σ H1 else u D σ H1) : tIfS c t u D σ H := h
theorem use_lst {t : TA} (h : t σ H fun xs H1 => xs.length ≤ sizeLine ∧ ∀ p, H1 p = none → Q (.ref p) (upd H1 p (.lst xs))) : tLst t σ H Q := h
theorem use_tup {t : TA} (h : t σ H fun xs H1 => xs.length ≤ sizeLine ∧ ∀ p, H1 p = none → Q (.ref p) (upd H1 p (.tup xs))) : tTup t σ H Q := h
theorem use_op {r : R2} {ta tb : TE} (h : ta σ H fun x H1 => tb σ H1 fun y H2 => r x y H2 Q) : tOp r ta tb σ H Q := h
theorem use_cons {te : TE} {t : TA} (h : te σ H fun x H1 => t σ H1 fun vs H2 => QA (x :: vs) H2) : tCons te t σ H QA := h
theorem use_nil (h : QA [] H) : tNil σ H QA := h
theorem use_cb {r : List V → Hp → VK → Prop} {t : TA} (h : t σ H fun vs H1 => r vs H1 Q) : tCB r t σ H Q := h
theorem use_call {sp : Sp} {dvs : List V} {E : XK} {t : TA} (h : t σ H fun vs H1 => sp (vs ++ dvs) H1 Q E) : tCall sp dvs E t σ H Q := h
theorem use_c {v : V} (h : Q v H) : tC v σ H Q := h
theorem use_var {i : Nat} {v : V} (e : σ[i]? = some (some v)) (h : Q v H) : tVar i σ H Q := ⟨v, e, h⟩
theorem use_test {t : TE} (h : t σ H fun x H1 => ∃ k, x = .bl k ∧ QT' k H1) : tTest t σ H QT' := h
end
/-- a reading may be told by another -/
theorem pe_imp {X : Cx} {e : Expr} {t t2 : TE} (h : PE X e t) (i : ∀ σ H Q, t2 σ H Q → t σ H Q) : PE X e t2 := ⟨fun pins s σ H Q I q => h.run pins s σ H Q I (i σ H Q q)⟩
theorem pss_imp {X : Cx} {st : List Stmt} {t t2 : TS} (h : PSs X st t) (i : ∀ D σ H, t2 D σ H → t D σ H) : PSs X st t2 := ⟨fun pins s σ H D I q => h.run pins s σ H D I (i D σ H q)⟩
end QT

/-! min and max of whole numbers with default=; is True, is False of anything -/
namespace QT
open PySem PySem.Spec PyProof.Rows L2
section
variable {prog : Program} {w : World} {A : Around} {E : Value → Shared → Prop} {s : Shared}
theorem minD_list {l : Addr} {vs : Array Value} {d : Value} {val : Nat → Int} {Q : Value → Shared → Prop} (hh : A.handled = none) (hl : s.heap.IsList l vs) (hv : ∀ i v, vs[i]? = some v → ∃ t, v = Value.int (val i) t)
    (h0 : vs.size = 0 → ∀ h' tk, (∀ b o, s.heap.get? b = some o → h'.get? b = some o) → Q d { s with heap := h', toks := tk })
    (h : ∀ i t h' tk, i < vs.size → (∀ j, j < vs.size → val i ≤ val j) → (∀ b o, s.heap.get? b = some o → h'.get? b = some o) → Q (.int (val i) t) { s with heap := h', toks := tk }) :
    wpAny (model prog w) A (call (.builtin "min") [.ref l] [(Str.ofString "default", d)]) Q E s := by
  refine call_min_walkD (W.iter_listW (A := A.in1) hh hl fun s₂ e wk st hfp hw hk => ?_)
  refine ⟨_, _, _, _, _, _, _, s.heap, (fun i j => decide (val i < val j)), rfl, wk, st, hfp, hw, hk, fun hz s' m => ?_, fun hp => ⟨fun i j vi vj s' Q E _ hi hj hq => CmpOf.ints_lt (P := fun i v => vs[i]? = some v) val hv i j vi vj s' Q E hi hj hq, fun v s' hP m => ?_⟩⟩
  · obtain ⟨h', tk, rfl, hk'⟩ := W.moved_old e rfl m
    exact h0 hz h' tk hk'
  · obtain ⟨h', tk, rfl, hk'⟩ := W.moved_old e rfl m
    obtain ⟨t, rfl⟩ := hv _ v hP
    have hb := argBest_lt val (vs.size - 1)
    exact h _ t h' tk (by omega) (fun j hj => hb.2 j (by omega)) hk'
theorem minD_tuple {l : Addr} {vs : Array Value} {d : Value} {val : Nat → Int} {Q : Value → Shared → Prop} (hh : A.handled = none) (hl : s.heap.IsTuple l vs) (hv : ∀ i v, vs[i]? = some v → ∃ t, v = Value.int (val i) t)
    (h0 : vs.size = 0 → ∀ h' tk, (∀ b o, s.heap.get? b = some o → h'.get? b = some o) → Q d { s with heap := h', toks := tk })
    (h : ∀ i t h' tk, i < vs.size → (∀ j, j < vs.size → val i ≤ val j) → (∀ b o, s.heap.get? b = some o → h'.get? b = some o) → Q (.int (val i) t) { s with heap := h', toks := tk }) :
    wpAny (model prog w) A (call (.builtin "min") [.ref l] [(Str.ofString "default", d)]) Q E s := by
  refine call_min_walkD (W.iter_tupleW (A := A.in1) hh hl fun s₂ e wk st hfp hw hk => ?_)
  refine ⟨_, _, _, _, _, _, _, s.heap, (fun i j => decide (val i < val j)), rfl, wk, st, hfp, hw, hk, fun hz s' m => ?_, fun hp => ⟨fun i j vi vj s' Q E _ hi hj hq => CmpOf.ints_lt (P := fun i v => vs[i]? = some v) val hv i j vi vj s' Q E hi hj hq, fun v s' hP m => ?_⟩⟩
  · obtain ⟨h', tk, rfl, hk'⟩ := W.moved_old e rfl m
    exact h0 hz h' tk hk'
  · obtain ⟨h', tk, rfl, hk'⟩ := W.moved_old e rfl m
    obtain ⟨t, rfl⟩ := hv _ v hP
    have hb := argBest_lt val (vs.size - 1)
    exact h _ t h' tk (by omega) (fun j hj => hb.2 j (by omega)) hk'
theorem maxD_list {l : Addr} {vs : Array Value} {d : Value} {val : Nat → Int} {Q : Value → Shared → Prop} (hh : A.handled = none) (hl : s.heap.IsList l vs) (hv : ∀ i v, vs[i]? = some v → ∃ t, v = Value.int (val i) t)
    (h0 : vs.size = 0 → ∀ h' tk, (∀ b o, s.heap.get? b = some o → h'.get? b = some o) → Q d { s with heap := h', toks := tk })
    (h : ∀ i t h' tk, i < vs.size → (∀ j, j < vs.size → val j ≤ val i) → (∀ b o, s.heap.get? b = some o → h'.get? b = some o) → Q (.int (val i) t) { s with heap := h', toks := tk }) :
    wpAny (model prog w) A (call (.builtin "max") [.ref l] [(Str.ofString "default", d)]) Q E s := by
  refine call_max_walkD (W.iter_listW (A := A.in1) hh hl fun s₂ e wk st hfp hw hk => ?_)
  refine ⟨_, _, _, _, _, _, _, s.heap, (fun i j => decide (val i > val j)), rfl, wk, st, hfp, hw, hk, fun hz s' m => ?_, fun hp => ⟨fun i j vi vj s' Q E _ hi hj hq => CmpOf.ints_gt (P := fun i v => vs[i]? = some v) val hv i j vi vj s' Q E hi hj hq, fun v s' hP m => ?_⟩⟩
  · obtain ⟨h', tk, rfl, hk'⟩ := W.moved_old e rfl m
    exact h0 hz h' tk hk'
  · obtain ⟨h', tk, rfl, hk'⟩ := W.moved_old e rfl m
    obtain ⟨t, rfl⟩ := hv _ v hP
    have hb := argBest_gt val (vs.size - 1)
    exact h _ t h' tk (by omega) (fun j hj => hb.2 j (by omega)) hk'
theorem maxD_tuple {l : Addr} {vs : Array Value} {d : Value} {val : Nat → Int} {Q : Value → Shared → Prop} (hh : A.handled = none) (hl : s.heap.IsTuple l vs) (hv : ∀ i v, vs[i]? = some v → ∃ t, v = Value.int (val i) t)
    (h0 : vs.size = 0 → ∀ h' tk, (∀ b o, s.heap.get? b = some o → h'.get? b = some o) → Q d { s with heap := h', toks := tk })
    (h : ∀ i t h' tk, i < vs.size → (∀ j, j < vs.size → val j ≤ val i) → (∀ b o, s.heap.get? b = some o → h'.get? b = some o) → Q (.int (val i) t) { s with heap := h', toks := tk }) :
    wpAny (model prog w) A (call (.builtin "max") [.ref l] [(Str.ofString "default", d)]) Q E s := by
  refine call_max_walkD (W.iter_tupleW (A := A.in1) hh hl fun s₂ e wk st hfp hw hk => ?_)
  refine ⟨_, _, _, _, _, _, _, s.heap, (fun i j => decide (val i > val j)), rfl, wk, st, hfp, hw, hk, fun hz s' m => ?_, fun hp => ⟨fun i j vi vj s' Q E _ hi hj hq => CmpOf.ints_gt (P := fun i v => vs[i]? = some v) val hv i j vi vj s' Q E hi hj hq, fun v s' hP m => ?_⟩⟩
  · obtain ⟨h', tk, rfl, hk'⟩ := W.moved_old e rfl m
    exact h0 hz h' tk hk'
  · obtain ⟨h', tk, rfl, hk'⟩ := W.moved_old e rfl m
    obtain ⟨t, rfl⟩ := hv _ v hP
    have hb := argBest_gt val (vs.size - 1)
    exact h _ t h' tk (by omega) (fun j hj => hb.2 j (by omega)) hk'
end
theorem vint_at {ns : List Int} {its : List Value} (r : Vals (ns.map V.int) its) (i : Nat) (v : Value) (h : its.toArray[i]? = some v) : ∃ t, v = Value.int (ns.getD i 0) t := by
  have h : its[i]? = some v := by simpa using h
  have hl : (ns.map V.int).length = its.length := r.length
  have lt : i < its.length := by
    rcases Nat.lt_or_ge i its.length with z | z
    · exact z
    · rw [List.getElem?_eq_none z] at h
      cases h
  have lt2 : i < ns.length := by
    rw [List.length_map] at hl
    omega
  have e : (ns.map V.int)[i]? = some (V.int ns[i]) := by
    rw [List.getElem?_map, List.getElem?_eq_getElem lt2]
    rfl
  obtain ⟨u, h1, h2⟩ := r.get e
  rw [h] at h1
  cases h1
  obtain ⟨t, h2⟩ := h2
  refine ⟨t, ?_⟩
  rw [h2, List.getD_eq_getElem?_getD, List.getElem?_eq_getElem lt2]
  rfl
/-- min(xs, default=d), xs a list or a tuple of whole numbers -/
def rMinD (K : PySem.W.Frag) : List V → List V → Hp → VK → Prop := fun vs zs H Q => ∃ (a : Addr) (ns : List Int) (d : V), vs = [V.ref a] ∧ zs = [d] ∧ (SqL K H a (ns.map V.int) ∨ SqT K H a (ns.map V.int)) ∧ (ns = [] → Q d H) ∧ ∀ m, m ∈ ns → (∀ y, y ∈ ns → m ≤ y) → Q (.int m) H
def rMaxD2 (K : PySem.W.Frag) : List V → List V → Hp → VK → Prop := fun vs zs H Q => ∃ (a : Addr) (ns : List Int) (d : V), vs = [V.ref a] ∧ zs = [d] ∧ (SqL K H a (ns.map V.int) ∨ SqT K H a (ns.map V.int)) ∧ (ns = [] → Q d H) ∧ ∀ m, m ∈ ns → (∀ y, y ∈ ns → y ≤ m) → Q (.int m) H
theorem getD_memI {ns : List Int} {i : Nat} (h : i < ns.length) : ns.getD i 0 ∈ ns := by
  rw [List.getD_eq_getElem?_getD, List.getElem?_eq_getElem h]
  exact List.getElem_mem h
theorem mem_getDI {ns : List Int} {y : Int} (h : y ∈ ns) : ∃ j, j < ns.length ∧ ns.getD j 0 = y := by
  obtain ⟨j, hj, e⟩ := List.getElem_of_mem h
  refine ⟨j, hj, ?_⟩
  rw [List.getD_eq_getElem?_getD, List.getElem?_eq_getElem hj]
  exact e
section
variable {X : Cx}
theorem cr_minD (hc : X.calm = true) : CallRK X (.builtin "min") [Str.ofString "default"] (rMinD X.K) := by
  intro pins s σ H vs zs us ws Q I r rz h
  obtain ⟨a, ns, d, rfl, rfl, hs, q0, q1⟩ := h
  obtain rfl := Vals.ref1 r
  obtain ⟨w1, rfl, e1⟩ := vals1 rz
  rcases hs with hs | hs
  · obtain ⟨its, rv, hl, _⟩ := I.list hs
    have hn : its.length = ns.length := by
      have := rv.length
      rw [List.length_map] at this
      exact this.symm
    refine minD_list (val := fun i => ns.getD i 0) (I.ok.hd hc) hl.isList (vint_at rv) (fun hz h' tk hk => ⟨d, H, I.kept hk, e1, q0 (List.eq_nil_of_length_eq_zero (by rw [← hn]; simpa using hz))⟩) fun i t h' tk hi hj hk => ⟨.int _, H, I.kept hk, ⟨_, rfl⟩, ?_⟩
    have hi : i < ns.length := by
      rw [← hn]
      simpa using hi
    refine q1 _ (getD_memI hi) fun y hy => ?_
    obtain ⟨j, hj2, e⟩ := mem_getDI hy
    rw [← e]
    exact hj j (by rw [List.size_toArray, hn]; exact hj2)
  · obtain ⟨its, rv, hl, _⟩ := I.tuple hs
    have hn : its.length = ns.length := by
      have := rv.length
      rw [List.length_map] at this
      exact this.symm
    refine minD_tuple (val := fun i => ns.getD i 0) (I.ok.hd hc) hl (vint_at rv) (fun hz h' tk hk => ⟨d, H, I.kept hk, e1, q0 (List.eq_nil_of_length_eq_zero (by rw [← hn]; simpa using hz))⟩) fun i t h' tk hi hj hk => ⟨.int _, H, I.kept hk, ⟨_, rfl⟩, ?_⟩
    have hi : i < ns.length := by
      rw [← hn]
      simpa using hi
    refine q1 _ (getD_memI hi) fun y hy => ?_
    obtain ⟨j, hj2, e⟩ := mem_getDI hy
    rw [← e]
    exact hj j (by rw [List.size_toArray, hn]; exact hj2)
theorem cr_maxD2 (hc : X.calm = true) : CallRK X (.builtin "max") [Str.ofString "default"] (rMaxD2 X.K) := by
  intro pins s σ H vs zs us ws Q I r rz h
  obtain ⟨a, ns, d, rfl, rfl, hs, q0, q1⟩ := h
  obtain rfl := Vals.ref1 r
  obtain ⟨w1, rfl, e1⟩ := vals1 rz
  rcases hs with hs | hs
  · obtain ⟨its, rv, hl, _⟩ := I.list hs
    have hn : its.length = ns.length := by
      have := rv.length
      rw [List.length_map] at this
      exact this.symm
    refine maxD_list (val := fun i => ns.getD i 0) (I.ok.hd hc) hl.isList (vint_at rv) (fun hz h' tk hk => ⟨d, H, I.kept hk, e1, q0 (List.eq_nil_of_length_eq_zero (by rw [← hn]; simpa using hz))⟩) fun i t h' tk hi hj hk => ⟨.int _, H, I.kept hk, ⟨_, rfl⟩, ?_⟩
    have hi : i < ns.length := by
      rw [← hn]
      simpa using hi
    refine q1 _ (getD_memI hi) fun y hy => ?_
    obtain ⟨j, hj2, e⟩ := mem_getDI hy
    rw [← e]
    exact hj j (by rw [List.size_toArray, hn]; exact hj2)
  · obtain ⟨its, rv, hl, _⟩ := I.tuple hs
    have hn : its.length = ns.length := by
      have := rv.length
      rw [List.length_map] at this
      exact this.symm
    refine maxD_tuple (val := fun i => ns.getD i 0) (I.ok.hd hc) hl (vint_at rv) (fun hz h' tk hk => ⟨d, H, I.kept hk, e1, q0 (List.eq_nil_of_length_eq_zero (by rw [← hn]; simpa using hz))⟩) fun i t h' tk hi hj hk => ⟨.int _, H, I.kept hk, ⟨_, rfl⟩, ?_⟩
    have hi : i < ns.length := by
      rw [← hn]
      simpa using hi
    refine q1 _ (getD_memI hi) fun y hy => ?_
    obtain ⟨j, hj2, e⟩ := mem_getDI hy
    rw [← e]
    exact hj j (by rw [List.size_toArray, hn]; exact hj2)
/-- min(xs, default=d): how it stands to a bound -/
def rMinB (K : PySem.W.Frag) : List V → List V → Hp → VK → Prop := fun vs zs H Q => ∃ (a : Addr) (ns : List Int) (d : Int), vs = [V.ref a] ∧ zs = [.int d] ∧ (SqL K H a (ns.map V.int) ∨ SqT K H a (ns.map V.int)) ∧ ∀ m : Int, (∀ b, b ≤ d → decide (b ≤ m) = ns.all fun n => decide (b ≤ n)) → Q (.int m) H
def rMaxB (K : PySem.W.Frag) : List V → List V → Hp → VK → Prop := fun vs zs H Q => ∃ (a : Addr) (ns : List Int) (d : Int), vs = [V.ref a] ∧ zs = [.int d] ∧ (SqL K H a (ns.map V.int) ∨ SqT K H a (ns.map V.int)) ∧ ∀ m : Int, (∀ b, d ≤ b → decide (m ≤ b) = ns.all fun n => decide (n ≤ b)) → Q (.int m) H
theorem least_all {ns : List Int} {m : Int} (h1 : m ∈ ns) (h2 : ∀ y, y ∈ ns → m ≤ y) (b : Int) : decide (b ≤ m) = ns.all fun n => decide (b ≤ n) := by
  rw [Bool.eq_iff_iff, decide_eq_true_eq, List.all_eq_true]
  constructor
  · intro h n hn
    have := h2 n hn
    exact decide_eq_true (by omega)
  · intro h
    simpa using h m h1
theorem most_all {ns : List Int} {m : Int} (h1 : m ∈ ns) (h2 : ∀ y, y ∈ ns → y ≤ m) (b : Int) : decide (m ≤ b) = ns.all fun n => decide (n ≤ b) := by
  rw [Bool.eq_iff_iff, decide_eq_true_eq, List.all_eq_true]
  constructor
  · intro h n hn
    have := h2 n hn
    exact decide_eq_true (by omega)
  · intro h
    simpa using h m h1
theorem cr_minB (hc : X.calm = true) : CallRK X (.builtin "min") [Str.ofString "default"] (rMinB X.K) := by
  intro pins s σ H vs zs us ws Q I r rz h
  obtain ⟨a, ns, d, e1, e2, hs, q⟩ := h
  refine cr_minD hc pins s σ H vs zs us ws Q I r rz ⟨a, ns, .int d, e1, e2, hs, fun z => q d fun b hb => ?_, fun m h1 h2 => q m fun b _ => least_all h1 h2 b⟩
  rw [z, decide_eq_true hb]
  rfl
theorem cr_maxB (hc : X.calm = true) : CallRK X (.builtin "max") [Str.ofString "default"] (rMaxB X.K) := by
  intro pins s σ H vs zs us ws Q I r rz h
  obtain ⟨a, ns, d, e1, e2, hs, q⟩ := h
  refine cr_maxD2 hc pins s σ H vs zs us ws Q I r rz ⟨a, ns, .int d, e1, e2, hs, fun z => q d fun b hb => ?_, fun m h1 h2 => q m fun b _ => most_all h1 h2 b⟩
  rw [z, decide_eq_true hb]
  rfl
theorem all_and {ns : List Int} {f g : Int → Bool} : (ns.all fun n => f n && g n) = (ns.all f && ns.all g) := by
  induction ns with
  | nil => rfl
  | cons n r ih =>
    simp only [List.all_cons, ih]
    cases f n <;> cases g n <;> simp
/-- x is True, x is False, x anything -/
def rIsB1 : R2 := fun x y H Q => ∃ b : Bool, y = .bl b ∧ Q (.bl (decide (x = .bl b))) H
theorem is_other {X : Cx} {pins : List (Addr × Obj)} {s : Shared} {σ : L2.St} {H : Hp} {x : V} {v : Value} {b : Bool} {Q : VK} (I : Inv X pins σ H s) (p : plainIs v (.bool b) = true) (n : v ≠ .bool b) (m : x ≠ .bl b) (q : Q (.bl (decide (x = .bl b))) H) :
    wpAny (model X.prog X.w) X.A (compareOp .Is v (.bool b)) (EP X pins σ Q) X.xe s :=
  wpAny_is_other p n ⟨.bl false, H, I, rfl, by simpa [m] using q⟩
theorem op_isB : OpR X (compareOp .Is) rIsB1 := by
  intro pins s σ H x y v u Q I rx ry h
  obtain ⟨b, rfl, q⟩ := h
  cases (show u = Value.bool b from ry)
  cases x with
  | bl c =>
    cases (show v = Value.bool c from rx)
    by_cases e : c = b
    · subst e
      exact wpAny_is_self rfl ⟨.bl true, H, I, rfl, by simpa using q⟩
    · exact wpAny_is_other rfl (fun z => e (Value.bool.inj z)) ⟨.bl false, H, I, rfl, by simpa [e] using q⟩
  | non =>
    cases rx
    exact is_other I rfl (fun z => by cases z) (fun z => by cases z) q
  | ref a =>
    cases rx
    exact is_other I rfl (fun z => by cases z) (fun z => by cases z) q
  | ty n =>
    cases rx
    exact is_other I rfl (fun z => by cases z) (fun z => by cases z) q
  | int i =>
    obtain ⟨t, rfl⟩ := rx
    exact is_other I rfl (fun z => by cases z) (fun z => by cases z) q
  | str i =>
    obtain ⟨t, rfl⟩ := rx
    exact is_other I rfl (fun z => by cases z) (fun z => by cases z) q
  | byt i =>
    obtain ⟨t, rfl⟩ := rx
    exact is_other I rfl (fun z => by cases z) (fun z => by cases z) q
  | flt i =>
    obtain ⟨t, rfl⟩ := rx
    exact is_other I rfl (fun z => by cases z) (fun z => by cases z) q
end
end QT

/-! what are_between answers -/
namespace QT
open PySem PySem.Spec PyProof.Rows L2
def isI : V → Bool
  | .int _ => true
  | _ => false
def nI : V → Bool := fun x => !isI x
def btw (lo hi : Int) : V → Bool
  | .int i => decide (lo ≤ i) && decide (i ≤ hi)
  | _ => false
/-- a thing whose type is known, however the heap grows -/
inductive Kn (K : PySem.W.Frag) (H : Hp) : V → Prop
  | int (i : Int) : Kn K H (.int i)
  | bl (b : Bool) : Kn K H (.bl b)
  | oth {x : V} {t : String} (n1 : isI x = false) (n2 : ∀ b, x ≠ .bl b) (ty : ∀ H', (∀ b o, H b = some o → H' b = some o) → TyX K H' x (.type t)) (no : PySem.W.kitOne K (.type t) (.type "int") = some false) : Kn K H x
theorem Kn.same {K : PySem.W.Frag} {H H' : Hp} {x : V} (h : Kn K H x) (e : ∀ b o, H b = some o → H' b = some o) : Kn K H' x := by
  cases h with
  | int i => exact .int i
  | bl b => exact .bl b
  | oth n1 n2 ty no => exact .oth n1 n2 (fun H2 k => ty H2 fun b o q => k b o (e b o q)) no
theorem seqT_same {K : PySem.W.Frag} {H H' : Hp} {a : Addr} {xs : List V} (h : SqT K H a xs) (e : ∀ b o, H b = some o → H' b = some o) : SqT K H' a xs := by
  rcases h with (h | ⟨o, h⟩) | h
  · exact .inl (.inl (e _ _ h))
  · exact .inl (.inr ⟨o, e _ _ h⟩)
  · exact .inr h
def spBtw (K : PySem.W.Frag) : Sp := fun vs H Q _ => ∃ (a : Addr) (xs : List V) (lo hi : Int), vs = [.ref a, .int lo, .int hi] ∧ (SqL K H a xs ∨ SqT K H a xs) ∧ (∀ x ∈ xs, Kn K H x) ∧ xs.length < sizeLine ∧
  ∀ H', (∀ b o, H b = some o → H' b = some o) → Q (.bl (xs.all (btw lo hi))) H'
theorem take_filter {f : V → Bool} {xs : List V} {i : Nat} {x : V} (h : xs[i]? = some x) : (xs.take (i + 1)).filter f = if f x = true then (xs.take i).filter f ++ [x] else (xs.take i).filter f := by
  rw [List.take_succ, h, List.filter_append]
  cases e : f x with
  | true => simp [List.filter, e]
  | false => simp [List.filter, e]
theorem ints_of : ∀ {xs : List V}, xs.filter nI = [] → ∃ ns : List Int, xs = ns.map V.int
  | [], _ => ⟨[], rfl⟩
  | x :: r, h => by
    cases x with
    | int n =>
      obtain ⟨ns, e⟩ := ints_of (xs := r) (by simpa [List.filter, nI, isI] using h)
      exact ⟨n :: ns, by rw [e]; rfl⟩
    | _ => simp [List.filter, nI, isI] at h
theorem odd_all {lo hi : Int} : ∀ {xs : List V}, xs.filter nI ≠ [] → xs.all (btw lo hi) = false
  | [], h => absurd rfl h
  | x :: r, h => by
    cases x with
    | int n =>
      have z := odd_all (lo := lo) (hi := hi) (xs := r) (by simpa [List.filter, nI, isI] using h)
      rw [List.all_cons, z, Bool.and_false]
    | _ => rfl
theorem all_ints {lo hi : Int} {ns : List Int} : (ns.map V.int).all (btw lo hi) = ((ns.all fun n => decide (lo ≤ n)) && ns.all fun n => decide (n ≤ hi)) := by
  rw [List.all_map, ← all_and]
  rfl
theorem filter_le {f : V → Bool} (xs : List V) (i : Nat) : ((xs.take i).filter f).length ≤ xs.length :=
  Nat.le_trans (List.length_filter_le _ _) (by rw [List.length_take]; omega)
/-- x is True or x is False or not isinstance(x, int) -/
theorem kn_test {K : PySem.W.Frag} {H : Hp} {x : V} {σ : L2.St} {j : Nat} {Q : Bool → Hp → Prop} (hσ : σ[j]? = some (some x)) (h : Kn K H x) (q : Q (nI x) H) :
    tOr (tTest (tOp rIsB1 (tVar j) (tC (.bl true)))) (tOr (tTest (tOp rIsB1 (tVar j) (tC (.bl false)))) (tNot (tB (tCB (rIsi K) (tCons (tVar j) (tCons (tC (.ty "int")) tNil)))))) σ H Q := by
  refine ⟨x, hσ, true, rfl, _, rfl, ?_⟩
  have go : ∀ {c : Bool} {t : String}, PySem.W.kitOne K (.type t) (.type "int") = some c → TyX K H x (.type t) → decide (x = .bl true) = false → decide (x = .bl false) = false → (!c) = nI x →
      if decide (x = .bl true) = true then Q true H else tOr (tTest (tOp rIsB1 (tVar j) (tC (.bl false)))) (tNot (tB (tCB (rIsi K) (tCons (tVar j) (tCons (tC (.ty "int")) tNil))))) σ H Q := fun {c t} k ty d1 d2 e => by
    rw [d1, if_neg Bool.false_ne_true]
    refine ⟨x, hσ, false, rfl, _, rfl, ?_⟩
    dsimp only
    rw [d2, if_neg Bool.false_ne_true]
    refine ⟨x, hσ, _, _, _, _, c, rfl, .ty _, ty, k, c, rfl, ?_⟩
    dsimp only
    rw [e]
    exact q
  cases h with
  | int i => exact go (c := true) (t := "int") (kit_ty (a := "int") (b := "int") (by decide +kernel)) (.base (by constructor)) (by simp) (by simp) rfl
  | bl b =>
    cases b with
    | true =>
      refine (if_pos (c := decide (V.bl true = V.bl true) = true) (by simp)).mpr ?_
      exact q
    | false =>
      refine (if_neg (c := decide (V.bl false = V.bl true) = true) (by simp)).mpr ?_
      refine ⟨_, hσ, false, rfl, _, rfl, ?_⟩
      refine (if_pos (c := decide (V.bl false = V.bl false) = true) (by simp)).mpr ?_
      exact q
  | @oth _ t n1 n2 ty no =>
    refine go (c := false) no (ty H fun _ _ z => z) (by simp [n2]) (by simp [n2]) ?_
    unfold nI
    rw [n1]
/-- the two bounds -/
theorem use_bounds {K : PySem.W.Frag} {a : Addr} {ns : List Int} {lo hi : Int} {σ : L2.St} {H : Hp} {Q : VK} (h0 : σ[0]? = some (some (.ref a))) (h1 : σ[1]? = some (some (.int lo))) (h2 : σ[2]? = some (some (.int hi)))
    (hs : SqL K H a (ns.map V.int) ∨ SqT K H a (ns.map V.int)) (q : Q (.bl ((ns.map V.int).all (btw lo hi))) H) :
    tAndV (tOp (rI0 fun i j => V.bl (decide (j ≤ i))) (tCKw (rMinB K) (tCons (tVar 0) tNil) (tCons (tVar 1) tNil)) (tVar 1)) (tOp (rI0 fun i j => V.bl (decide (i ≤ j))) (tCKw (rMaxB K) (tCons (tVar 0) tNil) (tCons (tVar 2) tNil)) (tVar 2)) σ H Q := by
  rw [all_ints] at q
  refine ⟨_, h0, _, h1, a, ns, lo, rfl, rfl, hs, fun m hm => ⟨_, h1, m, lo, rfl, rfl, _, rfl, ?_⟩⟩
  have e1 := hm lo (Int.le_refl _)
  rw [← e1] at q
  cases c : decide (lo ≤ m) with
  | false =>
    rw [if_neg Bool.false_ne_true]
    rw [c] at q
    exact q
  | true =>
    rw [if_pos rfl]
    refine ⟨_, h0, _, h2, a, ns, hi, rfl, rfl, hs, fun m2 hm2 => ⟨_, h2, m2, hi, rfl, rfl, ?_⟩⟩
    dsimp only
    rw [hm2 hi (Int.le_refl _)]
    rw [c, Bool.true_and] at q
    exact q
/-- what is behind the first row -/
theorem btw_end {K : PySem.W.Frag} {D : Addr} {xs : List V} {lo hi : Int} {H : Hp} {R : Bool → Prop} (hD : SqL K H D (xs.filter nI)) (r1 : xs.all (btw lo hi) = false → R true) (r2 : (∃ ns : List Int, xs = ns.map V.int) → R false) : ∃ k, TruV K (.ref D) H k ∧ R k := by
  refine ⟨!(xs.filter nI).isEmpty, .inl ⟨_, hD, rfl⟩, ?_⟩
  cases e : xs.filter nI with
  | nil => exact r2 (ints_of e)
  | cons x r => exact r1 (odd_all (by rw [e]; simp))
end QT

/-! errors that are made and kept as values: made, asked for their class, their fields, their methods -/
namespace QT
open PySem PySem.Spec PyProof.Rows L2
/-- C(e, ..), kept: __init__ has run over it -/
def tOex (C : Addr) (sp : Sp) (ta : TA) : TE := fun σ H Q => ta σ H fun vs H1 => vs.length ≤ 1000 ∧ ∀ a, H1 a = none → sp (.ref a :: (vs ++ [])) (upd H1 a (exo a C none)) (fun v H2 => v = .non ∧ Q (.ref a) H2) E0
section
variable {X : Cx} {e : Expr} {es : List Expr} {ta : TA} {p pos : Pos}
theorem pe_oex {x : Str} {C fI : Addr} {k : Nat} {fd : FuncData} {ps : List Str} {sp : Sp} (T : OexC X.K C) (iC : PySem.W.findIn X.K (.ref C) "__init__" = some (some (.ref fI))) (tI : PySem.W.typeIn X.K (.ref fI) = some (.type "function"))
    (F1 : FnOk X.prog X.w X.K X.mg X.base CX0 k fI fd ps sp) (hr : Room (k + 1) X.A) (hb : Binds X.K fd ps []) (hg : Gl X x) (hm : X.mg x = some (.ref C)) (ha : PA X (e :: es) ta)
    (hdb : (x == ("__debug__" : Str)) = false := by decide) (he : starEach (e :: es) X.env = (false, eval e X.env) :: starEach es X.env := by rfl) (hpl : (backTo pos (starEach es X.env)).any (·.1) = false := by rfl) :
    PE X (.Call (.Name x p) (e :: es) [] pos) (tOex C sp ta) := by
  refine ⟨fun pins s σ H Q I h => ?_⟩
  obtain ⟨nm, q, N, bs, bm, sn, sub, ab, col, dd, k0, k1, k2, k3, k5, atC, chain⟩ := T.cls
  refine wpAny_Call_Name_kw (ld_glob I hg hm ?_ hdb)
  refine PySem.W.callWith_K (h₀ := X.base) I.ok.mod.kin T.kC (thn (ha.run pos pins s σ H _ I h) fun us s1 ⟨vs, H1, I1, r1, few, asks⟩ => ⟨I1.kIn, ?_⟩) he hpl
  show wpAny _ _ (call (.ref C) us) _ _ _
  obtain ⟨hp, g, dr, tk, os⟩ := s1
  have above : hp.objs.size ≤ hp.objs.size + 1 := Nat.le_succ _
  have free : H1 (hp.objs.size + 1) = none := I1.hok.fresh above
  have ask := asks (hp.objs.size + 1) free
  have stays : ∀ b o, hp.get? b = some o → ((hp.push (PySem.W.kdv_tup us)).push (PySem.HandSPX.excO C hp.objs.size)).get? b = some o := fun b o z => Heap.get?_push_of_some _ (Heap.get?_push_of_some _ z)
  have there : ((hp.push (PySem.W.kdv_tup us)).push (PySem.HandSPX.excO C hp.objs.size)).get? (hp.objs.size + 1) = some (PySem.HandSPX.excO C hp.objs.size) := by heap_get
  have I2 : Inv X pins σ (upd H1 (hp.objs.size + 1) (exo (hp.objs.size + 1) C none)) ⟨(hp.push (PySem.W.kdv_tup us)).push (PySem.HandSPX.excO C hp.objs.size), g, dr, tk, os⟩ :=
    I1.laid (t' := tk) (a := hp.objs.size + 1) (o := exo (hp.objs.size + 1) C none) (h' := (hp.push (PySem.W.kdv_tup us)).push (PySem.HandSPX.excO C hp.objs.size)) stays above (exo_ok there)
  have r2 : Vals (V.ref (hp.objs.size + 1) :: (vs ++ [])) (Value.ref (hp.objs.size + 1) :: us) := .cons rfl (by rw [List.append_nil]; exact r1)
  have same : (Value.ref (hp.objs.size + 1) :: us).length = ps.length := by
    have z := r2.length
    rw [F1.len _ _ _ _ ask] at z
    exact z.symm
  have bound : BindsTo ⟨(hp.push (PySem.W.kdv_tup us)).push (PySem.HandSPX.excO C hp.objs.size), g, dr, tk, os⟩ fd ⟨Value.ref (hp.objs.size + 1) :: us, []⟩ (ps.zip (Value.ref (hp.objs.size + 1) :: us)) := by
    have z := hb ⟨(hp.push (PySem.W.kdv_tup us)).push (PySem.HandSPX.excO C hp.objs.size), g, dr, tk, os⟩ (Value.ref (hp.objs.size + 1) :: us) I2.kIn (by rw [List.append_nil]; exact same)
    rw [List.append_nil] at z
    exact z
  have line : us.length ≤ sizeLine := by
    rw [← Paired.length r1, sizeLine_eq]
    omega
  refine wpAny_call (PySem.HandSPX.call_own F.excBase_ValueError (fun Y => PySem.HandSPX.refsVE_contains Y bm chain) (I1.kIn _ _ atC) (PySem.W.looks_findIn I1.kIn iC) (fun self => PySem.W.bind_fn I1.kIn self tI) line
    (codeAny_mono (F1.run _ X.stack _ _ ⟨Value.ref (hp.objs.size + 1) :: us, []⟩ (Value.ref (hp.objs.size + 1) :: us) _ _ E0 (hr.make C us []) (I2.env0.make C us []) bound r2 ask) fun r s' back => ?_))
  cases r with
  | error er => exact back.elim
  | ok fl =>
    cases fl with
    | ret u =>
      obtain ⟨v, H2, I3, rv, ev, q2⟩ := I2.after back
      subst ev
      exact ⟨rv, .ref (hp.objs.size + 1), H2, I3, rfl, q2⟩
    | next => exact False.elim back
    | brk => exact False.elim back
    | cont => exact False.elim back
/-- its field -/
def tOxf (K : PySem.W.Frag) (f : Str) (te : TE) : TE := fun σ H Q => te σ H fun x H1 => ∃ (a C d : Addr) (fs : List (Str × V)) (v : V), x = .ref a ∧ H1 a = some (exo a C (some d)) ∧ H1 d = some (exd d fs) ∧ XfC K C ∧ PySem.W.findIn K (.ref C) f = some none ∧ fs.lookup f = some v ∧ Q v H1
theorem pe_oxf {n : Str} {te : TE} (he : PE X e te) (hb : attributeBase e n X.env (eval e X.env) = eval e X.env := by rfl) : PE X (.Attribute e n pos) (tOxf X.K n te) := by
  refine ⟨fun pins s σ H Q I h => ?_⟩
  refine attr_of hb (thn (he.run pins s σ H _ I h) fun u s1 hh => ?_)
  obtain ⟨x, H1, I1, rx, a, C, d, fs, v, ex, ea, ed, T, hno, l, q⟩ := hh
  subst ex
  obtain rfl : u = Value.ref a := rx
  obtain ⟨t1, ho⟩ := exo_at I1.hok ea
  obtain ⟨mA, hns, rel⟩ := exd_at I1.hok ed
  obtain ⟨od, hod, hl⟩ := lookIn_ns hns
  obtain ⟨u, hu, ru⟩ := RelO.some_of (v := v) (o := mA n) (by rw [← l]; exact rel n)
  have J : PySem.W.InstAt s1.heap a _ C (some od) := ⟨ho, rfl, rfl, hod⟩
  exact HandSPX.exc_get I1.kIn J T.ga T.gg T.exC (PySem.W.findObj_own T.hdC hno rfl (by rw [hl, hu])) (handed_of ru) ⟨v, H1, I1.tok _, ru, q⟩
end
end QT

namespace PySem
namespace HandSPX
open PySem.W PySem.Calls PyProof.Rows
section
variable {M : Model} {A : Around} {E : Value → Shared → Prop} {h : Heap} {g : Array GenState} {d : Drawn} {t : Nat} {os : OsState}
variable {nm q : Str} {C N : Addr} {bs bm bmB : List Value} {hdct : Bool} {sn : List Str} {sub : List Value} {ab : Bool} {col : Option Bool} {dd : Option Addr} {k0 k1 k2 k3 k5 : Option Value} {B newId initId : String}
theorem qk_check (F : ExcBaseFacts B newId initId bmB) (hT : ∀ X : String, bm.contains (.type X) = bmB.contains (.type X)) {kws : List (Str × Value)} {Q : Unit → Shared → Prop}
    (hC : h.get? C = some (excClassObj nm q C N bs bm hdct sn sub ab col dd k0 k1 k2 k3 k5 newId)) (hq : Q () ⟨h, g, d, t, os⟩) : wpAny M A (checkBuiltinCall newId ⟨[.ref C], kws⟩) Q E ⟨h, g, d, t, os⟩ := by
  have ofB : (Value.ref C :: bm).contains (.type B) = true := by rw [List.contains_cons, hT, F.hasB, Bool.or_true]
  have nostar := F.noStar
  simp only [checkBuiltinCall, F.newKind, F.newSplit, F.newRow]
  repeat (first | refine wpAny_loadPart_at hC ?_ | (refine wpAny_isSubtype_exc hC ?_; rw [ofB]) | refine wpAny_staticBase_exc hC ?_ | refine wpAny_madeBy_exc hC ?_ | simp only [bne_self_eq_false, Bool.false_eq_true, if_false] | wp_step)
  exact hq
end
section
variable {prog : Program} {w : World} {A : Around} {E : Value → Shared → Prop} {R : Result → Shared → Prop} {h : Heap} {g : Array GenState} {d : Drawn} {t : Nat} {os : OsState}
variable {nm q : Str} {C N : Addr} {bs bm bmB : List Value} {hdct : Bool} {sn : List Str} {sub : List Value} {ab : Bool} {col : Option Bool} {dd : Option Addr} {k0 k1 k2 k3 k5 : Option Value} {B newId initId : String}
theorem qk_new (F : ExcBaseFacts B newId initId bmB) (hT : ∀ X : String, bm.contains (.type X) = bmB.contains (.type X)) {kws : List (Str × Value)}
    (hC : h.get? C = some (excClassObj nm q C N bs bm hdct sn sub ab col dd k0 k1 k2 k3 k5 newId))
    (hq : R (.ok (.ret (.ref (h.objs.size + 1)))) ⟨(h.push { cls := .type "tuple", data := .seq #[] }).push
      { cls := .ref C, data := .fields #[.ref h.objs.size, .none, .none, .none, .bool false, .none] }, g, d, t, os⟩) :
    codeAny (model prog w) A (.builtin newId ⟨[.ref C], kws⟩) R ⟨h, g, d, t, os⟩ := by
  have ends_ := F.ends
  have ofB : (Value.ref C :: bm).contains (.type B) = true := by rw [List.contains_cons, hT, F.hasB, Bool.or_true]
  have ofA : (Value.ref C :: bm).contains (.type "AttributeError") = false := by rw [List.contains_cons, hT, F.noAttr]; rfl
  have ofN : (Value.ref C :: bm).contains (.type "NameError") = false := by rw [List.contains_cons, hT, F.noName]; rfl
  refine codeAny_builtinAt F.entry ?_
  unfold Builtin.«BaseException.__new__»
  refine wpAt_bind ?_
  show wpAt _ _ _ (stack >>= _) _ _ _
  refine wpAt_bind (wpAt_stack fun p below => wpAt_of_wpAny ?_)
  wp_walk
  refine wpAt_of_wpAny ?_
  rw [F.owner]
  repeat (first | with_reducible refine wpAny_madeHere_exc F.canon hC ?_ | with_reducible refine wpAny_loadPart_at hC ?_ | (with_reducible refine wpAny_isSubtype_exc hC ?_; first | rw [ofB] | rw [ofA] | rw [ofN]) | wp_step)
  show R _ _
  rw [Heap.size_push]
  exact hq
theorem qk_type (F : ExcBaseFacts B newId initId bmB) (hT : ∀ X : String, bm.contains (.type X) = bmB.contains (.type X)) {kws : List (Str × Value)} {fI : Addr} {Q : Fin → Shared → Prop}
    (hC : h.get? C = some (excClassObj nm q C N bs bm hdct sn sub ab col dd k0 k1 k2 k3 k5 newId))
    (hi : W.Looks (model prog w) h (typeLookup (.ref C) "__init__") (some (.ref fI))) (hb : ∀ self, W.Looks (model prog w) h (bindSpecial (.ref fI) self) (.ref fI, [self]))
    (hq : codeAny (model prog w) A (.call (.ref fI) ⟨[.ref (h.objs.size + 1)], kws⟩)
      (fun r s' => match r with | .ok (.ret v) => v = .none ∧ Q (.done (.ret (.ref (h.objs.size + 1)))) s' | .ok _ => False | .error e => E e s')
      ⟨(h.push (W.kdv_tup [])).push (excO C h.objs.size), g, d, t, os⟩) :
    wpAny (model prog w) A (Builtin.«type.__call__» ⟨[.ref C], kws⟩) Q E ⟨h, g, d, t, os⟩ := by
  repeat (first | with_reducible refine wpAny_loadPart_at hC ?_ | with_reducible refine wpAny_madeBy_exc hC ?_ | wp_step)
  refine codeAny_call_builtin_code (Code.quiet_builtin _ F.quiet) (qk_check F hT hC ?_)
  refine qk_new F hT hC ?_
  show wpAny _ _ _ _ _ _
  have stays : ∀ b o, h.get? b = some o → ((h.push (W.kdv_tup [])).push (excO C h.objs.size)).get? b = some o := fun b o e => Heap.get?_push_of_some _ (Heap.get?_push_of_some _ e)
  have atC := stays _ _ hC
  have there : ((h.push (W.kdv_tup [])).push (excO C h.objs.size)).get? (h.objs.size + 1) = some (excO C h.objs.size) := by heap_get
  have ofC : (Value.ref C :: bm).contains (.ref C) = true := by simp
  have i1 := hi.keeps stays
  have b1 := (hb (.ref (h.objs.size + 1))).keeps stays
  unfold isInstance
  repeat (first | with_reducible refine wpAny_loadPart_at there ?_ | (with_reducible refine wpAny_isSubtype_exc atC ?_; rw [ofC]) | wp_step)
  show wpAny _ _ (typeLookup (.ref C) _) _ _ _
  refine i1.at ?_
  refine wpAny_holding (wpAny_bind (b1.at ?_))
  refine wpAny_bind (wpAny_call (codeAny_mono hq fun r s' z => ?_))
  rcases r with e | (v | _ | _ | _) <;> first | exact z | exact z.elim | skip
  obtain ⟨rfl, z⟩ := z
  first
    | exact wpAny_pure (wpAny_pure z)
    | (wp_walk; exact z)
theorem qk_call (F : ExcBaseFacts B newId initId bmB) (hT : ∀ X : String, bm.contains (.type X) = bmB.contains (.type X)) {kws : List (Str × Value)} {fI : Addr}
    (hC : h.get? C = some (excClassObj nm q C N bs bm hdct sn sub ab col dd k0 k1 k2 k3 k5 newId))
    (hi : W.Looks (model prog w) h (typeLookup (.ref C) "__init__") (some (.ref fI))) (hb : ∀ self, W.Looks (model prog w) h (bindSpecial (.ref fI) self) (.ref fI, [self]))
    (hq : codeAny (model prog w) (A.under (.builtin "type.__call__" ⟨[.ref C], kws⟩)) (.call (.ref fI) ⟨[.ref (h.objs.size + 1)], kws⟩) (W.InitBack (h.objs.size + 1) R)
      ⟨(h.push (W.kdv_tup [])).push (excO C h.objs.size), g, d, t, os⟩) :
    codeAny (model prog w) A (.call (.ref C) ⟨[], kws⟩) R ⟨h, g, d, t, os⟩ := by
  have l1 := tc_lookup
  have l2 := tc_bind (.ref C)
  have isType : (⟨h, g, d, t, os⟩ : Shared).TypeIs (.ref C) "type" := ⟨_, hC, rfl⟩
  refine codeAny_of_tree ?_
  show wpAny _ _ (callAny (.ref C) _) _ _ _
  repeat (any_goals (first | assumption | with_reducible refine wpAny_loadPart_at hC ?_ | wp_step))
  refine ⟨rfl, ?_⟩
  refine codeAny_call_builtin_at (Code.quiet_builtin _ (by decide +kernel)) entry_typeCall (wpAny_check_type_call_sub hC (qk_type F hT hC hi hb ?_))
  refine codeAny_mono hq fun r s' z => ?_
  rcases r with e | (v | _ | _ | _) <;> exact z
end
end HandSPX
end PySem
namespace QT
open PySem PySem.Spec PyProof.Rows L2
/-- how keywords alone bind, behind self -/
def KwB (fd : FuncData) (ps ks : List Str) (g : List Value → List Value) : Prop := ∀ (s : Shared) (self : Value) (ws : List Value), ws.length = ks.length → BindsTo s fd ⟨[self], ks.zip ws⟩ (ps.zip (self :: g ws))
/-- C(k = e, ..), kept -/
def tOexK (C : Addr) (m : Nat) (sp : Sp) (gV : List V → List V) (tk : TA) : TE := fun σ H Q => tk σ H fun zs H1 => zs.length = m ∧ ∀ a, H1 a = none → sp (.ref a :: gV zs) (upd H1 a (exo a C none)) (fun v H2 => v = .non ∧ Q (.ref a) H2) E0
section
variable {X : Cx} {p pos : Pos} {kws : List Keyword} {tk : TA}
theorem pe_oexk {x : Str} {C fI : Addr} {k : Nat} {fd : FuncData} {ps ks : List Str} {sp : Sp} {g : List Value → List Value} {gV : List V → List V} (T : OexC X.K C) (iC : PySem.W.findIn X.K (.ref C) "__init__" = some (some (.ref fI))) (tI : PySem.W.typeIn X.K (.ref fI) = some (.type "function"))
    (F1 : FnOk X.prog X.w X.K X.mg X.base CX0 k fI fd ps sp) (hr : Room (k + 1) X.A) (hb : KwB fd ps ks g) (rel : ∀ {zs : List V} {ws : List Value}, Vals zs ws → Vals (gV zs) (g ws)) (hg : Gl X x) (hm : X.mg x = some (.ref C)) (hkw : PK X kws tk)
    (hall : (backToKw pos (keywordEach kws X.env)).all (·.1.isSome) = true := by rfl) (hks : (backToKw pos (keywordEach kws X.env)).filterMap (·.1) = ks := by rfl)
    (hdb : (x == ("__debug__" : Str)) = false := by decide) (hpl : ((backTo pos (starEach [] X.env)).any (·.1) || (backToKw pos (keywordEach kws X.env)).any (·.1.isNone)) = false := by rfl) :
    PE X (.Call (.Name x p) [] kws pos) (tOexK C ks.length sp gV tk) := by
  refine ⟨fun pins s σ H Q I h => ?_⟩
  obtain ⟨nm, q, N, bs, bm, sn, sub, ab, col, dd, k0, k1, k2, k3, k5, atC, chain⟩ := T.cls
  refine wpAny_Call_Name_kw (ld_glob I hg hm ?_ hdb)
  refine PySem.W.callWith_KW0 (h₀ := X.base) I.ok.mod.kin T.kC hall (thn (hkw.run pos pins s σ H _ I h) fun ws s1 ⟨zs, H1, I1, r1, many, asks⟩ => ⟨I1.kIn, ?_⟩) hpl
  rw [hks]
  show wpAny _ _ (call (.ref C) [] (ks.zip ws)) _ _ _
  obtain ⟨hp, gg, dr, tk', os⟩ := s1
  have above : hp.objs.size ≤ hp.objs.size + 1 := Nat.le_succ _
  have free : H1 (hp.objs.size + 1) = none := I1.hok.fresh above
  have ask := asks (hp.objs.size + 1) free
  have stays : ∀ b o, hp.get? b = some o → ((hp.push (PySem.W.kdv_tup [])).push (PySem.HandSPX.excO C hp.objs.size)).get? b = some o := fun b o z => Heap.get?_push_of_some _ (Heap.get?_push_of_some _ z)
  have there : ((hp.push (PySem.W.kdv_tup [])).push (PySem.HandSPX.excO C hp.objs.size)).get? (hp.objs.size + 1) = some (PySem.HandSPX.excO C hp.objs.size) := by heap_get
  have I2 : Inv X pins σ (upd H1 (hp.objs.size + 1) (exo (hp.objs.size + 1) C none)) ⟨(hp.push (PySem.W.kdv_tup [])).push (PySem.HandSPX.excO C hp.objs.size), gg, dr, tk', os⟩ :=
    I1.laid (t' := tk') (a := hp.objs.size + 1) (o := exo (hp.objs.size + 1) C none) (h' := (hp.push (PySem.W.kdv_tup [])).push (PySem.HandSPX.excO C hp.objs.size)) stays above (exo_ok there)
  have r2 : Vals (V.ref (hp.objs.size + 1) :: gV zs) (Value.ref (hp.objs.size + 1) :: g ws) := .cons rfl (rel r1)
  have wl : ws.length = ks.length := r1.length.symm.trans many
  refine wpAny_call (PySem.HandSPX.qk_call F.excBase_ValueError (fun Y => PySem.HandSPX.refsVE_contains Y bm chain) (I1.kIn _ _ atC) (PySem.W.looks_findIn I1.kIn iC) (fun self => PySem.W.bind_fn I1.kIn self tI)
    (codeAny_mono (F1.run _ X.stack _ _ ⟨[Value.ref (hp.objs.size + 1)], ks.zip ws⟩ (Value.ref (hp.objs.size + 1) :: g ws) _ _ E0 (hr.make C [] (ks.zip ws)) (I2.env0.make C [] (ks.zip ws)) (hb _ _ ws wl) r2 ask) fun r s' back => ?_))
  cases r with
  | error er => exact back.elim
  | ok fl =>
    cases fl with
    | ret u =>
      obtain ⟨v, H2, I3, rv, ev, q2⟩ := I2.after back
      subst ev
      exact ⟨rv, .ref (hp.objs.size + 1), H2, I3, rfl, q2⟩
    | next => exact False.elim back
    | brk => exact False.elim back
    | cont => exact False.elim back
end
end QT

/-! errors kept as values: their class and their methods -/
namespace QT
open PySem PySem.Spec PyProof.Rows L2
/-- an error of the class at C stands at a, its fields fs -/
def ErrAt (H : Hp) (a C : Addr) (fs : List (Str × V)) : Prop := (∃ d, H a = some (exo a C (some d)) ∧ H d = some (exd d fs)) ∨ (H a = some (ExO (.ref C) a) ∧ fs = [])
/-- what its class must say -/
structure ErrK (K : PySem.W.Frag) (C : Addr) : Prop where
  ga : PySem.W.findIn K (.ref C) "__getattribute__" = some (some (.builtin "BaseException.__getattribute__"))
  gg : PySem.W.findIn K (.ref C) "__getattr__" = some none
  cl : PySem.W.isClsIn K C = true
  ca : PySem.W.findIn K (.ref C) "__class__" = some (some (.builtin "object.__class__"))
  gn : PySem.W.specialIn K (.builtin "object.__class__") "__get__" = some (some (.builtin "getset_descriptor.__get__"))
  tk : PySem.W.takesIn K (.builtin "object.__class__") = some true
  mo : PySem.W.mroIn K C (.type "object") = some true
  sub : PySem.W.subIn K (.ref C) (.type "BaseException") = some true
theorem err_inst {X : Cx} {pins : List (Addr × Obj)} {σ : L2.St} {H : Hp} {s : Shared} {a C : Addr} {fs : List (Str × V)} (I : Inv X pins σ H s) (h : ErrAt H a C fs) :
    ∃ (ox : Obj) (od : Option Obj), PySem.W.InstAt s.heap a ox C od ∧ ∀ n, fs.lookup n = none → PySem.W.shadowIn od n = some false := by
  rcases h with ⟨d, ea, ed⟩ | ⟨ea, rfl⟩
  · obtain ⟨t1, ho⟩ := exo_at I.hok ea
    obtain ⟨mA, hns, rel⟩ := exd_at I.hok ed
    obtain ⟨od, hod, hl⟩ := lookIn_ns hns
    refine ⟨_, some od, ⟨ho, rfl, rfl, hod⟩, fun n hn => ?_⟩
    have z : mA n = none := RelO.none_of (by rw [← hn]; exact rel n)
    unfold PySem.W.shadowIn
    dsimp only
    rw [hl n, z]
    rfl
  · have z : ObjOk X.prog X.w H s.heap a (ExO (.ref C) a) := I.hok a _ ea
    obtain ⟨oe, vs, e, zc, dt, _⟩ := z.1
    obtain ⟨oc, od, oda, osl⟩ := oe
    obtain ⟨h1, h2⟩ := zc
    dsimp only at h1 h2 dt
    subst h1 h2 dt
    exact ⟨_, none, ⟨e, rfl, rfl, trivial⟩, fun n _ => rfl⟩
/-- isinstance(e, D) -/
def rIsErr (K : PySem.W.Frag) : List V → Hp → VK → Prop := fun xs H Q => ∃ (a C : Addr) (fs : List (Str × V)) (c : V) (cv : Value) (b : Bool), xs = [.ref a, c] ∧ ErrAt H a C fs ∧ ErrK K C ∧ (∀ u, RelV c u → u = cv) ∧ PySem.W.kitOne K (.ref C) cv = some b ∧ Q (.bl b) H
theorem call_isErr {X : Cx} : CallR X (.builtin "isinstance") (rIsErr X.K) := by
  intro pins s σ H xs us Q I r h
  obtain ⟨a, C, fs, c, cv, b, rfl, ea, E, hcv, e, q⟩ := h
  cases r with
  | cons rx rr =>
    cases rr with
    | cons rt rr =>
      cases rr
      cases rx
      have ec := hcv _ rt
      subst ec
      obtain ⟨ox, od, J, _⟩ := err_inst I ea
      exact PySem.W.kia_one (PySem.W.kitx_exc E.cl E.ga E.gg E.sub E.ca E.gn E.tk E.mo) I.kIn J e (fun z => nomatch z) fun tk => ⟨.bl b, H, I.kept (t' := tk) fun _ _ z => z, rfl, q⟩
/-- e.m() -/
def tErrM (X : Cx) (m : Str) (j : Nat) (te : TE) : TE := fun σ H Q => te σ H fun x H1 => ∃ (a C f : Addr) (fs : List (Str × V)) (fd : FuncData) (ps : List Str) (k : Nat) (sp : Sp), x = .ref a ∧ ErrAt H1 a C fs ∧ ErrK X.K C ∧ fs.lookup m = none ∧
  PySem.W.findIn X.K (.ref C) m = some (some (.ref f)) ∧ PySem.W.isFn X.K (.ref f) = true ∧ PySem.W.keepIn X.K (.ref f) = true ∧ FnOk X.prog X.w X.K X.mg X.base CX0 k f fd ps sp ∧ k ≤ j ∧ Binds X.K fd ps [] ∧ sp [.ref a] H1 Q E0
theorem pe_errM {X : Cx} {o : Expr} {te : TE} {m : Str} {j : Nat} {apos pos : Pos} {pl : Sem Bool} (hr : Room j X.A) (he : PE X o te)
    (ht : eval (.Call (.Attribute o m apos) [] [] pos) X.env = (do
      let ov ← eval o X.env
      standAt apos.atName
      let (f, first) ← holding [ov] (getMethod ov m pl)
      callWith pos f first (backTo pos (starEach [] X.env)) (backToKw pos (keywordEach [] X.env))) := by rfl) :
    PE X (.Call (.Attribute o m apos) [] [] pos) (tErrM X m j te) := by
  refine ⟨fun pins s σ H Q I h => ?_⟩
  refine PySem.W.methodCall_KW (pl := pl) (thn (he.run pins s σ H _ I h) fun u s1 ⟨x, H1, I1, rx, a, C, f, fs, fd, ps, k, sp, ex, ea, E, nl, hf, fn, kp, F, kj, hb, q⟩ => ?_) ht
  subst ex
  obtain rfl : u = Value.ref a := rx
  obtain ⟨ox, od, J, sh⟩ := err_inst I1 ea
  obtain ⟨m', fr⟩ := I1.fr
  refine PySem.W.method_exc fr I1.ok.mod.kin J E.ga E.gg hf fn (sh m nl) ?_
  exact PySem.W.callWith_K0 (first := [.ref a]) I1.kIn kp (run_fn (us := [.ref a]) (vs := [.ref a]) (dvs := []) (ds := []) F (hr.mono kj) hb .nil pass0 I1 (.cons rfl .nil) q)
end QT

/-! defs that are called where no repr is under way, so that they may ask repr -/
namespace QT
open PySem PySem.Spec PyProof.Rows L2
structure FnOkG (P : Program) (w : World) (K : PySem.W.Frag) (mg : Str → Option Value) (base : Heap) (k : Nat) (f : Addr) (fd : FuncData) (ps : List Str) (sp : Sp) : Prop where
  len : ∀ vs H Q E, sp vs H Q E → vs.length = ps.length
  run : ∀ (A : Around) (outer : List Env) (s : Shared) (H : Hp) (args : Args) (us : List Value) (vs : List V) (Q : VK) (E : XK), A.guards = some [] → Room k A → Env0 P w K mg base A outer s H → BindsTo s fd args (ps.zip us) → Vals vs us → sp vs H Q E →
    codeAny (model P w) A (.call (.ref f) args) (CR CX0 outer P w H s Q E) s
section
variable {P : Program} {w : World} {K : PySem.W.Frag} {mg : Str → Option Value} {base : Heap} {f : Addr} {fd : FuncData} {ps : List Str} {sp : Sp}
/-- a def by its body, where no repr is under way -/
theorem okG {x qual : Str} {st : Stmt} {k : Nat} {N : List Str} (F : Fun K x qual st f fd) (S : FnScope N ps (defScope st)) (len : ∀ vs H Q E, sp vs H Q E → vs.length = ps.length)
    (body : ∀ (cdv : Value) (A : Around) (outer : List Env) (s : Shared) (H : Hp) (vs : List V) (Q : VK) (E : XK), A.guards = some [] → Room k (A.deeper (envOfC qual (defScope st) s.heap.objs.size f cdv)) → sp vs H Q E →
      ∃ t, PSs (cxOf CX0 P w K mg base N qual (defScope st) f cdv A outer s H E).nox (defBody st) t ∧ t { nx := fun _ H' => Q .non H', rt := Q } (start N vs) H) : FnOkG P w K mg base (k + 1) f fd ps sp := by
  obtain ⟨oc, od, kV, doc, pm, an, cdv, ct, osl, rfl, atF, code⟩ := F.ex
  refine ⟨len, fun A outer s H args us vs Q E free room e0 bind vals promise => ?_⟩
  have count := len _ _ _ _ promise
  have inK : K.In s.heap := e0.mod.kin.keeps fun b o e => (e0.bs b o e).1
  have lim : s.heap.NoLimit := e0.mod.nolimit.keeps fun b o e => (e0.bs b o e).1
  have kinds : ∀ y ∈ ps.zip us, (defScope st).names.lookup y.1 = some .local ∨ ((defScope st).names.lookup y.1 = some .cell ∧ ((cellsFrom (s.heap.objs.size + 1) (defScope st).names []).lookup y.1).isSome = true) := fun ⟨n, v⟩ mem => by
    rcases S.par n (List.of_mem_zip mem).1 with q | q
    · exact .inl q
    · exact .inr ⟨q, PySem.W.cellsFrom_some _ _ _ (.inl q)⟩
  refine codeAny_call_function room.depth (inK _ _ atF) rfl S.co S.gen rfl (PySem.W.codeRec_of inK code) (bind _ _ _ _ ?_)
  refine wpAny_newFunctionEnv_cells S.kind kinds fun env same s1 inCall => ?_
  subst same
  refine ⟨lim.keeps inCall.toInCall.keep, codeAny_func ?_⟩
  obtain ⟨t, ht0, reads⟩ := body cdv A outer s H vs Q E free (room.deeper _) promise
  have ht := ht0.nox
  have I : Inv (cxOf CX0 P w K mg base N qual (defScope st) f cdv A outer s H E) [] (start N vs) H s1 := inv_start S room.hd e0 count vals inCall
  have fin : ∀ {σ' : L2.St} {H' : Hp} {v : V} {u : Value} {s' : Shared}, Inv (cxOf CX0 P w K mg base N qual (defScope st) f cdv A outer s H E) [] σ' H' s' → RelV v u → Q v H' → CE outer P w H s Q u s' :=
    fun {σ' H' v u s'} J rv q => ⟨v, H', J.os, J.bare, J.base, J.hok, rv, q⟩
  refine wpAny_mono (ht.run [] s1 (start N vs) H _ I reads) (fun fl s' ends => ?_) fun e s' ends => ends
  cases fl with
  | ret u =>
    obtain ⟨v, σ', H', J, rv, q⟩ := ends
    exact fin J rv q
  | next =>
    obtain ⟨σ', H', J, q⟩ := ends
    exact fin (v := V.non) (u := Value.none) J rfl q
  | brk | cont =>
    obtain ⟨_, _, _, q⟩ := ends
    exact False.elim q
end
structure CalG (P : Program) (w : World) (K : PySem.W.Frag) (mg : Str → Option Value) (base : Heap) (k : Nat) (x : Str) (sp : Sp) : Prop where
  ex : ∃ (f : Addr) (fd : FuncData) (ps : List Str), FnOkG P w K mg base k f fd ps sp ∧ mg x = some (.ref f) ∧ PySem.W.keepIn K (.ref f) = true ∧ Binds K fd ps []
section
variable {X : Cx} {k j : Nat} {x : Str} {sp : Sp} {p pos : Pos} {e : Expr} {es : List Expr} {t : TA}
theorem pe_cG (c : CalG X.prog X.w X.K X.mg X.base k x sp) (free : X.A.guards = some []) (hr : Room j X.A) (hk : k ≤ j) (hg : Gl X x) (ha : PA X (e :: es) t)
    (hdb : (x == ("__debug__" : Str)) = false := by decide) (he : starEach (e :: es) X.env = (false, eval e X.env) :: starEach es X.env := by rfl) (hpl : (backTo pos (starEach es X.env)).any (·.1) = false := by rfl) :
    PE X (.Call (.Name x p) (e :: es) [] pos) (tCall sp [] E0 t) := by
  obtain ⟨f, fd, ps, F, hm, kp, b⟩ := c.ex
  refine ⟨fun pins s σ H Q I h => ?_⟩
  refine wpAny_Call_Name_kw (ld_glob I hg hm ?_ hdb)
  refine PySem.W.callWith_K (h₀ := X.base) I.ok.mod.kin kp (thn (ha.run pos pins s σ H _ I h) fun us s1 ⟨vs, H1, I1, r, q⟩ => ⟨I1.kIn, ?_⟩) he hpl
  have q2 : sp vs H1 Q E0 := by
    have z : sp (vs ++ []) H1 Q E0 := q
    rw [List.append_nil] at z
    exact z
  have count : us.length = ps.length := by
    rw [← r.length]
    exact F.len _ _ _ _ q2
  have bound := b s1 us I1.kIn (by rw [List.append_nil]; exact count)
  rw [List.append_nil] at bound
  refine wpAny_call (codeAny_mono (F.run X.A X.stack s1 H1 ⟨us, []⟩ us vs Q E0 free (hr.mono hk) I1.env0 bound r q2) fun r s' back => ?_)
  cases r with
  | error e => exact False.elim back
  | ok fl =>
    cases fl with
    | ret u => exact I1.after back
    | next => exact False.elim back
    | brk => exact False.elim back
    | cont => exact False.elim back
/-- repr of a list or a tuple of data -/
def rReprD (K : PySem.W.Frag) : List V → Hp → VK → Prop := fun xs H Q => ∃ (a : Addr) (d : PyData), xs = [.ref a] ∧ Dp K H (.ref a) d ∧ d.showable = true ∧ d.hasDict = false ∧ d.shown.length ≤ sizeLine ∧ d.depth ≤ 60 ∧ Q (.str d.shown) H
theorem call_reprD (free : X.A.guards = some []) (hu : X.A.units + 64 < cLine) : CallR X (.builtin "repr") (rReprD X.K) := by
  intro pins s σ H xs us Q I r h
  obtain ⟨a, d, rfl, hd, sh, nd, len, dep, q⟩ := h
  cases r with
  | cons rx rr =>
    cases rr
    cases rx
    obtain ⟨as, reads⟩ := Dp.reads I d (.ref a) (.ref a) hd rfl
    refine repr_of_reads' reads sh (PySem.PyData.noDict_hsm nd) free (by omega) (fun b o z => z) (fun h' u tk k => ?_) len
    exact ⟨.str d.shown, H, I.kept (t' := tk) k, ⟨_, rfl⟩, q⟩
end
/-- the end: the law's promise from where nothing is under way -/
theorem law_callG {P : Program} {w : World} {K : PySem.W.Frag} {mg mb : Str → Option Value} {k : Nat} {fa a : Addr} {fd : FuncData} {x : Str} {sp : Sp} {s₁ : Shared} {vs : List Value} {ns : List Int}
    (KX : K.In s₁.heap) (hns : s₁.heap.Ns mainGlobals mg) (hb : s₁.heap.Ns builtinsNs mb) (hbb : ∀ x : Str, x ≠ "__name__" → mb x = bootBuiltins x) (hlim : s₁.heap.NoLimit) (hg : s₁.gens = #[])
    (ha : s₁.heap.get? a = some { cls := .type "list", data := .seq vs.toArray }) (hi : IntsAre vs ns) (hl : ns.length ≤ sizeLine) (hr : Room k callerA)
    (F : ∀ base : Heap, K.In base → base.Ns mainGlobals mg → FnOkG P w K mg base k fa fd [x] sp) (hbind : ∀ (s : Shared) (u : Value), BindsTo s fd ⟨[u], []⟩ [(x, u)])
    (hsp : ∀ H : Hp, Only H → SqL K H a (ns.map V.int) → sp [.ref a] H (fun v _ => v = .bl true) fun _ _ _ => False) :
    codeAny (model P w) callerA (.call (.ref fa) ⟨[.ref a], []⟩) (fun r s' => r = .ok (.ret (.bool true)) ∧ OldK s₁.heap s'.heap ∧ s'.os = s₁.os ∧ AllBare s'.gens) s₁ := by
  have vals := vals_ints hi
  have count := hi.length
  -- from a heap in which the script alone may be told of
  have from_ : ∀ H : Hp, Only H → SqL K H a (ns.map V.int) → HOk P w H s₁.heap → (∀ b, H b ≠ none → b = a) → (H a ≠ none → K.lookup a = none) →
      codeAny (model P w) callerA (.call (.ref fa) ⟨[.ref a], []⟩) (fun r s' => r = .ok (.ret (.bool true)) ∧ OldK s₁.heap s'.heap ∧ s'.os = s₁.os ∧ AllBare s'.gens) s₁ := by
    intro H only sq hok alone off
    have base_ : ∀ {b : Addr} {o : Obj}, s₁.heap.get? b = some o → H b = none → (hidT s₁.heap H).get? b = some o := fun e n => hidT_get e n
    have untold : ∀ {b : Addr} {o : Obj} {es : Array DictEntry} {ep : Nat}, s₁.heap.get? b = some o → o.data = .dict es ep → H b = none := fun {b o es ep} e d => by
      cases q : H b with
      | none => rfl
      | some u =>
        have eb : b = a := alone b (by rw [q]; simp)
        rw [eb, ha] at e
        cases e
        have z : Data.seq vs.toArray _ = Data.dict es ep := d
        cases z
    have ns_ : ∀ {b : Addr} {m : Str → Option Value}, s₁.heap.Ns b m → (hidT s₁.heap H).Ns b m := fun {b m} ⟨o, es, ep, e, d, r⟩ => ⟨o, es, ep, base_ e (untold e d), d, r⟩
    have inBase : K.In (hidT s₁.heap H) := fun b o e => base_ (KX b o e) (by
      cases q : H b with
      | none => rfl
      | some u =>
        have eb : b = a := alone b (by rw [q]; simp)
        rw [eb, off (by rw [← eb, q]; simp)] at e
        cases e)
    have modOk : Mod K mg (hidT s₁.heap H) := ⟨inBase, ns_ hns, ⟨mb, ns_ hb, hbb⟩, let ⟨mc, h1, h2⟩ := hlim; ⟨mc, ns_ h1, h2⟩⟩
    have e0 : Env0 P w K mg (hidT s₁.heap H) callerA [] s₁ H := ⟨rfl, modOk, fun b o e => of_hidT e, Nat.le_of_eq (hidT_size _ _), trivial, fun b z => absurd (show b ∈ ([] : List Addr) from z) (by simp), hok, .of_eq hg⟩
    refine codeAny_mono ((F _ inBase (ns_ hns)).run callerA [] s₁ H ⟨[.ref a], []⟩ [.ref a] [.ref a] _ _ rfl hr e0 (hbind s₁ (.ref a)) (.cons rfl .nil) (hsp H only sq)) fun r s' back => ?_
    cases r with
    | error e => exact False.elim back
    | ok fl =>
      cases fl with
      | next | brk | cont => exact False.elim back
      | ret u =>
        obtain ⟨v, H', os, bare, un, hok2, rv, q⟩ := back
        have qv : v = .bl true := q
        subst qv
        obtain rfl : u = Value.bool true := rv
        refine ⟨rfl, OldK.of_keep fun b o e => ?_, os, bare⟩
        cases q : H b with
        | none => exact un.keep b o e q (by intro z; exact absurd (show b ∈ ([] : List Addr) from z) (by simp)) (by simp)
        | some u =>
          rcases only b with z | ⟨ob, xs, z⟩
          · rw [q] at z
            cases z
          · obtain ⟨y1, _⟩ := hok b _ z
            obtain ⟨y2, _⟩ := hok2 b _ (un.frzs b ob _ z)
            rw [e] at y1
            cases y1
            exact y2
  cases hk : K.lookup a with
  | some o =>
    have e := KX a o hk
    rw [ha] at e
    cases e
    exact from_ (fun _ => none) (fun _ => .inl rfl) (.inr ⟨_, vs.toArray, _, hk, rfl, rfl, rfl, by rw [List.size_toArray, count]; exact hl, by simpa using vals⟩) (fun b u z => by cases (show (none : Option HO) = some u from z)) (fun b z => absurd rfl z) fun z => absurd rfl z
  | none =>
    refine from_ (fun b => if b = a then some (.frz { cls := .type "list", data := .seq vs.toArray } (.lst (ns.map V.int))) else none) (fun b => ?_) (.inl (.inr ⟨{ cls := .type "list", data := .seq vs.toArray }, if_pos rfl⟩)) (fun b u z => ?_) (fun b z => ?_) fun _ => hk
    · by_cases y : b = a
      · exact .inr ⟨_, _, if_pos y⟩
      · exact .inl (if_neg y)
    · by_cases y : b = a
      · have zz := (if_pos y).symm.trans z
        cases zz
        subst y
        exact ⟨ha, by rw [List.length_map]; exact hl, vs, _, vals, ha⟩
      · have zz := (if_neg y).symm.trans z
        cases zz
    · by_cases y : b = a
      · exact y
      · exact absurd (if_neg y) z
theorem walk_ofG {l : PySem.W.OpenLaw} {n k : Nat} {q : Program} {loose : List Str} {XP : (Str → Option Value) → Heap → Prop} {YP : World → Heap → Prop} {d : DefRec} {K : Params → PySem.W.Frag} {sp : World → Sp} {x : Str}
    (hn : l.most = some n) (hn2 : n ≤ sizeLine) (hdf : d.params.defaults = []) (hr : Room k callerA)
    (hY : ∀ (w : World) (h : Heap), YP w h → (K w.params).In h)
    (F : ∀ (w : World) (mg : Str → Option Value) (fa : Addr) (h : Heap), (K w.params).In h → h.Ns mainGlobals mg → mg d.name = some (.ref fa) →
      ∃ fd : FuncData, (∀ (s : Shared) (u : Value), BindsTo s fd ⟨[u], []⟩ [(x, u)]) ∧
        ∀ base : Heap, (K w.params).In base → base.Ns mainGlobals mg → FnOkG l.prog w (K w.params) mg base k fa fd [x] (sp w))
    (hsp : ∀ (w : World) (H : Hp) (a : Addr) (ns : List Int), ns.length ≤ n → (∀ z ∈ ns, Builtin.Int.intBits z ≤ 1048576) → Only H → SqL (K w.params) H a (ns.map V.int) → sp w [.ref a] H (fun v _ => v = .bl true) fun _ _ _ => False) :
    PySem.W.WalkO q loose XP YP l.row.toRowW d [] (fun f vs => PySem.call f vs) := by
  refine Att.attach_callB hn hdf fun w s₀ s₁ mg mb fa o pm cd doc a vs ns G Y ho hd hcd hmg hobj hints hlen hbits hg => ?_
  obtain ⟨fd, binds, ok⟩ := F w mg fa _ (hY w _ Y) G.T.g hmg
  exact law_callG (hY w _ Y) G.T.g G.T.b G.T.builtins G.T.nolimit hg hobj hints (Nat.le_trans hlen hn2) hr ok binds fun H hO hS => hsp w H a ns hlen hbits hO hS
end QT

/-! C() of an own error class without an __init__; T('x') of a built-in one: kept -/
namespace QT
open PySem PySem.Spec PyProof.Rows L2
section
variable {X : Cx} {p pos : Pos}
theorem pe_exc0 {C : Addr} {bmB : List Value} {B newId initId : String} {x : Str} (F : ExcBaseFacts B newId initId bmB) (q : PySem.W.excIn X.K C bmB newId = true) (gC : X.mg x = some (.ref C)) (kC : PySem.W.keepIn X.K (.ref C) = true) (hg : Gl X x)
    (hdb : (x == ("__debug__" : Str)) = false := by decide) :
    PE X (.Call (.Name x p) [] [] pos) (fun σ H Q => ∀ a, H a = none → Q (.ref a) (upd H a (ExO (.ref C) a))) := by
  refine ⟨fun pins s σ H Q I h => ?_⟩
  refine wpAny_Call_Name_kw (ld_glob I hg gC ?_ hdb)
  refine PySem.W.callWith_K0 I.kIn kC ?_
  show wpAny _ _ (call (.ref C) []) _ _ _
  obtain ⟨bm, N, nm, qn, bs, hdct, sn, sub, ab, col, dd, k0, k1, k2, k3, k5, mN, hC, hN, hni, T⟩ := exc_obj I.kIn q
  refine wpAny_call_exc_subT F T hC hN hni (fun h' a hm => ?_) (Nat.zero_le _)
  have hn : H a = none := I.hok.gone hm.new
  obtain ⟨t, ht, _, _⟩ := hm.there
  exact ⟨.ref a, upd H a (ExO (.ref C) a), I.laidN hm.keeps hm.new hn (exO_ok ht ⟨rfl, rfl⟩ rfl rfl rfl (show 4 < 6 by decide)), rfl, h a hn⟩
/-- an exception of a built-in class stands at a -/
def BexO (T : String) (a : Addr) : HO := .ext fun h => ∃ o, h.get? a = some o ∧ o.cls = .type T
theorem bexO_ok {P : Program} {w : World} {H : Hp} {h : Heap} {a : Addr} {T : String} {o : Obj} (e : h.get? a = some o) (c : o.cls = .type T) : ObjOk P w H h a (BexO T a) :=
  ⟨⟨o, e, c⟩, ⟨o, e⟩, fun _ _ ⟨u, q, r⟩ k => ⟨u, k u q, r⟩⟩
/-- T(e, ..) -/
theorem pe_bex {T N I' : String} {x : Str} {e : Expr} {es : List Expr} {t : TA} (F : ExcB T N I') (hg : Gl X x) (hm : X.mg x = none) (hv : bootBuiltins x = some (.type T)) (ha : PA X (e :: es) t) (hn : x ≠ "__name__" := by decide) (hdb : (x == ("__debug__" : Str)) = false := by decide)
    (hs : starEach (e :: es) X.env = (false, eval e X.env) :: starEach es X.env := by rfl) (hpl : (backTo pos (starEach es X.env)).any (·.1) = false := by rfl) :
    PE X (.Call (.Name x p) (e :: es) [] pos) (fun σ H Q => t σ H fun vs H1 => vs.length ≤ sizeLine ∧ ∀ a, H1 a = none → Q (.ref a) (upd H1 a (BexO T a))) := by
  refine ⟨fun pins s σ H Q J h => ?_⟩
  refine wpAny_Call_Name_kw (ld_blt J hg hm hv ?_ hn hdb)
  refine PyProof.Rows.callWith_type1 (thn (ha.run pos pins s σ H _ J h) fun us s1 hh => ?_) hs hpl
  obtain ⟨vs, H1, I1, r1, q0, q1⟩ := hh
  obtain ⟨hp1, g1, d1, tk1, os1⟩ := s1
  refine wpAny_call_exc F.call (fun h' a mk => ?_) (Nat.le_trans (Nat.le_of_eq r1.length.symm) q0)
  have m := PySem.Heap.MadeExc.of mk
  have free : H1 a = none := I1.hok.gone mk.new
  obtain ⟨t0, ht, _, _⟩ := m.there
  exact ⟨.ref a, upd H1 a (BexO T a), I1.laidN m.keeps m.new free (bexO_ok ht rfl), rfl, q1 a free⟩
/-- isinstance of such -/
def rIsVE (K : PySem.W.Frag) : List V → Hp → VK → Prop := fun xs H Q => ∃ (a : Addr) (c : V) (cv : Value) (b : Bool), xs = [.ref a, c] ∧ H a = some (BexO "ValueError" a) ∧ (∀ u, RelV c u → u = cv) ∧ PySem.W.kitOne K (.type "ValueError") cv = some b ∧ Q (.bl b) H
theorem call_isVE : CallR X (.builtin "isinstance") (rIsVE X.K) := by
  intro pins s σ H xs us Q I r h
  obtain ⟨a, c, cv, b, rfl, ea, hcv, e, q⟩ := h
  cases r with
  | cons rx rr =>
    cases rr with
    | cons rt rr =>
      cases rr
      cases rx
      have ec := hcv _ rt
      subst ec
      have z : ObjOk X.prog X.w H s.heap a (BexO "ValueError" a) := I.hok a _ ea
      exact PySem.W.kia_one (PySem.W.kitx_bexc PySem.F.excAttr_ValueError PySem.F.lkClass_ValueError PySem.F.soClass_ValueError (by decide)) I.kIn z.1 e (fun z => nomatch z) fun tk => ⟨.bl b, H, I.kept (t' := tk) fun _ _ z => z, rfl, q⟩
end
end QT

/-! list(text): a new list of its signs. -/
namespace QT
open PySem PySem.Spec PyProof.Rows L2
theorem call_list_txt {X : Cx} (hc : X.calm = true) : CallR X (.type "list") (fun xs H Q => ∃ z : Str, xs = [.str z] ∧ z.length ≤ sizeLine ∧ ∀ l, H l = none → Q (.ref l) (upd H l (.lst ((TL.tl z).map fun c => V.str ⟨#[c]⟩)))) := by
  intro pins s σ H xs us Q I r h
  obtain ⟨z, rfl, hz, q⟩ := h
  obtain ⟨u, rfl, t, rfl⟩ := vals1 r
  refine PySem.call_list_str (I.ok.hd hc) z t (fun h' tk acc c' hk e hi => ?_) hz
  obtain ⟨hs, hv⟩ := hi
  have hl : acc.toList.length = (TL.tl z).length := by
    rw [Array.length_toList, hs, Array.length_toList]
  refine ⟨.ref s.heap.objs.size, _, I.laid (t' := tk) hk (Nat.le_refl _) (show ObjOk X.prog X.w _ h' _ (.lst _) from ⟨?_, acc.toList, c', ?_, by rw [Array.toArray_toList]; exact e⟩), rfl, q _ (I.hok.fresh (Nat.le_refl _))⟩
  · rw [List.length_map, ← TL.len_tl]
    exact hz
  · refine vals_of_idx _ _ (by rw [List.length_map, hl]) fun j v hj => ?_
    have hj2 : acc[j]? = some v := by
      rw [← Array.getElem?_toList]
      exact hj
    obtain ⟨c, u, hc2, rfl⟩ := hv j v hj2
    have hc3 : (TL.tl z)[j]? = some c := by
      show z.cps.toList[j]? = _
      rw [Array.getElem?_toList]
      exact hc2
    exact ⟨.str ⟨#[c]⟩, by rw [List.getElem?_map, hc3]; rfl, u, rfl⟩
/-- text * int -/
theorem op_mulS {X : Cx} : OpR X (binaryOp .Mult) (fun x y H Q => ∃ (z : Str) (n : Int), x = .str z ∧ y = .int n ∧ MulOk z n ∧ Q (.str (Txt.mul z n)) H) := by
  intro pins s σ H x y v u Q I rx ry h
  obtain ⟨z, n, rfl, rfl, ok, q⟩ := h
  obtain ⟨t, rfl⟩ := (show ∃ t, v = Value.str z t from rx)
  obtain ⟨t', rfl⟩ := (show ∃ t, u = Value.int n t from ry)
  exact SB.mul ok fun t2 k => ⟨.str (Txt.mul z n), H, I.tok k, ⟨_, rfl⟩, q⟩
end QT

/-! what a path's text says -/
namespace Q75
open PySem PySem.Spec PyProof.Rows L2 QT
def dig (c : Nat) : Bool := decide (48 ≤ c) && decide (c ≤ 57)
/-- how many digits stand ahead, at most k -/
def runP : Nat → List Nat → Nat
  | 0, _ => 0
  | _ + 1, [] => 0
  | k + 1, c :: r => if dig c = true then runP k r + 1 else 0
/-- how many signs a number takes -/
def numP : List Nat → Option Nat
  | [] => none
  | c :: r => if dig c = true then (if c = 48 then some 1 else some (runP 19 r + 1)) else none
def push (k c : Nat) : Nat ⊕ (List Nat × Nat) → Nat ⊕ (List Nat × Nat)
  | .inl j => .inl (j + k)
  | .inr (w, n) => .inr (c :: w, n + k)
/-- behind a quote: the signs of a key, and how many were taken, the last quote too; or where it goes wrong -/
def strP : List Nat → Nat ⊕ (List Nat × Nat)
  | [] => .inl 0
  | [c] => if c = 34 then .inr ([], 1) else .inl 1
  | c :: d :: r => if c = 34 then .inr ([], 1) else if c = 92 then (if d = 34 ∨ d = 92 then push 2 d (strP r) else .inl 1) else push 1 c (strP (d :: r))
def numV (l : List Nat) : V := .int ((PySem.intText? ⟨l.toArray⟩).getD 0)
/-- a step: its value and how many signs it takes -/
def stepP : List Nat → Nat ⊕ (V × Nat)
  | [] => .inl 0
  | c :: r => if c = 34 then (match strP r with
      | .inl k => .inl (k + 1)
      | .inr (w, n) => .inr (.str ⟨w.toArray⟩, n + 1)) else (match numP (c :: r) with
      | none => .inl 0
      | some n => .inr (numV ((c :: r).take n), n))
/-- behind a step -/
def restP (l : List Nat) : Nat ⊕ List V := match l with
  | [] => .inr []
  | c :: r => if c = 47 then (match stepP r with
      | .inl k => .inl (k + 1)
      | .inr (v, n) => (match restP (r.drop n) with
        | .inl k => .inl (k + (n + 1))
        | .inr vs => .inr (v :: vs))) else .inl 0
termination_by l.length
decreasing_by
  simp only [List.length_cons, List.length_drop]
  omega
/-- from the beginning of a step -/
def startP (l : List Nat) : Nat ⊕ List V := match stepP l with
  | .inl k => .inl k
  | .inr (v, n) => (match restP (l.drop n) with
    | .inl k => .inl (k + n)
    | .inr vs => .inr (v :: vs))
def pathP (l : List Nat) : Nat ⊕ List V := if l.head? = some 46 then (if l.length = 1 then .inr [] else .inl 1) else startP l
/-- what was read before -/
def more (p : Nat) (vs : List V) : Nat ⊕ List V → Nat ⊕ List V
  | .inl k => .inl (k + p)
  | .inr ws => .inr (vs ++ ws)
theorem restP_nil : restP [] = .inr [] := by rw [restP]
theorem restP_slash (r : List Nat) : restP (47 :: r) = more 1 [] (startP r) := by
  rw [restP, if_pos rfl]
  unfold startP
  cases stepP r with
  | inl k => rfl
  | inr x =>
    obtain ⟨v, n⟩ := x
    dsimp only
    cases restP (r.drop n) with
    | inl k => rfl
    | inr vs => rfl
theorem restP_other {c : Nat} {r : List Nat} (h : c ≠ 47) : restP (c :: r) = .inl 0 := by rw [restP, if_neg h]
theorem more_more (p q : Nat) (vs ws : List V) (x : Nat ⊕ List V) : more p vs (more q ws x) = more (p + q) (vs ++ ws) x := by
  cases x with
  | inl k => exact congrArg Sum.inl (by omega)
  | inr l => exact congrArg Sum.inr (by rw [List.append_assoc])
theorem startP_eq (l : List Nat) : startP l = match stepP l with
  | .inl k => .inl k
  | .inr (v, n) => more n [v] (restP (l.drop n)) := by
  unfold startP
  cases stepP l with
  | inl k => rfl
  | inr x =>
    obtain ⟨v, n⟩ := x
    dsimp only
    cases restP (l.drop n) <;> rfl
theorem runP_le : ∀ (k : Nat) (l : List Nat), runP k l ≤ k ∧ runP k l ≤ l.length
  | 0, l => ⟨Nat.le_refl _, Nat.zero_le _⟩
  | k + 1, [] => ⟨Nat.zero_le _, Nat.le_refl _⟩
  | k + 1, c :: r => by
    have := runP_le k r
    unfold runP
    split
    · exact ⟨by omega, by rw [List.length_cons]; omega⟩
    · exact ⟨Nat.zero_le _, Nat.zero_le _⟩
theorem numP_le {l : List Nat} {n : Nat} (h : numP l = some n) : 1 ≤ n ∧ n ≤ l.length ∧ n ≤ 20 ∧ ∀ c ∈ l.take n, dig c = true := by
  cases l with
  | nil => cases h
  | cons c r =>
    have h : (if dig c = true then (if c = 48 then some 1 else some (runP 19 r + 1)) else none) = some n := h
    split at h
    · rename_i hd
      split at h
      · cases h
        refine ⟨Nat.le_refl _, by rw [List.length_cons]; omega, by decide, fun x hx => ?_⟩
        rw [List.take_succ_cons, List.take_zero] at hx
        rw [List.mem_singleton.mp hx]
        exact hd
      · cases h
        have z := runP_le 19 r
        refine ⟨by omega, by rw [List.length_cons]; omega, by omega, fun x hx => ?_⟩
        rw [List.take_succ_cons] at hx
        rcases List.mem_cons.mp hx with rfl | hx
        · exact hd
        · have run : ∀ (k : Nat) (l : List Nat), ∀ x ∈ l.take (runP k l), dig x = true := by
            intro k
            induction k with
            | zero => intro l x hx; simp [runP] at hx
            | succ k ih =>
              intro l x hx
              cases l with
              | nil => simp at hx
              | cons a b =>
                unfold runP at hx
                split at hx
                · rw [List.take_succ_cons] at hx
                  rcases List.mem_cons.mp hx with rfl | hx
                  · assumption
                  · exact ih b x hx
                · simp at hx
          exact run 19 r x hx
    · cases h
end Q75

/-! draws -/
namespace Q75
open PySem PySem.Spec PyProof.Rows L2 QT
def top (i : Nat) : Stmt := PySem.Challenge.pw_nestfile_k75_paths_as_texts.main.body.getD i (.Pass ⟨0, 0, 0, 0⟩)
structure Txt (K : PySem.W.Frag) (mg : Str → Option Value) : Prop where
  z_len : mg "len" = none
  z_abs : mg "abs" = none
  z_int : mg "int" = none
  z_bool : mg "bool" = none
  z_tuple : mg "tuple" = none
  z_list : mg "list" = none
  z_isinstance : mg "isinstance" = none
  z_all : mg "all" = none
  z_range : mg "range" = none
  z_enumerate : mg "enumerate" = none
  z_repr : mg "repr" = none
  z_min : mg "min" = none
  z_zip : mg "zip" = none
  z_str : mg "str" = none
  z_max : mg "max" = none
theorem same_new {H : Hp} {p : Addr} {o : HO} (h : H p = none) : Same H (upd H p o) := fun b u e => by
  rw [upd_ne (ne_of_none e h)]
  exact e
theorem sz {n : Nat} (h : n ≤ 100000) : n ≤ sizeLine := Nat.le_trans h (by decide)
theorem szl {n : Nat} (h : n ≤ 100000) : n < sizeLine := Nat.lt_of_le_of_lt h (by decide)
theorem b01 {c : Prop} [Decidable c] : (0 : Int) ≤ (if c then 1 else 0) ∧ (if c then (1 : Int) else 0) ≤ 1 := by split <;> decide
theorem b64 {i : Int} (h : 0 ≤ i ∧ i ≤ 1) : -(2 ^ 64) < i ∧ i < 2 ^ 64 := ⟨by omega, by omega⟩
/-- a state of draws stands at s -/
def Stt (H : Hp) (s : Addr) : Prop := ∃ x y z : Int, H s = some (.lst [.int x, .int y, .int z]) ∧ 0 ≤ x ∧ 0 ≤ y ∧ y < 4294967296 ∧ 0 ≤ z
/-- all stays but at s, where a state stands -/
structure Ext (s : Addr) (H H' : Hp) : Prop where
  keep : ∀ b o, b ≠ s → H b = some o → H' b = some o
  st : Stt H' s
theorem Ext.trans {s : Addr} {H H1 H2 : Hp} (a : Ext s H H1) (b : Ext s H1 H2) : Ext s H H2 := ⟨fun x o n e => b.keep x o n (a.keep x o n e), b.st⟩
theorem Ext.refl {s : Addr} {H : Hp} (h : Stt H s) : Ext s H H := ⟨fun _ _ _ e => e, h⟩
theorem Stt.ex {s : Addr} {H H' : Hp} (h : Stt H s) (e : Same H H') : Stt H' s := by
  obtain ⟨x, y, z, a, b⟩ := h
  exact ⟨x, y, z, e _ _ a, b⟩
theorem Ext.of {s : Addr} {H H' : Hp} (e : Same H H') (h : Stt H s) : Ext s H H' := ⟨fun b o _ q => e b o q, h.ex e⟩
theorem Ext.ex {s : Addr} {H H1 H2 : Hp} (a : Ext s H H1) (e : Same H1 H2) : Ext s H H2 := ⟨fun b o n q => e b o (a.keep b o n q), a.st.ex e⟩
theorem Ext.new {s : Addr} {H H1 : Hp} {p : Addr} {o : HO} (a : Ext s H H1) (h : H1 p = none) : Ext s H (upd H1 p o) := a.ex (same_new h)
theorem Stt.ne {s p : Addr} {H : Hp} (h : Stt H s) (q : H p = none) : p ≠ s := fun e => by
  obtain ⟨_, _, _, a, _⟩ := h
  rw [← e, q] at a
  cases a
theorem same_of_ext {s : Addr} {H0 H1 H2 : Hp} (n : H0 s = none) (a : Same H0 H1) (b : Ext s H1 H2) : Same H0 H2 := fun x o e => b.keep x o (ne_of_none e n) (a x o e)
def spSource : Sp := fun vs H Q _ => ∃ n : Int, vs = [.int n] ∧ ∀ (H' : Hp) (p : Addr), H p = none → Same H H' → Stt H' p → Q (.ref p) H'
def spDraw : Sp := fun vs H Q _ => ∃ (s : Addr) (b : Int), vs = [.ref s, .int b] ∧ Stt H s ∧ 0 < b ∧ b ≤ 18446744073709551616 ∧ ∀ (H' : Hp) (d : Int), Ext s H H' → 0 ≤ d → d < b → Q (.int d) H'
def spPick (K : PySem.W.Frag) : Sp := fun vs H Q _ => ∃ (s p : Addr) (xs : List V), vs = [.ref s, .ref p] ∧ Stt H s ∧ p ≠ s ∧ SqL K H p xs ∧ 0 < xs.length ∧ xs.length ≤ 1000 ∧ ∀ (H' : Hp) (v : V), Ext s H H' → v ∈ xs → Q v H'
theorem Ext.seq {s p : Addr} {K : PySem.W.Frag} {H H' : Hp} {xs : List V} (e : Ext s H H') (n : p ≠ s) (h : SqL K H p xs) : SqL K H' p xs := by
  rcases h with (h | ⟨o, h⟩) | h
  · exact .inl (.inl (e.keep _ _ n h))
  · exact .inl (.inr ⟨o, e.keep _ _ n h⟩)
  · exact .inr h
theorem ix_set {n : Nat} {d : Int} (h0 : 0 ≤ d) (h1 : d < (n : Int)) : ixN n d = some d.toNat := by
  unfold ixN
  rw [if_pos h0, if_pos h1]
theorem at_ix {xs : List V} {d : Int} (h0 : 0 ≤ d) (h1 : d.toNat < xs.length) : atI xs d = some xs[d.toNat] := by
  unfold atI
  rw [ix_set h0 (by omega)]
  show xs[d.toNat]? = _
  rw [List.getElem?_eq_getElem h1]
theorem ifT {c : Bool} {A B : Prop} (h : c = true) (a : A) : if c = true then A else B := by
  rw [if_pos h]
  exact a
theorem ifF {c : Bool} {A B : Prop} (h : c = false) (b : B) : if c = true then A else B := by
  rw [h, if_neg Bool.false_ne_true]
  exact b
/-- side conditions; and the plain steps of a reading -/
local macro_rules | `(tactic| walk_at "sd") => `(tactic| first
  | assumption | decide | omega | exact b64 b01 | (show (0 : Int) < _; first | decide | omega) | exact ⟨by decide, by decide, by decide⟩ | exact ⟨by decide, by decide⟩ | exact ⟨by omega, by omega⟩
  | exact .inl ⟨by omega, by omega⟩ | exact .inr ⟨by omega, by omega⟩ | exact sz (by simp) | exact szl (by simp))
local macro_rules | `(tactic| walk_at "rd") => `(tactic| repeat (first
  | refine ⟨_, rfl, ?_⟩
  | refine ⟨_, _, rfl, rfl, ?_⟩
  | refine ⟨_, _, _, _, rfl, rfl, SqL.of (by first | assumption | exact upd_same), rfl, ?_⟩
  | refine .inl ⟨_, rfl, ?_⟩
  | refine .inr ⟨_, rfl, ?_⟩
  | refine ⟨_, _, _, _, rfl, rfl, (by first | assumption | exact upd_same), rfl, ?_⟩
  | refine And.intro (by walk_at "sd") ?_))
section
variable {P : Program} {w : World} {K : PySem.W.Frag} {mg : Str → Option Value} {base : Heap} {f : Addr} {fd : FuncData}
abbrev s__law_source : Stmt := top 18
theorem sc__law_source : FnScope ["_law_cell"] ["_law_cell"] (defScope s__law_source) := ⟨rfl, rfl, rfl, by decide +kernel, rfl, by decide +kernel, by decide +kernel⟩
theorem ok_source (F : Fun K "_law_source" "_law_source" s__law_source f fd) (T : Txt K mg) : FnOk P w K mg base CX0 1 f fd ["_law_cell"] spSource := by
  refine F.ok sc__law_source (fun vs H Q E h => ?_) (fun cdv A outer s H vs Q E hr h => ?_)
  · obtain ⟨n, rfl, _⟩ := h
    rfl
  · obtain ⟨n, rfl, k⟩ := h
    refine ⟨_, (pss_one (ps_ret (pe_lst (pa_cons (pe_callB call_abs (by rfl) T.z_abs (by decide +kernel) (pa_cons (pv 0) pa_nil)) (pa_cons (pe_op op_mod (pe_callTy call_int1 (by rfl) T.z_int (by decide +kernel) (pa_cons (pv 0) pa_nil)) pe_int) (pa_cons pe_int pa_nil)))))), ?_⟩
    walk_at "rd"
    intro p hp
    refine k _ p hp (same_new hp) ⟨_, _, _, upd_same, ?_, Int.emod_nonneg _ (by decide), ?_, by decide⟩
    · split <;> omega
    · have := Int.emod_lt_of_pos n (b := 2147483629) (by decide)
      show n % 2147483629 < _
      omega
abbrev s__law_draw : Stmt := top 19
theorem sc__law_draw : FnScope ["_law_source_here", "_law_many", "_law_found", "_law_mixed"] ["_law_source_here", "_law_many"] (defScope s__law_draw) := ⟨rfl, rfl, rfl, by decide +kernel, rfl, by decide +kernel, by decide +kernel⟩
theorem ok_draw (F : Fun K "_law_draw" "_law_draw" s__law_draw f fd) (T : Txt K mg) : FnOk P w K mg base CX0 1 f fd ["_law_source_here", "_law_many"] spDraw := by
  refine F.ok sc__law_draw (fun vs H Q E h => ?_) (fun cdv A outer s H vs Q E hr h => ?_)
  · obtain ⟨s, b, rfl, _⟩ := h
    rfl
  · obtain ⟨p, b, rfl, ⟨x, y, z, hs, hx, hy, hy2, hz⟩, hb, hb2, k⟩ := h
    refine ⟨_, (pss_cons (ps_if (pt_cmpR op_ge (pe_ix ix_list (pv 0) pe_int (fun _ _ => rfl)) (pe_op op_pow pe_int pe_int) (nomark _))
      (pss_cons (ps_set (i := 2) sc__law_draw.nd rfl (Or.inl rfl) (pe_op op_mod (pe_callTy call_int1 (by rfl) T.z_int (by decide +kernel) (pa_cons (pe_ix ix_list (pv 0) pe_int (fun _ _ => rfl)) pa_nil)) (pv 1)))
        (pss_cons (ps_asg (pe_op op_fdivW (pe_ix ix_list (pv 0) pe_int (fun _ _ => rfl)) (pv 1)) (pg_sub (pv 0) pe_int set_list))
        (pss_one (ps_ret (pv 2)))))
      pss_nil)
      (pss_cons (ps_asg (pe_op op_add (pe_ix ix_list (pv 0) pe_int (fun _ _ => rfl)) pe_int) (pg_sub (pv 0) pe_int set_list))
      (pss_cons (ps_set (i := 3) sc__law_draw.nd rfl (Or.inl rfl) (pe_op op_mod (pe_callTy call_int1 (by rfl) T.z_int (by decide +kernel) (pa_cons (pe_op op_mul (pe_op op_add (pe_op op_add (pe_ix ix_list (pv 0) pe_int (fun _ _ => rfl)) (pe_op op_mul pe_int (pe_ix ix_list (pv 0) pe_int (fun _ _ => rfl)))) pe_int) pe_int) pa_nil)) pe_int))
      (pss_cons (ps_set (i := 3) sc__law_draw.nd rfl (Or.inl rfl) (pe_op op_mod (pe_callTy call_int1 (by rfl) T.z_int (by decide +kernel) (pa_cons (pe_op op_mul (pv 3) (pe_op op_add (pe_op op_fdiv (pv 3) pe_int) pe_int)) pa_nil)) pe_int))
      (pss_one (ps_ret (pe_op op_mod (pe_callTy call_int1 (by rfl) T.z_int (by decide +kernel) (pa_cons (pe_op op_mod (pe_callTy call_int1 (by rfl) T.z_int (by decide +kernel) (pa_cons (pe_op op_add (pe_op op_fdiv (pv 3) pe_int) (pe_op op_mul (pe_op op_mod (pe_callTy call_int1 (by rfl) T.z_int (by decide +kernel) (pa_cons (pv 3) pa_nil)) pe_int) pe_int)) pa_nil)) pe_int) pa_nil)) (pv 1)))))))), ?_⟩
    walk_at "rd"
    by_cases big : (10 : Int) ^ Int.toNat 18 ≤ x
    · refine ifT (decide_eq_true big) ?_
      walk_at "rd"
      refine ⟨wide_div (b := 66) hb (by omega) (by decide) (by decide), ?_⟩
      walk_at "rd"
      refine k _ _ ⟨fun a o n e => by rw [upd_ne n]; exact e, _, _, _, upd_same, ?_, hy, hy2, hz⟩ (Int.emod_nonneg _ (by omega)) (Int.emod_lt_of_pos _ hb)
      exact Int.ediv_nonneg hx (by omega)
    · refine ifF (decide_eq_false big) ?_
      walk_at "rd"
      refine k _ _ ⟨fun a o n e => by rw [upd_ne n]; exact e, _, _, _, upd_same, hx, hy, hy2, ?_⟩ (Int.emod_nonneg _ (by omega)) (Int.emod_lt_of_pos _ hb)
      show (0 : Int) ≤ z + 1
      omega
abbrev s__law_pick : Stmt := top 20
theorem sc__law_pick : FnScope ["_law_source_here", "_law_items"] ["_law_source_here", "_law_items"] (defScope s__law_pick) := ⟨rfl, rfl, rfl, by decide +kernel, rfl, by decide +kernel, by decide +kernel⟩
theorem ok_pick (F : Fun K "_law_pick" "_law_pick" s__law_pick f fd) (T : Txt K mg) (c_draw : Cal P w K mg base 1 "_law_draw" spDraw) : FnOk P w K mg base CX0 2 f fd ["_law_source_here", "_law_items"] (spPick K) := by
  refine F.ok sc__law_pick (fun vs H Q E h => ?_) (fun cdv A outer s H vs Q E hr h => ?_)
  · obtain ⟨s, p, xs, rfl, _⟩ := h
    rfl
  · obtain ⟨s, p, xs, rfl, hs, hps, hl, h0, h1, k⟩ := h
    refine ⟨_, (pss_one (ps_ret (pe_ix ix_list (pv 1) (pe_c c_draw hr (by decide) (by rfl) (pa_cons (pv 0) (pa_cons (pe_callB call_len_seq (by rfl) T.z_len PySem.boot_len (pa_cons (pv 1) pa_nil)) pa_nil))) (fun _ _ => rfl)))), ?_⟩
    refine ⟨_, rfl, _, rfl, _, rfl, p, _, rfl, .inl hl, ?_⟩
    refine ⟨s, _, rfl, hs, by omega, by omega, fun H1 d e d0 d1 => ?_⟩
    have lt : d.toNat < xs.length := by omega
    exact ⟨p, xs, d, _, rfl, rfl, e.seq hps hl, at_ix d0 lt, k H1 _ e (List.getElem_mem lt)⟩
end
end Q75


/-! the scanner -/
namespace Q75
open PySem PySem.Spec PyProof.Rows L2 QT
theorem cutM (z : Str) (i j : Nat) (h : i ≤ j) (hi : i ≤ z.length) : Txt.slice z (some (i : Int)) (some (j : Int)) = ⟨(((TL.tl z).drop i).take (j - i)).toArray⟩ := by
  have hl : z.length = z.cps.toList.length := TL.len_tl z
  by_cases hj : j ≤ z.length
  · have e := beq_iff_eq.mp (PyProof.Rows.slice_closes (x := z) (i := (i : Int)) (j := (j : Int)) ⟨by omega, by omega, by omega⟩)
    rw [e]
    have e2 : ((j : Int) - (i : Int)).toNat = j - i := by omega
    have e3 : ((i : Int)).toNat = i := rfl
    rw [e2, e3]
  · have e2 : Txt.slice z (some (i : Int)) (some (j : Int)) = Txt.slice z (some (i : Int)) (some (z.length : Int)) := by
      unfold Txt.slice
      rw [SX.idx_hi (by omega)]
    have e := beq_iff_eq.mp (PyProof.Rows.slice_closes (x := z) (i := (i : Int)) (j := (z.length : Int)) ⟨by omega, by omega, by omega⟩)
    rw [e2, e]
    have e2 : ((z.length : Int) - (i : Int)).toNat = z.length - i := by omega
    have e3 : ((i : Int)).toNat = i := rfl
    rw [e2, e3, List.take_of_length_le (by rw [List.length_drop]; omega), List.take_of_length_le (by rw [List.length_drop]; show z.cps.toList.length - i ≤ _; omega)]
/-- the sign at a place, or nothing -/
def at1 (z : Str) (p : Nat) : Str := match (TL.tl z)[p]? with
  | some c => ⟨#[c]⟩
  | none => ⟨#[]⟩
theorem cut1 (z : Str) (p : Nat) (h : p ≤ z.length) : Txt.slice z (some (p : Int)) (some ((p : Int) + 1)) = at1 z p := by
  have e := cutM z p (p + 1) (by omega) h
  have e2 : (((p + 1 : Nat) : Int)) = (p : Int) + 1 := rfl
  rw [e2] at e
  rw [e, show p + 1 - p = 1 from by omega]
  unfold at1
  cases q : (TL.tl z)[p]? with
  | none =>
    rw [List.drop_eq_nil_of_le (List.getElem?_eq_none_iff.mp q)]
    rfl
  | some c =>
    obtain ⟨hp, e3⟩ := List.getElem?_eq_some_iff.mp q
    rw [List.drop_eq_getElem_cons hp, e3]
    rfl
theorem at_ixN {l : List Nat} {p c : Nat} (h : l[p]? = some c) : atI l (p : Int) = some c := by
  unfold atI
  rw [ix_set (Int.natCast_nonneg p) (by have := (List.getElem?_eq_some_iff.mp h).1; omega)]
  exact h
/-- whether one of these signs stands ahead -/
def aheadB (z : Str) (p : Nat) (signs : Str) : Bool := match (TL.tl z)[p]? with
  | some c => decide (c ∈ signs.cps.toList)
  | none => false
/-- a scanner of z at a place -/
def Sc (H : Hp) (a C : Addr) (dx : Addr) (z : Str) (p : Nat) : Prop := H a = some (.ins C dx [("text", .str z), ("place", .int (p : Int))])
def scO (C dx : Addr) (z : Str) (p : Nat) : HO := .ins C dx [("text", .str z), ("place", .int (p : Int))]
structure ScC (K : PySem.W.Frag) (C : Addr) : Prop where
  cl : Cls K C
  nt : NoAttr K C "text"
  np : NoAttr K C "place"
/-- an own error class with an __init__ -/
structure ErrC (K : PySem.W.Frag) (mg : Str → Option Value) (x : Str) (C fI : Addr) : Prop where
  oex : OexC K C
  xf : XfC K C
  ini : PySem.W.findIn K (.ref C) "__init__" = some (some (.ref fI))
  tI : PySem.W.typeIn K (.ref fI) = some (.type "function")
  mgC : mg x = some (.ref C)
def spInit1 (fld : Str) (C : Addr) : Sp := fun vs H Q _ => ∃ (a : Addr) (v : V), vs = [.ref a, v] ∧ H a = some (exo a C none) ∧ ∀ dx, H dx = none → dx ≠ a → Q .non (upd (upd H dx (exd dx [(fld, v)])) a (exo a C (some dx)))
def outB (CB : Addr) (H : Hp) (E : XK) (i : Nat) : Prop := ∀ (H' : Hp) (d : Addr), Same H H' → H' d = some (.xd [("place", .int (i : Int))]) → E (.ref CB) (some d) H'
theorem outB_same {CB : Addr} {H H0 : Hp} {E : XK} {i : Nat} (k : outB CB H E i) (s : Same H H0) : outB CB H0 E i := fun H' d e => k H' d (s.trans e)
theorem use_next {D : Ends} {σ : L2.St} {H : Hp} (h : D.nx σ H) : tNext D σ H := h
theorem upd_none {H : Hp} {a b : Addr} {o : HO} (h : upd H a o b = none) : H b = none ∧ b ≠ a := by
  have n : b ≠ a := fun z => by
    rw [z, upd_same] at h
    cases h
  rw [upd_ne n] at h
  exact ⟨h, n⟩
theorem raise1 {C : Addr} {fld : Str} {v : V} {H1 : Hp} {Q E : XK} (k : ∀ (H' : Hp) (d : Addr), Same H1 H' → H' d = some (.xd [(fld, v)]) → Q (.ref C) (some d) H') (a : Addr) (ha : H1 a = none) :
    spInit1 fld C (.ref a :: ([v] ++ [])) (upd H1 a (exo a C none)) (fun u H2 => u = .non ∧ ∃ (d : Addr) (fs : List (Str × V)), H2 a = some (exo a C (some d)) ∧ H2 d = some (exd d fs) ∧ H1 d = none ∧ Q (.ref C) (some d) (upd (del H2 a) d (.xd fs))) E := by
  refine ⟨a, v, rfl, upd_same, fun dx n ne => ⟨rfl, dx, [(fld, v)], upd_same, by rw [upd_ne ne, upd_same], (upd_none n).1, k _ dx (fun b o e => ?_) upd_same⟩⟩
  have n1 := ne_of_none e ha
  have n2 := ne_of_none e (upd_none n).1
  rw [upd_ne n2, del_ne n1, upd_ne n1, upd_ne n2, upd_ne n1]
  exact e
def spAhead (C : Addr) : Sp := fun vs H Q _ => ∃ (a dx : Addr) (z signs : Str) (p : Nat), vs = [.ref a, .str signs] ∧ H a = some (scO C dx z p) ∧ p ≤ z.length ∧ z.length ≤ 5000 ∧ Q (.bl (aheadB z p signs)) H
def spTake (C CT : Addr) : Sp := fun vs H Q E => ∃ (a dx : Addr) (z signs : Str) (p : Nat), vs = [.ref a, .str signs] ∧ H a = some (scO C dx z p) ∧ p ≤ z.length ∧ z.length ≤ 5000 ∧
  (aheadB z p signs = false → outB CT H E p) ∧ ∀ c, (TL.tl z)[p]? = some c → c ∈ signs.cps.toList → Q (.str ⟨#[c]⟩) (upd H a (scO C dx z (p + 1)))
theorem lk_text {z : Str} {p : V} : List.lookup ("text" : Str) [(("text" : Str), V.str z), (("place" : Str), p)] = some (.str z) := by
  rw [lookup_put, if_pos rfl]
theorem lk_place {z : V} {p : V} : List.lookup ("place" : Str) [(("text" : Str), z), (("place" : Str), p)] = some p := by
  rw [lookup_put, if_neg (by decide +kernel), lookup_put, if_pos rfl]
theorem put_place {t q v : V} : putF ("place" : Str) v [(("text" : Str), t), (("place" : Str), q)] = [(("text" : Str), t), (("place" : Str), v)] := by
  have n : ((("text" : Str)) == (("place" : Str))) = false := by decide +kernel
  have n2 : ¬ (("text" : Str) = ("place" : Str)) := by decide +kernel
  unfold putF
  first | rfl | simp [putF, n, n2]
/-- side conditions; and the plain steps of a reading -/
local macro_rules | `(tactic| walk_at "sd") => `(tactic| first
  | assumption | decide | omega | exact b64 b01 | (show (0 : Int) < _; first | decide | omega) | exact ⟨by decide, by decide, by decide⟩ | exact ⟨by decide, by decide⟩ | exact ⟨by omega, by omega⟩
  | exact .inl ⟨by omega, by omega⟩ | exact .inr ⟨by omega, by omega⟩ | exact sz (by simp) | exact szl (by simp))
local macro_rules | `(tactic| walk_at "rd") => `(tactic| repeat (first
  | refine ⟨_, rfl, ?_⟩
  | refine ⟨_, _, rfl, rfl, ?_⟩
  | refine ⟨_, _, _, _, rfl, rfl, SqL.of (by first | assumption | exact upd_same), rfl, ?_⟩
  | refine .inl ⟨_, rfl, ?_⟩
  | refine .inr ⟨_, rfl, ?_⟩
  | refine ⟨_, _, _, _, rfl, rfl, (by first | assumption | exact upd_same), rfl, ?_⟩
  | refine And.intro (by walk_at "sd") ?_))
section
variable {P : Program} {w : World} {K : PySem.W.Frag} {mg : Str → Option Value} {base : Heap} {f : Addr} {fd : FuncData}
abbrev s__is_ahead : Stmt := top 9
theorem sc__is_ahead : FnScope ["scanner", "signs", "ahead"] ["scanner", "signs"] (defScope s__is_ahead) := ⟨rfl, rfl, rfl, by decide +kernel, rfl, by decide +kernel, by decide +kernel⟩
theorem ok_ahead {C : Addr} (F : Fun K "_is_ahead" "_is_ahead" s__is_ahead f fd) (S : ScC K C) : FnOk P w K mg base CX0 1 f fd ["scanner", "signs"] (spAhead C) := by
  refine F.ok sc__is_ahead (fun vs H Q E h => ?_) (fun cdv A outer st H vs Q E hr h => ?_)
  · obtain ⟨a, dx, z, signs, p, rfl, _⟩ := h
    rfl
  · obtain ⟨a, dx, z, signs, p, rfl, ha, hp, hz, k⟩ := h
    have hzl : z.length ≤ sizeLine := Nat.le_trans hz (by decide)
    refine ⟨_, (pss_cons (ps_set (i := 2) sc__is_ahead.nd rfl (Or.inl rfl) (pe_slice C8.sl_txt (pe_fld (pv 0) rfl) (po_some (pe_fld (pv 0) rfl)) (po_some (pe_op op_add (pe_fld (pv 0) rfl) pe_int))))
      (pss_one (ps_ret (pe_and (pe_cmpR op_ne (pv 2) pe_str (nomark _)) (pe_one (pe_cmpR op_in_sign (pv 2) (pv 1) (by with_unfolding_all rfl))))))), ?_⟩
    refine use_seq ?_
    refine ⟨_, rfl, a, C, dx, _, _, rfl, ha, S.cl, S.nt, lk_text, ?_⟩
    refine ⟨_, rfl, a, C, dx, _, _, rfl, ha, S.cl, S.np, lk_place, (p : Int), rfl, ?_⟩
    refine ⟨_, rfl, a, C, dx, _, _, rfl, ha, S.cl, S.np, lk_place, _, _, rfl, rfl, _, rfl, z, rfl, hzl, ?_⟩
    rw [cut1 z p hp]
    dsimp only
    refine ⟨_, rfl, rfl, _, rfl, ?_⟩
    unfold at1
    unfold aheadB at k
    cases q : (TL.tl z)[p]? with
    | none =>
      rw [q] at k
      refine ifF (by decide) ?_
      exact k
    | some c =>
      rw [q] at k
      refine ifT (by
        have e : ¬ (V.str ⟨#[c]⟩ = V.str (Str.ofString "")) := fun h => by
          injection h with h
          have := congrArg (fun x : Str => x.cps.size) h
          cases this
        simp [e]) ?_
      exact ⟨_, rfl, _, rfl, c, signs, rfl, rfl, k⟩
abbrev s__take : Stmt := top 10
theorem sc__take : FnScope ["scanner", "signs"] ["scanner", "signs"] (defScope s__take) := ⟨rfl, rfl, rfl, by decide +kernel, rfl, by decide +kernel, by decide +kernel⟩
theorem ok_take {C CT fT : Addr} {fdT : FuncData} (F : Fun K "_take" "_take" s__take f fd) (S : ScC K C) (B : ErrC K mg "BadText" CT fT) (bT : Binds K fdT ["self", "place"] []) (c_initT : FnOk P w K mg base CX0 1 fT fdT ["self", "place"] (spInit1 "place" CT))
    (c_ahead : Cal P w K mg base 1 "_is_ahead" (spAhead C)) : FnOk P w K mg base (L2.CX P w) 3 f fd ["scanner", "signs"] (spTake C CT) := by
  refine F.okX sc__take (fun vs H Q E h => ?_) (fun cdv A outer st H vs Q E hr h => ?_)
  · obtain ⟨a, dx, z, signs, p, rfl, _⟩ := h
    rfl
  · obtain ⟨a, dx, z, signs, p, rfl, ha, hp, hz, kb, k⟩ := h
    have hzl : z.length ≤ sizeLine := Nat.le_trans hz (by decide)
    refine ⟨_, (pss_cons (ps_if (pt_not (pt_val (pe_c c_ahead hr (by decide) (by rfl) (pa_cons (pv 0) (pa_cons (pv 1) pa_nil)))))
      (pss_one (ps_raise rfl (takes_of rfl rfl rfl rfl) (pmk_oex B.oex B.ini B.tI c_initT hr bT .nil pass0 (by rfl) B.mgC (pa_cons (pe_fld (pv 0) rfl) pa_nil))))
      pss_nil)
      (pss_cons (ps_fldaug (pv 0) pe_int in_add)
      (pss_one (ps_ret (pe_ix ix_str (pe_fld (pv 0) rfl) (pe_op op_sub (pe_fld (pv 0) rfl) pe_int) (fun _ _ => rfl)))))), ?_⟩
    refine use_seq ?_
    refine ⟨_, rfl, _, rfl, a, dx, z, signs, p, rfl, ha, hp, hz, _, rfl, ?_⟩
    cases q : aheadB z p signs with
    | false =>
      refine ifT rfl ?_
      refine ⟨_, rfl, a, C, dx, _, _, rfl, ha, S.cl, S.np, lk_place, (by show 1 ≤ 1000; decide), raise1 fun H' d s' e' => ?_⟩
      exact kb q H' d s' e'
    | true =>
      refine ifF rfl ?_
      refine use_next ?_
      have q2 := q
      unfold aheadB at q2
      cases e : (TL.tl z)[p]? with
      | none => rw [e] at q2; cases q2
      | some c =>
        rw [e] at q2
        dsimp only
        refine use_seq ?_
        refine ⟨_, rfl, a, C, dx, _, _, rfl, ha, S.cl, S.np, lk_place, ?_⟩
        have hc : c ∈ signs.cps.toList := of_decide_eq_true q2
        refine ⟨_, _, rfl, rfl, dx, _, ha, (by show 2 < 1000; decide), ?_⟩
        rw [put_place]
        have e3 : ((p : Int) + 1) = (((p + 1 : Nat)) : Int) := rfl
        rw [e3]
        have hs := upd_same (H := H) (a := a) (o := scO C dx z (p + 1))
        refine ⟨_, rfl, a, C, dx, _, _, rfl, hs, S.cl, S.nt, lk_text, ?_⟩
        refine ⟨_, rfl, a, C, dx, _, _, rfl, hs, S.cl, S.np, lk_place, _, _, rfl, rfl, ?_⟩
        refine ⟨z, (p : Int), c, rfl, ?_, hzl, ?_, k c e hc⟩
        · have e4 : (((p + 1 : Nat)) : Int) - 1 = (p : Int) := by omega
          exact congrArg V.int e4
        · exact at_ixN e
end
end Q75


/-! numbers and keys read -/
namespace Q75
open PySem PySem.Spec PyProof.Rows L2 QT
/-- all but what stands at a -/
def Mv (a : Addr) (H H' : Hp) : Prop := ∀ b o, b ≠ a → H b = some o → H' b = some o
theorem Mv.refl (a : Addr) (H : Hp) : Mv a H H := fun _ _ _ e => e
theorem Mv.trans {a : Addr} {H H1 H2 : Hp} (x : Mv a H H1) (y : Mv a H1 H2) : Mv a H H2 := fun b o n e => y b o n (x b o n e)
theorem Mv.of {a : Addr} {H H1 : Hp} (x : Same H H1) : Mv a H H1 := fun b o _ e => x b o e
theorem Mv.upd (a : Addr) (H : Hp) (o : HO) : Mv a H (upd H a o) := fun b u n e => by
  rw [upd_ne n]
  exact e
theorem upd_upd {H : Hp} {a : Addr} {o u : HO} : upd (upd H a o) a u = upd H a u := by
  funext b
  by_cases e : b = a
  · rw [e, upd_same, upd_same]
  · rw [upd_ne e, upd_ne e, upd_ne e]
def outM (a CT : Addr) (H : Hp) (E : XK) (i : Nat) : Prop := ∀ (H' : Hp) (d : Addr), Mv a H H' → H' d = some (.xd [("place", .int (i : Int))]) → E (.ref CT) (some d) H'
theorem outM.b {a CT : Addr} {H H1 : Hp} {E : XK} {i : Nat} (h : outM a CT H E i) (m : Mv a H H1) : outB CT H1 E i := fun H' d s e => h H' d (m.trans (.of s)) e
theorem aheadD (z : Str) (p : Nat) : aheadB z p "0123456789" = (match (TL.tl z)[p]? with
    | some c => dig c
    | none => false) := by
  unfold aheadB
  cases (TL.tl z)[p]? with
  | none => rfl
  | some c =>
    show decide (c ∈ ("0123456789" : Str).cps.toList) = dig c
    by_cases h : c < 128
    · have z : ∀ c : Fin 128, decide (c.val ∈ ("0123456789" : Str).cps.toList) = dig c.val := by decide +kernel
      exact z ⟨c, h⟩
    · have hm : ∀ c ∈ ("0123456789" : Str).cps.toList, c < 128 := by decide +kernel
      have e1 : decide (c ∈ ("0123456789" : Str).cps.toList) = false := decide_eq_false fun m => h (hm c m)
      rw [e1]
      unfold dig
      rw [decide_eq_false (by omega : ¬ c ≤ 57), Bool.and_false]
theorem drop_at {l : List Nat} {p c : Nat} (h : l[p]? = some c) : l.drop p = c :: l.drop (p + 1) := by
  obtain ⟨hp, e⟩ := List.getElem?_eq_some_iff.mp h
  rw [List.drop_eq_getElem_cons hp, e]
theorem drop_end {l : List Nat} {p : Nat} (h : l[p]? = none) : l.drop p = [] := List.drop_eq_nil_of_le (List.getElem?_eq_none_iff.mp h)
theorem len_mk (l : List Nat) : (⟨l.toArray⟩ : Str).length = l.length := by rw [TL.len_tl]
/-- a number is the value of its digits -/
theorem int_digits {l : List Nat} (h : ∀ c ∈ l, dig c = true) (n : l ≠ []) (len : l.length ≤ 640) : ∃ i, PySem.intText? ⟨l.toArray⟩ = some i ∧ numV l = .int i := by
  have e := SX.int_S (a := l) (by
    rw [List.all_eq_true]
    exact h) n (by omega)
  refine ⟨_, e, ?_⟩
  unfold numV
  rw [e]
  rfl
def spNumber (C CT : Addr) : Sp := fun vs H Q E => ∃ (a dx : Addr) (z : Str) (p : Nat), vs = [.ref a, .str "0123456789"] ∧ H a = some (scO C dx z p) ∧ p ≤ z.length ∧ z.length ≤ 5000 ∧
  (numP ((TL.tl z).drop p) = none → outM a CT H E p) ∧ ∀ n, numP ((TL.tl z).drop p) = some n → Q (numV (((TL.tl z).drop p).take n)) (upd H a (scO C dx z (p + n)))
/-- side conditions; and the plain steps of a reading -/
local macro_rules | `(tactic| walk_at "sd") => `(tactic| first
  | assumption | decide | omega | exact b64 b01 | (show (0 : Int) < _; first | decide | omega) | exact ⟨by decide, by decide, by decide⟩ | exact ⟨by decide, by decide⟩ | exact ⟨by omega, by omega⟩
  | exact .inl ⟨by omega, by omega⟩ | exact .inr ⟨by omega, by omega⟩ | exact sz (by simp) | exact szl (by simp))
local macro_rules | `(tactic| walk_at "rd") => `(tactic| repeat (first
  | refine ⟨_, rfl, ?_⟩
  | refine ⟨_, _, rfl, rfl, ?_⟩
  | refine ⟨_, _, _, _, rfl, rfl, SqL.of (by first | assumption | exact upd_same), rfl, ?_⟩
  | refine .inl ⟨_, rfl, ?_⟩
  | refine .inr ⟨_, rfl, ?_⟩
  | refine ⟨_, _, _, _, rfl, rfl, (by first | assumption | exact upd_same), rfl, ?_⟩
  | refine And.intro (by walk_at "sd") ?_))
section
variable {P : Program} {w : World} {K : PySem.W.Frag} {mg : Str → Option Value} {base : Heap} {f : Addr} {fd : FuncData}
abbrev s__read_number : Stmt := top 12
theorem sc__read_number : FnScope ["scanner", "first_digits", "begin"] ["scanner", "first_digits"] (defScope s__read_number) := ⟨rfl, rfl, rfl, by decide +kernel, rfl, by decide +kernel, by decide +kernel⟩
theorem ok_number {C CT : Addr} {t1 t2 : Tok} (F : Fun K "_read_number" "_read_number" s__read_number f fd) (T : Txt K mg) (gD : mg "DIGITS" = some (.str "0123456789" t1)) (gM : mg "MOST_DIGITS" = some (.int 20 t2)) (S : ScC K C)
    (c_ahead : Cal P w K mg base 1 "_is_ahead" (spAhead C)) (c_take : CalX P w K mg base 3 "_take" (spTake C CT)) : FnOk P w K mg base (L2.CX P w) 4 f fd ["scanner", "first_digits"] (spNumber C CT) := by
  refine F.okX sc__read_number (fun vs H Q E h => ?_) (fun cdv A outer st H vs Q E hr h => ?_)
  · obtain ⟨a, dx, z, p, rfl, _⟩ := h
    rfl
  · obtain ⟨a, dx, z, p, rfl, ha, hp, hz, kb, k⟩ := h
    have hzl : z.length ≤ sizeLine := Nat.le_trans hz (by decide)
    have zl := TL.len_tl z
    refine ⟨_, (pss_cons (ps_set (i := 2) sc__read_number.nd rfl (Or.inl rfl) (pe_fld (pv 0) rfl))
      (pss_cons (ps_if (pt_cmpR op_ne (pe_cX (takes_of rfl rfl rfl rfl) c_take hr (by decide) (by rfl) (pa_cons (pv 0) (pa_cons (pv 1) pa_nil))) pe_str (nomark _))
      (pss_one (ps_while (passes_of rfl) (PW.pt (pw_and (pt_cmpR op_lt (pe_fld (pv 0) rfl) (pe_op op_add (pv 2) (pe_glob (v := .int 20) (by rfl) gM ⟨_, rfl⟩)) (nomark _)) (pw_and1 (pt_val (pe_c c_ahead hr (by decide) (by rfl) (pa_cons (pv 0) (pa_cons (pe_glob (v := .str "0123456789") (by rfl) gD ⟨_, rfl⟩) pa_nil)))))))
        (pss_one (ps_fldaug (pv 0) pe_int in_add))))
      pss_nil)
      (pss_one (ps_ret (pe_callTy call_int_str (by rfl) T.z_int (by decide +kernel) (pa_cons (pe_slice C8.sl_txt (pe_fld (pv 0) rfl) (po_some (pv 2)) (po_some (pe_fld (pv 0) rfl))) pa_nil)))))), ?_⟩
    refine use_seq ?_
    refine ⟨_, rfl, a, C, dx, _, _, rfl, ha, S.cl, S.np, lk_place, ?_⟩
    dsimp only
    refine use_seq ?_
    refine ⟨_, rfl, _, rfl, a, dx, z, "0123456789", p, rfl, ha, hp, hz, fun q => ?_, fun c e hc => ?_⟩
    · refine (kb ?_).b (Mv.refl a H)
      rw [aheadD] at q
      cases e : (TL.tl z)[p]? with
      | none =>
        rw [drop_end e]
        rfl
      | some c =>
        rw [e] at q
        have q : dig c = false := q
        rw [drop_at e]
        show (if dig c = true then _ else none) = none
        rw [if_neg (by rw [q]; exact Bool.false_ne_true)]
    · have hdc : dig c = true := by
        have q := aheadD z p
        unfold aheadB at q
        rw [e] at q
        have q : decide (c ∈ (Str.ofString "0123456789").cps.toList) = dig c := q
        rw [← q]
        exact decide_eq_true hc
      have hpl : p + 1 ≤ z.length := by
        have := (List.getElem?_eq_some_iff.mp e).1
        omega
      refine ⟨rfl, _, rfl, ?_⟩
      by_cases c0 : c = 48
      · subst c0
        refine ifF (by decide) ?_
        refine use_next ?_
        dsimp only
        have hs := upd_same (H := H) (a := a) (o := scO C dx z (p + 1))
        obtain ⟨n, en, hn⟩ : ∃ n, n = 1 ∧ numP ((TL.tl z).drop p) = some n := by
          refine ⟨1, rfl, ?_⟩
          rw [drop_at e]
          show (if dig 48 = true then _ else none) = some 1
          rfl
        rw [← en] at hs ⊢
        have hpn : p + n ≤ z.length := by omega
        refine ⟨_, rfl, a, C, dx, _, _, rfl, hs, S.cl, S.nt, lk_text, _, rfl, (p : Int), rfl, ?_⟩
        refine ⟨_, rfl, a, C, dx, _, _, rfl, hs, S.cl, S.np, lk_place, (((p + n : Nat)) : Int), rfl, z, rfl, hzl, ?_⟩
        rw [cutM z p (p + n) (by omega) hp, show p + n - p = n from by omega]
        obtain ⟨b1, b2, b3, b4⟩ := numP_le hn
        obtain ⟨i, i1, i2⟩ := int_digits b4 (fun e => by
          have := congrArg List.length e
          rw [List.length_take, List.length_nil] at this
          omega) (by rw [List.length_take]; omega)
        refine ⟨_, i, rfl, i1, by rw [len_mk, List.length_take]; omega, ?_⟩
        have q := k n hn
        rw [i2] at q
        exact q
      · refine ifT ?_ ?_
        · have n : ¬ V.str ⟨#[c]⟩ = V.str "0" := fun h => by
            injection h with h
            have h2 := congrArg (fun x : Str => x.cps.toList) h
            have h3 : [c] = [48] := h2
            injection h3 with h3 _
            exact c0 h3
          simp [n]
        have h0 : numP ((TL.tl z).drop p) = some (runP 19 ((TL.tl z).drop (p + 1)) + 1) := by
          rw [drop_at e]
          show (if dig c = true then _ else none) = _
          rw [if_pos hdc, if_neg c0]
        refine ⟨fun m σ H' => ∃ j, j ≤ 19 ∧ m = 19 - j ∧ σ = [some (.ref a), some (.str "0123456789"), some (.int (p : Int))] ∧ H' = upd H a (scO C dx z (p + 1 + j)) ∧ p + 1 + j ≤ z.length ∧ numP ((TL.tl z).drop p) = some (runP (19 - j) ((TL.tl z).drop (p + 1 + j)) + 1 + j),
          ⟨19, 0, by decide, rfl, rfl, rfl, hpl, h0⟩, ?_⟩
        rintro m σ H' ⟨j, hj, rfl, rfl, rfl, hjl, hnum⟩
        have hs := upd_same (H := H) (a := a) (o := scO C dx z (p + 1 + j))
        refine ⟨_, rfl, a, C, dx, _, _, rfl, hs, S.cl, S.np, lk_place, _, rfl, _, _, rfl, rfl, _, _, rfl, rfl, _, rfl, ?_⟩
        have out : runP (19 - j) ((TL.tl z).drop (p + 1 + j)) = 0 → ∃ n, p + 1 + j = p + n ∧ numP ((TL.tl z).drop p) = some n := fun r => by
          rw [r] at hnum
          exact ⟨1 + j, by omega, by rw [hnum]⟩
        by_cases c1 : j < 19
        · refine ifT (decide_eq_true (by omega)) ?_
          refine ⟨_, rfl, a, dx, z, "0123456789", p + 1 + j, rfl, hs, hjl, hz, _, rfl, ?_⟩
          rw [aheadD]
          cases e2 : (TL.tl z)[p + 1 + j]? with
          | none =>
            refine ifF rfl ?_
            obtain ⟨n, en, hn⟩ := out (by
              rw [drop_end e2]
              obtain ⟨k2, hk⟩ : ∃ k2, 19 - j = k2 + 1 := ⟨18 - j, by omega⟩
              rw [hk]
              rfl)
            rw [en] at hs ⊢
            have hpn : p + n ≤ z.length := by omega
            refine ⟨_, rfl, a, C, dx, _, _, rfl, hs, S.cl, S.nt, lk_text, _, rfl, (p : Int), rfl, ?_⟩
            refine ⟨_, rfl, a, C, dx, _, _, rfl, hs, S.cl, S.np, lk_place, (((p + n : Nat)) : Int), rfl, z, rfl, hzl, ?_⟩
            rw [cutM z p (p + n) (by omega) hp, show p + n - p = n from by omega]
            obtain ⟨b1, b2, b3, b4⟩ := numP_le hn
            obtain ⟨i, i1, i2⟩ := int_digits b4 (fun e => by
              have := congrArg List.length e
              rw [List.length_take, List.length_nil] at this
              omega) (by rw [List.length_take]; omega)
            refine ⟨_, i, rfl, i1, by rw [len_mk, List.length_take]; omega, ?_⟩
            have q := k n hn
            rw [i2] at q
            exact q
          | some c2 =>
            cases hd2 : dig c2 with
            | false =>
              refine ifF hd2 ?_
              obtain ⟨n, en, hn⟩ := out (by
                rw [drop_at e2]
                obtain ⟨k2, hk⟩ : ∃ k2, 19 - j = k2 + 1 := ⟨18 - j, by omega⟩
                rw [hk]
                show (if dig c2 = true then _ else 0) = 0
                rw [if_neg (by rw [hd2]; exact Bool.false_ne_true)])
              rw [en] at hs ⊢
              have hpn : p + n ≤ z.length := by omega
              refine ⟨_, rfl, a, C, dx, _, _, rfl, hs, S.cl, S.nt, lk_text, _, rfl, (p : Int), rfl, ?_⟩
              refine ⟨_, rfl, a, C, dx, _, _, rfl, hs, S.cl, S.np, lk_place, (((p + n : Nat)) : Int), rfl, z, rfl, hzl, ?_⟩
              rw [cutM z p (p + n) (by omega) hp, show p + n - p = n from by omega]
              obtain ⟨b1, b2, b3, b4⟩ := numP_le hn
              obtain ⟨i, i1, i2⟩ := int_digits b4 (fun e => by
                have := congrArg List.length e
                rw [List.length_take, List.length_nil] at this
                omega) (by rw [List.length_take]; omega)
              refine ⟨_, i, rfl, i1, by rw [len_mk, List.length_take]; omega, ?_⟩
              have q := k n hn
              rw [i2] at q
              exact q
            | true =>
              refine ifT hd2 ?_
              have hjl2 := (List.getElem?_eq_some_iff.mp e2).1
              refine ⟨fun σ' H2 => σ' = [some (.ref a), some (.str "0123456789"), some (.int (p : Int))] ∧ H2 = upd H a (scO C dx z (p + 1 + (j + 1))), fun σ' H2 ⟨x1, x2⟩ => ⟨19 - (j + 1), by omega, j + 1, by omega, rfl, x1, x2, by omega, ?_⟩, ?_⟩
              · rw [hnum, drop_at e2]
                obtain ⟨k2, hk⟩ : ∃ k2, 19 - j = k2 + 1 := ⟨18 - j, by omega⟩
                rw [hk]
                show some ((if dig c2 = true then _ else 0) + 1 + j) = _
                rw [if_pos hd2, show 19 - (j + 1) = k2 from by omega, show p + 1 + (j + 1) = p + 1 + j + 1 from by omega]
                congr 1
                omega
              · refine ⟨_, rfl, a, C, dx, _, _, rfl, hs, S.cl, S.np, lk_place, _, _, rfl, rfl, dx, _, hs, (by show 2 < 1000; decide), rfl, ?_⟩
                rw [put_place, upd_upd]
                rfl
        · refine ifF (decide_eq_false (by omega)) ?_
          refine ifF rfl ?_
          obtain ⟨n, en, hn⟩ := out (by
            rw [show 19 - j = 0 from by omega]
            rfl)
          rw [en] at hs ⊢
          have hpn : p + n ≤ z.length := by omega
          refine ⟨_, rfl, a, C, dx, _, _, rfl, hs, S.cl, S.nt, lk_text, _, rfl, (p : Int), rfl, ?_⟩
          refine ⟨_, rfl, a, C, dx, _, _, rfl, hs, S.cl, S.np, lk_place, (((p + n : Nat)) : Int), rfl, z, rfl, hzl, ?_⟩
          rw [cutM z p (p + n) (by omega) hp, show p + n - p = n from by omega]
          obtain ⟨b1, b2, b3, b4⟩ := numP_le hn
          obtain ⟨i, i1, i2⟩ := int_digits b4 (fun e => by
            have := congrArg List.length e
            rw [List.length_take, List.length_nil] at this
            omega) (by rw [List.length_take]; omega)
          refine ⟨_, i, rfl, i1, by rw [len_mk, List.length_take]; omega, ?_⟩
          have q := k n hn
          rw [i2] at q
          exact q
end
end Q75


/-! keys read -/
namespace Q75
open PySem PySem.Spec PyProof.Rows L2 QT
def plainS : Str := " !\"#$&'()*+,-./0123456789:;<=>?@ABCDEFGHIJKLMNOPQRSTUVWXYZ[\\]^_`abcdefghijklmnopqrstuvwxyz{|}~"
def comb (j : Nat) (w : List Nat) : Nat ⊕ (List Nat × Nat) → Nat ⊕ (List Nat × Nat)
  | .inl i => .inl (i + j)
  | .inr (v, n) => .inr (w ++ v, n + j)
theorem comb_push (j k c : Nat) (w : List Nat) (x : Nat ⊕ (List Nat × Nat)) : comb j w (push k c x) = comb (j + k) (w ++ [c]) x := by
  cases x with
  | inl i => exact congrArg Sum.inl (by omega)
  | inr y =>
    obtain ⟨v, n⟩ := y
    show Sum.inr (w ++ c :: v, n + k + j) = Sum.inr (w ++ [c] ++ v, n + (j + k))
    rw [List.append_assoc, show n + k + j = n + (j + k) from by omega]
    rfl
theorem strP_end (r : List Nat) : strP (34 :: r) = .inr ([], 1) := by
  cases r <;> rfl
theorem strP_esc {d : Nat} (r : List Nat) (h : d = 34 ∨ d = 92) : strP (92 :: d :: r) = push 2 d (strP r) := by
  show (if (92 : Nat) = 34 then _ else if (92 : Nat) = 92 then (if d = 34 ∨ d = 92 then push 2 d (strP r) else .inl 1) else _) = _
  rw [if_neg (by decide), if_pos rfl, if_pos h]
theorem strP_bad {d : Nat} (r : List Nat) (h : ¬ (d = 34 ∨ d = 92)) : strP (92 :: d :: r) = .inl 1 := by
  show (if (92 : Nat) = 34 then _ else if (92 : Nat) = 92 then (if d = 34 ∨ d = 92 then push 2 d (strP r) else .inl 1) else _) = _
  rw [if_neg (by decide), if_pos rfl, if_neg h]
theorem strP_one {c : Nat} (r : List Nat) (h : c ≠ 34) (h2 : c ≠ 92) : strP (c :: r) = push 1 c (strP r) := by
  cases r with
  | nil =>
    show (if c = 34 then _ else Sum.inl 1) = _
    rw [if_neg h]
    rfl
  | cons d r =>
    show (if c = 34 then _ else if c = 92 then _ else push 1 c (strP (d :: r))) = _
    rw [if_neg h, if_neg h2]
def sgn (c : Nat) : Str := ⟨#[c]⟩
theorem join_signs (w : List Nat) : Txt.join Str.empty (w.map sgn) = ⟨w.toArray⟩ := by
  rw [TL.join_eq]
  apply TL.ext_tl
  rw [TL.tl_join]
  have flat : ∀ l : List (List Nat), TL.joinL [] l = l.flatten := fun l => by
    induction l with
    | nil => rfl
    | cons p r ih =>
      cases r with
      | nil => simp [TL.joinL]
      | cons q r =>
        show p ++ ([] ++ TL.joinL [] (q :: r)) = _
        rw [ih]
        rfl
  show TL.joinL [] _ = _
  rw [flat]
  show _ = w
  induction w with
  | nil => rfl
  | cons c r ih =>
    rw [List.map_cons, List.map_cons, List.flatten_cons, ih]
    rfl
theorem signs_len (w : List Nat) : ((w.map sgn).map fun x => x.length).sum = w.length := by
  induction w with
  | nil => rfl
  | cons c r ih =>
    rw [List.map_cons, List.map_cons, List.sum_cons, ih]
    show 1 + r.length = r.length + 1
    omega
def spString (C CT : Addr) : Sp := fun vs H Q E => ∃ (a dx : Addr) (z : Str) (p : Nat), vs = [.ref a] ∧ H a = some (scO C dx z p) ∧ p ≤ z.length ∧ z.length ≤ 5000 ∧ (TL.tl z)[p]? = some 34 ∧ (∀ c ∈ TL.tl z, c ∈ plainS.cps.toList) ∧
  (∀ j, strP ((TL.tl z).drop (p + 1)) = .inl j → outM a CT H E (p + 1 + j)) ∧ ∀ w n, strP ((TL.tl z).drop (p + 1)) = .inr (w, n) → ∀ H', Mv a H H' → H' a = some (scO C dx z (p + 1 + n)) → Q (.str ⟨w.toArray⟩) H'
/-- side conditions; and the plain steps of a reading -/
local macro_rules | `(tactic| walk_at "sd") => `(tactic| first
  | assumption | decide | omega | exact b64 b01 | (show (0 : Int) < _; first | decide | omega) | exact ⟨by decide, by decide, by decide⟩ | exact ⟨by decide, by decide⟩ | exact ⟨by omega, by omega⟩
  | exact .inl ⟨by omega, by omega⟩ | exact .inr ⟨by omega, by omega⟩ | exact sz (by simp) | exact szl (by simp))
local macro_rules | `(tactic| walk_at "rd") => `(tactic| repeat (first
  | refine ⟨_, rfl, ?_⟩
  | refine ⟨_, _, rfl, rfl, ?_⟩
  | refine ⟨_, _, _, _, rfl, rfl, SqL.of (by first | assumption | exact upd_same), rfl, ?_⟩
  | refine .inl ⟨_, rfl, ?_⟩
  | refine .inr ⟨_, rfl, ?_⟩
  | refine ⟨_, _, _, _, rfl, rfl, (by first | assumption | exact upd_same), rfl, ?_⟩
  | refine And.intro (by walk_at "sd") ?_))
section
variable {P : Program} {w : World} {K : PySem.W.Frag} {mg : Str → Option Value} {base : Heap} {f : Addr} {fd : FuncData}
abbrev s__read_string : Stmt := top 13
theorem sc__read_string : FnScope ["scanner", "signs", "sign"] ["scanner"] (defScope s__read_string) := ⟨rfl, rfl, rfl, by decide +kernel, rfl, by decide +kernel, by decide +kernel⟩
theorem ok_string {C CT : Addr} {t1 : Tok} (F : Fun K "_read_string" "_read_string" s__read_string f fd) (T : Txt K mg) (gP : mg "PLAIN" = some (.str plainS t1)) (S : ScC K C)
    (c_ahead : Cal P w K mg base 1 "_is_ahead" (spAhead C)) (c_take : CalX P w K mg base 3 "_take" (spTake C CT)) : FnOk P w K mg base (L2.CX P w) 4 f fd ["scanner"] (spString C CT) := by
  refine F.okX sc__read_string (fun vs H Q E h => ?_) (fun cdv A outer st H vs Q E hr h => ?_)
  · obtain ⟨a, dx, z, p, rfl, _⟩ := h
    rfl
  · obtain ⟨a, dx, z, p, rfl, ha, hp, hz, h34, hpl, kb, k⟩ := h
    have hzl : z.length ≤ sizeLine := Nat.le_trans hz (by decide)
    have zl := TL.len_tl z
    refine ⟨_, (pss_cons (ps_expr (pe_cX (takes_of rfl rfl rfl rfl) c_take hr (by decide) (by rfl) (pa_cons (pv 0) (pa_cons pe_str pa_nil))))
      (pss_cons (ps_set (i := 1) sc__read_string.nd rfl (Or.inl rfl) (pe_lst pa_nil))
      (pss_cons (ps_while (passes_of rfl) (pt_not (pt_val (pe_c c_ahead hr (by decide) (by rfl) (pa_cons (pv 0) (pa_cons pe_str pa_nil)))))
      (pss_cons (ps_set (i := 2) sc__read_string.nd rfl (Or.inl rfl) (pe_cX (takes_of rfl rfl rfl rfl) c_take hr (by decide) (by rfl) (pa_cons (pv 0) (pa_cons (pe_glob (v := .str plainS) (by rfl) gP ⟨_, rfl⟩) pa_nil))))
        (pss_one (ps_expr (pe_bm PySem.F.plainAttrs_list PySem.F.slot_list_append PySem.F.type_list_append mt_append (pv 1) (pa_cons (pe_ifExp (pt_cmpR op_eq (pv 2) pe_str (nomark _)) (pe_cX (takes_of rfl rfl rfl rfl) c_take hr (by decide) (by rfl) (pa_cons (pv 0) (pa_cons pe_str pa_nil))) (pv 2)) pa_nil))))))
      (pss_cons (ps_fldaug (pv 0) pe_int in_add)
      (pss_one (ps_ret (pe_join pe_str (pv 1)))))))), ?_⟩
    refine use_seq ?_
    refine ⟨_, rfl, a, dx, z, "\"", p, rfl, ha, hp, hz, fun q => ?_, fun c e hc => ?_⟩
    · exfalso
      unfold aheadB at q
      rw [h34] at q
      exact absurd q (by decide)
    rw [h34] at e
    have e := Option.some.inj e
    subst e
    dsimp only
    refine use_seq ?_
    refine ⟨sz (by simp), fun L nL => ?_⟩
    have nLa : L ≠ a := fun z => by rw [z, upd_same] at nL; cases nL
    dsimp only
    refine use_seq ?_
    refine ⟨fun m σ H' => ∃ (j : Nat) (u : List Nat) (o : Option V), m = z.length - (p + 1 + j) ∧ σ = [some (.ref a), some (.ref L), o] ∧ Mv a H H' ∧ H' a = some (scO C dx z (p + 1 + j)) ∧ H' L = some (.lst ((u.map sgn).map V.str)) ∧ p + 1 + j ≤ z.length ∧ u.length ≤ j ∧ strP ((TL.tl z).drop (p + 1)) = comb j u (strP ((TL.tl z).drop (p + 1 + j))),
      ⟨_, 0, [], none, rfl, rfl, (Mv.upd a H _).trans (.of (same_new nL)), ?_, upd_same, ?_, Nat.le_refl _, ?_⟩, ?_⟩
    · exact same_new nL _ _ upd_same
    · have := (List.getElem?_eq_some_iff.mp h34).1
      omega
    · cases strP ((TL.tl z).drop (p + 1 + 0)) with
      | inl i => rfl
      | inr y => rfl
    rintro m σ H' ⟨j, u, o, rfl, rfl, mv, hs, hL, hj, hu, hstr⟩
    refine ⟨_, rfl, a, dx, z, "\"", p + 1 + j, rfl, hs, hj, hz, _, rfl, ?_⟩
    have go : ∀ {i : Nat}, strP ((TL.tl z).drop (p + 1 + j)) = .inl i → ∀ {H1 : Hp}, Mv a H H1 → outB CT H1 E (p + 1 + j + i) := fun {i} hi {H1} m1 => by
      rw [hi] at hstr
      have h1 := (kb (i + j) hstr).b m1
      rw [show p + 1 + (i + j) = p + 1 + j + i from by omega] at h1
      exact h1
    dsimp only
    cases e : (TL.tl z)[p + 1 + j]? with
    | none =>
      have ah : aheadB z (p + 1 + j) "\"" = false := by
        unfold aheadB
        rw [e]
      rw [ah]
      refine ifT rfl ?_
      refine ⟨fun _ _ => False, fun _ _ h => h.elim, ?_⟩
      refine use_seq ?_
      refine ⟨_, rfl, a, dx, z, plainS, p + 1 + j, rfl, hs, hj, hz, fun q => ?_, fun c e2 _ => ?_⟩
      · refine go (i := 0) ?_ mv
        rw [drop_end e]
        rfl
      · rw [e] at e2
        cases e2
    | some c =>
      have hq := (List.getElem?_eq_some_iff.mp e).1
      have hcm := hpl c (List.mem_of_getElem? e)
      by_cases c34 : c = 34
      · subst c34
        have ah : aheadB z (p + 1 + j) "\"" = true := by
          unfold aheadB
          rw [e]
          decide
        rw [ah]
        refine ifF rfl ?_
        refine use_seq ?_
        refine ⟨_, rfl, a, C, dx, _, _, rfl, hs, S.cl, S.np, lk_place, _, _, rfl, rfl, dx, _, hs, (by show 2 < 1000; decide), ?_⟩
        rw [put_place]
        dsimp only
        have hL2 : upd H' a (scO C dx z (p + 1 + j + 1)) L = some (.lst ((u.map sgn).map V.str)) := by
          rw [upd_ne nLa]
          exact hL
        refine ⟨⟨_, rfl⟩, _, rfl, _, L, u.map sgn, rfl, rfl, .inl (SqL.of hL2), ?_, ?_⟩
        · rw [signs_len]
          show u.length + (u.map sgn).length * 0 ≤ 16777216
          omega
        · have hf : strP ((TL.tl z).drop (p + 1)) = .inr (u, 1 + j) := by
            rw [hstr, drop_at e, strP_end]
            show Sum.inr (u ++ [], 1 + j) = _
            rw [List.append_nil]
          have q := k u (1 + j) hf (upd H' a (scO C dx z (p + 1 + j + 1))) (mv.trans (Mv.upd a H' _)) (by
            rw [show p + 1 + (1 + j) = p + 1 + j + 1 from by omega]
            exact upd_same)
          rw [← join_signs] at q
          exact q
      · have ah : aheadB z (p + 1 + j) "\"" = false := by
          unfold aheadB
          rw [e]
          refine decide_eq_false fun h => ?_
          have h : c ∈ [34] := h
          exact c34 (List.mem_singleton.mp h)
        rw [ah]
        refine ifT rfl ?_
        refine ⟨fun σ' H2 => ∃ (j2 : Nat) (u2 : List Nat) (o2 : Option V), j < j2 ∧ σ' = [some (.ref a), some (.ref L), o2] ∧ Mv a H H2 ∧ H2 a = some (scO C dx z (p + 1 + j2)) ∧ H2 L = some (.lst ((u2.map sgn).map V.str)) ∧ p + 1 + j2 ≤ z.length ∧ u2.length ≤ j2 ∧ strP ((TL.tl z).drop (p + 1)) = comb j2 u2 (strP ((TL.tl z).drop (p + 1 + j2))),
          fun σ' H2 ⟨j2, u2, o2, l2, x1, x2, x3, x4, x5, x6, x7⟩ => ⟨_, by omega, j2, u2, o2, rfl, x1, x2, x3, x4, x5, x6, x7⟩, ?_⟩
        refine use_seq ?_
        refine ⟨_, rfl, a, dx, z, plainS, p + 1 + j, rfl, hs, hj, hz, fun q => ?_, fun c2 e2 _ => ?_⟩
        · exfalso
          unfold aheadB at q
          rw [e] at q
          exact absurd hcm (of_decide_eq_false q)
        rw [e] at e2
        have e2 := Option.some.inj e2
        subst e2
        dsimp only
        have mv1 := mv.trans (Mv.upd a H' (scO C dx z (p + 1 + j + 1)))
        have hs1 := upd_same (H := H') (a := a) (o := scO C dx z (p + 1 + j + 1))
        have hL1 : upd H' a (scO C dx z (p + 1 + j + 1)) L = some (.lst ((u.map sgn).map V.str)) := by
          rw [upd_ne nLa]
          exact hL
        generalize upd H' a (scO C dx z (p + 1 + j + 1)) = H1 at mv1 hs1 hL1 ⊢
        refine ⟨_, rfl, .inl ⟨rfl, _, SqL.of hL1⟩, _, rfl, rfl, _, rfl, ?_⟩
        have aL : a ≠ L := fun z => nLa z.symm
        have put : ∀ (d : Nat) (H2 : Hp), Mv a H H2 → H2 L = some (.lst ((u.map sgn).map V.str)) → Mv a H (upd H2 L (.lst ((u.map sgn).map V.str ++ [V.str ⟨#[d]⟩]))) ∧ upd H2 L (.lst ((u.map sgn).map V.str ++ [V.str ⟨#[d]⟩])) L = some (.lst (((u ++ [d]).map sgn).map V.str)) := fun d H2 m2 h2 => by
          refine ⟨fun b o n q => ?_, ?_⟩
          · have nL0 : H L = none := by
              rw [upd_ne nLa] at nL
              exact nL
            rw [upd_ne (ne_of_none q nL0)]
            exact m2 b o n q
          · rw [upd_same, List.map_append, List.map_append]
            rfl
        by_cases c92 : c = 92
        · subst c92
          refine ifT (by decide) ?_
          refine ⟨_, rfl, a, dx, z, "\"\\", p + 1 + j + 1, rfl, hs1, by omega, hz, fun q => ?_, fun d e3 hd => ?_⟩
          · refine go (i := 1) ?_ mv1
            rw [drop_at e]
            cases e3 : (TL.tl z)[p + 1 + j + 1]? with
            | none =>
              rw [drop_end e3]
              rfl
            | some d =>
              rw [drop_at e3]
              refine strP_bad _ fun h => ?_
              unfold aheadB at q
              rw [e3] at q
              refine absurd ?_ (of_decide_eq_false q)
              show d ∈ [34, 92]
              rcases h with rfl | rfl <;> decide
          · have hd : d ∈ [34, 92] := hd
            have hd2 : d = 34 ∨ d = 92 := by simpa using hd
            have hq2 := (List.getElem?_eq_some_iff.mp e3).1
            have hL2 : upd H1 a (scO C dx z (p + 1 + j + 1 + 1)) L = some (.lst ((u.map sgn).map V.str)) := by
              rw [upd_ne nLa]
              exact hL1
            obtain ⟨g1, g2⟩ := put d _ (mv1.trans (Mv.upd a H1 (scO C dx z (p + 1 + j + 1 + 1)))) hL2
            refine ⟨L, _, _, rfl, rfl, hL2, szl (by rw [List.length_map, List.length_map]; omega), ?_⟩
            refine ⟨j + 2, u ++ [d], _, by omega, rfl, g1, ?_, g2, by omega, by rw [List.length_append, List.length_singleton]; omega, ?_⟩
            · rw [upd_ne aL, upd_same]
              rfl
            · rw [hstr, drop_at e, drop_at e3, strP_esc _ hd2, comb_push]
              rfl
        · refine ifF ?_ ?_
          · have n : ¬ V.str ⟨#[c]⟩ = V.str "\\" := fun h => by
              injection h with h
              have h2 := congrArg (fun x : Str => x.cps.toList) h
              have h3 : [c] = [92] := h2
              injection h3 with h3 _
              exact c92 h3
            simp [n]
          refine ⟨_, rfl, L, _, _, rfl, rfl, hL1, szl (by rw [List.length_map, List.length_map]; omega), ?_⟩
          obtain ⟨g1, g2⟩ := put c _ mv1 hL1
          refine ⟨j + 1, u ++ [c], _, by omega, rfl, g1, ?_, g2, by omega, by rw [List.length_append, List.length_singleton]; omega, ?_⟩
          · rw [upd_ne aL]
            exact hs1
          · rw [hstr, drop_at e, strP_one _ c34 c92, comb_push]
            rfl
end
end Q75


/-! paths read -/
namespace Q75
open PySem PySem.Spec PyProof.Rows L2 QT
theorem strP_le : ∀ (m : Nat) (l : List Nat), l.length ≤ m → ∀ w n, strP l = .inr (w, n) → n ≤ l.length ∧ 1 ≤ n
  | 0, l, h, w, n, e => by
    have : l = [] := List.eq_nil_of_length_eq_zero (by omega)
    subst this
    cases e
  | m + 1, l, h, w, n, e => by
    cases l with
    | nil => cases e
    | cons c r =>
      rw [List.length_cons] at h ⊢
      by_cases c34 : c = 34
      · subst c34
        rw [strP_end] at e
        cases e
        omega
      · by_cases c92 : c = 92
        · subst c92
          cases r with
          | nil => cases e
          | cons d r =>
            rw [List.length_cons] at h ⊢
            by_cases hd : d = 34 ∨ d = 92
            · rw [strP_esc r hd] at e
              cases q : strP r with
              | inl i => rw [q] at e; cases e
              | inr y =>
                obtain ⟨v, k⟩ := y
                have := strP_le m r (by omega) v k q
                rw [q] at e
                cases e
                omega
            · rw [strP_bad r hd] at e
              cases e
        · rw [strP_one r c34 c92] at e
          cases q : strP r with
          | inl i => rw [q] at e; cases e
          | inr y =>
            obtain ⟨v, k⟩ := y
            have := strP_le m r (by omega) v k q
            rw [q] at e
            cases e
            omega
theorem stepP_quote (r : List Nat) : stepP (34 :: r) = (match strP r with
    | .inl k => .inl (k + 1)
    | .inr (w, n) => .inr (.str ⟨w.toArray⟩, n + 1)) := rfl
theorem stepP_num {c : Nat} {r : List Nat} (h : c ≠ 34) : stepP (c :: r) = (match numP (c :: r) with
    | none => .inl 0
    | some n => .inr (numV ((c :: r).take n), n)) := by
  show (if c = 34 then _ else _) = _
  first | (rw [if_neg h]; done) | (rw [if_neg h]; rfl)
theorem stepP_le {l : List Nat} {v : V} {n : Nat} (h : stepP l = .inr (v, n)) : n ≤ l.length ∧ 1 ≤ n := by
  cases l with
  | nil => cases h
  | cons c r =>
    by_cases c34 : c = 34
    · subst c34
      rw [stepP_quote] at h
      cases q : strP r with
      | inl i => rw [q] at h; cases h
      | inr y =>
        obtain ⟨u, k⟩ := y
        have := strP_le r.length r (Nat.le_refl _) u k q
        rw [q] at h
        cases h
        rw [List.length_cons]
        omega
    · rw [stepP_num c34] at h
      cases q : numP (c :: r) with
      | none => rw [q] at h; cases h
      | some k =>
        have := numP_le q
        rw [q] at h
        cases h
        exact ⟨this.2.1, this.1⟩
def spScI (C : Addr) : Sp := fun vs H Q _ => ∃ (a dx : Addr) (z : Str), vs = [.ref a, .str z] ∧ H a = some (.ins C dx []) ∧ Q .non (upd H a (scO C dx z 0))
def spTakeEnd (C CT : Addr) : Sp := fun vs H Q E => ∃ (a dx : Addr) (z : Str) (p : Nat), vs = [.ref a] ∧ H a = some (scO C dx z p) ∧ p ≤ z.length ∧ z.length ≤ 5000 ∧ (p < z.length → outB CT H E p) ∧ (p = z.length → Q .non H)
def spStep (C CT : Addr) : Sp := fun vs H Q E => ∃ (a dx : Addr) (z : Str) (p : Nat), vs = [.ref a] ∧ H a = some (scO C dx z p) ∧ p ≤ z.length ∧ z.length ≤ 5000 ∧ (∀ c ∈ TL.tl z, c ∈ plainS.cps.toList) ∧
  (∀ j, stepP ((TL.tl z).drop p) = .inl j → outM a CT H E (p + j)) ∧ ∀ v n, stepP ((TL.tl z).drop p) = .inr (v, n) → ∀ H', Mv a H H' → H' a = some (scO C dx z (p + n)) → Q v H'
def spPath (CT : Addr) : Sp := fun vs H Q E => ∃ z : Str, vs = [.str z] ∧ z.length ≤ 5000 ∧ (∀ c ∈ TL.tl z, c ∈ plainS.cps.toList) ∧
  (∀ k, pathP (TL.tl z) = .inl k → outB CT H E k) ∧ ∀ vs, pathP (TL.tl z) = .inr vs → ∀ (H' : Hp) (t : Addr), Same H H' → H t = none → H' t = some (.tup vs) → Q (.ref t) H'
/-- side conditions; and the plain steps of a reading -/
local macro_rules | `(tactic| walk_at "sd") => `(tactic| first
  | assumption | decide | omega | exact b64 b01 | (show (0 : Int) < _; first | decide | omega) | exact ⟨by decide, by decide, by decide⟩ | exact ⟨by decide, by decide⟩ | exact ⟨by omega, by omega⟩
  | exact .inl ⟨by omega, by omega⟩ | exact .inr ⟨by omega, by omega⟩ | exact sz (by simp) | exact szl (by simp))
local macro_rules | `(tactic| walk_at "rd") => `(tactic| repeat (first
  | refine ⟨_, rfl, ?_⟩
  | refine ⟨_, _, rfl, rfl, ?_⟩
  | refine ⟨_, _, _, _, rfl, rfl, SqL.of (by first | assumption | exact upd_same), rfl, ?_⟩
  | refine .inl ⟨_, rfl, ?_⟩
  | refine .inr ⟨_, rfl, ?_⟩
  | refine ⟨_, _, _, _, rfl, rfl, (by first | assumption | exact upd_same), rfl, ?_⟩
  | refine And.intro (by walk_at "sd") ?_))
section
variable {P : Program} {w : World} {K : PySem.W.Frag} {mg : Str → Option Value} {base : Heap} {f : Addr} {fd : FuncData}
abbrev s_BadText___init__ : Stmt := inClass (top 2) 0
theorem sc_BadText___init__ : FnScope ["self", "place"] ["self", "place"] (defScope s_BadText___init__) := ⟨rfl, rfl, rfl, by decide +kernel, rfl, by decide +kernel, by decide +kernel⟩
theorem ok_initT {C : Addr} (F : Fun K "__init__" "BadText.__init__" s_BadText___init__ f fd) (O : OexC K C) (nf : PySem.W.findIn K (.ref C) "place" = some none) : FnOk P w K mg base CX0 1 f fd ["self", "place"] (spInit1 "place" C) := by
  refine F.ok sc_BadText___init__ (fun vs H Q E h => ?_) (fun cdv A outer s H vs Q E hr h => ?_)
  · obtain ⟨a, v, rfl, _⟩ := h
    rfl
  · obtain ⟨a, v, rfl, ha, k⟩ := h
    refine ⟨_, pss_one (ps_ost (pv 0) (pv 1)), ?_⟩
    exact ⟨_, rfl, _, rfl, a, C, rfl, O, nf, .inl ⟨ha, fun dx n ne => k dx n ne⟩⟩
abbrev s_Scanner___init__ : Stmt := inClass (top 8) 0
theorem sc_Scanner___init__ : FnScope ["self", "text"] ["self", "text"] (defScope s_Scanner___init__) := ⟨rfl, rfl, rfl, by decide +kernel, rfl, by decide +kernel, by decide +kernel⟩
theorem ok_scI {C : Addr} (F : Fun K "__init__" "Scanner.__init__" s_Scanner___init__ f fd) (S : ScC K C) : FnOk P w K mg base CX0 1 f fd ["self", "text"] (spScI C) := by
  refine F.ok sc_Scanner___init__ (fun vs H Q E h => ?_) (fun cdv A outer st H vs Q E hr h => ?_)
  · obtain ⟨a, dx, z, rfl, _⟩ := h
    rfl
  · obtain ⟨a, dx, z, rfl, ha, k⟩ := h
    refine ⟨_, (pss_cons (ps_fld (pv 0) (pv 1) rfl)
      (pss_one (ps_fld (pv 0) pe_int rfl))), ?_⟩
    refine use_seq ?_
    refine ⟨_, rfl, _, rfl, a, C, dx, _, rfl, ha, S.cl, S.nt, (by show 0 < 1000; decide), ?_⟩
    dsimp only
    refine ⟨_, rfl, a, C, dx, _, rfl, upd_same, S.cl, S.np, (by show 1 < 1000; decide), ?_⟩
    rw [upd_upd]
    exact k
abbrev s__take_end : Stmt := top 11
theorem sc__take_end : FnScope ["scanner"] ["scanner"] (defScope s__take_end) := ⟨rfl, rfl, rfl, by decide +kernel, rfl, by decide +kernel, by decide +kernel⟩
theorem ok_take_end {C CT fT : Addr} {fdT : FuncData} (F : Fun K "_take_end" "_take_end" s__take_end f fd) (T : Txt K mg) (S : ScC K C) (B : ErrC K mg "BadText" CT fT) (bT : Binds K fdT ["self", "place"] []) (c_initT : FnOk P w K mg base CX0 1 fT fdT ["self", "place"] (spInit1 "place" CT)) :
    FnOk P w K mg base (L2.CX P w) 3 f fd ["scanner"] (spTakeEnd C CT) := by
  refine F.okX sc__take_end (fun vs H Q E h => ?_) (fun cdv A outer st H vs Q E hr h => ?_)
  · obtain ⟨a, dx, z, p, rfl, _⟩ := h
    rfl
  · obtain ⟨a, dx, z, p, rfl, ha, hp, hz, kb, k⟩ := h
    have hzl : z.length ≤ sizeLine := Nat.le_trans hz (by decide)
    refine ⟨_, (pss_one (ps_if (pt_cmpR op_lt (pe_fld (pv 0) rfl) (pe_callB call_len_str (by rfl) T.z_len PySem.boot_len (pa_cons (pe_fld (pv 0) rfl) pa_nil)) (nomark _))
      (pss_one (ps_raise rfl (takes_of rfl rfl rfl rfl) (pmk_oex B.oex B.ini B.tI c_initT hr bT .nil pass0 (by rfl) B.mgC (pa_cons (pe_fld (pv 0) rfl) pa_nil))))
      pss_nil)), ?_⟩
    refine ⟨_, rfl, a, C, dx, _, _, rfl, ha, S.cl, S.np, lk_place, _, rfl, a, C, dx, _, _, rfl, ha, S.cl, S.nt, lk_text, z, rfl, hzl, _, _, rfl, rfl, _, rfl, ?_⟩
    by_cases c : p < z.length
    · refine ifT (decide_eq_true (by omega)) ?_
      refine ⟨_, rfl, a, C, dx, _, _, rfl, ha, S.cl, S.np, lk_place, (by show 1 ≤ 1000; decide), raise1 fun H' d s' e' => ?_⟩
      exact kb c H' d s' e'
    · exact ifF (decide_eq_false (by omega)) (k (by omega))
abbrev s__read_step : Stmt := top 15
theorem sc__read_step : FnScope ["scanner"] ["scanner"] (defScope s__read_step) := ⟨rfl, rfl, rfl, by decide +kernel, rfl, by decide +kernel, by decide +kernel⟩
theorem ok_step {C CT : Addr} {t1 : Tok} (F : Fun K "_read_step" "_read_step" s__read_step f fd) (gD : mg "DIGITS" = some (.str "0123456789" t1))
    (c_ahead : Cal P w K mg base 1 "_is_ahead" (spAhead C)) (c_string : CalX P w K mg base 4 "_read_string" (spString C CT)) (c_number : CalX P w K mg base 4 "_read_number" (spNumber C CT)) : FnOk P w K mg base (L2.CX P w) 5 f fd ["scanner"] (spStep C CT) := by
  refine F.okX sc__read_step (fun vs H Q E h => ?_) (fun cdv A outer st H vs Q E hr h => ?_)
  · obtain ⟨a, dx, z, p, rfl, _⟩ := h
    rfl
  · obtain ⟨a, dx, z, p, rfl, ha, hp, hz, hpl, kb, k⟩ := h
    refine ⟨_, (pss_cons (ps_if (pt_val (pe_c c_ahead hr (by decide) (by rfl) (pa_cons (pv 0) (pa_cons pe_str pa_nil))))
      (pss_one (ps_ret (pe_cX (takes_of rfl rfl rfl rfl) c_string hr (by decide) (by rfl) (pa_cons (pv 0) pa_nil))))
      pss_nil)
      (pss_one (ps_ret (pe_cX (takes_of rfl rfl rfl rfl) c_number hr (by decide) (by rfl) (pa_cons (pv 0) (pa_cons (pe_glob (v := .str "0123456789") (by rfl) gD ⟨_, rfl⟩) pa_nil)))))), ?_⟩
    refine use_seq ?_
    refine ⟨_, rfl, a, dx, z, "\"", p, rfl, ha, hp, hz, _, rfl, ?_⟩
    by_cases c34 : (TL.tl z)[p]? = some 34
    · have ah : aheadB z p "\"" = true := by
        unfold aheadB
        rw [c34]
        decide
      rw [ah]
      refine ifT rfl ?_
      refine ⟨_, rfl, a, dx, z, p, rfl, ha, hp, hz, c34, hpl, fun j q => ?_, fun u n q H' m h => ?_⟩
      · have z1 := kb (j + 1) (by rw [drop_at c34, stepP_quote, q])
        rw [show p + (j + 1) = p + 1 + j from by omega] at z1
        exact z1
      · refine k (.str ⟨u.toArray⟩) (n + 1) (by rw [drop_at c34, stepP_quote, q]) H' m ?_
        rw [show p + (n + 1) = p + 1 + n from by omega]
        exact h
    · have ah : aheadB z p "\"" = false := by
        unfold aheadB
        cases e : (TL.tl z)[p]? with
        | none => rfl
        | some c =>
          refine decide_eq_false fun h => ?_
          have h : c ∈ [34] := h
          rw [List.mem_singleton.mp h] at e
          exact c34 e
      have hst : stepP ((TL.tl z).drop p) = (match numP ((TL.tl z).drop p) with
          | none => .inl 0
          | some n => .inr (numV (((TL.tl z).drop p).take n), n)) := by
        cases e : (TL.tl z)[p]? with
        | none =>
          rw [drop_end e]
          rfl
        | some c =>
          rw [drop_at e]
          exact stepP_num fun h => c34 (by rw [e, h])
      rw [ah]
      refine ifF rfl ?_
      refine use_next ?_
      dsimp only
      refine ⟨_, rfl, a, dx, z, p, rfl, ha, hp, hz, fun q => ?_, fun n q => ?_⟩
      · exact kb 0 (by rw [hst, q])
      · exact k _ n (by rw [hst, q]) _ (Mv.upd a H _) upd_same
end
end Q75


/-! a path read -/
namespace Q75
open PySem PySem.Spec PyProof.Rows L2 QT
theorem same_mv {a : Addr} {H H1 H2 : Hp} (n : H a = none) (s : Same H H1) (m : Mv a H1 H2) : Same H H2 := fun b o e => m b o (ne_of_none e n) (s b o e)
theorem none_same {H H1 : Hp} {l : Addr} (s : Same H H1) (n : H1 l = none) : H l = none := by
  cases e : H l with
  | none => rfl
  | some o => rw [s l o e] at n; cases n
theorem outM_of {a CT : Addr} {H H1 : Hp} {E : XK} {i : Nat} (n : H a = none) (s : Same H H1) (k : outB CT H E i) : outM a CT H1 E i := fun H' d m e => k H' d (same_mv n s m) e
theorem path46 {l : List Nat} (h : l[0]? = some 46) : pathP l = (if l.length = 1 then .inr [] else .inl 1) := by
  unfold pathP
  rw [if_pos (by rw [List.head?_eq_getElem?]; exact h)]
theorem pathN {l : List Nat} (h : ¬ l[0]? = some 46) : pathP l = startP l := by
  unfold pathP
  rw [if_neg (by rw [List.head?_eq_getElem?]; exact h)]
/-- side conditions; and the plain steps of a reading -/
local macro_rules | `(tactic| walk_at "sd") => `(tactic| first
  | assumption | decide | omega | exact b64 b01 | (show (0 : Int) < _; first | decide | omega) | exact ⟨by decide, by decide, by decide⟩ | exact ⟨by decide, by decide⟩ | exact ⟨by omega, by omega⟩
  | exact .inl ⟨by omega, by omega⟩ | exact .inr ⟨by omega, by omega⟩ | exact sz (by simp) | exact szl (by simp))
local macro_rules | `(tactic| walk_at "rd") => `(tactic| repeat (first
  | refine ⟨_, rfl, ?_⟩
  | refine ⟨_, _, rfl, rfl, ?_⟩
  | refine ⟨_, _, _, _, rfl, rfl, SqL.of (by first | assumption | exact upd_same), rfl, ?_⟩
  | refine .inl ⟨_, rfl, ?_⟩
  | refine .inr ⟨_, rfl, ?_⟩
  | refine ⟨_, _, _, _, rfl, rfl, (by first | assumption | exact upd_same), rfl, ?_⟩
  | refine And.intro (by walk_at "sd") ?_))
section
variable {P : Program} {w : World} {K : PySem.W.Frag} {mg : Str → Option Value} {base : Heap} {f : Addr} {fd : FuncData}
abbrev s_read_path : Stmt := top 16
theorem sc_read_path : FnScope ["text", "scanner", "steps"] ["text"] (defScope s_read_path) := ⟨rfl, rfl, rfl, by decide +kernel, rfl, by decide +kernel, by decide +kernel⟩
theorem ok_read_path {C CT fS : Addr} {fdS : FuncData} (F : Fun K "read_path" "read_path" s_read_path f fd) (T : Txt K mg) (S : ScC K C) (M : Mk K C fS) (mgS : mg "Scanner" = some (.ref C)) (bSI : Binds K fdS ["self", "text"] [])
    (c_scI : FnOk P w K mg base CX0 1 fS fdS ["self", "text"] (spScI C)) (c_ahead : Cal P w K mg base 1 "_is_ahead" (spAhead C)) (c_take : CalX P w K mg base 3 "_take" (spTake C CT))
    (c_take_end : CalX P w K mg base 3 "_take_end" (spTakeEnd C CT)) (c_step : CalX P w K mg base 5 "_read_step" (spStep C CT)) : FnOk P w K mg base (L2.CX P w) 6 f fd ["text"] (spPath CT) := by
  refine F.okX sc_read_path (fun vs H Q E h => ?_) (fun cdv A outer st H vs Q E hr h => ?_)
  · obtain ⟨z, rfl, _⟩ := h
    rfl
  · obtain ⟨z, rfl, hz, hpl, kb, k⟩ := h
    have hzl : z.length ≤ sizeLine := Nat.le_trans hz (by decide)
    have zl := TL.len_tl z
    refine ⟨_, (pss_cons (ps_set (i := 1) sc_read_path.nd rfl (Or.inl rfl) (pe_make M c_scI (hr.mono (by decide)) (by rfl) mgS bSI .nil pass0 (pa_cons (pv 0) pa_nil)))
      (pss_cons (ps_if (pt_val (pe_c c_ahead hr (by decide) (by rfl) (pa_cons (pv 1) (pa_cons pe_str pa_nil))))
      (pss_cons (ps_fldaug (pv 1) pe_int in_add)
        (pss_cons (ps_expr (pe_cX (takes_of rfl rfl rfl rfl) c_take_end hr (by decide) (by rfl) (pa_cons (pv 1) pa_nil)))
        (pss_one (ps_ret (pe_tup pa_nil)))))
      pss_nil)
      (pss_cons (ps_set (i := 2) sc_read_path.nd rfl (Or.inl rfl) (pe_lst (pa_cons (pe_cX (takes_of rfl rfl rfl rfl) c_step hr (by decide) (by rfl) (pa_cons (pv 1) pa_nil)) pa_nil)))
      (pss_cons (ps_while (passes_of rfl) (pt_cmpR op_lt (pe_fld (pv 1) rfl) (pe_callB call_len_str (by rfl) T.z_len PySem.boot_len (pa_cons (pv 0) pa_nil)) (nomark _))
      (pss_cons (ps_expr (pe_cX (takes_of rfl rfl rfl rfl) c_take hr (by decide) (by rfl) (pa_cons (pv 1) (pa_cons pe_str pa_nil))))
        (pss_one (ps_expr (pe_bm PySem.F.plainAttrs_list PySem.F.slot_list_append PySem.F.type_list_append mt_append (pv 2) (pa_cons (pe_cX (takes_of rfl rfl rfl rfl) c_step hr (by decide) (by rfl) (pa_cons (pv 1) pa_nil)) pa_nil))))))
      (pss_one (ps_ret (pe_callTy call_tuple_of (by rfl) T.z_tuple (by decide +kernel) (pa_cons (pv 2) pa_nil)))))))), ?_⟩
    refine use_seq ?_
    refine ⟨_, rfl, fun a dx na nd ne => ?_⟩
    refine ⟨a, dx, z, rfl, upd_same, rfl, ?_⟩
    rw [upd_upd]
    have s1 : Same H (upd (upd H dx (.own a)) a (scO C dx z 0)) := (same_new nd).trans (same_new (by rw [upd_ne ne.symm]; exact na))
    have hs1 := upd_same (H := upd H dx (.own a)) (a := a) (o := scO C dx z 0)
    generalize upd (upd H dx (.own a)) a (scO C dx z 0) = H1 at s1 hs1 ⊢
    dsimp only
    refine use_seq ?_
    refine ⟨_, rfl, a, dx, z, ".", 0, rfl, hs1, Nat.zero_le _, hz, _, rfl, ?_⟩
    by_cases c46 : (TL.tl z)[0]? = some 46
    · have ah : aheadB z 0 "." = true := by
        unfold aheadB
        rw [c46]
        decide
      have h0 := (List.getElem?_eq_some_iff.mp c46).1
      rw [ah]
      refine ifT rfl ?_
      refine use_seq ?_
      refine ⟨_, rfl, a, C, dx, _, _, rfl, hs1, S.cl, S.np, lk_place, _, _, rfl, rfl, dx, _, hs1, (by show 2 < 1000; decide), ?_⟩
      rw [put_place]
      have s2 : Same H (upd H1 a (scO C dx z (0 + 1))) := same_mv na s1 (Mv.upd a H1 _)
      refine use_seq ?_
      refine ⟨_, rfl, a, dx, z, 0 + 1, rfl, upd_same, by omega, hz, fun q => ?_, fun q => ?_⟩
      · exact outB_same (kb 1 (by rw [path46 c46, if_neg (by omega)])) s2
      · refine ⟨by decide, fun l nl => k [] (by rw [path46 c46, if_pos (by omega)]) _ l (s2.trans (same_new nl)) ?_ upd_same⟩
        exact none_same s2 nl
    · have ah : aheadB z 0 "." = false := by
        unfold aheadB
        cases e : (TL.tl z)[0]? with
        | none => rfl
        | some c =>
          refine decide_eq_false fun h => ?_
          have h : c ∈ [46] := h
          rw [List.mem_singleton.mp h] at e
          exact c46 e
      rw [ah]
      refine ifF rfl ?_
      refine use_next ?_
      dsimp only
      have hst := pathN c46
      rw [startP_eq] at hst
      refine use_seq ?_
      refine ⟨_, rfl, a, dx, z, 0, rfl, hs1, Nat.zero_le _, hz, hpl, fun j q => ?_, fun v n q H2 m2 h2 => ?_⟩
      · have q : stepP (TL.tl z) = .inl j := q
        rw [show 0 + j = j from by omega]
        exact outM_of na s1 (kb j (by rw [hst, q]))
      have q : stepP (TL.tl z) = .inr (v, n) := q
      have s2 := same_mv na s1 m2
      have hn := stepP_le q
      rw [show 0 + n = n from by omega] at h2
      rw [q] at hst
      dsimp only at hst
      refine ⟨sz (by simp), fun L nL => ?_⟩
      have nLa : L ≠ a := fun z => by rw [z, h2] at nL; cases nL
      have nLH := none_same s2 nL
      dsimp only
      refine use_seq ?_
      refine ⟨fun m σ H' => ∃ (p : Nat) (vs : List V), m = z.length - p ∧ σ = [some (.str z), some (.ref a), some (.ref L)] ∧ Same H H' ∧ H' a = some (scO C dx z p) ∧ H' L = some (.lst vs) ∧ p ≤ z.length ∧ vs.length ≤ p ∧ pathP (TL.tl z) = more p vs (restP ((TL.tl z).drop p)),
        ⟨_, n, [v], rfl, rfl, s2.trans (same_new nL), ?_, upd_same, by omega, hn.2, hst⟩, ?_⟩
      · rw [upd_ne nLa.symm]
        exact h2
      rintro m σ H' ⟨p, vs, rfl, rfl, sH, ha, hL, hp, hv, hpp⟩
      refine ⟨_, rfl, a, C, dx, _, _, rfl, ha, S.cl, S.np, lk_place, _, rfl, z, rfl, hzl, _, _, rfl, rfl, _, rfl, ?_⟩
      by_cases c : p < z.length
      · refine ifT (decide_eq_true (by omega)) ?_
        refine ⟨fun σ' H2 => ∃ (p2 : Nat) (vs2 : List V), p < p2 ∧ σ' = [some (.str z), some (.ref a), some (.ref L)] ∧ Same H H2 ∧ H2 a = some (scO C dx z p2) ∧ H2 L = some (.lst vs2) ∧ p2 ≤ z.length ∧ vs2.length ≤ p2 ∧ pathP (TL.tl z) = more p2 vs2 (restP ((TL.tl z).drop p2)),
          fun σ' H2 ⟨p2, vs2, l2, x1, x2, x3, x4, x5, x6, x7⟩ => ⟨_, by omega, p2, vs2, rfl, x1, x2, x3, x4, x5, x6, x7⟩, ?_⟩
        refine use_seq ?_
        refine ⟨_, rfl, a, dx, z, "/", p, rfl, ha, hp, hz, fun q => ?_, fun d e hd => ?_⟩
        · refine outB_same (kb p ?_) sH
          obtain ⟨d, e⟩ : ∃ d, (TL.tl z)[p]? = some d := ⟨_, List.getElem?_eq_getElem (by omega)⟩
          rw [hpp, drop_at e, restP_other]
          · show Sum.inl (0 + p) = _
            rw [Nat.zero_add]
          · intro h
            unfold aheadB at q
            rw [e, h] at q
            exact absurd q (by decide)
        have hd : d ∈ [47] := hd
        obtain rfl := List.mem_singleton.mp hd
        rw [drop_at e, restP_slash, more_more, startP_eq] at hpp
        have s3 := same_mv na sH (Mv.upd a H' (scO C dx z (p + 1)))
        have ha3 := upd_same (H := H') (a := a) (o := scO C dx z (p + 1))
        have hL3 : upd H' a (scO C dx z (p + 1)) L = some (.lst vs) := by
          rw [upd_ne nLa]
          exact hL
        generalize upd H' a (scO C dx z (p + 1)) = H3 at s3 ha3 hL3 ⊢
        refine ⟨_, rfl, .inl ⟨rfl, _, SqL.of hL3⟩, _, rfl, a, dx, z, p + 1, rfl, ha3, by omega, hz, hpl, fun j q => ?_, fun u n2 q H4 m4 h4 => ?_⟩
        · refine outM_of na s3 (kb (p + 1 + j) ?_)
          rw [hpp, q]
          show Sum.inl (j + (p + 1)) = _
          rw [Nat.add_comm]
        · have hn2 := stepP_le q
          rw [List.length_drop] at hn2
          rw [q] at hpp
          dsimp only at hpp
          rw [more_more, List.drop_drop] at hpp
          have hL4 := m4 L _ nLa hL3
          refine ⟨L, _, _, rfl, rfl, hL4, szl (by omega), ?_⟩
          refine ⟨p + 1 + n2, vs ++ [u], by omega, rfl, (fun b o e => ?_), ?_, upd_same, by omega, by rw [List.length_append, List.length_singleton]; omega, ?_⟩
          · rw [upd_ne (ne_of_none e nLH)]
            exact same_mv na s3 m4 b o e
          · rw [upd_ne nLa.symm]
            exact h4
          · rw [hpp]
            simp
      · refine ifF (decide_eq_false (by omega)) ?_
        refine ⟨_, rfl, L, vs, rfl, .inl ⟨SqL.of hL, fun l nl => ?_⟩⟩
        refine k vs ?_ _ l (sH.trans (same_new nl)) (none_same sH nl) upd_same
        rw [hpp, List.drop_eq_nil_of_le (by omega), restP_nil]
        show Sum.inr (vs ++ []) = _
        rw [List.append_nil]
end
end Q75


/-! a path written -/
namespace Q75
open PySem PySem.Spec PyProof.Rows L2 QT
/-- a written text before what wants a token out -/
theorem pe_litrep {X : Cx} {op : Operator} {r : R2} {b : Expr} {tb : TE} {c : Str} {j : Nat} {cp pos : Pos} (ho : OpR X (binaryOp op) r) (hb : PET X b tb) : PE X (.BinOp (.Constant (.str c) j cp) op b pos) (tOp r (tC (.str c)) tb) := by
  refine ⟨fun pins s σ H Q I h => ?_⟩
  refine wpAny_BinOp (Calls.Constant_str ?_)
  exact thn (hb pins { s with toks := s.toks + 1 } σ H _ (by show 1 ≤ s.toks + 1; omega) (I.tok _) h) fun u s2 ⟨y, H2, I2, r2, q2⟩ => ho pins s2 σ H2 (.str c) y (.str c s.toks) u _ I2 ⟨_, rfl⟩ r2 q2
def escT (s : Str) : Str := Txt.replace (Txt.replace s "\\" "\\\\") "\"" "\\\""
def qS (s : Str) : Str := ("\"" : Str) ++ escT s ++ ("\"" : Str)
def stepS : V → Str
  | .str s => qS s
  | .int i => toString i
  | _ => ""
def Step (v : V) : Prop := (∃ s : Str, v = .str s ∧ s.length ≤ 1000 ∧ ∀ c ∈ TL.tl s, c < 128) ∨ ∃ i : Int, v = .int i ∧ 0 ≤ i ∧ i < 100000000000000000000
def wrS (xs : List V) : Str := if xs = [] then "." else Txt.join "/" (xs.map stepS)
theorem esc1_len {s : Str} (h : s.length ≤ 1000) : (Txt.replace s "\\" "\\\\").length ≤ 3002 := by
  have z := TK.replace_len s "\\" "\\\\"
  have e : (Str.ofString "\\\\").length = 2 := by decide
  rw [e] at z
  omega
theorem esc_len {s : Str} (h : s.length ≤ 1000) : (escT s).length ≤ 9008 := by
  have z := TK.replace_len (Txt.replace s "\\" "\\\\") "\"" "\\\""
  have z1 := esc1_len h
  have e : (Str.ofString "\\\"").length = 2 := by decide
  rw [e] at z
  unfold escT
  omega
theorem str_app_len (a b : Str) : (a ++ b).length = a.length + b.length := by
  rw [TL.len_tl, TL.len_tl, TL.len_tl, TL.tl_append, List.length_append]
theorem qS_len {s : Str} (h : s.length ≤ 1000) : (qS s).length ≤ 9010 := by
  have e := esc_len h
  have q : (Str.ofString "\"").length = 1 := by decide
  unfold qS
  rw [str_app_len, str_app_len, q]
  omega
theorem stepS_len {v : V} (h : Step v) : (stepS v).length ≤ 9010 := by
  rcases h with ⟨s, rfl, h, _⟩ | ⟨i, rfl, h0, h1⟩
  · exact qS_len h
  · exact Nat.le_trans (PyProof.Rows.toString_length_le h0 (k := 20) (by decide) h1) (by decide)
theorem sum_le {l : List Str} {b : Nat} (h : ∀ x ∈ l, x.length ≤ b) : (l.map (·.length)).sum ≤ l.length * b := by
  induction l with
  | nil => simp
  | cons x r ih =>
    have h1 := h x (List.mem_cons_self ..)
    have h2 := ih fun y hy => h y (List.mem_cons_of_mem _ hy)
    rw [List.map_cons, List.sum_cons, List.length_cons, Nat.add_mul]
    omega
theorem join_room {xs : List V} (h : ∀ v ∈ xs, Step v) (hl : xs.length ≤ 1000) : ((xs.map stepS).map (·.length)).sum + (xs.map stepS).length * (Str.ofString "/").length ≤ 16777216 := by
  have z := sum_le (l := xs.map stepS) (b := 9010) fun x hx => by
    obtain ⟨v, hv, rfl⟩ := List.mem_map.mp hx
    exact stepS_len (h v hv)
  rw [List.length_map] at z ⊢
  have q : (Str.ofString "/").length = 1 := by decide
  rw [q]
  omega
theorem num_small {i : Int} (h0 : 0 ≤ i) (h1 : i < 100000000000000000000) : i.natAbs.log2 < 1920 := by
  have h : i.natAbs < 2 ^ 67 := by
    have : (2 : Nat) ^ 67 = 147573952589676412928 := by decide
    omega
  by_cases z : i.natAbs = 0
  · rw [z]
    decide
  · have := (Nat.log2_lt z).mpr h
    omega
def escL : List Nat → List Nat
  | [] => []
  | c :: r => if c = 92 then 92 :: 92 :: escL r else if c = 34 then 92 :: 34 :: escL r else c :: escL r
def esc1 : List Nat → List Nat
  | [] => []
  | c :: r => if c = 92 then 92 :: 92 :: esc1 r else c :: esc1 r
theorem esc1_repl : ∀ l : List Nat, PySem.StrLaws.replL [92] [92, 92] l = esc1 l
  | [] => PySem.StrLaws.replL_nil
  | c :: r => by
    by_cases h : c = 92
    · subst h
      rw [PySem.StrLaws.replL_hit (by simp) (by simp)]
      show [92, 92] ++ PySem.StrLaws.replL [92] [92, 92] r = _
      rw [esc1_repl r]
      rfl
    · rw [PySem.StrLaws.replL_miss (by simp [h]), esc1_repl r]
      show _ = (if c = 92 then _ else _)
      rw [if_neg h]
theorem esc2_repl : ∀ l : List Nat, PySem.StrLaws.replL [34] [92, 34] (esc1 l) = escL l
  | [] => PySem.StrLaws.replL_nil
  | c :: r => by
    by_cases h : c = 92
    · subst h
      show PySem.StrLaws.replL [34] [92, 34] (92 :: 92 :: esc1 r) = 92 :: 92 :: escL r
      rw [PySem.StrLaws.replL_miss (by simp), PySem.StrLaws.replL_miss (by simp), esc2_repl r]
    · have e1 : esc1 (c :: r) = c :: esc1 r := by
        show (if c = 92 then _ else _) = _
        rw [if_neg h]
      rw [e1]
      by_cases h2 : c = 34
      · subst h2
        rw [PySem.StrLaws.replL_hit (by simp) (by simp)]
        show [92, 34] ++ PySem.StrLaws.replL [34] [92, 34] (esc1 r) = _
        rw [esc2_repl r]
        rfl
      · rw [PySem.StrLaws.replL_miss (by simp [h2]), esc2_repl r]
        show _ = (if c = 92 then _ else if c = 34 then _ else _)
        rw [if_neg h, if_neg h2]
theorem tl_esc (s : Str) : TL.tl (escT s) = escL (TL.tl s) := by
  have e1 := PySem.StrLaws.replace_list (x := s) (y := "\\") (z := "\\\\") (by decide)
  have e2 := PySem.StrLaws.replace_list (x := Txt.replace s "\\" "\\\\") (y := "\"") (z := "\\\"") (by decide)
  show (Txt.replace _ _ _).cps.toList = _
  rw [e2, e1]
  show PySem.StrLaws.replL [34] [92, 34] (PySem.StrLaws.replL [92] [92, 92] (TL.tl s)) = _
  rw [esc1_repl, esc2_repl]
theorem tl_qS (s : Str) : TL.tl (qS s) = 34 :: (escL (TL.tl s) ++ [34]) := by
  unfold qS
  rw [TL.tl_append, TL.tl_append, tl_esc]
  rfl
theorem escL_lt : ∀ {l : List Nat}, (∀ c ∈ l, c < 128) → ∀ c ∈ escL l, c < 128
  | [], _, c, h => by cases h
  | d :: r, hd, c, h => by
    have ih := escL_lt (l := r) fun x hx => hd x (List.mem_cons_of_mem _ hx)
    have h : c ∈ (if d = 92 then 92 :: 92 :: escL r else if d = 34 then 92 :: 34 :: escL r else d :: escL r) := h
    split at h
    · simp only [List.mem_cons] at h
      rcases h with rfl | rfl | h
      · decide
      · decide
      · exact ih c h
    · split at h
      · simp only [List.mem_cons] at h
        rcases h with rfl | rfl | h
        · decide
        · decide
        · exact ih c h
      · rcases List.mem_cons.mp h with rfl | h
        · exact hd c (List.mem_cons_self ..)
        · exact ih c h
theorem stepS_lt {v : V} (h : Step v) : ∀ c ∈ TL.tl (stepS v), c < 128 := by
  rcases h with ⟨s, rfl, _, h⟩ | ⟨i, rfl, h0, h1⟩
  · intro c hc
    rw [show stepS (.str s) = qS s from rfl, tl_qS] at hc
    rcases List.mem_cons.mp hc with rfl | hc
    · decide
    · rcases List.mem_append.mp hc with hc | hc
      · exact escL_lt h c hc
      · rw [List.mem_singleton.mp hc]
        decide
  · obtain ⟨n, rfl⟩ := Int.eq_ofNat_of_zero_le h0
    intro c hc
    have hc : c ∈ TL.tl (Str.ofString (toString ((n : Nat) : Int))) := hc
    rw [TL.tl_num] at hc
    have := TL.numL_digits n c hc
    omega
theorem strOk_lt {z : Str} (h : ∀ c ∈ TL.tl z, c < 128) : PyData.strOk z = true := by
  show z.cps.all _ = true
  rw [← Array.all_toList, List.all_eq_true]
  intro c hc
  have := h c hc
  exact decide_eq_true (by omega)
theorem dp_strs {K : PySem.W.Frag} {H : Hp} : ∀ ws : List Str, DpAll K H (ws.map V.str) (ws.map PyData.str)
  | [] => .nil
  | n :: r => .cons (.str n) (dp_strs r)
theorem can_strs : ∀ ws : List Str, (∀ z ∈ ws, PyData.strOk z = true) → PyData.canLayAll0 (ws.map PyData.str) = true
  | [], _ => rfl
  | z :: r, h => by
    show (PyData.strOk z && PyData.canLayAll0 (r.map PyData.str)) = true
    rw [can_strs r fun y hy => h y (List.mem_cons_of_mem _ hy), h z (List.mem_cons_self ..)]
    rfl
theorem dep_strs : ∀ ws : List Str, PyData.depthAll (ws.map PyData.str) = 0
  | [] => rfl
  | n :: r => by
    show max 0 (PyData.depthAll (r.map PyData.str)) = 0
    rw [dep_strs r]
    rfl
theorem sh_strs {ws : List Str} (h : ∀ z ∈ ws, PyData.strOk z = true) : SeqAt.shaped (.list (ws.map PyData.str)) = true := by
  show (PyData.canLayAll0 (ws.map PyData.str) && decide (PyData.depthAll (ws.map PyData.str) + 1 ≤ 64)) = true
  rw [can_strs ws h, dep_strs]
  rfl
theorem eqv_nil {ws : List Str} : PyData.eqv (.list (ws.map PyData.str)) (.list []) = decide (ws = []) := by
  cases ws with
  | nil => rfl
  | cons z r => rfl
def spQuoted : Sp := fun vs H Q _ => ∃ s : Str, vs = [.str s] ∧ s.length ≤ 1000 ∧ Q (.str (qS s)) H
def spLWritten (K : PySem.W.Frag) : Sp := fun vs H Q _ => ∃ (a : Addr) (xs : List V), vs = [.ref a] ∧ SqT K H a xs ∧ (∀ v ∈ xs, Step v) ∧ xs.length ≤ 1000 ∧ ∀ H', Same H H' → Q (.str (wrS xs)) H'
def spPathText (K : PySem.W.Frag) : Sp := fun vs H Q _ => ∃ (a : Addr) (xs : List V), vs = [.ref a] ∧ (SqL K H a xs ∨ SqT K H a xs) ∧ (∀ v ∈ xs, Step v) ∧ xs.length ≤ 1000 ∧ ∀ H', Same H H' → Q (.str (wrS xs)) H'
theorem seqT_same {K : PySem.W.Frag} {H H' : Hp} {a : Addr} {xs : List V} (h : SqT K H a xs) (e : Same H H') : SqT K H' a xs := by
  rcases h with (h | ⟨o, h⟩) | h
  · exact .inl (.inl (e _ _ h))
  · exact .inl (.inr ⟨o, e _ _ h⟩)
  · exact .inr h
theorem take_map {α β : Type} {f : α → β} {xs : List α} {i : Nat} {x : α} (h : xs[i]? = some x) : (xs.take (i + 1)).map f = (xs.take i).map f ++ [f x] := by
  rw [List.take_succ, h, List.map_append]
  rfl
/-- side conditions; and the plain steps of a reading -/
local macro_rules | `(tactic| walk_at "sd") => `(tactic| first
  | assumption | decide | omega | exact b64 b01 | (show (0 : Int) < _; first | decide | omega) | exact ⟨by decide, by decide, by decide⟩ | exact ⟨by decide, by decide⟩ | exact ⟨by omega, by omega⟩
  | exact .inl ⟨by omega, by omega⟩ | exact .inr ⟨by omega, by omega⟩ | exact sz (by simp) | exact szl (by simp))
local macro_rules | `(tactic| walk_at "rd") => `(tactic| repeat (first
  | refine ⟨_, rfl, ?_⟩
  | refine ⟨_, _, rfl, rfl, ?_⟩
  | refine ⟨_, _, _, _, rfl, rfl, SqL.of (by first | assumption | exact upd_same), rfl, ?_⟩
  | refine .inl ⟨_, rfl, ?_⟩
  | refine .inr ⟨_, rfl, ?_⟩
  | refine ⟨_, _, _, _, rfl, rfl, (by first | assumption | exact upd_same), rfl, ?_⟩
  | refine And.intro (by walk_at "sd") ?_))
section
variable {P : Program} {w : World} {K : PySem.W.Frag} {mg : Str → Option Value} {base : Heap} {f : Addr} {fd : FuncData}
abbrev s__quoted : Stmt := top 7
theorem sc__quoted : FnScope ["text"] ["text"] (defScope s__quoted) := ⟨rfl, rfl, rfl, by decide +kernel, rfl, by decide +kernel, by decide +kernel⟩
theorem ok_quoted (F : Fun K "_quoted" "_quoted" s__quoted f fd) : FnOk P w K mg base CX0 1 f fd ["text"] spQuoted := by
  refine F.ok sc__quoted (fun vs H Q E h => ?_) (fun cdv A outer st H vs Q E hr h => ?_)
  · obtain ⟨s, rfl, _⟩ := h
    rfl
  · obtain ⟨s, rfl, hs, k⟩ := h
    refine ⟨_, (pss_one (ps_ret (pe_op op_add_str (pe_litrep op_add_str (CwR.pet_replT (CwR.pet_replC (pv 0)))) pe_str))), ?_⟩
    have e1 := esc1_len hs
    have e2 := esc_len hs
    refine ⟨_, rfl, s, rfl, (by show s.length + (s.length + 1) * 2 ≤ _; omega), _, rfl, (by show _ + (_ + 1) * 2 ≤ _; omega), ?_⟩
    refine ⟨_, _, rfl, rfl, sz (by show 1 + (escT s).length ≤ _; omega), _, _, rfl, rfl, sz (by rw [str_app_len]; show 1 + (escT s).length + 1 ≤ _; omega), k⟩
abbrev s_path_text : Stmt := top 14
theorem sc_path_text : FnScope ["path", "step"] ["path"] (defScope s_path_text) := ⟨rfl, rfl, rfl, by decide +kernel, rfl, by decide +kernel, by decide +kernel⟩
theorem ok_path_text (F : Fun K "path_text" "path_text" s_path_text f fd) (T : Txt K mg) (c_quoted : Cal P w K mg base 1 "_quoted" spQuoted) : FnOk P w K mg base CX0 2 f fd ["path"] (spPathText K) := by
  refine F.ok sc_path_text (fun vs H Q E h => ?_) (fun cdv A outer st H vs Q E hr h => ?_)
  · obtain ⟨a, xs, rfl, _⟩ := h
    rfl
  · obtain ⟨a, xs, rfl, hs, hp, hl, k⟩ := h
    rcases hs with hs | hs
    · refine ⟨_, (pss_cons (ps_if (pt_cmpR op_eq (pe_callB call_len_seq (by rfl) T.z_len PySem.boot_len (pa_cons (pv 0) pa_nil)) pe_int (nomark _))
      (pss_one (ps_ret pe_str))
      pss_nil)
      (pss_one (ps_ret (pe_join pe_str (pe_lc (own := [("step", 1)]) (g := (gName 1)) rfl sc_path_text.nd (pi_list (pv 0)) (blkOk_by (N := ["path", "step"]) (sc := defScope s_path_text) (by decide +kernel)) (fun _ _ _ _ _ => (pg_name (i := 1) sc_path_text.nd rfl (Or.inl rfl))) (fun _ _ _ _ _ => pts_nil) (fun _ _ _ _ _ => (pe_ifExp (pt_val (pe_callB (id := "isinstance") (r := rIsi K) call_isi (by rfl) T.z_isinstance (by decide +kernel) (pa_cons (pv 1) (pa_cons (pe_bltn (v := .ty "str") (u := .type "str") (by rfl) T.z_str (by decide +kernel) rfl) pa_nil)))) (pe_c c_quoted hr (by decide) (by rfl) (pa_cons (pv 1) pa_nil)) (pe_callTy call_str_int (by rfl) T.z_str (by decide +kernel) (pa_cons (pv 1) pa_nil))))))))), ?_⟩
      refine use_seq ?_
      refine ⟨_, rfl, _, _, rfl, .inl hs, rfl, _, rfl, ?_⟩
      by_cases e : xs = []
      · refine ifT (by subst e; rfl) ?_
        have q := k H fun b o z => z
        unfold wrS at q
        rw [if_pos e] at q
        exact q
      · have e0 : xs.length ≠ 0 := fun z => e (List.eq_nil_of_length_eq_zero z)
        refine ifF (decide_eq_false fun z => e0 (by injection z with z; omega)) ?_
        refine use_next ?_
        refine ⟨⟨_, rfl⟩, ?_⟩
        refine ⟨_, rfl, a, rfl, ⟨_, hs⟩, fun D nD => ?_⟩
        refine lc_it (walk_list (K := K) (a := a) (xs := xs)) (fun i H' => Same H H' ∧ H' D = some (.lst (((xs.take i).map stepS).map V.str))) ⟨same_new nD, upd_same⟩ (fun _ _ _ ⟨sm, _⟩ => sm.seq hs) ?_ ?_
        · rintro i x W1 W2 li ⟨sm, hD⟩ ⟨rfl, hx⟩
          have hst := hp x (List.mem_of_getElem? hx)
          refine ⟨rfl, ?_⟩
          have fin : ∀ b o, H b = some o → upd W2 D (.lst (((xs.take i).map stepS).map V.str ++ [V.str (stepS x)])) b = some o := fun b o e => by
            rw [upd_ne (ne_of_none e nD)]
            exact sm b o e
          have fin2 : upd W2 D (.lst (((xs.take i).map stepS).map V.str ++ [V.str (stepS x)])) D = some (.lst (((xs.take (i + 1)).map stepS).map V.str)) := by
            rw [upd_same, take_map hx, List.map_append]
            rfl
          rcases hst with ⟨s, rfl, hz, _⟩ | ⟨n, rfl, h0, h1⟩
          · refine ⟨_, rfl, _, _, _, _, true, rfl, .ty "str", .base (.str _), rfl, _, rfl, ?_⟩
            exact ⟨_, rfl, s, rfl, hz, _, hD, szl (by simp; omega), fin, fin2⟩
          · refine ⟨_, rfl, _, _, _, _, false, rfl, .ty "str", .base (.int _), rfl, _, rfl, ?_⟩
            exact ⟨_, rfl, n, rfl, num_small h0 h1, _, hD, szl (by simp; omega), fin, fin2⟩
        · rintro W ⟨sm, hD⟩
          rw [List.take_length] at hD
          refine ⟨_, D, xs.map stepS, rfl, rfl, .inl (SqL.of hD), join_room hp hl, ?_⟩
          have q := k W sm
          unfold wrS at q
          rw [if_neg e] at q
          exact q
    · refine ⟨_, (pss_cons (ps_if (pt_cmpR op_eq (pe_callB call_len_seq (by rfl) T.z_len PySem.boot_len (pa_cons (pv 0) pa_nil)) pe_int (nomark _))
      (pss_one (ps_ret pe_str))
      pss_nil)
      (pss_one (ps_ret (pe_join pe_str (pe_lc (own := [("step", 1)]) (g := (gName 1)) rfl sc_path_text.nd (pi_tup (pv 0)) (blkOk_by (N := ["path", "step"]) (sc := defScope s_path_text) (by decide +kernel)) (fun _ _ _ _ _ => (pg_name (i := 1) sc_path_text.nd rfl (Or.inl rfl))) (fun _ _ _ _ _ => pts_nil) (fun _ _ _ _ _ => (pe_ifExp (pt_val (pe_callB (id := "isinstance") (r := rIsi K) call_isi (by rfl) T.z_isinstance (by decide +kernel) (pa_cons (pv 1) (pa_cons (pe_bltn (v := .ty "str") (u := .type "str") (by rfl) T.z_str (by decide +kernel) rfl) pa_nil)))) (pe_c c_quoted hr (by decide) (by rfl) (pa_cons (pv 1) pa_nil)) (pe_callTy call_str_int (by rfl) T.z_str (by decide +kernel) (pa_cons (pv 1) pa_nil))))))))), ?_⟩
      refine use_seq ?_
      refine ⟨_, rfl, _, _, rfl, .inr hs, rfl, _, rfl, ?_⟩
      by_cases e : xs = []
      · refine ifT (by subst e; rfl) ?_
        have q := k H fun b o z => z
        unfold wrS at q
        rw [if_pos e] at q
        exact q
      · have e0 : xs.length ≠ 0 := fun z => e (List.eq_nil_of_length_eq_zero z)
        refine ifF (decide_eq_false fun z => e0 (by injection z with z; omega)) ?_
        refine use_next ?_
        refine ⟨⟨_, rfl⟩, ?_⟩
        refine ⟨_, rfl, a, rfl, ⟨_, hs⟩, fun D nD => ?_⟩
        refine lc_it (walk_tup (K := K) (a := a) (xs := xs)) (fun i H' => Same H H' ∧ H' D = some (.lst (((xs.take i).map stepS).map V.str))) ⟨same_new nD, upd_same⟩ (fun _ _ _ ⟨sm, _⟩ => seqT_same hs sm) ?_ ?_
        · rintro i x W1 W2 li ⟨sm, hD⟩ ⟨rfl, hx⟩
          have hst := hp x (List.mem_of_getElem? hx)
          refine ⟨rfl, ?_⟩
          have fin : ∀ b o, H b = some o → upd W2 D (.lst (((xs.take i).map stepS).map V.str ++ [V.str (stepS x)])) b = some o := fun b o e => by
            rw [upd_ne (ne_of_none e nD)]
            exact sm b o e
          have fin2 : upd W2 D (.lst (((xs.take i).map stepS).map V.str ++ [V.str (stepS x)])) D = some (.lst (((xs.take (i + 1)).map stepS).map V.str)) := by
            rw [upd_same, take_map hx, List.map_append]
            rfl
          rcases hst with ⟨s, rfl, hz, _⟩ | ⟨n, rfl, h0, h1⟩
          · refine ⟨_, rfl, _, _, _, _, true, rfl, .ty "str", .base (.str _), rfl, _, rfl, ?_⟩
            exact ⟨_, rfl, s, rfl, hz, _, hD, szl (by simp; omega), fin, fin2⟩
          · refine ⟨_, rfl, _, _, _, _, false, rfl, .ty "str", .base (.int _), rfl, _, rfl, ?_⟩
            exact ⟨_, rfl, n, rfl, num_small h0 h1, _, hD, szl (by simp; omega), fin, fin2⟩
        · rintro W ⟨sm, hD⟩
          rw [List.take_length] at hD
          refine ⟨_, D, xs.map stepS, rfl, rfl, .inl (SqL.of hD), join_room hp hl, ?_⟩
          have q := k W sm
          unfold wrS at q
          rw [if_neg e] at q
          exact q
abbrev s__law_written : Stmt := top 23
theorem sc__law_written : FnScope ["_law_way_here", "_law_found", "_law_one"] ["_law_way_here"] (defScope s__law_written) := ⟨rfl, rfl, rfl, by decide +kernel, rfl, by decide +kernel, by decide +kernel⟩
theorem ok_law_written (F : Fun K "_law_written" "_law_written" s__law_written f fd) (T : Txt K mg) : FnOk P w K mg base CX0 2 f fd ["_law_way_here"] (spLWritten K) := by
  refine F.ok sc__law_written (fun vs H Q E h => ?_) (fun cdv A outer st H vs Q E hr h => ?_)
  · obtain ⟨a, xs, rfl, _⟩ := h
    rfl
  · obtain ⟨a, xs, rfl, hs, hp, hl, k⟩ := h
    refine ⟨_, (pss_cons (ps_set (i := 1) sc__law_written.nd rfl (Or.inl rfl) (pe_lst pa_nil))
      (pss_cons (ps_for PassesOwn.never rfl (pi_tup (pv 0)) (pg_name (i := 2) sc__law_written.nd rfl (Or.inl rfl))
      (pss_one (ps_if (pt_val (pe_callB (id := "isinstance") (r := rIsi K) call_isi (by rfl) T.z_isinstance (by decide +kernel) (pa_cons (pv 2) (pa_cons (pe_bltn (v := .ty "str") (u := .type "str") (by rfl) T.z_str (by decide +kernel) rfl) pa_nil))))
        (pss_one (ps_expr (pe_bm PySem.F.plainAttrs_list PySem.F.slot_list_append PySem.F.type_list_append mt_append (pv 1) (pa_cons (pe_op op_add_str (pe_litrep op_add_str (CwR.pet_replT (CwR.pet_replC (pv 2)))) pe_str) pa_nil))))
        (pss_one (ps_expr (pe_bm PySem.F.plainAttrs_list PySem.F.slot_list_append PySem.F.type_list_append mt_append (pv 1) (pa_cons (pe_callTy call_str_int (by rfl) T.z_str (by decide +kernel) (pa_cons (pv 2) pa_nil)) pa_nil)))))))
      (pss_one (ps_ret (pe_ifExp (pt_cmpR (op_neD hr.units) (pv 1) (pe_lst pa_nil) (nomark _)) (pe_join pe_str (pv 1)) pe_str))))), ?_⟩
    refine use_seq ?_
    refine ⟨by decide, fun L nL => ?_⟩
    dsimp only
    refine use_seq ?_
    refine ⟨_, rfl, a, rfl, ⟨_, seqT_same hs (same_new nL)⟩, ?_⟩
    refine for_it (walk_tup (K := K) (a := a) (xs := xs)) (fun i σ H' => ∃ o : Option V, σ = [some (.ref a), some (.ref L), o] ∧ Same H H' ∧ H' L = some (.lst (((xs.take i).map stepS).map V.str))) ⟨none, rfl, same_new nL, upd_same⟩ (fun _ _ _ _ ⟨_, _, sm, _⟩ => seqT_same hs sm) ?_ ?_
    · rintro i x σ L0 L1 li ⟨o, rfl, sm, hD⟩ ⟨rfl, hx⟩
      have hst := hp x (List.mem_of_getElem? hx)
      have fin : ∀ b o, H b = some o → upd L1 L (.lst (((xs.take i).map stepS).map V.str ++ [V.str (stepS x)])) b = some o := fun b o e => by
        rw [upd_ne (ne_of_none e nL)]
        exact sm b o e
      have fin2 : upd L1 L (.lst (((xs.take i).map stepS).map V.str ++ [V.str (stepS x)])) L = some (.lst (((xs.take (i + 1)).map stepS).map V.str)) := by
        rw [upd_same, take_map hx, List.map_append]
        rfl
      have hlen : (((xs.take i).map stepS).map V.str).length < sizeLine := szl (by simp; omega)
      dsimp only
      rcases hst with ⟨s, rfl, hz, _⟩ | ⟨n, rfl, h0, h1⟩
      · refine ⟨_, rfl, _, _, _, _, true, rfl, .ty "str", .base (.str _), rfl, _, rfl, ?_⟩
        have e1 := esc1_len hz
        have e2 := esc_len hz
        refine ⟨_, rfl, .inl ⟨rfl, _, SqL.of hD⟩, _, rfl, s, rfl, (by show s.length + (s.length + 1) * 2 ≤ _; omega), _, rfl, (by show _ + (_ + 1) * 2 ≤ _; omega), ?_⟩
        refine ⟨_, _, rfl, rfl, sz (by show 1 + (escT s).length ≤ _; omega), _, _, rfl, rfl, sz (by rw [str_app_len]; show 1 + (escT s).length + 1 ≤ _; omega), ?_⟩
        exact ⟨L, _, _, rfl, rfl, hD, hlen, _, rfl, fin, fin2⟩
      · refine ⟨_, rfl, _, _, _, _, false, rfl, .ty "str", .base (.int _), rfl, _, rfl, ?_⟩
        exact ⟨_, rfl, .inl ⟨rfl, _, SqL.of hD⟩, _, rfl, n, rfl, num_small h0 h1, L, _, _, rfl, rfl, hD, hlen, _, rfl, fin, fin2⟩
    · rintro σ W ⟨o, rfl, sm, hD⟩
      rw [List.take_length] at hD
      have ok : ∀ z ∈ xs.map stepS, PyData.strOk z = true := fun z hz => by
        obtain ⟨v, hv, rfl⟩ := List.mem_map.mp hz
        exact strOk_lt (stepS_lt (hp v hv))
      dsimp only
      refine ⟨_, rfl, by decide, fun N nN => ?_⟩
      have hD2 := same_new nN (o := .lst []) _ _ hD
      have s2 := sm.trans (same_new nN (o := .lst []))
      refine ⟨_, _, .lst (SqL.of hD2) (dp_strs _), .lst (SqL.of upd_same) .nil, sh_strs ok, rfl, _, rfl, ?_⟩
      rw [eqv_nil]
      have q := k _ s2
      unfold wrS at q
      by_cases e : xs = []
      · rw [if_pos e] at q
        rw [decide_eq_true (by rw [e]; rfl)]
        exact q
      · rw [if_neg e] at q
        rw [decide_eq_false fun z => e (List.map_eq_nil_iff.mp z)]
        exact ⟨⟨_, rfl⟩, _, rfl, _, L, xs.map stepS, rfl, rfl, .inl (SqL.of hD2), join_room hp hl, q⟩
end
end Q75


/-! keys and ways drawn -/
namespace Q75
open PySem PySem.Spec PyProof.Rows L2 QT
def kS : Str := "abz AZ09~!\"\\/'.,:[]{}-_"
def KeyOk (z : Str) : Prop := z.length ≤ 7 ∧ ∀ c ∈ TL.tl z, c ∈ TL.tl kS
def StepK (v : V) : Prop := (∃ z : Str, v = .str z ∧ KeyOk z) ∨ ∃ n : Nat, v = .int (n : Int) ∧ n < 100000000000000000000
theorem kS_lt : ∀ c ∈ TL.tl kS, c < 128 := by decide +kernel
theorem StepK.step {v : V} (h : StepK v) : Step v := by
  rcases h with ⟨z, rfl, h⟩ | ⟨n, rfl, h⟩
  · exact .inl ⟨z, rfl, by have := h.1; omega, fun c hc => kS_lt c (h.2 c hc)⟩
  · exact .inr ⟨n, rfl, by omega, by omega⟩
theorem ext_lst {s p : Addr} {H H' : Hp} {xs : List V} (x : Ext s H H') (n : H p = none) (ps : p ≠ s) : Ext s H (upd H' p (.lst xs)) :=
  ⟨fun b o ne e => by rw [upd_ne (ne_of_none e n)]; exact x.keep b o ne e, by
    obtain ⟨a, b, c, d, r⟩ := x.st
    exact ⟨a, b, c, by rw [upd_ne ps.symm]; exact d, r⟩⟩
theorem none_ext {s l : Addr} {H H' : Hp} (x : Ext s H H') (n : H' l = none) : H l = none := by
  cases e : H l with
  | none => rfl
  | some o =>
    have q := x.keep _ _ (x.st.ne n) e
    rw [n] at q
    cases q
structure NewV (C : V → Prop) (s : Addr) (H H' : Hp) (p : Addr) (xs : List V) : Prop where
  ex : Ext s H H'
  np : H p = none
  at_ : H' p = some (.lst xs)
  in_ : ∀ v ∈ xs, C v
theorem mem_ints {v : V} {ms : List Int} (h : v ∈ ms.map V.int) : ∃ m, v = .int m ∧ m ∈ ms := by
  obtain ⟨m, h1, h2⟩ := List.mem_map.mp h
  exact ⟨m, h2.symm, h1⟩
def spKey : Sp := fun vs H Q _ => ∃ s : Addr, vs = [.ref s] ∧ Stt H s ∧ ∀ (H' : Hp) (z : Str), Ext s H H' → KeyOk z → Q (.str z) H'
def spWay : Sp := fun vs H Q _ => ∃ s : Addr, vs = [.ref s] ∧ Stt H s ∧ ∀ (H' : Hp) (t : Addr) (xs : List V), Ext s H H' → H t = none → H' t = some (.tup xs) → xs.length ≤ 6 → (∀ v ∈ xs, StepK v) → Q (.ref t) H'
/-- side conditions; and the plain steps of a reading -/
local macro_rules | `(tactic| walk_at "sd") => `(tactic| first
  | assumption | decide | omega | exact b64 b01 | (show (0 : Int) < _; first | decide | omega) | exact ⟨by decide, by decide, by decide⟩ | exact ⟨by decide, by decide⟩ | exact ⟨by omega, by omega⟩
  | exact .inl ⟨by omega, by omega⟩ | exact .inr ⟨by omega, by omega⟩ | exact sz (by simp) | exact szl (by simp))
local macro_rules | `(tactic| walk_at "rd") => `(tactic| repeat (first
  | refine ⟨_, rfl, ?_⟩
  | refine ⟨_, _, rfl, rfl, ?_⟩
  | refine ⟨_, _, _, _, rfl, rfl, SqL.of (by first | assumption | exact upd_same), rfl, ?_⟩
  | refine .inl ⟨_, rfl, ?_⟩
  | refine .inr ⟨_, rfl, ?_⟩
  | refine ⟨_, _, _, _, rfl, rfl, (by first | assumption | exact upd_same), rfl, ?_⟩
  | refine And.intro (by walk_at "sd") ?_))
section
variable {P : Program} {w : World} {K : PySem.W.Frag} {mg : Str → Option Value} {base : Heap} {f : Addr} {fd : FuncData}
abbrev s__law_key : Stmt := top 21
theorem sc__law_key : FnScope ["_law_source_here", "_law_signs", "_law_many", "_law_k"] ["_law_source_here"] (defScope s__law_key) := ⟨rfl, rfl, rfl, by decide +kernel, rfl, by decide +kernel, by decide +kernel⟩
theorem ok_key (F : Fun K "_law_key" "_law_key" s__law_key f fd) (T : Txt K mg) (c_draw : Cal P w K mg base 1 "_law_draw" spDraw) (c_pick : Cal P w K mg base 2 "_law_pick" (spPick K)) : FnOk P w K mg base CX0 3 f fd ["_law_source_here"] spKey := by
  refine F.ok sc__law_key (fun vs H Q E h => ?_) (fun cdv A outer st H vs Q E hr h => ?_)
  · obtain ⟨s, rfl, _⟩ := h
    rfl
  · obtain ⟨s, rfl, hs, k⟩ := h
    refine ⟨_, (pss_cons (ps_set (i := 1) sc__law_key.nd rfl (Or.inr rfl) pe_str)
      (pss_cons (ps_set (i := 2) sc__law_key.nd rfl (Or.inl rfl) (pe_c c_pick hr (by decide) (by rfl) (pa_cons (pv 0) (pa_cons (pe_lst (pa_cons pe_int (pa_cons pe_int (pa_cons pe_int (pa_cons pe_int (pa_cons pe_int (pa_cons pe_int pa_nil))))))) pa_nil))))
      (pss_one (ps_ret (pe_join pe_str (pe_lc (own := [("_law_k", 3)]) (g := (gName 3)) rfl sc__law_key.nd (pi_range1 (by rfl) T.z_range (pa_cons (pv 2) pa_nil)) (blkOk_by (N := ["_law_source_here", "_law_signs", "_law_many", "_law_k"]) (sc := defScope s__law_key) (by decide +kernel)) (fun _ _ _ _ _ => (pg_name (i := 3) sc__law_key.nd rfl (Or.inl rfl))) (fun _ _ _ _ _ => pts_nil) (fun _ _ _ _ _ => (pe_ix ix_str (pv 1) (pe_c c_draw hr (by decide) (by rfl) (pa_cons (pv 0) (pa_cons (pe_callB call_len_str (by rfl) T.z_len PySem.boot_len (pa_cons (pv 1) pa_nil)) pa_nil))) (fun _ _ => rfl))))))))), ?_⟩
    refine use_seq ?_
    dsimp only
    refine use_seq ?_
    refine ⟨_, rfl, by decide, fun p np => ?_⟩
    have nps : p ≠ s := hs.ne np
    refine ⟨s, p, [0, 1, 1, 2, 3, 7].map V.int, rfl, hs.ex (same_new np), nps, SqL.of upd_same, by decide, by decide, fun H1 v x1 hv => ?_⟩
    obtain ⟨m, rfl, hm⟩ := mem_ints hv
    have hm7 : 0 ≤ m ∧ m ≤ 7 := by
      simp only [List.mem_cons, List.mem_nil_iff, or_false] at hm
      rcases hm with rfl | rfl | rfl | rfl | rfl | rfl <;> decide
    have x0 := Ext.trans (.of (same_new np) hs) x1
    dsimp only
    refine ⟨⟨_, rfl⟩, ?_⟩
    refine ⟨_, rfl, m, rfl, by omega, by omega, fun D nD => ?_⟩
    have nDs : D ≠ s := x1.st.ne nD
    refine lc_it walk_range (fun i H' => ∃ ws : List Nat, NewV (fun _ => True) s H1 H' D ((ws.map sgn).map V.str) ∧ ws.length = i ∧ ∀ c ∈ ws, c ∈ TL.tl kS) ⟨[], ⟨ext_lst (Ext.refl x1.st) nD nDs, nD, upd_same, fun _ _ => trivial⟩, rfl, fun m hm => absurd hm (by simp)⟩ (fun _ _ _ _ => trivial) ?_ ?_
    · rintro i x W1 W2 li ⟨ws, h, hl, hw⟩ ⟨rfl, rfl⟩
      refine ⟨rfl, _, rfl, ?_⟩
      refine ⟨_, rfl, _, rfl, kS, rfl, by decide, s, _, rfl, h.ex.st, by decide, by decide, fun H4 d y1 d0 d1 => ?_⟩
      obtain ⟨j, rfl⟩ := Int.eq_ofNat_of_zero_le d0
      have d1 : (j : Int) < ((kS.length : Nat) : Int) := d1
      have hj : j < (TL.tl kS).length := by
        rw [← TL.len_tl]
        omega
      refine ⟨kS, (j : Int), (TL.tl kS)[j], rfl, rfl, by decide, at_ixN (List.getElem?_eq_getElem hj), ?_⟩
      refine ⟨_, y1.keep _ _ nDs h.at_, szl (by simp; omega), ws ++ [(TL.tl kS)[j]], ⟨ext_lst (h.ex.trans y1) nD nDs, nD, ?_, fun _ _ => trivial⟩, by rw [List.length_append, hl]; rfl, fun c hc => ?_⟩
      · rw [upd_same, List.map_append, List.map_append]
        rfl
      · rcases List.mem_append.mp hc with hc | hc
        · exact hw c hc
        · rw [List.mem_singleton.mp hc]
          exact List.getElem_mem hj
    · rintro W ⟨ws, h, hl, hw⟩
      refine ⟨_, D, ws.map sgn, rfl, rfl, .inl (SqL.of h.at_), ?_, ?_⟩
      · rw [signs_len]
        show ws.length + (ws.map sgn).length * 0 ≤ 16777216
        omega
      · have q := k W ⟨ws.toArray⟩ (x0.trans h.ex) ⟨by rw [TL.len_tl]; show ws.length ≤ 7; omega, hw⟩
        rw [← join_signs] at q
        exact q
abbrev s__law_way : Stmt := top 22
theorem sc__law_way : FnScope ["_law_source_here", "_law_found", "_law_k", "_law_some"] ["_law_source_here"] (defScope s__law_way) := ⟨rfl, rfl, rfl, by decide +kernel, rfl, by decide +kernel, by decide +kernel⟩
theorem ok_way (F : Fun K "_law_way" "_law_way" s__law_way f fd) (T : Txt K mg) (c_draw : Cal P w K mg base 1 "_law_draw" spDraw) (c_pick : Cal P w K mg base 2 "_law_pick" (spPick K)) (c_key : Cal P w K mg base 3 "_law_key" spKey) : FnOk P w K mg base CX0 4 f fd ["_law_source_here"] spWay := by
  refine F.ok sc__law_way (fun vs H Q E h => ?_) (fun cdv A outer st H vs Q E hr h => ?_)
  · obtain ⟨s, rfl, _⟩ := h
    rfl
  · obtain ⟨s, rfl, hs, k⟩ := h
    refine ⟨_, (pss_cons (ps_set (i := 1) sc__law_way.nd rfl (Or.inl rfl) (pe_lst pa_nil))
      (pss_cons (ps_for PassesOwn.never rfl (pi_range1 (by rfl) T.z_range (pa_cons (pe_c c_pick hr (by decide) (by rfl) (pa_cons (pv 0) (pa_cons (pe_lst (pa_cons pe_int (pa_cons pe_int (pa_cons pe_int (pa_cons pe_int (pa_cons pe_int (pa_cons pe_int pa_nil))))))) pa_nil))) pa_nil)) (pg_name (i := 2) sc__law_way.nd rfl (Or.inl rfl))
      (pss_cons (ps_set (i := 3) sc__law_way.nd rfl (Or.inl rfl) (pe_lst (pa_cons pe_int (pa_cons pe_int (pa_cons pe_int (pa_cons pe_int (pa_cons (pe_op op_pow pe_int pe_int) (pa_cons (pe_op op_sub (pe_op op_pow pe_int pe_int) pe_int) (pa_cons (pe_c c_draw hr (by decide) (by rfl) (pa_cons (pv 0) (pa_cons pe_int pa_nil))) (pa_cons (pe_c c_key hr (by decide) (by rfl) (pa_cons (pv 0) pa_nil)) (pa_cons (pe_c c_key hr (by decide) (by rfl) (pa_cons (pv 0) pa_nil)) pa_nil)))))))))))
        (pss_one (ps_expr (pe_bm PySem.F.plainAttrs_list PySem.F.slot_list_append PySem.F.type_list_append mt_append (pv 1) (pa_cons (pe_c c_pick hr (by decide) (by rfl) (pa_cons (pv 0) (pa_cons (pe_op op_catS (pv 3) (pe_lst (pa_cons (pe_c c_key hr (by decide) (by rfl) (pa_cons (pv 0) pa_nil)) pa_nil))) pa_nil))) pa_nil))))))
      (pss_one (ps_ret (pe_callTy call_tuple_of (by rfl) T.z_tuple (by decide +kernel) (pa_cons (pv 1) pa_nil)))))), ?_⟩
    refine use_seq ?_
    refine ⟨by decide, fun L nL => ?_⟩
    have nLs : L ≠ s := hs.ne nL
    dsimp only
    refine use_seq ?_
    have x0 : Ext s H (upd H L (.lst [])) := .of (same_new nL) hs
    refine ⟨_, rfl, sz (by simp), fun p np => ?_⟩
    have nps : p ≠ s := x0.st.ne np
    refine ⟨s, p, [0, 1, 1, 2, 3, 6].map V.int, rfl, x0.st.ex (same_new np), nps, SqL.of upd_same, by decide, by decide, fun H1 v x1 hv => ?_⟩
    obtain ⟨m, rfl, hm⟩ := mem_ints hv
    have hm7 : 0 ≤ m ∧ m ≤ 6 := by
      simp only [List.mem_cons, List.mem_nil_iff, or_false] at hm
      rcases hm with rfl | rfl | rfl | rfl | rfl | rfl <;> decide
    have x2 := (x0.new np (o := .lst ([0, 1, 1, 2, 3, 6].map V.int))).trans x1
    have hL1 : H1 L = some (.lst []) := x1.keep _ _ nLs (same_new np _ _ upd_same)
    refine ⟨m, rfl, by omega, by omega, ?_⟩
    refine for_it walk_range (fun i σ H' => ∃ (o2 o3 : Option V) (xs : List V), σ = [some (.ref s), some (.ref L), o2, o3] ∧ NewV StepK s H H' L xs ∧ xs.length = i)
      ⟨none, none, [], rfl, ⟨x2, nL, hL1, fun _ h => absurd h (by simp)⟩, rfl⟩ (fun _ _ _ _ _ => trivial) ?_ ?_
    · rintro i x σ L0 W li ⟨o2, o3, xs, rfl, h, hl⟩ ⟨rfl, rfl⟩
      dsimp only
      refine use_seq ?_
      refine ⟨_, _, rfl, rfl, ⟨by decide, by decide, by decide⟩, _, _, rfl, rfl, ⟨by decide, by decide, by decide⟩, _, _, rfl, rfl, ?_⟩
      refine ⟨_, rfl, s, _, rfl, h.ex.st, by decide, by decide, fun H4 d y1 d0 d1 => ?_⟩
      refine ⟨_, rfl, s, rfl, y1.st, fun H5 z1 y2 k1 => ?_⟩
      refine ⟨_, rfl, s, rfl, y2.st, fun H6 z2 y3 k2 => ?_⟩
      refine ⟨sz (by simp), fun l nl => ?_⟩
      have y6 := (y1.trans y2).trans y3
      have nls : l ≠ s := y6.st.ne nl
      have y7 := y6.new nl (o := .lst [.int 0, .int 1, .int 7, .int 10, .int (10 ^ (19 : Int).toNat), .int (10 ^ (20 : Int).toNat - 1), .int d, .str z1, .str z2])
      have hL6 : ∀ {W' : Hp}, Ext s W W' → W' L = some (.lst xs) := fun y => y.keep _ _ nLs h.at_
      dsimp only
      refine ⟨_, rfl, .inl ⟨rfl, _, SqL.of (hL6 y7)⟩, ?_⟩
      refine ⟨_, rfl, _, rfl, _, rfl, s, rfl, y7.st, fun H7 z3 y8 k3 => ?_⟩
      have hl7 := y8.keep _ _ nls upd_same
      refine ⟨sz (by simp), fun l2 nl2 => ?_⟩
      have n2s : l2 ≠ s := y8.st.ne nl2
      have y9 := (y7.trans y8).new nl2 (o := .lst [.str z3])
      refine ⟨l, l2, _, _, rfl, rfl, SqL.of (same_new nl2 _ _ hl7), SqL.of upd_same, sz (by simp), fun l3 nl3 => ?_⟩
      have n3s : l3 ≠ s := y9.st.ne nl3
      have y10 := y9.new nl3 (o := .lst ([.int 0, .int 1, .int 7, .int 10, .int (10 ^ (19 : Int).toNat), .int (10 ^ (20 : Int).toNat - 1), .int d, .str z1, .str z2] ++ [.str z3]))
      refine ⟨s, l3, _, rfl, y10.st, n3s, SqL.of upd_same, by simp, by simp, fun H8 v y11 hv => ?_⟩
      have y12 := y10.trans y11
      have hv2 : StepK v := by
        simp only [List.mem_cons, List.mem_append, List.mem_nil_iff, or_false] at hv
        rcases hv with (rfl | rfl | rfl | rfl | rfl | rfl | rfl | rfl | rfl) | rfl
        · exact .inr ⟨0, rfl, by decide⟩
        · exact .inr ⟨1, rfl, by decide⟩
        · exact .inr ⟨7, rfl, by decide⟩
        · exact .inr ⟨10, rfl, by decide⟩
        · exact .inr ⟨10000000000000000000, rfl, by decide⟩
        · exact .inr ⟨99999999999999999999, rfl, by decide⟩
        · obtain ⟨j, rfl⟩ := Int.eq_ofNat_of_zero_le d0
          exact .inr ⟨j, rfl, by omega⟩
        · exact .inl ⟨_, rfl, k1⟩
        · exact .inl ⟨_, rfl, k2⟩
        · exact .inl ⟨_, rfl, k3⟩
      refine ⟨L, _, _, rfl, rfl, hL6 y12, szl (by omega), ?_⟩
      refine ⟨_, _, xs ++ [v], rfl, ⟨ext_lst (h.ex.trans y12) nL nLs, nL, upd_same, fun u hu => ?_⟩, by rw [List.length_append, hl]; rfl⟩
      rcases List.mem_append.mp hu with hu | hu
      · exact h.in_ u hu
      · rw [List.mem_singleton.mp hu]
        exact hv2
    · rintro σ W ⟨o2, o3, xs, rfl, h, hl⟩
      refine ⟨_, rfl, L, xs, rfl, .inl ⟨SqL.of h.at_, fun l nl => ?_⟩⟩
      refine k _ l xs (h.ex.new nl) ?_ upd_same (by omega) h.in_
      exact none_ext h.ex nl
end
end Q75


/-! what the law finds itself -/
namespace Q75
open PySem PySem.Spec PyProof.Rows L2 QT
theorem at1_is (z : Str) (p : Nat) {w : Str} {c : Nat} (hw : w = ⟨#[c]⟩) : decide (V.str (at1 z p) = V.str w) = decide ((TL.tl z)[p]? = some c) := by
  subst hw
  unfold at1
  cases e : (TL.tl z)[p]? with
  | none =>
    rw [decide_eq_false, decide_eq_false]
    · intro h
      cases h
    · intro h
      injection h with h
      have h2 := congrArg (fun x : Str => x.cps.size) h
      cases h2
  | some d =>
    by_cases h : d = c
    · subst h
      rw [decide_eq_true rfl, decide_eq_true rfl]
    · rw [decide_eq_false, decide_eq_false]
      · intro q
        exact h (Option.some.inj q)
      · intro q
        injection q with q
        have h2 := congrArg (fun x : Str => x.cps.toList) q
        have h3 : [d] = [c] := h2
        injection h3 with h3 _
        exact h h3
/-- a fresh pair -/
theorem app_sgn (u : List Nat) (d : Nat) : ((⟨u.toArray⟩ : Str) ++ (⟨#[d]⟩ : Str)) = ⟨(u ++ [d]).toArray⟩ := by
  apply TL.ext_tl
  rw [TL.tl_append]
theorem dig_in (c : Nat) : decide (c ∈ (Str.ofString "0123456789").cps.toList) = dig c := by
  have h := aheadD ⟨#[c]⟩ 0
  exact h
theorem runP_nil (k : Nat) : runP k [] = 0 := by
  cases k <;> rfl
theorem inV_q (z : Str) (q : Nat) : (!inV (V.str (at1 z q)) [V.str "\"", V.str "\\"]) = (match (TL.tl z)[q]? with
    | some d => !decide (d = 34 ∨ d = 92)
    | none => true) := by
  have e1 := at1_is z q (w := "\"") (c := 34) (by decide)
  have e2 := at1_is z q (w := "\\") (c := 92) (by decide)
  have f : ∀ (x y : Str), (x == y) = decide (V.str y = V.str x) := fun x y => by
    by_cases h : x = y
    · subst h
      simp
    · have n : ¬ V.str y = V.str x := fun e => by
        injection e with e
        exact h e.symm
      rw [decide_eq_false n]
      exact beq_eq_false_iff_ne.mpr h
  show (!(((Str.ofString "\"") == at1 z q) || (((Str.ofString "\\") == at1 z q) || false))) = _
  rw [f, f, e1, e2]
  cases (TL.tl z)[q]? with
  | none => rfl
  | some d =>
    by_cases a : d = 34
    · subst a
      decide
    · by_cases b : d = 92
      · subst b
        decide
      · simp [a, b]
def Pr (Q : VK) (H : Hp) (x y : V) : Prop := ∀ (H' : Hp) (t : Addr), Same H H' → H t = none → H' t = some (.tup [x, y]) → Q (.ref t) H'
def spKeyEnd : Sp := fun vs H Q _ => ∃ (z : Str) (p : Nat), vs = [.str z, .int (p : Int)] ∧ z.length ≤ 5000 ∧ (TL.tl z)[p]? = some 34 ∧
  (∀ j, strP ((TL.tl z).drop (p + 1)) = .inl j → Pr Q H (.int (-1)) (.int ((p + 1 + j : Nat) : Int))) ∧
  ∀ u n, strP ((TL.tl z).drop (p + 1)) = .inr (u, n) → Pr Q H (.int ((p + 1 + n : Nat) : Int)) (.str ⟨u.toArray⟩)
def spPlaceEnd : Sp := fun vs H Q _ => ∃ (z : Str) (p : Nat), vs = [.str z, .int (p : Int)] ∧ p ≤ z.length ∧ z.length ≤ 5000 ∧
  (numP ((TL.tl z).drop p) = none → Pr Q H (.int (-1)) (.int (p : Int))) ∧
  ∀ n, numP ((TL.tl z).drop p) = some n → (∀ c, (TL.tl z)[p + n]? = some c → dig c = true → Pr Q H (.int (-1)) (.int ((p + n : Nat) : Int))) ∧
    ((∀ c, (TL.tl z)[p + n]? = some c → dig c = false) → Pr Q H (.int ((p + n : Nat) : Int)) (numV (((TL.tl z).drop p).take n)))
/-- side conditions; and the plain steps of a reading -/
local macro_rules | `(tactic| walk_at "sd") => `(tactic| first
  | assumption | decide | omega | exact b64 b01 | (show (0 : Int) < _; first | decide | omega) | exact ⟨by decide, by decide, by decide⟩ | exact ⟨by decide, by decide⟩ | exact ⟨by omega, by omega⟩
  | exact .inl ⟨by omega, by omega⟩ | exact .inr ⟨by omega, by omega⟩ | exact sz (by simp) | exact szl (by simp))
local macro_rules | `(tactic| walk_at "rd") => `(tactic| repeat (first
  | refine ⟨_, rfl, ?_⟩
  | refine ⟨_, _, rfl, rfl, ?_⟩
  | refine ⟨_, _, _, _, rfl, rfl, SqL.of (by first | assumption | exact upd_same), rfl, ?_⟩
  | refine .inl ⟨_, rfl, ?_⟩
  | refine .inr ⟨_, rfl, ?_⟩
  | refine ⟨_, _, _, _, rfl, rfl, (by first | assumption | exact upd_same), rfl, ?_⟩
  | refine And.intro (by walk_at "sd") ?_))
section
variable {P : Program} {w : World} {K : PySem.W.Frag} {mg : Str → Option Value} {base : Heap} {f : Addr} {fd : FuncData}
abbrev s__law_key_end : Stmt := top 24
theorem sc__law_key_end : FnScope ["_law_word", "_law_at", "_law_found"] ["_law_word", "_law_at"] (defScope s__law_key_end) := ⟨rfl, rfl, rfl, by decide +kernel, rfl, by decide +kernel, by decide +kernel⟩
theorem ok_key_end (F : Fun K "_law_key_end" "_law_key_end" s__law_key_end f fd) (T : Txt K mg) : FnOk P w K mg base CX0 1 f fd ["_law_word", "_law_at"] spKeyEnd := by
  refine F.ok sc__law_key_end (fun vs H Q E h => ?_) (fun cdv A outer st H vs Q E hr h => ?_)
  · obtain ⟨z, p, rfl, _⟩ := h
    rfl
  · obtain ⟨z, p, rfl, hz, h34, kb, k⟩ := h
    have hzl : z.length ≤ sizeLine := Nat.le_trans hz (by decide)
    have zl := TL.len_tl z
    have hp := (List.getElem?_eq_some_iff.mp h34).1
    refine ⟨_, (pss_cons (ps_set (i := 1) sc__law_key_end.nd rfl (Or.inl rfl) (pe_op op_add (pv 1) pe_int))
      (pss_cons (ps_set (i := 2) sc__law_key_end.nd rfl (Or.inl rfl) pe_str)
      (pss_cons (ps_while PassesOwn.never (pt_cmpR op_ne (pe_slice C8.sl_txt (pv 0) (po_some (pv 1)) (po_some (pe_op op_add (pv 1) pe_int))) pe_str (nomark _))
      (pss_cons (ps_if (pt_cmpR op_eq (pe_slice C8.sl_txt (pv 0) (po_some (pv 1)) (po_some (pe_op op_add (pv 1) pe_int))) pe_str (nomark _))
        (pss_cons (ps_set (i := 1) sc__law_key_end.nd rfl (Or.inl rfl) (pe_op op_add (pv 1) pe_int))
          (pss_one (ps_if (pt_cmpR op_notIn_seq (pe_slice C8.sl_txt (pv 0) (po_some (pv 1)) (po_some (pe_op op_add (pv 1) pe_int))) (pe_lst (pa_cons pe_str (pa_cons pe_str pa_nil))) (by with_unfolding_all rfl))
          (pss_one (ps_ret (pe_tup (pa_cons (pe_un un_neg pe_int) (pa_cons (pv 1) pa_nil)))))
          pss_nil)))
        pss_nil)
        (pss_cons (ps_if (pt_cmpR op_eq (pv 1) (pe_callB call_len_str (by rfl) T.z_len PySem.boot_len (pa_cons (pv 0) pa_nil)) (nomark _))
        (pss_one (ps_ret (pe_tup (pa_cons (pe_un un_neg pe_int) (pa_cons (pv 1) pa_nil)))))
        pss_nil)
        (pss_cons (ps_set (i := 2) sc__law_key_end.nd rfl (Or.inl rfl) (pe_op op_add_str (pv 2) (pe_ix ix_str (pv 0) (pv 1) (fun _ _ => rfl))))
        (pss_one (ps_set (i := 1) sc__law_key_end.nd rfl (Or.inl rfl) (pe_op op_add (pv 1) pe_int)))))))
      (pss_one (ps_ret (pe_tup (pa_cons (pe_op op_add (pv 1) pe_int) (pa_cons (pv 2) pa_nil)))))))), ?_⟩
    refine use_seq ?_
    refine ⟨_, rfl, _, _, rfl, rfl, ?_⟩
    dsimp only
    refine use_seq ?_
    dsimp only
    refine use_seq ?_
    refine ⟨fun m σ H' => ∃ (j : Nat) (u : List Nat), m = z.length - (p + 1 + j) ∧ σ = [some (.str z), some (.int ((p + 1 + j : Nat) : Int)), some (.str ⟨u.toArray⟩)] ∧ Same H H' ∧ p + 1 + j ≤ z.length ∧ u.length ≤ j ∧ strP ((TL.tl z).drop (p + 1)) = comb j u (strP ((TL.tl z).drop (p + 1 + j))),
      ⟨_, 0, [], rfl, rfl, fun _ _ e => e, by omega, Nat.le_refl _, ?_⟩, ?_⟩
    · cases strP ((TL.tl z).drop (p + 1 + 0)) with
      | inl i => rfl
      | inr y => rfl
    rintro m σ H' ⟨j, u, rfl, rfl, sm, hj, hu, hstr⟩
    have cut := cut1 z (p + 1 + j) hj
    refine ⟨_, rfl, _, rfl, _, rfl, _, rfl, _, _, rfl, rfl, _, rfl, z, rfl, hzl, ?_⟩
    rw [cut]
    refine ⟨rfl, _, rfl, ?_⟩
    rw [at1_is z (p + 1 + j) (c := 34) (by decide)]
    cases e : (TL.tl z)[p + 1 + j]? with
    | none =>
      refine ifT (by decide) ?_
      refine ⟨fun _ _ => False, fun _ _ h => h.elim, ?_⟩
      refine use_seq ?_
      refine ⟨_, rfl, _, rfl, _, rfl, _, rfl, _, _, rfl, rfl, _, rfl, z, rfl, hzl, ?_⟩
      rw [cut]
      refine ⟨rfl, _, rfl, ?_⟩
      rw [at1_is z (p + 1 + j) (c := 92) (by decide), e]
      refine ifF (by decide) ?_
      refine use_next ?_
      refine use_seq ?_
      refine ⟨_, rfl, _, rfl, z, rfl, hzl, rfl, _, rfl, ?_⟩
      have hlen : (TL.tl z).length ≤ p + 1 + j := List.getElem?_eq_none_iff.mp e
      refine ifT (decide_eq_true ?_) ?_
      · rw [show p + 1 + j = z.length from by omega]
      refine ⟨_, rfl, _, rfl, sz (by simp), fun t nt => ?_⟩
      refine kb j ?_ _ t (sm.trans (same_new nt)) (none_same sm nt) upd_same
      rw [hstr, drop_end e]
      show Sum.inl (0 + j) = _
      rw [Nat.zero_add]
    | some c =>
      have hq := (List.getElem?_eq_some_iff.mp e).1
      by_cases c34 : c = 34
      · subst c34
        refine ifF (by decide) ?_
        refine ⟨_, rfl, _, _, rfl, rfl, _, rfl, sz (by simp), fun t nt => ?_⟩
        have hf : strP ((TL.tl z).drop (p + 1)) = .inr (u, 1 + j) := by
          rw [hstr, drop_at e, strP_end]
          show Sum.inr (u ++ [], 1 + j) = _
          rw [List.append_nil]
        have q := k u (1 + j) hf
        rw [show p + 1 + (1 + j) = p + 1 + j + 1 from by omega] at q
        exact q _ t (sm.trans (same_new nt)) (none_same sm nt) upd_same
      · refine ifT (by simp [c34]) ?_
        refine ⟨fun σ' H2 => ∃ (j2 : Nat) (u2 : List Nat), j < j2 ∧ σ' = [some (.str z), some (.int ((p + 1 + j2 : Nat) : Int)), some (.str ⟨u2.toArray⟩)] ∧ Same H H2 ∧ p + 1 + j2 ≤ z.length ∧ u2.length ≤ j2 ∧ strP ((TL.tl z).drop (p + 1)) = comb j2 u2 (strP ((TL.tl z).drop (p + 1 + j2))),
          fun σ' H2 ⟨j2, u2, l2, x1, x2, x3, x4, x5⟩ => ⟨_, by omega, j2, u2, rfl, x1, x2, x3, x4, x5⟩, ?_⟩
        refine use_seq ?_
        refine ⟨_, rfl, _, rfl, _, rfl, _, rfl, _, _, rfl, rfl, _, rfl, z, rfl, hzl, ?_⟩
        rw [cut]
        refine ⟨rfl, _, rfl, ?_⟩
        rw [at1_is z (p + 1 + j) (c := 92) (by decide), e]
        by_cases c92 : c = 92
        · subst c92
          refine ifT (by decide) ?_
          refine use_seq ?_
          refine ⟨_, rfl, _, _, rfl, rfl, ?_⟩
          dsimp only
          have cut2 := cut1 z (p + 1 + j + 1) (by omega)
          refine ⟨_, rfl, _, rfl, _, rfl, _, rfl, _, _, rfl, rfl, _, rfl, z, rfl, hzl, ?_⟩
          have e4 : (((p + 1 + j : Nat)) : Int) + 1 = (((p + 1 + j + 1 : Nat)) : Int) := rfl
          rw [e4, cut2]
          refine ⟨sz (by simp), fun l nl => ?_⟩
          refine ⟨l, _, rfl, .inl (SqL.of upd_same), rfl, rfl, ?_⟩
          replace sm := sm.trans (same_new nl (o := .lst [.str "\"", .str "\\"]))
          generalize upd H' l (.lst [.str "\"", .str "\\"]) = H2 at sm ⊢
          refine ⟨_, rfl, ?_⟩
          have iq := inV_q z (p + 1 + j + 1)
          rw [if_pos rfl, iq]
          cases e2 : (TL.tl z)[p + 1 + j + 1]? with
          | none =>
            refine ifT rfl ?_
            refine ⟨_, rfl, _, rfl, sz (by simp), fun t nt => ?_⟩
            refine kb (j + 1) ?_ _ t (sm.trans (same_new nt)) (none_same sm nt) upd_same
            rw [hstr, drop_at e, drop_end e2]
            show Sum.inl (1 + j) = _
            rw [Nat.add_comm]
          | some d =>
            have hq2 := (List.getElem?_eq_some_iff.mp e2).1
            by_cases hd : d = 34 ∨ d = 92
            · refine ifF (by simp [hd]) ?_
              refine use_next ?_
              refine use_seq ?_
              refine ⟨_, rfl, _, rfl, z, rfl, hzl, rfl, _, rfl, ?_⟩
              refine ifF (decide_eq_false fun q => ?_) ?_
              · injection q with q
                omega
              refine use_next ?_
              refine use_seq ?_
              refine ⟨_, rfl, _, rfl, _, rfl, z, ((p + 1 + (j + 1) : Nat) : Int), d, rfl, rfl, hzl, at_ixN e2, _, _, rfl, rfl, sz (by show u.length + 1 ≤ _; omega), ?_⟩
              dsimp only
              refine ⟨_, rfl, _, _, rfl, rfl, ?_⟩
              rw [app_sgn]
              refine ⟨(j + 1) + 1, u ++ [d], by omega, rfl, sm, by omega, by rw [List.length_append, List.length_singleton]; omega, ?_⟩
              rw [hstr, drop_at e, drop_at e2, strP_esc _ hd, comb_push]
              rfl
            · refine ifT (by simp [hd]) ?_
              refine ⟨_, rfl, _, rfl, sz (by simp), fun t nt => ?_⟩
              refine kb (j + 1) ?_ _ t (sm.trans (same_new nt)) (none_same sm nt) upd_same
              rw [hstr, drop_at e, drop_at e2, strP_bad _ hd]
              show Sum.inl (1 + j) = _
              rw [Nat.add_comm]
        · refine ifF (by simp [c92]) ?_
          refine use_next ?_
          refine use_seq ?_
          refine ⟨_, rfl, _, rfl, z, rfl, hzl, rfl, _, rfl, ?_⟩
          refine ifF (decide_eq_false fun q => ?_) ?_
          · injection q with q
            omega
          refine use_next ?_
          refine use_seq ?_
          refine ⟨_, rfl, _, rfl, _, rfl, z, ((p + 1 + j : Nat) : Int), c, rfl, rfl, hzl, at_ixN e, _, _, rfl, rfl, sz (by show u.length + 1 ≤ _; omega), ?_⟩
          dsimp only
          refine ⟨_, rfl, _, _, rfl, rfl, ?_⟩
          rw [app_sgn]
          refine ⟨j + 1, u ++ [c], by omega, rfl, sm, by omega, by rw [List.length_append, List.length_singleton]; omega, ?_⟩
          rw [hstr, drop_at e, strP_one _ c34 c92, comb_push]
          rfl
abbrev s__law_place_end : Stmt := top 25
theorem sc__law_place_end : FnScope ["_law_word", "_law_at", "_law_end"] ["_law_word", "_law_at"] (defScope s__law_place_end) := ⟨rfl, rfl, rfl, by decide +kernel, rfl, by decide +kernel, by decide +kernel⟩
theorem ok_place_end (F : Fun K "_law_place_end" "_law_place_end" s__law_place_end f fd) (T : Txt K mg) : FnOk P w K mg base CX0 1 f fd ["_law_word", "_law_at"] spPlaceEnd := by
  refine F.ok sc__law_place_end (fun vs H Q E h => ?_) (fun cdv A outer st H vs Q E hr h => ?_)
  · obtain ⟨z, p, rfl, _⟩ := h
    rfl
  · obtain ⟨z, p, rfl, hp, hz, kn, k⟩ := h
    have hzl : z.length ≤ sizeLine := Nat.le_trans hz (by decide)
    have zl := TL.len_tl z
    refine ⟨_, (pss_cons (ps_if (PW.pt (pw_or (pt_cmpR op_eq (pv 1) (pe_callB call_len_str (by rfl) T.z_len PySem.boot_len (pa_cons (pv 0) pa_nil)) (nomark _)) (pw_or1 (pt_cmpR op_notIn_sign (pe_ix ix_str (pv 0) (pv 1) (fun _ _ => rfl)) pe_str (by with_unfolding_all rfl)))))
      (pss_one (ps_ret (pe_tup (pa_cons (pe_un un_neg pe_int) (pa_cons (pv 1) pa_nil)))))
      pss_nil)
      (pss_cons (ps_set (i := 2) sc__law_place_end.nd rfl (Or.inl rfl) (pe_op op_add (pv 1) pe_int))
      (pss_cons (ps_while PassesOwn.never (PW.pt (pw_and (pt_cmpR op_lt (pv 2) (pe_callB call_len_str (by rfl) T.z_len PySem.boot_len (pa_cons (pv 0) pa_nil)) (nomark _)) (pw_and1 (pt_cmpR op_in_sign (pe_ix ix_str (pv 0) (pv 2) (fun _ _ => rfl)) pe_str (by with_unfolding_all rfl)))))
      (pss_cons (ps_if (PW.pt (pw_or (pt_cmpR op_eq (pe_ix ix_str (pv 0) (pv 1) (fun _ _ => rfl)) pe_str (nomark _)) (pw_or1 (pt_cmpR op_eq (pe_op op_sub (pv 2) (pv 1)) pe_int (nomark _)))))
        (pss_one (ps_ret (pe_tup (pa_cons (pe_un un_neg pe_int) (pa_cons (pv 2) pa_nil)))))
        pss_nil)
        (pss_one (ps_set (i := 2) sc__law_place_end.nd rfl (Or.inl rfl) (pe_op op_add (pv 2) pe_int)))))
      (pss_one (ps_ret (pe_tup (pa_cons (pv 2) (pa_cons (pe_callTy call_int_str (by rfl) T.z_int (by decide +kernel) (pa_cons (pe_slice C8.sl_txt (pv 0) (po_some (pv 1)) (po_some (pv 2))) pa_nil)) pa_nil)))))))), ?_⟩
    refine use_seq ?_
    refine ⟨_, rfl, _, rfl, z, rfl, hzl, rfl, _, rfl, ?_⟩
    by_cases c : p = z.length
    · refine ifT (decide_eq_true (by rw [c])) ?_
      refine ⟨_, rfl, _, rfl, sz (by simp), fun t nt => ?_⟩
      refine kn ?_ _ t (same_new nt) nt upd_same
      rw [List.drop_eq_nil_of_le (by omega)]
      rfl
    · refine ifF (decide_eq_false fun q => c (by injection q with q; omega)) ?_
      obtain ⟨c0, e0⟩ : ∃ c0, (TL.tl z)[p]? = some c0 := ⟨_, List.getElem?_eq_getElem (by omega)⟩
      refine ⟨_, rfl, _, rfl, z, (p : Int), c0, rfl, rfl, hzl, at_ixN e0, c0, _, rfl, rfl, _, rfl, ?_⟩
      rw [dig_in]
      cases hd : dig c0 with
      | false =>
        refine ifT rfl ?_
        refine ⟨_, rfl, _, rfl, sz (by simp), fun t nt => ?_⟩
        refine kn ?_ _ t (same_new nt) nt upd_same
        rw [drop_at e0]
        show (if dig c0 = true then _ else none) = none
        rw [if_neg (by rw [hd]; exact Bool.false_ne_true)]
      | true =>
        refine ifF rfl ?_
        refine use_next ?_
        refine use_seq ?_
        refine ⟨_, rfl, _, _, rfl, rfl, ?_⟩
        dsimp only
        refine use_seq ?_
        refine ⟨fun m σ H' => ∃ j : Nat, m = z.length - (p + 1 + j) ∧ σ = [some (.str z), some (.int (p : Int)), some (.int ((p + 1 + j : Nat) : Int))] ∧ Same H H' ∧ j ≤ 19 ∧ p + 1 + j ≤ z.length ∧
            ((c0 = 48 ∧ j = 0 ∧ numP ((TL.tl z).drop p) = some 1) ∨ (c0 ≠ 48 ∧ numP ((TL.tl z).drop p) = some (runP (19 - j) ((TL.tl z).drop (p + 1 + j)) + 1 + j))),
          ⟨_, 0, rfl, rfl, fun _ _ e => e, by decide, by omega, ?_⟩, ?_⟩
        · rw [drop_at e0]
          by_cases c48 : c0 = 48
          · refine .inl ⟨c48, rfl, ?_⟩
            show (if dig c0 = true then (if c0 = 48 then some 1 else _) else none) = _
            rw [if_pos hd, if_pos c48]
          · refine .inr ⟨c48, ?_⟩
            show (if dig c0 = true then (if c0 = 48 then some 1 else some (runP 19 ((TL.tl z).drop (p + 1)) + 1)) else none) = _
            rw [if_pos hd, if_neg c48]
        rintro m σ H' ⟨j, rfl, rfl, sm, hj, hjl, hnum⟩
        have out : runP (19 - j) ((TL.tl z).drop (p + 1 + j)) = 0 → numP ((TL.tl z).drop p) = some (1 + j) := fun r => by
          rcases hnum with ⟨_, rfl, h⟩ | ⟨_, h⟩
          · exact h
          · rw [h, r, Nat.zero_add]
        refine ⟨_, rfl, _, rfl, z, rfl, hzl, _, _, rfl, rfl, _, rfl, ?_⟩
        by_cases c1 : p + 1 + j < z.length
        · refine ifT (decide_eq_true (by omega)) ?_
          obtain ⟨c2, e2⟩ : ∃ c2, (TL.tl z)[p + 1 + j]? = some c2 := ⟨_, List.getElem?_eq_getElem (by omega)⟩
          refine ⟨_, rfl, _, rfl, z, ((p + 1 + j : Nat) : Int), c2, rfl, rfl, hzl, at_ixN e2, c2, _, rfl, rfl, _, rfl, ?_⟩
          rw [dig_in]
          cases hd2 : dig c2 with
          | false =>
            refine ifF rfl ?_
            have hn := out (by
              rw [drop_at e2]
              cases hk : 19 - j with
              | zero => rfl
              | succ k2 =>
                show (if dig c2 = true then _ else 0) = 0
                rw [if_neg (by rw [hd2]; exact Bool.false_ne_true)])
            have nd : ∀ c, (TL.tl z)[p + (1 + j)]? = some c → dig c = false := fun c e => by
              rw [show p + (1 + j) = p + 1 + j from by omega, e2] at e
              cases e
              exact hd2
            refine ⟨_, rfl, _, rfl, _, rfl, _, rfl, _, rfl, _, rfl, z, rfl, hzl, ?_⟩
            rw [cutM z p (p + 1 + j) (by omega) hp, show p + 1 + j - p = 1 + j from by omega]
            obtain ⟨b1, b2, b3, b4⟩ := numP_le hn
            obtain ⟨i, i1, i2⟩ := int_digits b4 (fun e => by
              have := congrArg List.length e
              rw [List.length_take, List.length_nil] at this
              omega) (by rw [List.length_take]; omega)
            refine ⟨_, i, rfl, i1, by rw [len_mk, List.length_take]; omega, sz (by simp), fun t nt => ?_⟩
            have q := (k (1 + j) hn).2 nd
            rw [i2, show p + (1 + j) = p + 1 + j from by omega] at q
            exact q _ t (sm.trans (same_new nt)) (none_same sm nt) upd_same
          | true =>
            refine ifT rfl ?_
            refine ⟨fun σ' H2 => ∃ j2 : Nat, j < j2 ∧ σ' = [some (.str z), some (.int (p : Int)), some (.int ((p + 1 + j2 : Nat) : Int))] ∧ Same H H2 ∧ j2 ≤ 19 ∧ p + 1 + j2 ≤ z.length ∧
                ((c0 = 48 ∧ j2 = 0 ∧ numP ((TL.tl z).drop p) = some 1) ∨ (c0 ≠ 48 ∧ numP ((TL.tl z).drop p) = some (runP (19 - j2) ((TL.tl z).drop (p + 1 + j2)) + 1 + j2))),
              fun σ' H2 ⟨j2, l2, x1, x2, x3, x4, x5⟩ => ⟨_, by omega, j2, rfl, x1, x2, x3, x4, x5⟩, ?_⟩
            refine use_seq ?_
            refine ⟨_, rfl, _, rfl, z, (p : Int), c0, rfl, rfl, hzl, at_ixN e0, rfl, _, rfl, ?_⟩
            rcases hnum with ⟨c48, rfl, hn⟩ | ⟨c48, hn⟩
            · refine ifT (by rw [c48]; decide) ?_
              refine ifT rfl ?_
              refine ⟨_, rfl, _, rfl, sz (by simp), fun t nt => ?_⟩
              exact (k 1 hn).1 c2 e2 hd2 _ t (sm.trans (same_new nt)) (none_same sm nt) upd_same
            · refine ifF (decide_eq_false fun q => ?_) ?_
              · injection q with q
                have h2 := congrArg (fun x : Str => x.cps.toList) q
                have h3 : [c0] = [48] := h2
                injection h3 with h3 _
                exact c48 h3
              refine ⟨_, rfl, _, rfl, _, _, rfl, rfl, rfl, _, rfl, ?_⟩
              by_cases j19 : j = 19
              · subst j19
                refine ifT (decide_eq_true ?_) ?_
                · exact congrArg V.int (by omega : (((p + 1 + 19 : Nat)) : Int) - (p : Int) = 20)
                refine ⟨_, rfl, _, rfl, sz (by simp), fun t nt => ?_⟩
                exact (k 20 (by rw [hn]; rfl)).1 c2 e2 hd2 _ t (sm.trans (same_new nt)) (none_same sm nt) upd_same
              · refine ifF (decide_eq_false fun q => ?_) ?_
                · injection q with q
                  omega
                refine use_next ?_
                refine ⟨_, rfl, _, _, rfl, rfl, ?_⟩
                refine ⟨j + 1, by omega, rfl, sm, by omega, by omega, .inr ⟨c48, ?_⟩⟩
                rw [hn, drop_at e2]
                obtain ⟨k2, hk⟩ : ∃ k2, 19 - j = k2 + 1 := ⟨18 - j, by omega⟩
                rw [hk]
                show some ((if dig c2 = true then _ else 0) + 1 + j) = _
                rw [if_pos hd2, show 19 - (j + 1) = k2 from by omega, show p + 1 + (j + 1) = p + 1 + j + 1 from by omega]
                congr 1
                omega
        · refine ifF (decide_eq_false (by omega)) ?_
          refine ifF rfl ?_
          have e2 : (TL.tl z)[p + 1 + j]? = none := List.getElem?_eq_none_iff.mpr (by omega)
          have hn := out (by rw [drop_end e2, runP_nil])
          have nd : ∀ c, (TL.tl z)[p + (1 + j)]? = some c → dig c = false := fun c e => by
            rw [show p + (1 + j) = p + 1 + j from by omega, e2] at e
            cases e
          refine ⟨_, rfl, _, rfl, _, rfl, _, rfl, _, rfl, _, rfl, z, rfl, hzl, ?_⟩
          rw [cutM z p (p + 1 + j) (by omega) hp, show p + 1 + j - p = 1 + j from by omega]
          obtain ⟨b1, b2, b3, b4⟩ := numP_le hn
          obtain ⟨i, i1, i2⟩ := int_digits b4 (fun e => by
            have := congrArg List.length e
            rw [List.length_take, List.length_nil] at this
            omega) (by rw [List.length_take]; omega)
          refine ⟨_, i, rfl, i1, by rw [len_mk, List.length_take]; omega, sz (by simp), fun t nt => ?_⟩
          have q := (k (1 + j) hn).2 nd
          rw [i2, show p + (1 + j) = p + 1 + j from by omega] at q
          exact q _ t (sm.trans (same_new nt)) (none_same sm nt) upd_same
end
end Q75


/-! what is due -/
namespace Q75
open PySem PySem.Spec PyProof.Rows L2 QT
theorem cut0 (z : Str) : Txt.slice z none (some 1) = at1 z 0 := by
  have e : Txt.slice z none (some 1) = Txt.slice z (some ((0 : Nat) : Int)) (some (((0 : Nat) : Int) + 1)) := by
    unfold Txt.slice
    rfl
  rw [e, cut1 z 0 (Nat.zero_le _)]
theorem dot_is (z : Str) : decide (V.str z = V.str ".") = decide (TL.tl z = [46]) := by
  by_cases h : TL.tl z = [46]
  · have e : z = "." := TL.ext_tl h
    rw [decide_eq_true h, decide_eq_true (by rw [e])]
  · rw [decide_eq_false h, decide_eq_false]
    intro e
    injection e with e
    rw [e] at h
    exact h rfl
def TolD (Q : VK) (H : Hp) (vs : List V) : Prop := ∀ (H' : Hp) (t u : Addr), Same H H' → H t = none → H' u = some (.tup vs) → H' t = some (.tup [.str "told", .ref u]) → Q (.ref t) H'
def spDue : Sp := fun vs H Q _ => ∃ z : Str, vs = [.str z] ∧ z.length ≤ 5000 ∧ (∀ k : Nat, pathP (TL.tl z) = .inl k → Pr Q H (.str "fault") (.int (k : Int))) ∧ ∀ vs, pathP (TL.tl z) = .inr vs → TolD Q H vs
/-- side conditions; and the plain steps of a reading -/
local macro_rules | `(tactic| walk_at "sd") => `(tactic| first
  | assumption | decide | omega | exact b64 b01 | (show (0 : Int) < _; first | decide | omega) | exact ⟨by decide, by decide, by decide⟩ | exact ⟨by decide, by decide⟩ | exact ⟨by omega, by omega⟩
  | exact .inl ⟨by omega, by omega⟩ | exact .inr ⟨by omega, by omega⟩ | exact sz (by simp) | exact szl (by simp))
local macro_rules | `(tactic| walk_at "rd") => `(tactic| repeat (first
  | refine ⟨_, rfl, ?_⟩
  | refine ⟨_, _, rfl, rfl, ?_⟩
  | refine ⟨_, _, _, _, rfl, rfl, SqL.of (by first | assumption | exact upd_same), rfl, ?_⟩
  | refine .inl ⟨_, rfl, ?_⟩
  | refine .inr ⟨_, rfl, ?_⟩
  | refine ⟨_, _, _, _, rfl, rfl, (by first | assumption | exact upd_same), rfl, ?_⟩
  | refine And.intro (by walk_at "sd") ?_))
section
variable {P : Program} {w : World} {K : PySem.W.Frag} {mg : Str → Option Value} {base : Heap} {f : Addr} {fd : FuncData}
abbrev s__law_due : Stmt := top 26
theorem sc__law_due : FnScope ["_law_word", "_law_at", "_law_found", "_law_goes_on", "_law_one"] ["_law_word"] (defScope s__law_due) := ⟨rfl, rfl, rfl, by decide +kernel, rfl, by decide +kernel, by decide +kernel⟩
theorem ok_due (F : Fun K "_law_due" "_law_due" s__law_due f fd) (T : Txt K mg) (c_key_end : Cal P w K mg base 1 "_law_key_end" spKeyEnd) (c_place_end : Cal P w K mg base 1 "_law_place_end" spPlaceEnd) :
    FnOk P w K mg base CX0 2 f fd ["_law_word"] spDue := by
  refine F.ok sc__law_due (fun vs H Q E h => ?_) (fun cdv A outer st H vs Q E hr h => ?_)
  · obtain ⟨z, rfl, _⟩ := h
    rfl
  · obtain ⟨z, rfl, hz, kb, k⟩ := h
    have hzl : z.length ≤ sizeLine := Nat.le_trans hz (by decide)
    have zl := TL.len_tl z
    refine ⟨_, (pss_cons (ps_if (pt_cmpR op_eq (pe_slice C8.sl_txt (pv 0) po_none (po_some pe_int)) pe_str (nomark _))
      (pss_one (ps_ret (pe_ifExp (pt_cmpR op_eq (pv 0) pe_str (nomark _)) (pe_tup (pa_cons pe_str (pa_cons (pe_tup pa_nil) pa_nil))) (pe_tup (pa_cons pe_str (pa_cons pe_int pa_nil))))))
      pss_nil)
      (pss_cons (ps_par3 (i := 1) (j := 2) (l := 3) rfl sc__law_due.nd rfl rfl rfl (by decide) (by decide) (by decide) rfl rfl rfl (pa_cons pe_int (pa_cons (pe_lst pa_nil) (pa_cons pe_bl pa_nil))) (by rfl))
      (pss_cons (ps_while PassesOwn.never (pt_val (pv 3))
      (pss_cons (ps_asg (pe_ifExp (pt_cmpR op_eq (pe_slice C8.sl_txt (pv 0) (po_some (pv 1)) (po_some (pe_op op_add (pv 1) pe_int))) pe_str (nomark _)) (pe_c c_key_end hr (by decide) (by rfl) (pa_cons (pv 0) (pa_cons (pv 1) pa_nil))) (pe_c c_place_end hr (by decide) (by rfl) (pa_cons (pv 0) (pa_cons (pv 1) pa_nil)))) (pg_tup rfl (pgs_cons (pg_name (i := 1) sc__law_due.nd rfl (Or.inl rfl)) (pgs_cons (pg_name (i := 4) sc__law_due.nd rfl (Or.inl rfl)) pgs_nil))))
        (pss_cons (ps_if (pt_cmpR op_lt (pv 1) pe_int (nomark _))
        (pss_one (ps_ret (pe_tup (pa_cons pe_str (pa_cons (pv 4) pa_nil)))))
        pss_nil)
        (pss_cons (ps_expr (pe_bm PySem.F.plainAttrs_list PySem.F.slot_list_append PySem.F.type_list_append mt_append (pv 2) (pa_cons (pv 4) pa_nil)))
        (pss_cons (ps_set (i := 3) sc__law_due.nd rfl (Or.inl rfl) (pe_cmpR op_lt (pv 1) (pe_callB call_len_str (by rfl) T.z_len PySem.boot_len (pa_cons (pv 0) pa_nil)) (nomark _)))
        (pss_cons (ps_if (PW.pt (pw_and (pt_val (pv 3)) (pw_and1 (pt_cmpR op_ne (pe_ix ix_str (pv 0) (pv 1) (fun _ _ => rfl)) pe_str (nomark _)))))
        (pss_one (ps_ret (pe_tup (pa_cons pe_str (pa_cons (pv 1) pa_nil)))))
        pss_nil)
        (pss_one (ps_set (i := 1) sc__law_due.nd rfl (Or.inl rfl) (pe_op op_add (pv 1) pe_int)))))))))
      (pss_one (ps_ret (pe_tup (pa_cons pe_str (pa_cons (pe_callTy call_tuple_of (by rfl) T.z_tuple (by decide +kernel) (pa_cons (pv 2) pa_nil)) pa_nil)))))))), ?_⟩
    refine use_seq ?_
    refine ⟨_, rfl, _, rfl, z, rfl, hzl, ?_⟩
    rw [cut0]
    refine ⟨rfl, _, rfl, ?_⟩
    rw [at1_is z 0 (c := 46) (by decide)]
    by_cases c46 : (TL.tl z)[0]? = some 46
    · refine ifT (decide_eq_true c46) ?_
      have h0 := (List.getElem?_eq_some_iff.mp c46).1
      refine ⟨_, rfl, rfl, _, rfl, ?_⟩
      rw [dot_is]
      by_cases d : TL.tl z = [46]
      · have l1 : (TL.tl z).length = 1 := by rw [d]; rfl
        rw [decide_eq_true d]
        refine ⟨by decide, fun u nu => ⟨sz (by simp), fun t nt => ?_⟩⟩
        refine k [] (by rw [path46 c46, if_pos l1]) _ t u ((same_new nu).trans (same_new nt)) (none_same (same_new nu) nt) ?_ upd_same
        exact same_new nt _ _ upd_same
      · have l1 : ¬ (TL.tl z).length = 1 := fun l => d (by
          match h : TL.tl z, l with
          | [x], _ =>
            rw [h] at c46
            cases c46
            rfl)
        rw [decide_eq_false d]
        refine ⟨sz (by simp), fun t nt => ?_⟩
        exact kb 1 (by rw [path46 c46, if_neg l1]) _ t (same_new nt) nt upd_same
    · refine ifF (decide_eq_false c46) ?_
      refine use_next ?_
      have hst := pathN c46
      refine use_seq ?_
      refine ⟨sz (by simp), fun L nL => ⟨_, _, _, rfl, ?_⟩⟩
      dsimp only
      refine use_seq ?_
      refine ⟨fun m σ H' => ∃ (p : Nat) (vs : List V) (g : Bool) (o : Option V), m = (if g then z.length - p + 1 else 0) ∧ σ = [some (.str z), some (.int (p : Int)), some (.ref L), some (.bl g), o] ∧ Same H H' ∧ H' L = some (.lst vs) ∧ vs.length ≤ p ∧ vs.length ≤ 5000 ∧
          (g = true → p ≤ z.length ∧ pathP (TL.tl z) = more p vs (startP ((TL.tl z).drop p))) ∧ (g = false → pathP (TL.tl z) = .inr vs),
        ⟨_, 0, [], true, none, rfl, rfl, same_new nL, upd_same, Nat.le_refl _, Nat.zero_le _, fun _ => ⟨Nat.zero_le _, ?_⟩, fun q => nomatch q⟩, ?_⟩
      · rw [hst, List.drop_zero]
        cases startP (TL.tl z) with
        | inl i => rfl
        | inr y => rfl
      rintro m σ H' ⟨p, vs, g, o, rfl, rfl, sm, hL, hv, hv2, hg, hf⟩
      refine ⟨_, rfl, _, rfl, ?_⟩
      cases g with
      | false =>
        refine ifF rfl ?_
        refine ⟨_, rfl, L, vs, rfl, .inl ⟨SqL.of hL, fun u nu => ⟨sz (by simp), fun t nt => ?_⟩⟩⟩
        refine k vs (hf rfl) _ t u ((sm.trans (same_new nu)).trans (same_new nt)) (none_same (sm.trans (same_new nu)) nt) ?_ upd_same
        exact same_new nt _ _ upd_same
      | true =>
        obtain ⟨hp, hpp⟩ := hg rfl
        refine ifT rfl ?_
        refine ⟨fun σ' H2 => ∃ (p2 : Nat) (vs2 : List V) (g2 : Bool) (o2 : Option V), (if g2 then z.length - p2 + 1 else 0) < z.length - p + 1 ∧ σ' = [some (.str z), some (.int (p2 : Int)), some (.ref L), some (.bl g2), o2] ∧ Same H H2 ∧ H2 L = some (.lst vs2) ∧ vs2.length ≤ p2 ∧ vs2.length ≤ 5000 ∧
            (g2 = true → p2 ≤ z.length ∧ pathP (TL.tl z) = more p2 vs2 (startP ((TL.tl z).drop p2))) ∧ (g2 = false → pathP (TL.tl z) = .inr vs2),
          fun σ' H2 ⟨p2, vs2, g2, o2, l2, x1, x2, x3, x4, x5, x6, x7⟩ => ⟨_, l2, p2, vs2, g2, o2, rfl, x1, x2, x3, x4, x5, x6, x7⟩, ?_⟩
        refine use_seq ?_
        refine ⟨_, rfl, _, rfl, _, rfl, _, rfl, _, _, rfl, rfl, _, rfl, z, rfl, hzl, ?_⟩
        rw [cut1 z p hp]
        refine ⟨rfl, _, rfl, ?_⟩
        rw [at1_is z p (c := 34) (by decide)]
        by_cases c34 : (TL.tl z)[p]? = some 34
        · rw [decide_eq_true c34]
          have hst2 := (congrArg stepP (drop_at c34)).trans (stepP_quote _)
          refine ⟨_, rfl, _, rfl, z, p, rfl, hz, c34, fun j q => ?_, fun u n q => ?_⟩
          · rw [q] at hst2
            dsimp only at hst2
            intro H2 t s2 nt ht
            refine ⟨t, _, rfl, .inl (.inl ht), rfl, _, _, rfl, _, _, rfl, rfl, ?_⟩
            dsimp only
            have sm2 := sm.trans s2
            have hL2 := s2 _ _ hL
            refine use_seq ?_
            refine ⟨_, rfl, _, _, rfl, rfl, _, rfl, ?_⟩
            refine ifT (by decide) ?_
            refine ⟨_, rfl, sz (by simp), fun t2 nt2 => ?_⟩
            refine kb (p + 1 + j) ?_ _ t2 (sm2.trans (same_new nt2)) (none_same sm2 nt2) upd_same
            rw [hpp, startP_eq, hst2]
            show Sum.inl (j + 1 + p) = _
            rw [show j + 1 + p = p + 1 + j from by omega]
          · rw [q] at hst2
            dsimp only at hst2
            have hs := hst2
            intro H2 t s2 nt ht
            refine ⟨t, _, rfl, .inl (.inl ht), rfl, _, _, rfl, _, _, rfl, rfl, ?_⟩
            dsimp only
            have sm2 := sm.trans s2
            have hL2 := s2 _ _ hL
            refine use_seq ?_
            refine ⟨_, rfl, _, _, rfl, rfl, _, rfl, ?_⟩
            refine ifF (decide_eq_false (by omega)) ?_
            refine use_next ?_
            have hq : p + 1 + n ≤ z.length := by
              have := stepP_le hs
              rw [List.length_drop] at this
              omega
            have hn1 : p + 1 ≤ p + 1 + n := by
              have := stepP_le hs
              omega
            have hp2 : pathP (TL.tl z) = more (p + 1 + n) (vs ++ [V.str ⟨u.toArray⟩]) (restP ((TL.tl z).drop (p + 1 + n))) := by
              rw [hpp, startP_eq, hs]
              dsimp only
              rw [more_more, List.drop_drop]
              try rw [show p + (n + 1) = p + 1 + n from by omega]
            have lv : (vs ++ [V.str ⟨u.toArray⟩]).length ≤ p + 1 + n := by
              rw [List.length_append, List.length_singleton]
              omega
            refine use_seq ?_
            refine ⟨_, rfl, .inl ⟨rfl, _, SqL.of hL2⟩, _, rfl, L, _, _, rfl, rfl, hL2, szl (by omega), ?_⟩
            have sm3 : Same H (upd H2 L (.lst (vs ++ [V.str ⟨u.toArray⟩]))) := fun b o e => by
              rw [upd_ne (ne_of_none e nL)]
              exact sm2 b o e
            have hL3 := upd_same (H := H2) (a := L) (o := .lst (vs ++ [V.str ⟨u.toArray⟩]))
            generalize upd H2 L (.lst (vs ++ [V.str ⟨u.toArray⟩])) = H3 at sm3 hL3 ⊢
            refine use_seq ?_
            refine ⟨_, rfl, _, rfl, z, rfl, hzl, _, _, rfl, rfl, ?_⟩
            dsimp only
            refine use_seq ?_
            by_cases c1 : p + 1 + n < z.length
            · rw [decide_eq_true (by omega : (((p + 1 + n : Nat)) : Int) < (z.length : Int))]
              obtain ⟨c, e⟩ : ∃ c, (TL.tl z)[p + 1 + n]? = some c := ⟨_, List.getElem?_eq_getElem (by omega)⟩
              refine ⟨_, rfl, _, rfl, ?_⟩
              refine ifT rfl ?_
              refine ⟨_, rfl, _, rfl, z, ((p + 1 + n : Nat) : Int), c, rfl, rfl, hzl, at_ixN e, rfl, _, rfl, ?_⟩
              by_cases c47 : c = 47
              · subst c47
                refine ifF (by decide) ?_
                refine use_next ?_
                refine ⟨_, rfl, _, _, rfl, rfl, ?_⟩
                refine ⟨p + 1 + n + 1, vs ++ [V.str ⟨u.toArray⟩], true, _, ?_, rfl, sm3, hL3, by omega, by omega, fun _ => ⟨by omega, ?_⟩, fun q => nomatch q⟩
                · rw [if_pos rfl]
                  omega
                · rw [hp2, drop_at e, restP_slash, more_more, List.append_nil]
              · refine ifT ?_ ?_
                · have nn : ¬ V.str ⟨#[c]⟩ = V.str "/" := fun h => by
                    injection h with h
                    have h2 := congrArg (fun x : Str => x.cps.toList) h
                    have h3 : [c] = [47] := h2
                    injection h3 with h3 _
                    exact c47 h3
                  simp [nn]
                refine ⟨_, rfl, sz (by simp), fun t2 nt2 => ?_⟩
                refine kb (p + 1 + n) ?_ _ t2 (sm3.trans (same_new nt2)) (none_same sm3 nt2) upd_same
                rw [hp2, drop_at e, restP_other c47]
                show Sum.inl (0 + (p + 1 + n)) = _
                rw [Nat.zero_add]
            · rw [decide_eq_false (by omega : ¬ (((p + 1 + n : Nat)) : Int) < (z.length : Int))]
              refine ⟨_, rfl, _, rfl, ?_⟩
              refine ifF rfl ?_
              refine ifF rfl ?_
              refine use_next ?_
              refine ⟨_, rfl, _, _, rfl, rfl, ?_⟩
              refine ⟨p + 1 + n + 1, vs ++ [V.str ⟨u.toArray⟩], false, _, ?_, rfl, sm3, hL3, by omega, by omega, (fun q => nomatch q), fun _ => ?_⟩
              · rw [if_neg Bool.false_ne_true]
                omega
              · have e9 : (TL.tl z).drop (p + 1 + n) = [] := List.drop_eq_nil_of_le (by omega)
                rw [hp2, e9, restP_nil]
                show Sum.inr (vs ++ [V.str ⟨u.toArray⟩] ++ []) = _
                rw [List.append_nil]
        · rw [decide_eq_false c34]
          have hst2 : stepP ((TL.tl z).drop p) = (match numP ((TL.tl z).drop p) with
              | none => .inl 0
              | some n => .inr (numV (((TL.tl z).drop p).take n), n)) := by
            cases e : (TL.tl z)[p]? with
            | none =>
              rw [drop_end e]
              rfl
            | some c =>
              rw [drop_at e]
              exact stepP_num fun h => c34 (by rw [e, h])
          refine ⟨_, rfl, _, rfl, z, p, rfl, hp, hz, fun q => ?_, fun n q => ⟨fun c e hd => ?_, fun nd => ?_⟩⟩
          · rw [q] at hst2
            dsimp only at hst2
            intro H2 t s2 nt ht
            refine ⟨t, _, rfl, .inl (.inl ht), rfl, _, _, rfl, _, _, rfl, rfl, ?_⟩
            dsimp only
            have sm2 := sm.trans s2
            have hL2 := s2 _ _ hL
            refine use_seq ?_
            refine ⟨_, rfl, _, _, rfl, rfl, _, rfl, ?_⟩
            refine ifT (by decide) ?_
            refine ⟨_, rfl, sz (by simp), fun t2 nt2 => ?_⟩
            refine kb (p) ?_ _ t2 (sm2.trans (same_new nt2)) (none_same sm2 nt2) upd_same
            rw [hpp, startP_eq, hst2]
            show Sum.inl (0 + p) = _
            rw [Nat.zero_add]
          · rw [q] at hst2
            dsimp only at hst2
            intro H2 t s2 nt ht
            refine ⟨t, _, rfl, .inl (.inl ht), rfl, _, _, rfl, _, _, rfl, rfl, ?_⟩
            dsimp only
            have sm2 := sm.trans s2
            have hL2 := s2 _ _ hL
            refine use_seq ?_
            refine ⟨_, rfl, _, _, rfl, rfl, _, rfl, ?_⟩
            refine ifT (by decide) ?_
            refine ⟨_, rfl, sz (by simp), fun t2 nt2 => ?_⟩
            refine kb (p + n) ?_ _ t2 (sm2.trans (same_new nt2)) (none_same sm2 nt2) upd_same
            have c47 : c ≠ 47 := fun h => by
              rw [h] at hd
              exact absurd hd (by decide)
            rw [hpp, startP_eq, hst2]
            dsimp only
            rw [List.drop_drop, drop_at e, restP_other c47]
            show Sum.inl (0 + n + p) = _
            rw [show 0 + n + p = p + n from by omega]
          · rw [q] at hst2
            dsimp only at hst2
            have hs := hst2
            intro H2 t s2 nt ht
            refine ⟨t, _, rfl, .inl (.inl ht), rfl, _, _, rfl, _, _, rfl, rfl, ?_⟩
            dsimp only
            have sm2 := sm.trans s2
            have hL2 := s2 _ _ hL
            refine use_seq ?_
            refine ⟨_, rfl, _, _, rfl, rfl, _, rfl, ?_⟩
            refine ifF (decide_eq_false (by omega)) ?_
            refine use_next ?_
            have hq : p + n ≤ z.length := by
              have := stepP_le hs
              rw [List.length_drop] at this
              omega
            have hn1 : p + 1 ≤ p + n := by
              have := stepP_le hs
              omega
            have hp2 : pathP (TL.tl z) = more (p + n) (vs ++ [numV (((TL.tl z).drop p).take n)]) (restP ((TL.tl z).drop (p + n))) := by
              rw [hpp, startP_eq, hs]
              dsimp only
              rw [more_more, List.drop_drop]
              try rw [show p + (n) = p + n from by omega]
            have lv : (vs ++ [numV (((TL.tl z).drop p).take n)]).length ≤ p + n := by
              rw [List.length_append, List.length_singleton]
              omega
            refine use_seq ?_
            refine ⟨_, rfl, .inl ⟨rfl, _, SqL.of hL2⟩, _, rfl, L, _, _, rfl, rfl, hL2, szl (by omega), ?_⟩
            have sm3 : Same H (upd H2 L (.lst (vs ++ [numV (((TL.tl z).drop p).take n)]))) := fun b o e => by
              rw [upd_ne (ne_of_none e nL)]
              exact sm2 b o e
            have hL3 := upd_same (H := H2) (a := L) (o := .lst (vs ++ [numV (((TL.tl z).drop p).take n)]))
            generalize upd H2 L (.lst (vs ++ [numV (((TL.tl z).drop p).take n)])) = H3 at sm3 hL3 ⊢
            refine use_seq ?_
            refine ⟨_, rfl, _, rfl, z, rfl, hzl, _, _, rfl, rfl, ?_⟩
            dsimp only
            refine use_seq ?_
            by_cases c1 : p + n < z.length
            · rw [decide_eq_true (by omega : (((p + n : Nat)) : Int) < (z.length : Int))]
              obtain ⟨c, e⟩ : ∃ c, (TL.tl z)[p + n]? = some c := ⟨_, List.getElem?_eq_getElem (by omega)⟩
              refine ⟨_, rfl, _, rfl, ?_⟩
              refine ifT rfl ?_
              refine ⟨_, rfl, _, rfl, z, ((p + n : Nat) : Int), c, rfl, rfl, hzl, at_ixN e, rfl, _, rfl, ?_⟩
              by_cases c47 : c = 47
              · subst c47
                refine ifF (by decide) ?_
                refine use_next ?_
                refine ⟨_, rfl, _, _, rfl, rfl, ?_⟩
                refine ⟨p + n + 1, vs ++ [numV (((TL.tl z).drop p).take n)], true, _, ?_, rfl, sm3, hL3, by omega, by omega, fun _ => ⟨by omega, ?_⟩, fun q => nomatch q⟩
                · rw [if_pos rfl]
                  omega
                · rw [hp2, drop_at e, restP_slash, more_more, List.append_nil]
              · refine ifT ?_ ?_
                · have nn : ¬ V.str ⟨#[c]⟩ = V.str "/" := fun h => by
                    injection h with h
                    have h2 := congrArg (fun x : Str => x.cps.toList) h
                    have h3 : [c] = [47] := h2
                    injection h3 with h3 _
                    exact c47 h3
                  simp [nn]
                refine ⟨_, rfl, sz (by simp), fun t2 nt2 => ?_⟩
                refine kb (p + n) ?_ _ t2 (sm3.trans (same_new nt2)) (none_same sm3 nt2) upd_same
                rw [hp2, drop_at e, restP_other c47]
                show Sum.inl (0 + (p + n)) = _
                rw [Nat.zero_add]
            · rw [decide_eq_false (by omega : ¬ (((p + n : Nat)) : Int) < (z.length : Int))]
              refine ⟨_, rfl, _, rfl, ?_⟩
              refine ifF rfl ?_
              refine ifF rfl ?_
              refine use_next ?_
              refine ⟨_, rfl, _, _, rfl, rfl, ?_⟩
              refine ⟨p + n + 1, vs ++ [numV (((TL.tl z).drop p).take n)], false, _, ?_, rfl, sm3, hL3, by omega, by omega, (fun q => nomatch q), fun _ => ?_⟩
              · rw [if_neg Bool.false_ne_true]
                omega
              · have e9 : (TL.tl z).drop (p + n) = [] := List.drop_eq_nil_of_le (by omega)
                rw [hp2, e9, restP_nil]
                show Sum.inr (vs ++ [numV (((TL.tl z).drop p).take n)] ++ []) = _
                rw [List.append_nil]
end
end Q75


/-! what is said; texts bent -/
namespace Q75
open PySem PySem.Spec PyProof.Rows L2 QT
theorem look1 {f : Str} {v : V} : List.lookup f [(f, v)] = some v := by
  rw [lookup_put, if_pos rfl]
theorem up_to (z : Str) (j : Nat) (h : j ≤ z.length) : Txt.slice z none (some (j : Int)) = ⟨((TL.tl z).take j).toArray⟩ := by
  have e : Txt.slice z none (some (j : Int)) = Txt.slice z (some ((0 : Nat) : Int)) (some (j : Int)) := by
    unfold Txt.slice
    rfl
  rw [e, cutM z 0 j (Nat.zero_le _) (Nat.zero_le _)]
  rfl
theorem from_at (z : Str) (i : Nat) : TL.tl (Txt.slice z (some (i : Int)) none) = (TL.tl z).drop i := by
  by_cases h : i ≤ z.length
  · rw [PyProof.Rows.slice_from_eq (x := z) (i := (i : Int)) (b := (z.length : Int)) (by omega) (by omega) rfl]
    show ((TL.tl z).drop ((i : Int)).toNat).take ((z.length : Int) - (i : Int)).toNat = _
    have e : ((i : Int)).toNat = i := rfl
    rw [e, List.take_of_length_le (by rw [List.length_drop, ← TL.len_tl]; omega)]
  · rw [PyProof.Rows.slice_from_beyond (by omega), List.drop_eq_nil_of_le (by rw [← TL.len_tl]; omega)]
/-- a part of a text of n signs -/
structure Part (n : Nat) (y : Str) : Prop where
  len : y.length ≤ n
  sg : ∀ c ∈ TL.tl y, c ∈ plainS.cps.toList
theorem part_up {n : Nat} {z : Str} {j : Nat} (h : j ≤ z.length) (p : Part n z) : Part n (Txt.slice z none (some (j : Int))) := by
  rw [up_to z j h]
  refine ⟨?_, fun c hc => p.sg c (List.mem_of_mem_take hc)⟩
  have := p.len
  rw [TL.len_tl] at this ⊢
  show ((TL.tl z).take j).length ≤ n
  rw [List.length_take]
  omega
theorem part_from {n : Nat} {z : Str} (i : Nat) (p : Part n z) : Part n (Txt.slice z (some (i : Int)) none) := by
  refine ⟨?_, fun c hc => ?_⟩
  · have := p.len
    rw [TL.len_tl] at this ⊢
    rw [from_at, List.length_drop]
    omega
  · rw [from_at] at hc
    exact p.sg c (List.mem_of_mem_drop hc)
theorem Part.app {m n k : Nat} {x y : Str} (p : Part m x) (q : Part n y) (h : m + n ≤ k) : Part k (x ++ y) := by
  refine ⟨?_, fun c hc => ?_⟩
  · rw [str_app_len]
    have := p.len
    have := q.len
    omega
  · rw [TL.tl_append] at hc
    rcases List.mem_append.mp hc with hc | hc
    · exact p.sg c hc
    · exact q.sg c hc
theorem Part.mono {m k : Nat} {x : Str} (p : Part m x) (h : m ≤ k) : Part k x := ⟨Nat.le_trans p.len h, p.sg⟩
theorem lenOk {m k : Nat} {x y : Str} (p : Part m x) (q : Part k y) (h : m + k ≤ 100000) : x.length + y.length ≤ sizeLine := sz (by have := p.len; have := q.len; omega)
theorem sign_ok : ∀ c ∈ TL.tl ("/\"\\. -019a" : Str), c ∈ plainS.cps.toList := by decide +kernel
def spSaid : Sp := fun vs H Q _ => ∃ z : Str, vs = [.str z] ∧ z.length ≤ 5000 ∧ (∀ c ∈ TL.tl z, c ∈ plainS.cps.toList) ∧
  (∀ k : Nat, pathP (TL.tl z) = .inl k → Pr Q H (.str "fault") (.int (k : Int))) ∧ ∀ vs, pathP (TL.tl z) = .inr vs → TolD Q H vs
def spBent : Sp := fun vs H Q _ => ∃ (s : Addr) (z : Str) (n : Nat), vs = [.ref s, .str z] ∧ Stt H s ∧ Part n z ∧ n ≤ 2000 ∧ ∀ (H' : Hp) (y : Str), Ext s H H' → Part (2 * n + 1) y → Q (.str y) H'
/-- side conditions; and the plain steps of a reading -/
local macro_rules | `(tactic| walk_at "sd") => `(tactic| first
  | assumption | decide | omega | exact b64 b01 | (show (0 : Int) < _; first | decide | omega) | exact ⟨by decide, by decide, by decide⟩ | exact ⟨by decide, by decide⟩ | exact ⟨by omega, by omega⟩
  | exact .inl ⟨by omega, by omega⟩ | exact .inr ⟨by omega, by omega⟩ | exact sz (by simp) | exact szl (by simp))
local macro_rules | `(tactic| walk_at "rd") => `(tactic| repeat (first
  | refine ⟨_, rfl, ?_⟩
  | refine ⟨_, _, rfl, rfl, ?_⟩
  | refine ⟨_, _, _, _, rfl, rfl, SqL.of (by first | assumption | exact upd_same), rfl, ?_⟩
  | refine .inl ⟨_, rfl, ?_⟩
  | refine .inr ⟨_, rfl, ?_⟩
  | refine ⟨_, _, _, _, rfl, rfl, (by first | assumption | exact upd_same), rfl, ?_⟩
  | refine And.intro (by walk_at "sd") ?_))
section
variable {P : Program} {w : World} {K : PySem.W.Frag} {mg : Str → Option Value} {base : Heap} {f : Addr} {fd : FuncData}
abbrev s__law_said : Stmt := top 27
theorem sc__law_said : FnScope ["_law_word", "e"] ["_law_word"] (defScope s__law_said) := ⟨rfl, rfl, rfl, by decide +kernel, rfl, by decide +kernel, by decide +kernel⟩
theorem ok_said {CT fT CN : Addr} (F : Fun K "_law_said" "_law_said" s__law_said f fd) (R : ErrC K mg "BadText" CT fT) (mN : mg "NestError" = some (.ref CN))
    (tp : PySem.W.findIn K (.ref CT) "place" = some none) (xTT : PySem.W.exmOne K (.ref CT) (.ref CT) = some true)
    (c_read : CalX P w K mg base 6 "read_path" (spPath CT)) : FnOk P w K mg base CX0 7 f fd ["_law_word"] spSaid := by
  refine F.ok sc__law_said (fun vs H Q E h => ?_) (fun cdv A outer st H vs Q E hr h => ?_)
  · obtain ⟨z, rfl, _⟩ := h
    rfl
  · obtain ⟨z, rfl, hz, hpl, kb, k⟩ := h
    refine ⟨_, pss_one (ps_tryN rfl rfl L2.takes0
        (fun W pn xe tk _ => pss_one (ps_ret (pe_tup (pa_cons pe_str (pa_cons (pe_cX tk c_read hr (by decide) (by rfl) (pa_cons (pv 0) pa_nil)) pa_nil)))))
        (.named (i := 1) ⟨by rfl, by decide, .inl R.mgC⟩ sc__law_said.nd rfl rfl (fun a oe cls d pn hz hf => pss_one (ps_ret (pe_tup (pa_cons pe_str (pa_cons (pe_xf R.xf tp hz hf (pv 1)) pa_nil)))))
        (.bare ⟨by rfl, by decide, .inl mN⟩ (fun a oe cls d pn hz hf => pss_one (ps_ret (pe_tup (pa_cons pe_str (pa_cons pe_non pa_nil))))) .done))), ?_⟩
    refine ⟨_, rfl, z, rfl, hz, hpl, fun i q => ?_, fun vs q H' t s' nt et => ?_⟩
    · intro H' d s' e'
      refine ⟨true, xTT, fun _ x nx => ?_, fun z => nomatch z⟩
      refine ⟨_, rfl, rfl, rfl, d, _, _, rfl, e', look1, sz (by simp), fun t nt => ?_⟩
      exact kb i q _ t (s'.trans (same_new nt)) (none_same s' nt) upd_same
    · refine ⟨sz (by simp), fun p np => ?_⟩
      refine k vs q _ p t (s'.trans (same_new np)) (none_same s' np) ?_ upd_same
      exact same_new np _ _ et
abbrev s__law_bent : Stmt := top 28
theorem sc__law_bent : FnScope ["_law_source_here", "_law_word", "_law_at", "_law_sign", "_law_end", "_law_some"] ["_law_source_here", "_law_word"] (defScope s__law_bent) := ⟨rfl, rfl, rfl, by decide +kernel, rfl, by decide +kernel, by decide +kernel⟩
theorem ok_bent (F : Fun K "_law_bent" "_law_bent" s__law_bent f fd) (T : Txt K mg) (c_draw : Cal P w K mg base 1 "_law_draw" spDraw) (c_pick : Cal P w K mg base 2 "_law_pick" (spPick K)) :
    FnOk P w K mg base CX0 3 f fd ["_law_source_here", "_law_word"] spBent := by
  refine F.ok sc__law_bent (fun vs H Q E h => ?_) (fun cdv A outer st H vs Q E hr h => ?_)
  · obtain ⟨s, z, n, rfl, _⟩ := h
    rfl
  · obtain ⟨s, z, n, rfl, hs, pz, hn, k⟩ := h
    have hz := pz.len
    have hzl : z.length ≤ sizeLine := sz (by omega)
    refine ⟨_, (pss_cons (ps_set (i := 2) sc__law_bent.nd rfl (Or.inl rfl) (pe_c c_draw hr (by decide) (by rfl) (pa_cons (pv 0) (pa_cons (pe_op op_add (pe_callB call_len_str (by rfl) T.z_len PySem.boot_len (pa_cons (pv 1) pa_nil)) pe_int) pa_nil))))
      (pss_cons (ps_set (i := 3) sc__law_bent.nd rfl (Or.inl rfl) (pe_c c_pick hr (by decide) (by rfl) (pa_cons (pv 0) (pa_cons (pe_callTy (call_list_txt rfl) (by rfl) T.z_list (by decide +kernel) (pa_cons pe_str pa_nil)) pa_nil))))
      (pss_cons (ps_set (i := 4) sc__law_bent.nd rfl (Or.inl rfl) (pe_callB (call_min2 rfl) (by rfl) T.z_min (by decide +kernel) (pa_cons (pe_callB call_len_str (by rfl) T.z_len PySem.boot_len (pa_cons (pv 1) pa_nil)) (pa_cons (pe_op op_add (pe_op op_add (pv 2) pe_int) (pe_c c_draw hr (by decide) (by rfl) (pa_cons (pv 0) (pa_cons pe_int pa_nil)))) pa_nil))))
      (pss_cons (ps_set (i := 5) sc__law_bent.nd rfl (Or.inl rfl) (pe_lst (pa_cons (pe_slice C8.sl_txt (pv 1) po_none (po_some (pv 2))) (pa_cons (pe_op op_add_str (pe_slice C8.sl_txt (pv 1) po_none (po_some (pv 2))) (pe_slice C8.sl_txt (pv 1) (po_some (pe_op op_add (pv 2) pe_int)) po_none)) (pa_cons (pe_op op_add_str (pe_op op_add_str (pe_slice C8.sl_txt (pv 1) po_none (po_some (pv 2))) (pv 3)) (pe_slice C8.sl_txt (pv 1) (po_some (pv 2)) po_none)) (pa_cons (pe_op op_add_str (pe_op op_add_str (pe_slice C8.sl_txt (pv 1) po_none (po_some (pv 2))) (pv 3)) (pe_slice C8.sl_txt (pv 1) (po_some (pe_op op_add (pv 2) pe_int)) po_none)) pa_nil))))))
      (pss_cons (ps_set (i := 5) sc__law_bent.nd rfl (Or.inl rfl) (pe_op op_catS (pv 5) (pe_lst (pa_cons (pe_op op_add_str (pe_slice C8.sl_txt (pv 1) po_none (po_some (pv 4))) (pe_slice C8.sl_txt (pv 1) (po_some (pv 2)) po_none)) (pa_cons (pe_op op_add_str (pv 1) (pv 3)) (pa_cons (pe_op op_add_str (pv 3) (pv 1)) (pa_cons (pe_slice C8.sl_txt (pv 1) (po_some (pv 2)) po_none) pa_nil)))))))
      (pss_one (ps_ret (pe_c c_pick hr (by decide) (by rfl) (pa_cons (pv 0) (pa_cons (pe_op op_catS (pv 5) (pe_lst (pa_cons (pe_op op_add_str (pe_slice C8.sl_txt (pv 1) po_none (po_some (pv 2))) (pe_slice C8.sl_txt (pv 1) (po_some (pv 4)) po_none)) pa_nil))) pa_nil)))))))))), ?_⟩
    refine use_seq ?_
    refine ⟨_, rfl, _, rfl, z, rfl, hzl, _, _, rfl, rfl, s, _, rfl, hs, (by show (0 : Int) < (z.length : Int) + 1; omega), (by show (z.length : Int) + 1 ≤ _; omega), fun H1 d x1 d0 d1 => ?_⟩
    obtain ⟨a, rfl⟩ := Int.eq_ofNat_of_zero_le d0
    have ha : a ≤ z.length := by
      have d1 : ((a : Nat) : Int) < (z.length : Int) + 1 := d1
      omega
    dsimp only
    refine use_seq ?_
    refine ⟨_, rfl, "/\"\\. -019a", rfl, by decide, fun p np => ?_⟩
    refine ⟨s, p, _, rfl, x1.st.ex (same_new np), x1.st.ne np, SqL.of upd_same, by decide +kernel, by decide +kernel, fun H2 v x2 hv => ?_⟩
    obtain ⟨c, hc, rfl⟩ := List.mem_map.mp hv
    have y2 := (x1.new np).trans x2
    have py : Part 1 ⟨#[c]⟩ := ⟨Nat.le_refl _, fun q hq => by
      have hq : q ∈ [c] := hq
      rw [List.mem_singleton.mp hq]
      exact sign_ok c hc⟩
    dsimp only
    refine use_seq ?_
    refine ⟨_, rfl, z, rfl, hzl, _, rfl, _, _, rfl, rfl, _, rfl, s, _, rfl, y2.st, by decide, by decide, fun H3 e x3 e0 e1 => ?_⟩
    obtain ⟨b, rfl⟩ := Int.eq_ofNat_of_zero_le e0
    have y3 := y2.trans x3
    refine ⟨_, _, rfl, rfl, _, _, rfl, ?_⟩
    obtain ⟨en, hen, e9⟩ : ∃ en : Nat, en ≤ z.length ∧ (if (a : Int) + 1 + (b : Int) < (z.length : Int) then (a : Int) + 1 + (b : Int) else (z.length : Int)) = (en : Int) := by
      split
      · exact ⟨a + 1 + b, by omega, by omega⟩
      · exact ⟨z.length, Nat.le_refl _, rfl⟩
    dsimp only
    rw [e9]
    have pA := part_up ha pz
    have pE := part_up hen pz
    have pB : Part n (Txt.slice z (some ((a : Int) + 1)) none) := part_from (a + 1) pz
    have pC := part_from a pz
    have pF := part_from en pz
    have pAs := pA.app py (Nat.le_refl (n + 1))
    refine use_seq ?_
    refine ⟨_, rfl, _, rfl, _, rfl, z, rfl, hzl, ?_⟩
    refine ⟨_, rfl, _, rfl, _, rfl, z, rfl, hzl, _, rfl, _, rfl, _, _, rfl, rfl, _, rfl, z, rfl, hzl, _, _, rfl, rfl, lenOk pA pB (by omega), ?_⟩
    refine ⟨_, rfl, _, rfl, _, rfl, z, rfl, hzl, _, rfl, _, _, rfl, rfl, lenOk pA py (by omega), _, rfl, _, rfl, _, rfl, z, rfl, hzl, _, _, rfl, rfl, lenOk pAs pC (by omega), ?_⟩
    refine ⟨_, rfl, _, rfl, _, rfl, z, rfl, hzl, _, rfl, _, _, rfl, rfl, lenOk pA py (by omega), _, rfl, _, rfl, _, _, rfl, rfl, _, rfl, z, rfl, hzl, _, _, rfl, rfl, lenOk pAs pB (by omega), ?_⟩
    refine ⟨sz (by simp), fun p1 np1 => ?_⟩
    have y4 := y3.new np1 (o := .lst [.str (Txt.slice z none (some (a : Int))), .str (Txt.slice z none (some (a : Int)) ++ Txt.slice z (some ((a : Int) + 1)) none), .str (Txt.slice z none (some (a : Int)) ++ ⟨#[c]⟩ ++ Txt.slice z (some (a : Int)) none), .str (Txt.slice z none (some (a : Int)) ++ ⟨#[c]⟩ ++ Txt.slice z (some ((a : Int) + 1)) none)])
    dsimp only
    refine use_seq ?_
    refine ⟨_, rfl, _, rfl, _, rfl, _, rfl, z, rfl, hzl, _, rfl, _, rfl, _, rfl, z, rfl, hzl, _, _, rfl, rfl, lenOk pE pC (by omega), ?_⟩
    refine ⟨_, rfl, _, rfl, _, _, rfl, rfl, lenOk pz py (by omega), ?_⟩
    refine ⟨_, rfl, _, rfl, _, _, rfl, rfl, lenOk py pz (by omega), ?_⟩
    refine ⟨_, rfl, _, rfl, _, rfl, z, rfl, hzl, ?_⟩
    refine ⟨sz (by simp), fun p2 np2 => ?_⟩
    have y5 := y4.new np2 (o := .lst [.str (Txt.slice z none (some (en : Int)) ++ Txt.slice z (some (a : Int)) none), .str (z ++ ⟨#[c]⟩), .str (⟨#[c]⟩ ++ z), .str (Txt.slice z (some (a : Int)) none)])
    refine ⟨p1, p2, _, _, rfl, rfl, SqL.of (same_new np2 _ _ upd_same), SqL.of upd_same, sz (by simp), fun p3 np3 => ?_⟩
    dsimp only
    have y6 := y5.new np3 (o := .lst ([.str (Txt.slice z none (some (a : Int))), .str (Txt.slice z none (some (a : Int)) ++ Txt.slice z (some ((a : Int) + 1)) none), .str (Txt.slice z none (some (a : Int)) ++ ⟨#[c]⟩ ++ Txt.slice z (some (a : Int)) none), .str (Txt.slice z none (some (a : Int)) ++ ⟨#[c]⟩ ++ Txt.slice z (some ((a : Int) + 1)) none)] ++ [.str (Txt.slice z none (some (en : Int)) ++ Txt.slice z (some (a : Int)) none), .str (z ++ ⟨#[c]⟩), .str (⟨#[c]⟩ ++ z), .str (Txt.slice z (some (a : Int)) none)]))
    refine ⟨_, rfl, _, rfl, _, rfl, _, rfl, _, rfl, z, rfl, hzl, _, rfl, _, rfl, _, rfl, z, rfl, hzl, _, _, rfl, rfl, lenOk pA pF (by omega), ?_⟩
    refine ⟨sz (by simp), fun p4 np4 => ?_⟩
    have y7 := y6.new np4 (o := .lst [.str (Txt.slice z none (some (a : Int)) ++ Txt.slice z (some (en : Int)) none)])
    refine ⟨p3, p4, _, _, rfl, rfl, SqL.of (same_new np4 _ _ upd_same), SqL.of upd_same, sz (by simp), fun p5 np5 => ?_⟩
    have y8 := y7.new np5 (o := .lst ([.str (Txt.slice z none (some (a : Int))), .str (Txt.slice z none (some (a : Int)) ++ Txt.slice z (some ((a : Int) + 1)) none), .str (Txt.slice z none (some (a : Int)) ++ ⟨#[c]⟩ ++ Txt.slice z (some (a : Int)) none), .str (Txt.slice z none (some (a : Int)) ++ ⟨#[c]⟩ ++ Txt.slice z (some ((a : Int) + 1)) none)] ++ [.str (Txt.slice z none (some (en : Int)) ++ Txt.slice z (some (a : Int)) none), .str (z ++ ⟨#[c]⟩), .str (⟨#[c]⟩ ++ z), .str (Txt.slice z (some (a : Int)) none)] ++ [.str (Txt.slice z none (some (a : Int)) ++ Txt.slice z (some (en : Int)) none)]))
    refine ⟨s, p5, _, rfl, y8.st, y7.st.ne np5, SqL.of upd_same, by simp, by simp, fun H4 v x4 hv => ?_⟩
    have y9 := y8.trans x4
    simp only [List.mem_cons, List.mem_append, List.mem_nil_iff, or_false] at hv
    rcases hv with ((rfl | rfl | rfl | rfl) | (rfl | rfl | rfl | rfl)) | rfl
    · exact k _ _ y9 (pA.mono (by omega))
    · exact k _ _ y9 (pA.app pB (by omega))
    · exact k _ _ y9 (pAs.app pC (by omega))
    · exact k _ _ y9 (pAs.app pB (by omega))
    · exact k _ _ y9 (pE.app pC (by omega))
    · exact k _ _ y9 (pz.app py (by omega))
    · exact k _ _ y9 (py.app pz (by omega))
    · exact k _ _ y9 (pC.mono (by omega))
    · exact k _ _ y9 (pA.app pF (by omega))
end
end Q75


/-! what was written is read -/
namespace Q75
open PySem PySem.Spec PyProof.Rows L2 QT
theorem escL_cons (c : Nat) (r : List Nat) : escL (c :: r) = if c = 92 then 92 :: 92 :: escL r else if c = 34 then 92 :: 34 :: escL r else c :: escL r := rfl
theorem strP_escL : ∀ (l rest : List Nat), strP (escL l ++ 34 :: rest) = .inr (l, (escL l).length + 1)
  | [], rest => strP_end rest
  | c :: r, rest => by
    have ih := strP_escL r rest
    rw [escL_cons]
    by_cases c92 : c = 92
    · subst c92
      rw [if_pos rfl]
      show strP (92 :: 92 :: (escL r ++ 34 :: rest)) = _
      rw [strP_esc _ (.inr rfl), ih]
      rfl
    · by_cases c34 : c = 34
      · subst c34
        rw [if_neg (by decide), if_pos rfl]
        show strP (92 :: 34 :: (escL r ++ 34 :: rest)) = _
        rw [strP_esc _ (.inl rfl), ih]
        rfl
      · rw [if_neg c92, if_neg c34]
        show strP (c :: (escL r ++ 34 :: rest)) = _
        rw [strP_one _ c34 c92, ih]
        rfl
theorem runP_all : ∀ (k : Nat) (r rest : List Nat), (∀ c ∈ r, dig c = true) → r.length ≤ k → (∀ c, rest.head? = some c → dig c = false) → runP k (r ++ rest) = r.length
  | 0, r, rest, _, hk, _ => by
    have e : r = [] := List.eq_nil_of_length_eq_zero (by omega)
    subst e
    rfl
  | k + 1, [], rest, _, _, hn => by
    cases rest with
    | nil => rfl
    | cons c q =>
      show (if dig c = true then _ else 0) = 0
      rw [if_neg (by rw [hn c rfl]; exact Bool.false_ne_true)]
  | k + 1, c :: r, rest, hd, hk, hn => by
    show (if dig c = true then runP k (r ++ rest) + 1 else 0) = _
    rw [if_pos (hd c (List.mem_cons_self ..)), runP_all k r rest (fun x hx => hd x (List.mem_cons_of_mem _ hx)) (by rw [List.length_cons] at hk; omega) hn]
    rfl
theorem dig_of {c : Nat} (h : 48 ≤ c ∧ c ≤ 57) : dig c = true := by
  unfold dig
  rw [decide_eq_true h.1, decide_eq_true h.2]
  rfl
/-- no zero stands first -/
theorem head_num (n : Nat) (h : 1 ≤ n) : ∀ c r, TL.numL n = c :: r → c ≠ 48 := by
  induction n using Nat.strongRecOn with
  | _ n ih =>
    intro c r e
    by_cases h10 : n < 10
    · rw [TL.numL_lt h10] at e
      injection e with e1 _
      omega
    · rw [TL.numL_step (by omega)] at e
      cases q : TL.numL (n / 10) with
      | nil => exact absurd q (TL.numL_ne _)
      | cons d t =>
        rw [q] at e
        injection e with e1 _
        rw [← e1]
        exact ih (n / 10) (by omega) (by omega) d t q
theorem numP_num {n : Nat} (h : n < 100000000000000000000) (rest : List Nat) (hn : ∀ c, rest.head? = some c → dig c = false) : numP (TL.numL n ++ rest) = some (TL.numL n).length := by
  have hl := TL.numL_len (n := n) (k := 20) (by decide) h
  have hd : ∀ c ∈ TL.numL n, dig c = true := fun c hc => dig_of (TL.numL_digits n c hc)
  by_cases z : n = 0
  · subst z
    have e : TL.numL 0 = [48] := TL.numL_lt (by decide)
    rw [e]
    rfl
  · cases e : TL.numL n with
    | nil => exact absurd e (TL.numL_ne n)
    | cons c r =>
      rw [e] at hl hd
      show (if dig c = true then (if c = 48 then some 1 else some (runP 19 (r ++ rest) + 1)) else none) = _
      rw [if_pos (hd c (List.mem_cons_self ..)), if_neg (head_num n (by omega) c r e), runP_all 19 r rest (fun x hx => hd x (List.mem_cons_of_mem _ hx)) (by rw [List.length_cons] at hl; omega) hn]
      rfl
def T (v : V) : List Nat := TL.tl (stepS v)
theorem T_num (n : Nat) : T (.int (n : Int)) = TL.numL n := TL.tl_num n
theorem numV_num {n : Nat} (h : n < 100000000000000000000) : numV (TL.numL n) = .int (n : Int) := by
  have hl := TL.numL_len (n := n) (k := 20) (by decide) h
  have e := TL.int_num (n := n) (by omega)
  have e2 : (Str.ofString (toString ((n : Nat) : Int))) = ⟨(TL.numL n).toArray⟩ := TL.ext_tl (TL.tl_num n)
  rw [e2] at e
  unfold numV
  rw [e]
  rfl
theorem step_read {v : V} (h : StepK v) (rest : List Nat) (hn : ∀ c, rest.head? = some c → c = 47) : stepP (T v ++ rest) = .inr (v, (T v).length) := by
  rcases h with ⟨z, rfl, h⟩ | ⟨n, rfl, h⟩
  · have e : T (.str z) = 34 :: (escL (TL.tl z) ++ [34]) := tl_qS z
    rw [e]
    show stepP (34 :: ((escL (TL.tl z) ++ [34]) ++ rest)) = _
    rw [List.append_assoc]
    show stepP (34 :: (escL (TL.tl z) ++ 34 :: rest)) = _
    rw [stepP_quote, strP_escL]
    dsimp only
    rw [show (⟨(TL.tl z).toArray⟩ : Str) = z from TL.mk_tl z]
    simp
  · rw [T_num]
    have hp := numP_num h rest fun c hc => by
      rw [hn c hc]
      decide
    cases e : TL.numL n with
    | nil => exact absurd e (TL.numL_ne n)
    | cons c r =>
      have hc : c ≠ 34 := fun q => by
        have := TL.numL_digits n c (by rw [e]; exact List.mem_cons_self ..)
        omega
      rw [e] at hp
      show stepP (c :: (r ++ rest)) = _
      rw [stepP_num hc]
      have hp2 : numP (c :: (r ++ rest)) = some (c :: r).length := hp
      rw [hp2]
      dsimp only
      have e3 : (c :: (r ++ rest)).take (c :: r).length = c :: r := by
        show ((c :: r) ++ rest).take (c :: r).length = c :: r
        rw [List.take_left']
        rfl
      rw [e3, ← e, numV_num h]
theorem start_join : ∀ (v : V) (xs : List V), (∀ u ∈ v :: xs, StepK u) → startP (TL.joinL [47] ((v :: xs).map T)) = .inr (v :: xs)
  | v, [], h => by
    show startP (T v) = _
    have e := step_read (h v (List.mem_cons_self ..)) [] fun c hc => nomatch hc
    rw [List.append_nil] at e
    rw [startP_eq, e]
    dsimp only
    rw [List.drop_length, restP_nil]
    rfl
  | v, u :: xs, h => by
    have ih := start_join u xs fun y hy => h y (List.mem_cons_of_mem _ hy)
    show startP (T v ++ ([47] ++ TL.joinL [47] ((u :: xs).map T))) = _
    have e := step_read (h v (List.mem_cons_self ..)) ([47] ++ TL.joinL [47] ((u :: xs).map T)) fun c hc => by
      cases hc
      rfl
    rw [startP_eq, e]
    dsimp only
    rw [List.drop_left']
    · show more _ [v] (restP (47 :: TL.joinL [47] ((u :: xs).map T))) = _
      rw [restP_slash, ih]
      rfl
    · rfl
theorem T_head {v : V} (h : StepK v) : ∃ c r, T v = c :: r ∧ c ≠ 46 := by
  rcases h with ⟨z, rfl, h⟩ | ⟨n, rfl, h⟩
  · exact ⟨34, _, tl_qS z, by decide⟩
  · rw [T_num]
    cases e : TL.numL n with
    | nil => exact absurd e (TL.numL_ne n)
    | cons c r =>
      refine ⟨c, r, rfl, fun q => ?_⟩
      have := TL.numL_digits n c (by rw [e]; exact List.mem_cons_self ..)
      omega
theorem tl_wrS (xs : List V) : TL.tl (wrS xs) = if xs = [] then [46] else TL.joinL [47] (xs.map T) := by
  unfold wrS
  by_cases h : xs = []
  · rw [if_pos h, if_pos h]
    rfl
  · rw [if_neg h, if_neg h, TL.join_eq, TL.tl_join, List.map_map]
    rfl
/-- the way that was written comes back -/
theorem path_back {xs : List V} (h : ∀ v ∈ xs, StepK v) : pathP (TL.tl (wrS xs)) = .inr xs := by
  rw [tl_wrS]
  cases xs with
  | nil => rfl
  | cons v r =>
    rw [if_neg (by simp)]
    obtain ⟨c, q, e, hc⟩ := T_head (h v (List.mem_cons_self ..))
    have hd : (TL.joinL [47] ((v :: r).map T))[0]? = some c := by
      cases r with
      | nil =>
        show (T v)[0]? = _
        rw [e]
        rfl
      | cons u r =>
        show (T v ++ _)[0]? = _
        rw [e]
        rfl
    rw [pathN (by rw [hd]; intro z; exact hc (Option.some.inj z)), start_join v r h]
/-! its signs and its length -/
theorem escL_len (l : List Nat) : (escL l).length ≤ 2 * l.length := by
  induction l with
  | nil => exact Nat.le_refl _
  | cons c r ih =>
    rw [escL_cons]
    split
    · simp only [List.length_cons]
      omega
    · split
      · simp only [List.length_cons]
        omega
      · simp only [List.length_cons]
        omega
theorem kS_plain : ∀ c ∈ TL.tl kS, c ∈ plainS.cps.toList := by decide +kernel
theorem dg_plain : ∀ c : Fin 10, (48 + c.val) ∈ plainS.cps.toList := by decide +kernel
theorem escL_plain : ∀ {l : List Nat}, (∀ c ∈ l, c ∈ plainS.cps.toList) → ∀ c ∈ escL l, c ∈ plainS.cps.toList
  | [], _, c, h => by cases h
  | d :: r, hd, c, h => by
    have ih := escL_plain (l := r) fun x hx => hd x (List.mem_cons_of_mem _ hx)
    have p92 : 92 ∈ plainS.cps.toList := by decide +kernel
    have p34 : 34 ∈ plainS.cps.toList := by decide +kernel
    rw [escL_cons] at h
    split at h
    · simp only [List.mem_cons] at h
      rcases h with rfl | rfl | h
      · exact p92
      · exact p92
      · exact ih c h
    · split at h
      · simp only [List.mem_cons] at h
        rcases h with rfl | rfl | h
        · exact p92
        · exact p34
        · exact ih c h
      · rcases List.mem_cons.mp h with rfl | h
        · exact hd c (List.mem_cons_self ..)
        · exact ih c h
theorem T_part {v : V} (h : StepK v) : (T v).length ≤ 20 ∧ ∀ c ∈ T v, c ∈ plainS.cps.toList := by
  rcases h with ⟨z, rfl, h⟩ | ⟨n, rfl, h⟩
  · have e : T (.str z) = 34 :: (escL (TL.tl z) ++ [34]) := tl_qS z
    have hl := escL_len (TL.tl z)
    have h7 := h.1
    rw [TL.len_tl] at h7
    rw [e]
    refine ⟨by simp only [List.length_cons, List.length_append, List.length_nil]; omega, fun c hc => ?_⟩
    have p34 : 34 ∈ plainS.cps.toList := by decide +kernel
    rcases List.mem_cons.mp hc with rfl | hc
    · exact p34
    · rcases List.mem_append.mp hc with hc | hc
      · exact escL_plain (fun x hx => kS_plain x (h.2 x hx)) c hc
      · rw [List.mem_singleton.mp hc]
        exact p34
  · rw [T_num]
    refine ⟨TL.numL_len (by decide) h, fun c hc => ?_⟩
    have b := TL.numL_digits n c hc
    have q := dg_plain ⟨c - 48, by omega⟩
    rw [show c = 48 + (c - 48) from by omega]
    exact q
theorem join_part : ∀ (xs : List V), (∀ u ∈ xs, StepK u) → (TL.joinL [47] (xs.map T)).length ≤ 21 * xs.length ∧ ∀ c ∈ TL.joinL [47] (xs.map T), c ∈ plainS.cps.toList
  | [], _ => ⟨Nat.le_refl _, fun c hc => by cases hc⟩
  | [v], h => by
    have p := T_part (h v (List.mem_cons_self ..))
    exact ⟨by show (T v).length ≤ 21; omega, p.2⟩
  | v :: u :: r, h => by
    have p := T_part (h v (List.mem_cons_self ..))
    have ih := join_part (u :: r) fun y hy => h y (List.mem_cons_of_mem _ hy)
    have e : TL.joinL [47] ((v :: u :: r).map T) = T v ++ ([47] ++ TL.joinL [47] ((u :: r).map T)) := rfl
    rw [e]
    refine ⟨?_, fun c hc => ?_⟩
    · have := ih.1
      simp only [List.length_append, List.length_cons, List.length_nil] at this ⊢
      omega
    · rcases List.mem_append.mp hc with hc | hc
      · exact p.2 c hc
      · rcases List.mem_append.mp hc with hc | hc
        · rw [List.mem_singleton.mp hc]
          decide +kernel
        · exact ih.2 c hc
theorem wr_part {xs : List V} (h : ∀ v ∈ xs, StepK v) (hl : xs.length ≤ 6) : Part 200 (wrS xs) := by
  have e := tl_wrS xs
  have p := join_part xs h
  by_cases n : xs = []
  · rw [if_pos n] at e
    refine ⟨by rw [TL.len_tl, e]; decide, fun c hc => ?_⟩
    rw [e] at hc
    rw [List.mem_singleton.mp hc]
    decide +kernel
  · rw [if_neg n] at e
    refine ⟨by rw [TL.len_tl, e]; omega, fun c hc => ?_⟩
    rw [e] at hc
    exact p.2 c hc
/-- side conditions; and the plain steps of a reading -/
local macro_rules | `(tactic| walk_at "sd") => `(tactic| first
  | assumption | decide | omega | exact b64 b01 | (show (0 : Int) < _; first | decide | omega) | exact ⟨by decide, by decide, by decide⟩ | exact ⟨by decide, by decide⟩ | exact ⟨by omega, by omega⟩
  | exact .inl ⟨by omega, by omega⟩ | exact .inr ⟨by omega, by omega⟩ | exact sz (by simp) | exact szl (by simp))
local macro_rules | `(tactic| walk_at "rd") => `(tactic| repeat (first
  | refine ⟨_, rfl, ?_⟩
  | refine ⟨_, _, rfl, rfl, ?_⟩
  | refine ⟨_, _, _, _, rfl, rfl, SqL.of (by first | assumption | exact upd_same), rfl, ?_⟩
  | refine .inl ⟨_, rfl, ?_⟩
  | refine .inr ⟨_, rfl, ?_⟩
  | refine ⟨_, _, _, _, rfl, rfl, (by first | assumption | exact upd_same), rfl, ?_⟩
  | refine And.intro (by walk_at "sd") ?_))
section
variable {P : Program}
end
end Q75


/-! what is told, as data -/
namespace Q75
open PySem PySem.Spec PyProof.Rows L2 QT
def GoodV (v : V) : Prop := (∃ z : Str, v = .str z ∧ ∀ c ∈ TL.tl z, c < 128) ∨ ∃ n : Nat, v = .int (n : Int) ∧ n < 100000000000000000000
def wayD : V → PyData
  | .str z => .str z
  | .int i => .int i
  | _ => .none
theorem strP_err : ∀ (m : Nat) (l : List Nat), l.length ≤ m → ∀ k, strP l = .inl k → k ≤ l.length
  | 0, l, h, k, e => by
    have : l = [] := List.eq_nil_of_length_eq_zero (by omega)
    subst this
    cases e
    exact Nat.le_refl _
  | m + 1, l, h, k, e => by
    cases l with
    | nil =>
      cases e
      exact Nat.le_refl _
    | cons c r =>
      rw [List.length_cons] at h ⊢
      by_cases c34 : c = 34
      · subst c34
        rw [strP_end] at e
        cases e
      · by_cases c92 : c = 92
        · subst c92
          cases r with
          | nil =>
            have e : (Sum.inl 1 : Nat ⊕ (List Nat × Nat)) = .inl k := e
            cases e
            exact Nat.le_refl _
          | cons d r =>
            rw [List.length_cons] at h ⊢
            by_cases hd : d = 34 ∨ d = 92
            · rw [strP_esc r hd] at e
              cases q : strP r with
              | inl i =>
                have := strP_err m r (by omega) i q
                rw [q] at e
                have e : (Sum.inl (i + 2) : Nat ⊕ (List Nat × Nat)) = .inl k := e
                cases e
                omega
              | inr y =>
                rw [q] at e
                cases e
            · rw [strP_bad r hd] at e
              cases e
              omega
        · rw [strP_one r c34 c92] at e
          cases q : strP r with
          | inl i =>
            have := strP_err m r (by omega) i q
            rw [q] at e
            have e : (Sum.inl (i + 1) : Nat ⊕ (List Nat × Nat)) = .inl k := e
            cases e
            omega
          | inr y =>
            rw [q] at e
            cases e
theorem strP_in : ∀ (m : Nat) (l : List Nat), l.length ≤ m → ∀ w n, strP l = .inr (w, n) → w.length + 1 ≤ n ∧ ∀ c ∈ w, c ∈ l
  | 0, l, h, w, n, e => by
    have : l = [] := List.eq_nil_of_length_eq_zero (by omega)
    subst this
    cases e
  | m + 1, l, h, w, n, e => by
    cases l with
    | nil => cases e
    | cons c r =>
      rw [List.length_cons] at h
      by_cases c34 : c = 34
      · subst c34
        rw [strP_end] at e
        cases e
        exact ⟨Nat.le_refl _, fun c hc => nomatch hc⟩
      · by_cases c92 : c = 92
        · subst c92
          cases r with
          | nil => cases e
          | cons d r =>
            rw [List.length_cons] at h
            by_cases hd : d = 34 ∨ d = 92
            · rw [strP_esc r hd] at e
              cases q : strP r with
              | inl i => rw [q] at e; cases e
              | inr y =>
                obtain ⟨v, k⟩ := y
                have := strP_in m r (by omega) v k q
                rw [q] at e
                cases e
                refine ⟨by rw [List.length_cons]; omega, fun x hx => ?_⟩
                rcases List.mem_cons.mp hx with rfl | hx
                · exact List.mem_cons_of_mem _ (List.mem_cons_self ..)
                · exact List.mem_cons_of_mem _ (List.mem_cons_of_mem _ (this.2 x hx))
            · rw [strP_bad r hd] at e
              cases e
        · rw [strP_one r c34 c92] at e
          cases q : strP r with
          | inl i => rw [q] at e; cases e
          | inr y =>
            obtain ⟨v, k⟩ := y
            have := strP_in m r (by omega) v k q
            rw [q] at e
            cases e
            refine ⟨by rw [List.length_cons]; omega, fun x hx => ?_⟩
            rcases List.mem_cons.mp hx with rfl | hx
            · exact List.mem_cons_self ..
            · exact List.mem_cons_of_mem _ (this.2 x hx)
theorem dv_lt : ∀ (l : List Nat) (a : Nat), (∀ c ∈ l, dig c = true) → l.foldl (fun acc c => acc * 10 + (c - 48)) a < (a + 1) * 10 ^ l.length
  | [], a, _ => by
    show a < (a + 1) * 1
    omega
  | c :: r, a, h => by
    have ih := dv_lt r (a * 10 + (c - 48)) fun x hx => h x (List.mem_cons_of_mem _ hx)
    have hc := h c (List.mem_cons_self ..)
    unfold dig at hc
    have hc2 : c ≤ 57 := of_decide_eq_true (Bool.and_eq_true_iff.mp hc).2
    rw [List.foldl_cons, List.length_cons]
    have e : (a + 1) * 10 ^ (r.length + 1) = (a * 10 + 10) * 10 ^ r.length := by
      rw [Nat.pow_succ, Nat.mul_comm (10 ^ r.length) 10, ← Nat.mul_assoc, Nat.add_mul]
    rw [e]
    refine Nat.lt_of_lt_of_le ih (Nat.mul_le_mul_right _ ?_)
    omega
theorem numV_good {l : List Nat} (h : ∀ c ∈ l, dig c = true) (n : l ≠ []) (len : l.length ≤ 20) : ∃ k : Nat, numV l = .int (k : Int) ∧ k < 100000000000000000000 := by
  have e := SX.int_S (a := l) (by
    rw [List.all_eq_true]
    exact h) n (by omega)
  refine ⟨NumText.digitsVal l, ?_, ?_⟩
  · have e2 : PySem.intText? ⟨l.toArray⟩ = some ((NumText.digitsVal l : Nat) : Int) := e
    unfold numV
    rw [e2]
    rfl
  · have z : NumText.digitsVal l < (0 + 1) * 10 ^ l.length := dv_lt l 0 h
    refine Nat.lt_of_lt_of_le z ?_
    rw [Nat.zero_add, Nat.one_mul]
    exact Nat.le_trans (Nat.pow_le_pow_right (by decide) len) (by decide)
theorem stepP_err {l : List Nat} {k : Nat} (h : stepP l = .inl k) : k ≤ l.length := by
  cases l with
  | nil =>
    cases h
    exact Nat.le_refl _
  | cons c r =>
    by_cases c34 : c = 34
    · subst c34
      rw [stepP_quote] at h
      cases q : strP r with
      | inl i =>
        have := strP_err r.length r (Nat.le_refl _) i q
        rw [q] at h
        cases h
        rw [List.length_cons]
        omega
      | inr y => rw [q] at h; cases h
    · rw [stepP_num c34] at h
      cases q : numP (c :: r) with
      | none =>
        rw [q] at h
        cases h
        exact Nat.zero_le _
      | some k => rw [q] at h; cases h
theorem stepP_good {l : List Nat} {v : V} {n : Nat} (h : stepP l = .inr (v, n)) (hl : ∀ c ∈ l, c < 128) : GoodV v ∧ (wayD v).bulk + 1 ≤ n := by
  cases l with
  | nil => cases h
  | cons c r =>
    by_cases c34 : c = 34
    · subst c34
      rw [stepP_quote] at h
      cases q : strP r with
      | inl i => rw [q] at h; cases h
      | inr y =>
        obtain ⟨u, k⟩ := y
        have := strP_in r.length r (Nat.le_refl _) u k q
        rw [q] at h
        cases h
        refine ⟨.inl ⟨⟨u.toArray⟩, rfl, fun x hx => hl x (List.mem_cons_of_mem _ (this.2 x hx))⟩, ?_⟩
        show (u.toArray).size + 1 ≤ k + 1
        rw [List.size_toArray]
        omega
    · rw [stepP_num c34] at h
      cases q : numP (c :: r) with
      | none => rw [q] at h; cases h
      | some k =>
        obtain ⟨b1, b2, b3, b4⟩ := numP_le q
        rw [q] at h
        dsimp only at h
        have e := Sum.inr.inj h
        have e1 := congrArg Prod.fst e
        have e2 := congrArg Prod.snd e
        dsimp only at e1 e2
        obtain ⟨i, i1, i2⟩ := numV_good b4 (fun e => by
          have := congrArg List.length e
          rw [List.length_take, List.length_nil] at this
          omega) (by rw [List.length_take]; omega)
        rw [← e1, i1]
        refine ⟨.inr ⟨i, rfl, i2⟩, ?_⟩
        show 0 + 1 ≤ n
        omega
/-- what comes behind is good -/
def Fine (l : List Nat) (x : Nat ⊕ List V) : Prop := (∀ vs, x = .inr vs → (∀ v ∈ vs, GoodV v) ∧ PyData.bulkAll (vs.map wayD) ≤ l.length) ∧ ∀ k, x = .inl k → k ≤ l.length
theorem start_fine {l : List Nat} (hl : ∀ c ∈ l, c < 128) (h : ∀ n, 1 ≤ n → n ≤ l.length → Fine (l.drop n) (restP (l.drop n))) : Fine l (startP l) := by
  rw [startP_eq]
  cases q : stepP l with
  | inl k => exact ⟨fun vs e => (nomatch e), fun k' e => by cases e; exact stepP_err q⟩
  | inr y =>
    obtain ⟨v, n⟩ := y
    have hn := stepP_le q
    obtain ⟨g1, g2⟩ := stepP_good q hl
    obtain ⟨f1, f2⟩ := h n hn.2 hn.1
    dsimp only
    cases e : restP (l.drop n) with
    | inl k =>
      refine ⟨fun vs e => (nomatch e), fun k' e' => ?_⟩
      have := f2 k e
      rw [List.length_drop] at this
      cases e'
      omega
    | inr ws =>
      refine ⟨fun vs e' => ?_, fun k' e => (nomatch e)⟩
      obtain ⟨a1, a2⟩ := f1 ws e
      rw [List.length_drop] at a2
      cases e'
      refine ⟨fun u hu => ?_, ?_⟩
      · rcases List.mem_append.mp hu with hu | hu
        · rw [List.mem_singleton.mp hu]
          exact g1
        · exact a1 u hu
      · show (wayD v).bulk + 1 + PyData.bulkAll (ws.map wayD) ≤ _
        omega
theorem rest_fine : ∀ (m : Nat) (l : List Nat), l.length ≤ m → (∀ c ∈ l, c < 128) → Fine l (restP l)
  | 0, l, h, _ => by
    have : l = [] := List.eq_nil_of_length_eq_zero (by omega)
    subst this
    rw [restP_nil]
    exact ⟨fun vs e => by cases e; exact ⟨fun v h => (nomatch h), Nat.le_refl _⟩, fun k e => (nomatch e)⟩
  | m + 1, l, h, hl => by
    cases l with
    | nil =>
      rw [restP_nil]
      exact ⟨fun vs e => by cases e; exact ⟨fun v h => (nomatch h), Nat.le_refl _⟩, fun k e => (nomatch e)⟩
    | cons c r =>
      rw [List.length_cons] at h
      by_cases c47 : c = 47
      · subst c47
        rw [restP_slash]
        have hr : ∀ c ∈ r, c < 128 := fun x hx => hl x (List.mem_cons_of_mem _ hx)
        have f := start_fine hr fun n h1 h2 => rest_fine m (r.drop n) (by rw [List.length_drop]; omega) fun x hx => hr x (List.mem_of_mem_drop hx)
        cases e : startP r with
        | inl k =>
          refine ⟨fun vs e => (nomatch e), fun k' e' => ?_⟩
          have := f.2 k e
          cases e'
          rw [List.length_cons]
          omega
        | inr ws =>
          refine ⟨fun vs e' => ?_, fun k' e => (nomatch e)⟩
          obtain ⟨a1, a2⟩ := f.1 ws e
          cases e'
          refine ⟨a1, ?_⟩
          rw [List.length_cons]
          show PyData.bulkAll (ws.map wayD) ≤ _
          omega
      · rw [restP_other c47]
        exact ⟨fun vs e => (nomatch e), fun k e => by cases e; exact Nat.zero_le _⟩
theorem path_fine {l : List Nat} (hl : ∀ c ∈ l, c < 128) : Fine l (pathP l) := by
  by_cases c46 : l[0]? = some 46
  · have h0 := (List.getElem?_eq_some_iff.mp c46).1
    rw [path46 c46]
    by_cases l1 : l.length = 1
    · rw [if_pos l1]
      exact ⟨fun vs e => by cases e; exact ⟨fun v h => (nomatch h), Nat.zero_le _⟩, fun k e => (nomatch e)⟩
    · rw [if_neg l1]
      exact ⟨fun vs e => (nomatch e), fun k e => by cases e; omega⟩
  · rw [pathN c46]
    exact start_fine hl fun n _ _ => rest_fine _ _ (Nat.le_refl _) fun x hx => hl x (List.mem_of_mem_drop hx)
theorem plain_lt : ∀ c ∈ plainS.cps.toList, c < 128 := by decide +kernel
/-! data -/
def dF (k : Nat) : PyData := .tuple [.str "fault", .int (k : Int)]
def dT (vs : List V) : PyData := .tuple [.str "told", .tuple (vs.map wayD)]
theorem dp_way {K : PySem.W.Frag} {H : Hp} : ∀ vs : List V, (∀ v ∈ vs, GoodV v) → DpAll K H vs (vs.map wayD)
  | [], _ => .nil
  | v :: r, h => by
    refine .cons ?_ (dp_way r fun u hu => h u (List.mem_cons_of_mem _ hu))
    rcases h v (List.mem_cons_self ..) with ⟨z, rfl, _⟩ | ⟨n, rfl, _⟩
    · exact .str z
    · exact .int _
theorem dp_F {K : PySem.W.Frag} {H : Hp} {t : Addr} {k : Nat} (e : H t = some (.tup [.str "fault", .int (k : Int)])) : Dp K H (.ref t) (dF k) := .tup (SqT.of e) (.cons (.str _) (.cons (.int _) .nil))
theorem dp_T {K : PySem.W.Frag} {H : Hp} {t u : Addr} {vs : List V} (g : ∀ v ∈ vs, GoodV v) (e : H t = some (.tup [.str "told", .ref u])) (e2 : SqT K H u vs) : Dp K H (.ref t) (dT vs) := .tup (SqT.of e) (.cons (.str _) (.cons (.tup e2 (dp_way vs g)) .nil))
theorem int_short {n : Nat} (h : n < 100000000000000000000) : (PyData.shown (.int (n : Int))).length ≤ 30 := by
  have z := PyProof.Rows.toString_length_le (v := (n : Int)) (by omega) (k := 20) (by decide) (by omega)
  exact Nat.le_trans z (by decide)
theorem way_show : ∀ vs : List V, (∀ v ∈ vs, GoodV v) → PyData.showableAll (vs.map wayD) = true ∧ PyData.hasDictAll (vs.map wayD) = false ∧ PyData.leavesShortAll 30 (vs.map wayD) = true ∧ PyData.depthAll (vs.map wayD) = 0
  | [], _ => ⟨rfl, rfl, rfl, rfl⟩
  | v :: r, h => by
    obtain ⟨a, b, c, d⟩ := way_show r fun u hu => h u (List.mem_cons_of_mem _ hu)
    have one : (wayD v).showable = true ∧ (wayD v).hasDict = false ∧ (wayD v).leavesShort 30 = true ∧ (wayD v).depth = 0 := by
      rcases h v (List.mem_cons_self ..) with ⟨z, rfl, hz⟩ | ⟨n, rfl, hn⟩
      · refine ⟨rfl, rfl, ?_, rfl⟩
        show (z.cps.toList.all fun c => decide (c < 16 ^ 8)) = true
        rw [List.all_eq_true]
        intro c hc
        have := hz c hc
        exact decide_eq_true (Nat.lt_of_lt_of_le this (by decide))
      · refine ⟨decide_eq_true (num_small (by omega) (by omega)), rfl, decide_eq_true (int_short hn), rfl⟩
    refine ⟨?_, ?_, ?_, ?_⟩
    · show ((wayD v).showable && PyData.showableAll (r.map wayD)) = true
      rw [one.1, a]
      rfl
    · show ((wayD v).hasDict || PyData.hasDictAll (r.map wayD)) = false
      rw [one.2.1, b]
      rfl
    · show ((wayD v).leavesShort 30 && PyData.leavesShortAll 30 (r.map wayD)) = true
      rw [one.2.2.1, c]
      rfl
    · show max (wayD v).depth (PyData.depthAll (r.map wayD)) = 0
      rw [one.2.2.2, d]
      rfl
/-- data that may be shown -/
structure ShowD (d : PyData) : Prop where
  sh : d.showable = true
  nd : d.hasDict = false
  ln : d.shown.length ≤ sizeLine
  dp : d.depth ≤ 60
theorem show_T {vs : List V} (g : ∀ v ∈ vs, GoodV v) (hb : PyData.bulkAll (vs.map wayD) ≤ 10000) : ShowD (dT vs) := by
  obtain ⟨a, b, c, d⟩ := way_show vs g
  have lt : PyData.leavesShort 30 (.str "told") = true := by decide +kernel
  refine ⟨?_, ?_, ?_, ?_⟩
  · show (true && (PyData.showableAll (vs.map wayD) && true)) = true
    rw [a]
    rfl
  · show (false || (PyData.hasDictAll (vs.map wayD) || false)) = false
    rw [b]
    rfl
  · have l : (dT vs).leavesShort 30 = true := by
      show (PyData.leavesShort 30 (.str "told") && (PyData.leavesShortAll 30 (vs.map wayD) && true)) = true
      rw [lt, c]
      rfl
    have z := PyData.shown_le_bulk 30 (by decide) (dT vs) l
    have e : (dT vs).bulk = 4 + 1 + (PyData.bulkAll (vs.map wayD) + 1 + 0) := rfl
    rw [e] at z
    have s : sizeLine = 16777216 := rfl
    omega
  · show max 0 (max (PyData.depthAll (vs.map wayD) + 1) 0) + 1 ≤ 60
    rw [d]
    decide
theorem show_F {k : Nat} (h : k ≤ 10000) : ShowD (dF k) := by
  have lt : PyData.leavesShort 30 (.str "fault") = true := by decide +kernel
  have hi : (PyData.showable (.int (k : Int))) = true := decide_eq_true (num_small (by omega) (by omega))
  have hs : (PyData.leavesShort 30 (.int (k : Int))) = true := decide_eq_true (int_short (by omega))
  refine ⟨?_, rfl, ?_, (by show max 0 (max 0 0) + 1 ≤ 60; decide)⟩
  · show (true && (PyData.showable (.int (k : Int)) && true)) = true
    rw [hi]
    rfl
  · have l : (dF k).leavesShort 30 = true := by
      show (PyData.leavesShort 30 (.str "fault") && (PyData.leavesShort 30 (.int (k : Int)) && true)) = true
      rw [lt, hs]
      rfl
    have z := PyData.shown_le_bulk 30 (by decide) (dF k) l
    have e : (dF k).bulk = 5 + 1 + (0 + 1 + 0) := rfl
    rw [e] at z
    have s : sizeLine = 16777216 := rfl
    omega
theorem StepK.good {v : V} (h : StepK v) : GoodV v := by
  rcases h with ⟨z, rfl, h⟩ | h
  · exact .inl ⟨z, rfl, fun c hc => kS_lt c (h.2 c hc)⟩
  · exact .inr h
/-- side conditions; and the plain steps of a reading -/
local macro_rules | `(tactic| walk_at "sd") => `(tactic| first
  | assumption | decide | omega | exact b64 b01 | (show (0 : Int) < _; first | decide | omega) | exact ⟨by decide, by decide, by decide⟩ | exact ⟨by decide, by decide⟩ | exact ⟨by omega, by omega⟩
  | exact .inl ⟨by omega, by omega⟩ | exact .inr ⟨by omega, by omega⟩ | exact sz (by simp) | exact szl (by simp))
local macro_rules | `(tactic| walk_at "rd") => `(tactic| repeat (first
  | refine ⟨_, rfl, ?_⟩
  | refine ⟨_, _, rfl, rfl, ?_⟩
  | refine ⟨_, _, _, _, rfl, rfl, SqL.of (by first | assumption | exact upd_same), rfl, ?_⟩
  | refine .inl ⟨_, rfl, ?_⟩
  | refine .inr ⟨_, rfl, ?_⟩
  | refine ⟨_, _, _, _, rfl, rfl, (by first | assumption | exact upd_same), rfl, ?_⟩
  | refine And.intro (by walk_at "sd") ?_))
section
variable {P : Program}
end
end Q75


/-! all is right -/
namespace Q75
open PySem PySem.Spec PyProof.Rows L2 QT
def spRight : Sp := fun vs H Q _ => ∃ s : Addr, vs = [.ref s] ∧ Stt H s ∧ ∀ H', Ext s H H' → Q (.bl true) H'
def bnd : Nat → Nat
  | 0 => 200
  | n + 1 => 2 * bnd n + 1
theorem bnd_le {i : Nat} (h : i < 3) : bnd i ≤ 2000 := by
  have c : i = 0 ∨ i = 1 ∨ i = 2 := by omega
  rcases c with rfl | rfl | rfl <;> decide
theorem bnd_le2 {i : Nat} (h : i < 3) : 2 * bnd i + 1 ≤ 5000 := by
  have := bnd_le h
  omega
theorem same_str {x : Str} : (!decide (V.str x = V.str x)) = false := by simp
/-- side conditions; and the plain steps of a reading -/
local macro_rules | `(tactic| walk_at "sd") => `(tactic| first
  | assumption | decide | omega | exact b64 b01 | (show (0 : Int) < _; first | decide | omega) | exact ⟨by decide, by decide, by decide⟩ | exact ⟨by decide, by decide⟩ | exact ⟨by omega, by omega⟩
  | exact .inl ⟨by omega, by omega⟩ | exact .inr ⟨by omega, by omega⟩ | exact sz (by simp) | exact szl (by simp))
local macro_rules | `(tactic| walk_at "rd") => `(tactic| repeat (first
  | refine ⟨_, rfl, ?_⟩
  | refine ⟨_, _, rfl, rfl, ?_⟩
  | refine ⟨_, _, _, _, rfl, rfl, SqL.of (by first | assumption | exact upd_same), rfl, ?_⟩
  | refine .inl ⟨_, rfl, ?_⟩
  | refine .inr ⟨_, rfl, ?_⟩
  | refine ⟨_, _, _, _, rfl, rfl, (by first | assumption | exact upd_same), rfl, ?_⟩
  | refine And.intro (by walk_at "sd") ?_))
section
variable {P : Program} {w : World} {K : PySem.W.Frag} {mg : Str → Option Value} {base : Heap} {f : Addr} {fd : FuncData}
abbrev s__law_right : Stmt := top 29
theorem sc__law_right : FnScope ["_law_source_here", "_law_k", "_law_way_here", "_law_word", "_law_turn"] ["_law_source_here"] (defScope s__law_right) := ⟨rfl, rfl, rfl, by decide +kernel, rfl, by decide +kernel, by decide +kernel⟩
theorem ok_right (F : Fun K "_law_right" "_law_right" s__law_right f fd) (T : Txt K mg) (c_way : Cal P w K mg base 4 "_law_way" spWay) (c_written : Cal P w K mg base 2 "_law_written" (spLWritten K))
    (c_path_text : Cal P w K mg base 2 "path_text" (spPathText K)) (c_said : Cal P w K mg base 7 "_law_said" spSaid) (c_bent : Cal P w K mg base 3 "_law_bent" spBent) (c_due : Cal P w K mg base 2 "_law_due" spDue) :
    FnOkG P w K mg base 8 f fd ["_law_source_here"] spRight := by
  refine okG F sc__law_right (fun vs H Q E h => ?_) (fun cdv A outer st H vs Q E free hr h => ?_)
  · obtain ⟨s, rfl, _⟩ := h
    rfl
  · obtain ⟨s, rfl, hs, k⟩ := h
    have hu : (A.deeper (envOfC "_law_right" (defScope s__law_right) st.heap.objs.size f cdv)).units + 64 < cLine := by
      have := hr.un
      omega
    refine ⟨_, (pss_cons (ps_for PassesOwn.never rfl (pi_range1 (by rfl) T.z_range (pa_cons pe_int pa_nil)) (pg_name (i := 1) sc__law_right.nd rfl (Or.inl rfl))
      (pss_cons (ps_set (i := 2) sc__law_right.nd rfl (Or.inl rfl) (pe_c c_way hr (by decide) (by rfl) (pa_cons (pv 0) pa_nil)))
        (pss_cons (ps_set (i := 3) sc__law_right.nd rfl (Or.inl rfl) (pe_c c_written hr (by decide) (by rfl) (pa_cons (pv 2) pa_nil)))
        (pss_cons (ps_if (PW.pt (pw_or (pt_cmpR op_ne (pe_c c_path_text hr (by decide) (by rfl) (pa_cons (pv 2) pa_nil)) (pv 3) (nomark _)) (pw_or (pt_cmpR op_ne (pe_c c_path_text hr (by decide) (by rfl) (pa_cons (pe_callTy call_list_of (by rfl) T.z_list (by decide +kernel) (pa_cons (pv 2) pa_nil)) pa_nil)) (pv 3) (nomark _)) (pw_or1 (pt_cmpR op_ne (pe_callB (call_reprD free hu) (by rfl) T.z_repr (by decide +kernel) (pa_cons (pe_c c_said hr (by decide) (by rfl) (pa_cons (pv 3) pa_nil)) pa_nil)) (pe_callB (call_reprD free hu) (by rfl) T.z_repr (by decide +kernel) (pa_cons (pe_tup (pa_cons pe_str (pa_cons (pv 2) pa_nil))) pa_nil)) (nomark _))))))
        (pss_one (ps_ret pe_bl))
        pss_nil)
        (pss_one (ps_for PassesOwn.never rfl (pi_range1 (by rfl) T.z_range (pa_cons pe_int pa_nil)) (pg_name (i := 4) sc__law_right.nd rfl (Or.inl rfl))
        (pss_cons (ps_set (i := 3) sc__law_right.nd rfl (Or.inl rfl) (pe_c c_bent hr (by decide) (by rfl) (pa_cons (pv 0) (pa_cons (pv 3) pa_nil))))
          (pss_one (ps_if (pt_cmpR op_ne (pe_callB (call_reprD free hu) (by rfl) T.z_repr (by decide +kernel) (pa_cons (pe_c c_said hr (by decide) (by rfl) (pa_cons (pv 3) pa_nil)) pa_nil)) (pe_callB (call_reprD free hu) (by rfl) T.z_repr (by decide +kernel) (pa_cons (pe_c c_due hr (by decide) (by rfl) (pa_cons (pv 3) pa_nil)) pa_nil)) (nomark _))
          (pss_one (ps_ret pe_bl))
          pss_nil)))))))))
      (pss_one (ps_ret pe_bl))), ?_⟩
    refine use_seq ?_
    refine ⟨10, rfl, by decide, by decide, ?_⟩
    refine for_it walk_range (fun i σ H' => ∃ o1 o2 o3 o4 : Option V, σ = [some (.ref s), o1, o2, o3, o4] ∧ Ext s H H') ⟨none, none, none, none, rfl, Ext.refl hs⟩ (fun _ _ _ _ _ => trivial) ?_ ?_
    · rintro i x σ L0 L1 hi ⟨o1, o2, o3, o4, rfl, X0⟩ ⟨rfl, rfl⟩
      dsimp only
      refine use_seq ?_
      refine ⟨_, rfl, s, rfl, X0.st, fun H1 t xs x1 nt et hl hk => ?_⟩
      have X1 := X0.trans x1
      have hst : ∀ v ∈ xs, Step v := fun v hv => (hk v hv).step
      have gd : ∀ v ∈ xs, GoodV v := fun v hv => (hk v hv).good
      dsimp only
      refine use_seq ?_
      refine ⟨_, rfl, t, xs, rfl, SqT.of et, hst, by omega, fun H2 s2 => ?_⟩
      have X2 := X1.ex s2
      dsimp only
      refine use_seq ?_
      refine ⟨_, rfl, t, xs, rfl, .inr (SqT.of (s2 _ _ et)), hst, by omega, fun H3 s3 => ⟨_, rfl, rfl, _, rfl, ifF same_str ?_⟩⟩
      have X3 := X2.ex s3
      have et3 := s3 _ _ (s2 _ _ et)
      refine ⟨_, rfl, t, xs, rfl, .inr (SqT.of et3), fun l nl => ?_⟩
      have X4 := X3.new nl (o := .lst xs)
      have et4 := same_new nl (o := .lst xs) _ _ et3
      refine ⟨l, xs, rfl, .inl (SqL.of upd_same), hst, by omega, fun H4 s4 => ⟨_, rfl, rfl, _, rfl, ifF same_str ?_⟩⟩
      have X5 := X4.ex s4
      have et5 := s4 _ _ et4
      have pw := wr_part hk hl
      have pb := path_back hk
      refine ⟨_, rfl, wrS xs, rfl, by have := pw.len; omega, pw.sg, fun i q => ?_, fun vs q => ?_⟩
      · rw [pb] at q
        cases q
      rw [pb] at q
      cases q
      intro H5 t5 u5 s5 nt5 eu5 e5
      have X6 := X5.ex s5
      have fn := path_fine (l := TL.tl (wrS xs)) fun c hc => plain_lt c (pw.sg c hc)
      have hbk := (fn.1 xs pb).2
      have sd : ShowD (dT xs) := show_T gd (by
        have := pw.len
        rw [TL.len_tl] at this
        omega)
      refine ⟨t5, dT xs, rfl, dp_T gd e5 (SqT.of eu5), sd.sh, sd.nd, sd.ln, sd.dp, ?_⟩
      refine ⟨_, rfl, sz (by simp), fun p np => ?_⟩
      have X7 := X6.new np (o := .tup [.str "told", .ref t])
      refine ⟨p, dT xs, rfl, dp_T gd upd_same (SqT.of (same_new np _ _ (s5 _ _ et5))), sd.sh, sd.nd, sd.ln, sd.dp, ⟨rfl, _, rfl, ifF same_str ?_⟩⟩
      refine use_next ?_
      refine ⟨3, rfl, by decide, by decide, ?_⟩
      refine for_it walk_range (fun j σ H' => ∃ (o1 o4 : Option V) (y : Str), σ = [some (.ref s), o1, some (.ref t), some (.str y), o4] ∧ Ext s H H' ∧ Part (bnd j) y) ⟨_, _, _, rfl, X7, pw⟩ (fun _ _ _ _ _ => trivial) ?_ ?_
      · rintro j x σ M0 M1 hj ⟨o1, o4, y, rfl, Y0, py⟩ ⟨rfl, rfl⟩
        dsimp only
        refine use_seq ?_
        refine ⟨_, rfl, _, rfl, s, y, bnd j, rfl, Y0.st, py, bnd_le hj, fun H6 y2 x6 p6 => ?_⟩
        have Y1 := Y0.trans x6
        have lt2 : ∀ c ∈ TL.tl y2, c < 128 := fun c hc => plain_lt c (p6.sg c hc)
        have fn2 := path_fine lt2
        have ln2 : y2.length ≤ 5000 := Nat.le_trans p6.len (bnd_le2 hj)
        have ln3 := ln2
        rw [TL.len_tl] at ln3
        dsimp only
        refine ⟨_, rfl, y2, rfl, ln2, p6.sg, fun m q => ?_, fun vs q => ?_⟩
        · intro H7 t7 s7 nt7 e7
          have sd2 : ShowD (dF m) := show_F (by have := fn2.2 m q; omega)
          refine ⟨t7, dF m, rfl, dp_F e7, sd2.sh, sd2.nd, sd2.ln, sd2.dp, ?_⟩
          refine ⟨_, rfl, y2, rfl, ln2, fun m2 q2 => ?_, fun vs q2 => ?_⟩
          · rw [q] at q2
            cases q2
            intro H8 t8 s8 nt8 e8
            refine ⟨t8, dF m, rfl, dp_F e8, sd2.sh, sd2.nd, sd2.ln, sd2.dp, ⟨rfl, _, rfl, ifF same_str ?_⟩⟩
            exact use_next ⟨_, _, y2, rfl, (Y1.ex s7).ex s8, p6⟩
          · rw [q] at q2
            cases q2
        · intro H7 t7 u7 s7 nt7 eu7 e7
          obtain ⟨g2, b2⟩ := fn2.1 vs q
          have sd2 : ShowD (dT vs) := show_T g2 (by omega)
          refine ⟨t7, dT vs, rfl, dp_T g2 e7 (SqT.of eu7), sd2.sh, sd2.nd, sd2.ln, sd2.dp, ?_⟩
          refine ⟨_, rfl, y2, rfl, ln2, fun m2 q2 => ?_, fun vs2 q2 => ?_⟩
          · rw [q] at q2
            cases q2
          · rw [q] at q2
            cases q2
            intro H8 t8 u8 s8 nt8 eu8 e8
            refine ⟨t8, dT vs, rfl, dp_T g2 e8 (SqT.of eu8), sd2.sh, sd2.nd, sd2.ln, sd2.dp, ⟨rfl, _, rfl, ifF same_str ?_⟩⟩
            exact use_next ⟨_, _, y2, rfl, (Y1.ex s7).ex s8, p6⟩
      · rintro σ M ⟨o1, o4, y, rfl, Y0, py⟩
        exact ⟨_, _, _, _, rfl, Y0⟩
    · rintro σ W ⟨o1, o2, o3, o4, rfl, X0⟩
      exact k _ X0
end
end Q75


/-! the law itself -/
namespace Q75
open PySem PySem.Spec PyProof.Rows L2 QT
def spLaw (K : PySem.W.Frag) : Sp := fun vs H Q _ => ∃ (a : Addr) (ns : List Int), vs = [.ref a] ∧ SqL K H a (ns.map V.int) ∧ ns.length ≤ 63 ∧ ∀ H', Q (.bl true) H'
theorem map_snoc (ns : List Int) (m : Int) : ns.map V.int ++ [V.int m] = (ns ++ [m]).map V.int := by
  rw [List.map_append]
  rfl
theorem cut_ints2 (ms : List Int) (lo hi : Option Int) : ∃ ks : List Int, cutV (ms.map V.int) lo hi = ks.map V.int := by
  refine ⟨(ms.drop (HT.sIx (ms.map V.int).length 0 lo)).take (HT.sIx (ms.map V.int).length (ms.map V.int).length hi - HT.sIx (ms.map V.int).length 0 lo), ?_⟩
  unfold cutV
  rw [List.map_take, List.map_drop]
/-- where a path goes wrong, by steps -/
def errR : Nat → List Nat → Option Nat
  | 0, _ => none
  | _ + 1, [] => none
  | f + 1, c :: r => if c = 47 then (match stepP r with
      | .inl k => some (k + 1)
      | .inr (_, n) => (errR f (r.drop n)).map (· + (n + 1))) else some 0
theorem errR_ok : ∀ (f : Nat) (l : List Nat) (k : Nat), errR f l = some k → restP l = .inl k
  | 0, _, _, h => nomatch h
  | _ + 1, [], _, h => nomatch h
  | f + 1, c :: r, k, h => by
    by_cases c47 : c = 47
    · subst c47
      rw [restP_slash, startP_eq]
      have h : (match stepP r with
        | .inl k => some (k + 1)
        | .inr (_, n) => (errR f (r.drop n)).map (· + (n + 1))) = some k := h
      cases q : stepP r with
      | inl i =>
        rw [q] at h
        cases h
        rfl
      | inr y =>
        obtain ⟨v, n⟩ := y
        rw [q] at h
        dsimp only at h ⊢
        cases e : errR f (r.drop n) with
        | none =>
          rw [e] at h
          cases h
        | some i =>
          rw [e] at h
          have ih := errR_ok f _ i e
          rw [ih]
          have h : some (i + (n + 1)) = some k := h
          cases h
          rfl
    · rw [restP_other c47]
      have h : (if c = 47 then _ else some 0) = some k := h
      rw [if_neg c47] at h
      cases h
      rfl
def errP (l : List Nat) : Option Nat := if l[0]? = some 46 then (if l.length = 1 then none else some 1) else (match stepP l with
  | .inl k => some k
  | .inr (_, n) => (errR 40 (l.drop n)).map (· + n))
theorem errP_ok {l : List Nat} {k : Nat} (h : errP l = some k) : pathP l = .inl k := by
  unfold errP at h
  by_cases c46 : l[0]? = some 46
  · rw [if_pos c46] at h
    rw [path46 c46]
    by_cases l1 : l.length = 1
    · rw [if_pos l1] at h
      cases h
    · rw [if_neg l1] at h
      rw [if_neg l1]
      cases h
      rfl
  · rw [if_neg c46] at h
    rw [pathN c46, startP_eq]
    cases q : stepP l with
    | inl i =>
      rw [q] at h
      cases h
      rfl
    | inr y =>
      obtain ⟨v, n⟩ := y
      rw [q] at h
      dsimp only at h ⊢
      cases e : errR 40 (l.drop n) with
      | none =>
        rw [e] at h
        cases h
      | some i =>
        rw [e] at h
        rw [errR_ok 40 _ i e]
        have h : some (i + n) = some k := h
        cases h
        rfl
/-- a fixed text and what is due -/
def fixB (w : Str) (k : Nat) : Bool := decide (w.length ≤ 5000) && (TL.tl w).all (fun c => decide (c ∈ plainS.cps.toList)) && decide (errP (TL.tl w) = some k) && decide (k ≤ 100)
def FixV (H : Hp) (v : V) : Prop := ∃ (t : Addr) (w : Str) (k : Nat), v = .ref t ∧ H t = some (.tup [.str w, .int (k : Int)]) ∧ fixB w k = true
theorem FixV.same {H H' : Hp} {v : V} (h : FixV H v) (s : Same H H') : FixV H' v := by
  obtain ⟨t, w, k, e, h1, h2⟩ := h
  exact ⟨t, w, k, e, s _ _ h1, h2⟩
theorem mul_ok : MulOk "9" 21 := ⟨by decide, fun _ _ => by decide, fun _ _ => by decide⟩
theorem can_F (k : Nat) : (dF k).canLay0 = true := by
  have a : PyData.strOk "fault" = true := by decide +kernel
  show (PyData.strOk "fault" && (true && true)) = true
  rw [a]
  rfl
theorem shaped_F (k : Nat) : SeqAt.shaped (dF k) = true := by
  show ((dF k).canLay0 && decide (max 0 (max 0 0) + 1 ≤ 64)) = true
  rw [can_F]
  rfl
theorem use_ne {K : PySem.W.Frag} {H : Hp} {x y : V} {d : PyData} {Q : VK} (hx : Dp K H x d) (hy : Dp K H y d) (c : d.canLay0 = true) (s : SeqAt.shaped d = true) (q : Q (.bl false) H) : rNeD K x y H Q := ⟨d, d, hx, hy, s, s, by rw [SeqAt.eqv_refl d c]; exact q⟩
/-- side conditions; and the plain steps of a reading -/
local macro_rules | `(tactic| walk_at "sd") => `(tactic| first
  | assumption | decide | omega | exact b64 b01 | (show (0 : Int) < _; first | decide | omega) | exact ⟨by decide, by decide, by decide⟩ | exact ⟨by decide, by decide⟩ | exact ⟨by omega, by omega⟩
  | exact .inl ⟨by omega, by omega⟩ | exact .inr ⟨by omega, by omega⟩ | exact sz (by simp) | exact szl (by simp))
local macro_rules | `(tactic| walk_at "rd") => `(tactic| repeat (first
  | refine ⟨_, rfl, ?_⟩
  | refine ⟨_, _, rfl, rfl, ?_⟩
  | refine ⟨_, _, _, _, rfl, rfl, SqL.of (by first | assumption | exact upd_same), rfl, ?_⟩
  | refine .inl ⟨_, rfl, ?_⟩
  | refine .inr ⟨_, rfl, ?_⟩
  | refine ⟨_, _, _, _, rfl, rfl, (by first | assumption | exact upd_same), rfl, ?_⟩
  | refine And.intro (by walk_at "sd") ?_))
section
variable {P : Program} {w : World} {K : PySem.W.Frag} {mg : Str → Option Value} {base : Heap} {f : Addr} {fd : FuncData}
abbrev s_law : Stmt := top 30
theorem sc_law : FnScope ["_law_script", "_law_cell", "_law_source_here", "_law_fixed", "_law_word", "_law_due_here"] ["_law_script"] (defScope s_law) := ⟨rfl, rfl, rfl, by decide +kernel, rfl, by decide +kernel, by decide +kernel⟩
theorem ok_law (F : Fun K "law" "law" s_law f fd) (T : Txt K mg) (c_source : Cal P w K mg base 1 "_law_source" spSource) (c_said : Cal P w K mg base 7 "_law_said" spSaid) (c_right : CalG P w K mg base 8 "_law_right" spRight) : FnOkG P w K mg base 9 f fd ["_law_script"] (spLaw K) := by
  refine okG F sc_law (fun vs H Q E h => ?_) (fun cdv A outer st H vs Q E free hr h => ?_)
  · obtain ⟨a, ns, rfl, _⟩ := h
    rfl
  · obtain ⟨a, ns, rfl, hs, hl, k⟩ := h
    refine ⟨_, (pss_cons (ps_for PassesOwn.never rfl (pi_list (pe_slice sl_list (pe_op op_catS (pv 0) (pe_lst (pa_cons pe_int pa_nil))) po_none (po_some pe_int))) (pg_name (i := 1) sc_law.nd rfl (Or.inl rfl))
      (pss_cons (ps_set (i := 2) sc_law.nd rfl (Or.inl rfl) (pe_c c_source hr (by decide) (by rfl) (pa_cons (pv 1) pa_nil)))
        (pss_one (ps_if (pt_not (pt_val (pe_cG c_right free hr (by decide) (by rfl) (pa_cons (pv 2) pa_nil))))
        (pss_one (ps_ret pe_bl))
        pss_nil))))
      (pss_cons (ps_set (i := 3) sc_law.nd rfl (Or.inl rfl) (pe_lst (pa_cons (pe_tup (pa_cons pe_str (pa_cons pe_int pa_nil))) (pa_cons (pe_tup (pa_cons pe_str (pa_cons pe_int pa_nil))) (pa_cons (pe_tup (pa_cons pe_str (pa_cons pe_int pa_nil))) (pa_cons (pe_tup (pa_cons pe_str (pa_cons pe_int pa_nil))) (pa_cons (pe_tup (pa_cons pe_str (pa_cons pe_int pa_nil))) (pa_cons (pe_tup (pa_cons pe_str (pa_cons pe_int pa_nil))) (pa_cons (pe_tup (pa_cons pe_str (pa_cons pe_int pa_nil))) (pa_cons (pe_tup (pa_cons pe_str (pa_cons pe_int pa_nil))) (pa_cons (pe_tup (pa_cons pe_str (pa_cons pe_int pa_nil))) pa_nil)))))))))))
      (pss_cons (ps_set (i := 3) sc_law.nd rfl (Or.inl rfl) (pe_op op_catS (pv 3) (pe_lst (pa_cons (pe_tup (pa_cons pe_str (pa_cons pe_int pa_nil))) (pa_cons (pe_tup (pa_cons (pe_op op_mulS pe_str pe_int) (pa_cons pe_int pa_nil))) (pa_cons (pe_tup (pa_cons pe_str (pa_cons pe_int pa_nil))) (pa_cons (pe_tup (pa_cons pe_str (pa_cons pe_int pa_nil))) (pa_cons (pe_tup (pa_cons pe_str (pa_cons pe_int pa_nil))) (pa_cons (pe_tup (pa_cons pe_str (pa_cons pe_int pa_nil))) (pa_cons (pe_tup (pa_cons pe_str (pa_cons pe_int pa_nil))) pa_nil))))))))))
      (pss_cons (ps_for PassesOwn.never rfl (pi_list (pe_op op_catS (pv 3) (pe_lst (pa_cons (pe_tup (pa_cons pe_str (pa_cons pe_int pa_nil))) pa_nil)))) (pg_tup rfl (pgs_cons (pg_name (i := 4) sc_law.nd rfl (Or.inl rfl)) (pgs_cons (pg_name (i := 5) sc_law.nd rfl (Or.inl rfl)) pgs_nil)))
      (pss_one (ps_if (pt_cmpR (op_neD hr.units) (pe_c c_said hr (by decide) (by rfl) (pa_cons (pv 4) pa_nil)) (pe_tup (pa_cons pe_str (pa_cons (pv 5) pa_nil))) (nomark _))
        (pss_one (ps_ret pe_bl))
        pss_nil)))
      (pss_one (ps_ret pe_bl)))))), ?_⟩
    refine use_seq ?_
    refine ⟨_, rfl, sz (by simp), fun l1 n1 => ⟨a, l1, _, _, rfl, rfl, (same_new n1).seq hs, SqL.of upd_same, sz (by rw [List.length_map]; simp; omega), fun l2 n2 => ⟨_, rfl, l2, _, rfl, SqL.of upd_same, fun u nu => ?_⟩⟩⟩
    have e1 : ns.map V.int ++ [V.int 0] = (ns ++ [0]).map V.int := map_snoc ns 0
    rw [e1] at nu ⊢
    obtain ⟨ks, ek⟩ := cut_ints2 (ns ++ [0]) none (some 4)
    rw [ek]
    refine ⟨u, rfl, ⟨_, SqL.of upd_same⟩, ?_⟩
    refine for_it (walk_list (K := K) (a := u) (xs := ks.map V.int)) (fun _ σ G => ∃ o1 o2 o3 o4 o5 : Option V, σ = [some (.ref a), o1, o2, o3, o4, o5] ∧ G u = some (.lst (ks.map V.int))) ⟨none, none, none, none, none, rfl, upd_same⟩ (fun _ _ _ _ ⟨_, _, _, _, _, _, h⟩ => SqL.of h) ?_ ?_
    · rintro i x σ G0 G1 hi ⟨o1, o2, o3, o4, o5, rfl, hu⟩ ⟨rfl, hx⟩
      obtain ⟨n, rfl, _⟩ := mem_ints (List.mem_of_getElem? hx)
      try dsimp only
      refine use_seq ?_
      refine ⟨_, rfl, n, rfl, fun G2 s ns2 s2 st2 => ?_⟩
      try dsimp only
      refine ⟨_, rfl, s, rfl, st2, fun G3 ex3 => ⟨_, rfl, ifF rfl ?_⟩⟩
      refine use_next ?_
      exact ⟨_, _, _, _, _, rfl, ex3.keep _ _ (ne_of_none hu ns2) (s2 _ _ hu)⟩
    rintro σ G0 ⟨o1, o2, o3, o4, o5, rfl, _⟩
    dsimp only
    refine use_seq ?_
    refine ⟨sz (by simp), fun t1 n1 => ?_⟩
    have s1 := same_new n1 (o := .tup [.str "", .int 0])
    have f1 : FixV (upd G0 t1 (.tup [.str "", .int 0])) (.ref t1) := ⟨t1, "", 0, rfl, upd_same, by decide +kernel⟩
    generalize upd G0 t1 (.tup [.str "", .int 0]) = G1 at s1 f1 ⊢
    refine ⟨sz (by simp), fun t2 n2 => ?_⟩
    have s2 := same_new n2 (o := .tup [.str "..", .int 1])
    have f2 : FixV (upd G1 t2 (.tup [.str "..", .int 1])) (.ref t2) := ⟨t2, "..", 1, rfl, upd_same, by decide +kernel⟩
    generalize upd G1 t2 (.tup [.str "..", .int 1]) = G2 at s2 f2 ⊢
    replace f1 := f1.same s2
    refine ⟨sz (by simp), fun t3 n3 => ?_⟩
    have s3 := same_new n3 (o := .tup [.str ". ", .int 1])
    have f3 : FixV (upd G2 t3 (.tup [.str ". ", .int 1])) (.ref t3) := ⟨t3, ". ", 1, rfl, upd_same, by decide +kernel⟩
    generalize upd G2 t3 (.tup [.str ". ", .int 1]) = G3 at s3 f3 ⊢
    replace f1 := f1.same s3
    replace f2 := f2.same s3
    refine ⟨sz (by simp), fun t4 n4 => ?_⟩
    have s4 := same_new n4 (o := .tup [.str "/", .int 0])
    have f4 : FixV (upd G3 t4 (.tup [.str "/", .int 0])) (.ref t4) := ⟨t4, "/", 0, rfl, upd_same, by decide +kernel⟩
    generalize upd G3 t4 (.tup [.str "/", .int 0]) = G4 at s4 f4 ⊢
    replace f1 := f1.same s4
    replace f2 := f2.same s4
    replace f3 := f3.same s4
    refine ⟨sz (by simp), fun t5 n5 => ?_⟩
    have s5 := same_new n5 (o := .tup [.str "1/", .int 2])
    have f5 : FixV (upd G4 t5 (.tup [.str "1/", .int 2])) (.ref t5) := ⟨t5, "1/", 2, rfl, upd_same, by decide +kernel⟩
    generalize upd G4 t5 (.tup [.str "1/", .int 2]) = G5 at s5 f5 ⊢
    replace f1 := f1.same s5
    replace f2 := f2.same s5
    replace f3 := f3.same s5
    replace f4 := f4.same s5
    refine ⟨sz (by simp), fun t6 n6 => ?_⟩
    have s6 := same_new n6 (o := .tup [.str "01", .int 1])
    have f6 : FixV (upd G5 t6 (.tup [.str "01", .int 1])) (.ref t6) := ⟨t6, "01", 1, rfl, upd_same, by decide +kernel⟩
    generalize upd G5 t6 (.tup [.str "01", .int 1]) = G6 at s6 f6 ⊢
    replace f1 := f1.same s6
    replace f2 := f2.same s6
    replace f3 := f3.same s6
    replace f4 := f4.same s6
    replace f5 := f5.same s6
    refine ⟨sz (by simp), fun t7 n7 => ?_⟩
    have s7 := same_new n7 (o := .tup [.str "1a", .int 1])
    have f7 : FixV (upd G6 t7 (.tup [.str "1a", .int 1])) (.ref t7) := ⟨t7, "1a", 1, rfl, upd_same, by decide +kernel⟩
    generalize upd G6 t7 (.tup [.str "1a", .int 1]) = G7 at s7 f7 ⊢
    replace f1 := f1.same s7
    replace f2 := f2.same s7
    replace f3 := f3.same s7
    replace f4 := f4.same s7
    replace f5 := f5.same s7
    replace f6 := f6.same s7
    refine ⟨sz (by simp), fun t8 n8 => ?_⟩
    have s8 := same_new n8 (o := .tup [.str "\"a\"x", .int 3])
    have f8 : FixV (upd G7 t8 (.tup [.str "\"a\"x", .int 3])) (.ref t8) := ⟨t8, "\"a\"x", 3, rfl, upd_same, by decide +kernel⟩
    generalize upd G7 t8 (.tup [.str "\"a\"x", .int 3]) = G8 at s8 f8 ⊢
    replace f1 := f1.same s8
    replace f2 := f2.same s8
    replace f3 := f3.same s8
    replace f4 := f4.same s8
    replace f5 := f5.same s8
    replace f6 := f6.same s8
    replace f7 := f7.same s8
    refine ⟨sz (by simp), fun t9 n9 => ?_⟩
    have s9 := same_new n9 (o := .tup [.str "\"a", .int 2])
    have f9 : FixV (upd G8 t9 (.tup [.str "\"a", .int 2])) (.ref t9) := ⟨t9, "\"a", 2, rfl, upd_same, by decide +kernel⟩
    generalize upd G8 t9 (.tup [.str "\"a", .int 2]) = G9 at s9 f9 ⊢
    replace f1 := f1.same s9
    replace f2 := f2.same s9
    replace f3 := f3.same s9
    replace f4 := f4.same s9
    replace f5 := f5.same s9
    replace f6 := f6.same s9
    replace f7 := f7.same s9
    replace f8 := f8.same s9
    refine ⟨sz (by simp), fun lA mA => ?_⟩
    have s10 := same_new mA (o := .lst [.ref t1, .ref t2, .ref t3, .ref t4, .ref t5, .ref t6, .ref t7, .ref t8, .ref t9])
    have eA := upd_same (H := G9) (a := lA) (o := .lst [.ref t1, .ref t2, .ref t3, .ref t4, .ref t5, .ref t6, .ref t7, .ref t8, .ref t9])
    generalize upd G9 lA (.lst [.ref t1, .ref t2, .ref t3, .ref t4, .ref t5, .ref t6, .ref t7, .ref t8, .ref t9]) = G10 at s10 eA ⊢
    replace f1 := f1.same s10
    replace f2 := f2.same s10
    replace f3 := f3.same s10
    replace f4 := f4.same s10
    replace f5 := f5.same s10
    replace f6 := f6.same s10
    replace f7 := f7.same s10
    replace f8 := f8.same s10
    replace f9 := f9.same s10
    dsimp only
    refine use_seq ?_
    refine ⟨_, rfl, ?_⟩
    refine ⟨sz (by simp), fun t11 n11 => ?_⟩
    have s11 := same_new n11 (o := .tup [.str "-1", .int 0])
    have f11 : FixV (upd G10 t11 (.tup [.str "-1", .int 0])) (.ref t11) := ⟨t11, "-1", 0, rfl, upd_same, by decide +kernel⟩
    generalize upd G10 t11 (.tup [.str "-1", .int 0]) = G11 at s11 f11 ⊢
    replace f1 := f1.same s11
    replace f2 := f2.same s11
    replace f3 := f3.same s11
    replace f4 := f4.same s11
    replace f5 := f5.same s11
    replace f6 := f6.same s11
    replace f7 := f7.same s11
    replace f8 := f8.same s11
    replace f9 := f9.same s11
    refine ⟨"9", 21, rfl, rfl, mul_ok, ?_⟩
    refine ⟨sz (by simp), fun t12 n12 => ?_⟩
    have s12 := same_new n12 (o := .tup [.str (Txt.mul "9" 21), .int 20])
    have f12 : FixV (upd G11 t12 (.tup [.str (Txt.mul "9" 21), .int 20])) (.ref t12) := ⟨t12, (Txt.mul "9" 21), 20, rfl, upd_same, by decide +kernel⟩
    generalize upd G11 t12 (.tup [.str (Txt.mul "9" 21), .int 20]) = G12 at s12 f12 ⊢
    replace f1 := f1.same s12
    replace f2 := f2.same s12
    replace f3 := f3.same s12
    replace f4 := f4.same s12
    replace f5 := f5.same s12
    replace f6 := f6.same s12
    replace f7 := f7.same s12
    replace f8 := f8.same s12
    replace f9 := f9.same s12
    replace f11 := f11.same s12
    refine ⟨sz (by simp), fun t13 n13 => ?_⟩
    have s13 := same_new n13 (o := .tup [.str "1//2", .int 2])
    have f13 : FixV (upd G12 t13 (.tup [.str "1//2", .int 2])) (.ref t13) := ⟨t13, "1//2", 2, rfl, upd_same, by decide +kernel⟩
    generalize upd G12 t13 (.tup [.str "1//2", .int 2]) = G13 at s13 f13 ⊢
    replace f1 := f1.same s13
    replace f2 := f2.same s13
    replace f3 := f3.same s13
    replace f4 := f4.same s13
    replace f5 := f5.same s13
    replace f6 := f6.same s13
    replace f7 := f7.same s13
    replace f8 := f8.same s13
    replace f9 := f9.same s13
    replace f11 := f11.same s13
    replace f12 := f12.same s13
    refine ⟨sz (by simp), fun t14 n14 => ?_⟩
    have s14 := same_new n14 (o := .tup [.str "\"\\x\"", .int 2])
    have f14 : FixV (upd G13 t14 (.tup [.str "\"\\x\"", .int 2])) (.ref t14) := ⟨t14, "\"\\x\"", 2, rfl, upd_same, by decide +kernel⟩
    generalize upd G13 t14 (.tup [.str "\"\\x\"", .int 2]) = G14 at s14 f14 ⊢
    replace f1 := f1.same s14
    replace f2 := f2.same s14
    replace f3 := f3.same s14
    replace f4 := f4.same s14
    replace f5 := f5.same s14
    replace f6 := f6.same s14
    replace f7 := f7.same s14
    replace f8 := f8.same s14
    replace f9 := f9.same s14
    replace f11 := f11.same s14
    replace f12 := f12.same s14
    replace f13 := f13.same s14
    refine ⟨sz (by simp), fun t15 n15 => ?_⟩
    have s15 := same_new n15 (o := .tup [.str "1/.", .int 2])
    have f15 : FixV (upd G14 t15 (.tup [.str "1/.", .int 2])) (.ref t15) := ⟨t15, "1/.", 2, rfl, upd_same, by decide +kernel⟩
    generalize upd G14 t15 (.tup [.str "1/.", .int 2]) = G15 at s15 f15 ⊢
    replace f1 := f1.same s15
    replace f2 := f2.same s15
    replace f3 := f3.same s15
    replace f4 := f4.same s15
    replace f5 := f5.same s15
    replace f6 := f6.same s15
    replace f7 := f7.same s15
    replace f8 := f8.same s15
    replace f9 := f9.same s15
    replace f11 := f11.same s15
    replace f12 := f12.same s15
    replace f13 := f13.same s15
    replace f14 := f14.same s15
    refine ⟨sz (by simp), fun t16 n16 => ?_⟩
    have s16 := same_new n16 (o := .tup [.str " 1", .int 0])
    have f16 : FixV (upd G15 t16 (.tup [.str " 1", .int 0])) (.ref t16) := ⟨t16, " 1", 0, rfl, upd_same, by decide +kernel⟩
    generalize upd G15 t16 (.tup [.str " 1", .int 0]) = G16 at s16 f16 ⊢
    replace f1 := f1.same s16
    replace f2 := f2.same s16
    replace f3 := f3.same s16
    replace f4 := f4.same s16
    replace f5 := f5.same s16
    replace f6 := f6.same s16
    replace f7 := f7.same s16
    replace f8 := f8.same s16
    replace f9 := f9.same s16
    replace f11 := f11.same s16
    replace f12 := f12.same s16
    replace f13 := f13.same s16
    replace f14 := f14.same s16
    replace f15 := f15.same s16
    refine ⟨sz (by simp), fun t17 n17 => ?_⟩
    have s17 := same_new n17 (o := .tup [.str "0/00", .int 3])
    have f17 : FixV (upd G16 t17 (.tup [.str "0/00", .int 3])) (.ref t17) := ⟨t17, "0/00", 3, rfl, upd_same, by decide +kernel⟩
    generalize upd G16 t17 (.tup [.str "0/00", .int 3]) = G17 at s17 f17 ⊢
    replace f1 := f1.same s17
    replace f2 := f2.same s17
    replace f3 := f3.same s17
    replace f4 := f4.same s17
    replace f5 := f5.same s17
    replace f6 := f6.same s17
    replace f7 := f7.same s17
    replace f8 := f8.same s17
    replace f9 := f9.same s17
    replace f11 := f11.same s17
    replace f12 := f12.same s17
    replace f13 := f13.same s17
    replace f14 := f14.same s17
    replace f15 := f15.same s17
    replace f16 := f16.same s17
    refine ⟨sz (by simp), fun lB mB => ?_⟩
    have s18 := same_new mB (o := .lst [.ref t11, .ref t12, .ref t13, .ref t14, .ref t15, .ref t16, .ref t17])
    have eB := upd_same (H := G17) (a := lB) (o := .lst [.ref t11, .ref t12, .ref t13, .ref t14, .ref t15, .ref t16, .ref t17])
    generalize upd G17 lB (.lst [.ref t11, .ref t12, .ref t13, .ref t14, .ref t15, .ref t16, .ref t17]) = G18 at s18 eB ⊢
    replace f1 := f1.same s18
    replace f2 := f2.same s18
    replace f3 := f3.same s18
    replace f4 := f4.same s18
    replace f5 := f5.same s18
    replace f6 := f6.same s18
    replace f7 := f7.same s18
    replace f8 := f8.same s18
    replace f9 := f9.same s18
    replace f11 := f11.same s18
    replace f12 := f12.same s18
    replace f13 := f13.same s18
    replace f14 := f14.same s18
    replace f15 := f15.same s18
    replace f16 := f16.same s18
    replace f17 := f17.same s18
    have eA2 := (s18 _ _ (s17 _ _ (s16 _ _ (s15 _ _ (s14 _ _ (s13 _ _ (s12 _ _ (s11 _ _ eA))))))))
    refine ⟨lA, lB, _, _, rfl, rfl, SqL.of eA2, SqL.of eB, sz (by simp), fun lC mC => ?_⟩
    have s19 := same_new mC (o := .lst ([.ref t1, .ref t2, .ref t3, .ref t4, .ref t5, .ref t6, .ref t7, .ref t8, .ref t9] ++ [.ref t11, .ref t12, .ref t13, .ref t14, .ref t15, .ref t16, .ref t17]))
    have eC := upd_same (H := G18) (a := lC) (o := .lst ([.ref t1, .ref t2, .ref t3, .ref t4, .ref t5, .ref t6, .ref t7, .ref t8, .ref t9] ++ [.ref t11, .ref t12, .ref t13, .ref t14, .ref t15, .ref t16, .ref t17]))
    generalize upd G18 lC (.lst ([.ref t1, .ref t2, .ref t3, .ref t4, .ref t5, .ref t6, .ref t7, .ref t8, .ref t9] ++ [.ref t11, .ref t12, .ref t13, .ref t14, .ref t15, .ref t16, .ref t17])) = G19 at s19 eC ⊢
    replace f1 := f1.same s19
    replace f2 := f2.same s19
    replace f3 := f3.same s19
    replace f4 := f4.same s19
    replace f5 := f5.same s19
    replace f6 := f6.same s19
    replace f7 := f7.same s19
    replace f8 := f8.same s19
    replace f9 := f9.same s19
    replace f11 := f11.same s19
    replace f12 := f12.same s19
    replace f13 := f13.same s19
    replace f14 := f14.same s19
    replace f15 := f15.same s19
    replace f16 := f16.same s19
    replace f17 := f17.same s19
    dsimp only
    refine use_seq ?_
    refine ⟨_, rfl, ?_⟩
    refine ⟨sz (by simp), fun t20 n20 => ?_⟩
    have s20 := same_new n20 (o := .tup [.str "\"a\"/", .int 4])
    have f20 : FixV (upd G19 t20 (.tup [.str "\"a\"/", .int 4])) (.ref t20) := ⟨t20, "\"a\"/", 4, rfl, upd_same, by decide +kernel⟩
    generalize upd G19 t20 (.tup [.str "\"a\"/", .int 4]) = G20 at s20 f20 ⊢
    replace f1 := f1.same s20
    replace f2 := f2.same s20
    replace f3 := f3.same s20
    replace f4 := f4.same s20
    replace f5 := f5.same s20
    replace f6 := f6.same s20
    replace f7 := f7.same s20
    replace f8 := f8.same s20
    replace f9 := f9.same s20
    replace f11 := f11.same s20
    replace f12 := f12.same s20
    replace f13 := f13.same s20
    replace f14 := f14.same s20
    replace f15 := f15.same s20
    replace f16 := f16.same s20
    replace f17 := f17.same s20
    refine ⟨sz (by simp), fun lD mD => ?_⟩
    have s21 := same_new mD (o := .lst [.ref t20])
    have eD := upd_same (H := G20) (a := lD) (o := .lst [.ref t20])
    generalize upd G20 lD (.lst [.ref t20]) = G21 at s21 eD ⊢
    replace f1 := f1.same s21
    replace f2 := f2.same s21
    replace f3 := f3.same s21
    replace f4 := f4.same s21
    replace f5 := f5.same s21
    replace f6 := f6.same s21
    replace f7 := f7.same s21
    replace f8 := f8.same s21
    replace f9 := f9.same s21
    replace f11 := f11.same s21
    replace f12 := f12.same s21
    replace f13 := f13.same s21
    replace f14 := f14.same s21
    replace f15 := f15.same s21
    replace f16 := f16.same s21
    replace f17 := f17.same s21
    replace f20 := f20.same s21
    have eC2 := (s21 _ _ (s20 _ _ eC))
    refine ⟨lC, lD, _, _, rfl, rfl, SqL.of eC2, SqL.of eD, sz (by simp), fun lE mE => ?_⟩
    have s22 := same_new mE (o := .lst ([.ref t1, .ref t2, .ref t3, .ref t4, .ref t5, .ref t6, .ref t7, .ref t8, .ref t9] ++ [.ref t11, .ref t12, .ref t13, .ref t14, .ref t15, .ref t16, .ref t17] ++ [.ref t20]))
    have eE := upd_same (H := G21) (a := lE) (o := .lst ([.ref t1, .ref t2, .ref t3, .ref t4, .ref t5, .ref t6, .ref t7, .ref t8, .ref t9] ++ [.ref t11, .ref t12, .ref t13, .ref t14, .ref t15, .ref t16, .ref t17] ++ [.ref t20]))
    generalize upd G21 lE (.lst ([.ref t1, .ref t2, .ref t3, .ref t4, .ref t5, .ref t6, .ref t7, .ref t8, .ref t9] ++ [.ref t11, .ref t12, .ref t13, .ref t14, .ref t15, .ref t16, .ref t17] ++ [.ref t20])) = G22 at s22 eE ⊢
    replace f1 := f1.same s22
    replace f2 := f2.same s22
    replace f3 := f3.same s22
    replace f4 := f4.same s22
    replace f5 := f5.same s22
    replace f6 := f6.same s22
    replace f7 := f7.same s22
    replace f8 := f8.same s22
    replace f9 := f9.same s22
    replace f11 := f11.same s22
    replace f12 := f12.same s22
    replace f13 := f13.same s22
    replace f14 := f14.same s22
    replace f15 := f15.same s22
    replace f16 := f16.same s22
    replace f17 := f17.same s22
    replace f20 := f20.same s22
    have all : ∀ v ∈ ([.ref t1, .ref t2, .ref t3, .ref t4, .ref t5, .ref t6, .ref t7, .ref t8, .ref t9] ++ [.ref t11, .ref t12, .ref t13, .ref t14, .ref t15, .ref t16, .ref t17] ++ [.ref t20] : List V), FixV G22 v := fun v hv => by
      simp only [List.mem_cons, List.mem_append, List.mem_nil_iff, or_false] at hv
      rcases hv with ((rfl | rfl | rfl | rfl | rfl | rfl | rfl | rfl | rfl) | (rfl | rfl | rfl | rfl | rfl | rfl | rfl)) | rfl
      · exact f1
      · exact f2
      · exact f3
      · exact f4
      · exact f5
      · exact f6
      · exact f7
      · exact f8
      · exact f9
      · exact f11
      · exact f12
      · exact f13
      · exact f14
      · exact f15
      · exact f16
      · exact f17
      · exact f20
    generalize hxs : ([.ref t1, .ref t2, .ref t3, .ref t4, .ref t5, .ref t6, .ref t7, .ref t8, .ref t9] ++ [.ref t11, .ref t12, .ref t13, .ref t14, .ref t15, .ref t16, .ref t17] ++ [.ref t20] : List V) = xs at eE all ⊢
    refine ⟨lE, rfl, ⟨_, SqL.of eE⟩, ?_⟩
    refine for_it (walk_list (K := K) (a := lE) (xs := xs)) (fun _ σ H' => ∃ o1 o2 o4 o5 : Option V, σ = [some (.ref a), o1, o2, some (.ref lC), o4, o5] ∧ Same G22 H') ⟨_, _, _, _, rfl, fun _ _ e => e⟩ (fun _ _ _ _ ⟨_, _, _, _, _, h⟩ => SqL.of (h _ _ eE)) ?_ ?_
    · rintro i x σ M0 M1 hi ⟨o1, o2, o4, o5, rfl, sm⟩ ⟨rfl, hx⟩
      obtain ⟨t, w, k2, rfl, et, fx⟩ := all x (List.mem_of_getElem? hx)
      unfold fixB at fx
      obtain ⟨fx, b4⟩ := Bool.and_eq_true_iff.mp fx
      obtain ⟨fx, b3⟩ := Bool.and_eq_true_iff.mp fx
      obtain ⟨b1, b2⟩ := Bool.and_eq_true_iff.mp fx
      have pe := errP_ok (of_decide_eq_true b3)
      have pl : ∀ c ∈ TL.tl w, c ∈ plainS.cps.toList := fun c hc => of_decide_eq_true (List.all_eq_true.mp b2 c hc)
      refine ⟨t, _, rfl, .inl (.inl (sm _ _ et)), rfl, _, _, rfl, _, _, rfl, rfl, ?_⟩
      refine ⟨_, rfl, w, rfl, of_decide_eq_true b1, pl, fun m q => ?_, fun vs q => ?_⟩
      · rw [pe] at q
        cases q
        intro H7 t7 s7 nt7 e7
        refine ⟨_, rfl, sz (by simp), fun p np => ?_⟩
        refine use_ne (dp_F (same_new np _ _ e7)) (dp_F upd_same) (can_F _) (shaped_F _) ⟨_, rfl, ifF rfl ?_⟩
        exact use_next ⟨_, _, _, _, rfl, (sm.trans s7).trans (same_new np)⟩
      · rw [pe] at q
        cases q
    · rintro σ M ⟨o1, o2, o4, o5, rfl, sm⟩
      exact k _
end
end Q75


/-! the end -/
namespace Q75
open PySem PySem.Spec PyProof.Rows L2 QT
theorem fn_is {K : PySem.W.Frag} {v : Value} (h : PySem.W.typeIn K v = some (.type "function")) : PySem.W.isFn K v = true := by
  unfold PySem.W.isFn
  rw [h]
  rfl
theorem exm_is {K : PySem.W.Frag} {c C : Addr} {b : Bool} (h1 : PySem.W.subIn K (.ref C) (.type "BaseException") = some true) (h2 : PySem.W.isClsIn K C = true) (h3 : PySem.W.typeIn K (.ref C) = some (.type "type")) (h4 : PySem.W.subIn K (.ref c) (.ref C) = some b) : PySem.W.exmOne K (.ref c) (.ref C) = some b := by
  have y1 : (PySem.W.subIn K (.ref C) (.type "BaseException") == some true) = true := by
    rw [h1]
    rfl
  have y2 : ((PySem.W.clsIn K C).isSome && PySem.W.typeIn K (.ref C) == some (.type "type")) = true := by
    have y3 : (PySem.W.clsIn K C).isSome = true := h2
    rw [y3, h3]
    rfl
  unfold PySem.W.exmOne PySem.W.kitCls
  rw [if_pos y1]
  dsimp only
  rw [if_pos y2]
  exact h4
theorem all_mk {P : Program} {w : World} {K : PySem.W.Frag} {h : Heap} {mg : Str → Option Value} {fa fSo fDr fPi fKe fWa fWr fEe fPe fDu fSa fBn fRi fLa fQu fAh fTa fTe fRn fRs fPt fRt fRp fTi fSi CT CN CS : Addr} (X : K.In h) (G : h.Ns mainGlobals mg) (hfa : mg "law" = some (.ref fa))
    {odSo anSo odDr anDr odPi anPi odKe anKe odWa anWa odWr anWr odEe anEe odPe anPe odDu anDu odSa anSa odBn anBn odRi anRi odLa anLa odQu anQu odAh anAh odTa anTa odTe anTe odRn anRn odRs anRs odPt anPt odRt anRt odRp anRp odTi anTi odSi anSi : Option Addr} {slSo slDr slPi slKe slWa slWr slEe slPe slDu slSa slBn slRi slLa slQu slAh slTa slTe slRn slRs slPt slRt slRp slTi slSi : Array (Option Value)} {ocSo kVSo dcSo pmSo cdSo ctSo ocDr kVDr dcDr pmDr cdDr ctDr ocPi kVPi dcPi pmPi cdPi ctPi ocKe kVKe dcKe pmKe cdKe ctKe ocWa kVWa dcWa pmWa cdWa ctWa ocWr kVWr dcWr pmWr cdWr ctWr ocEe kVEe dcEe pmEe cdEe ctEe ocPe kVPe dcPe pmPe cdPe ctPe ocDu kVDu dcDu pmDu cdDu ctDu ocSa kVSa dcSa pmSa cdSa ctSa ocBn kVBn dcBn pmBn cdBn ctBn ocRi kVRi dcRi pmRi cdRi ctRi ocLa kVLa dcLa pmLa cdLa ctLa ocQu kVQu dcQu pmQu cdQu ctQu ocAh kVAh dcAh pmAh cdAh ctAh ocTa kVTa dcTa pmTa cdTa ctTa ocTe kVTe dcTe pmTe cdTe ctTe ocRn kVRn dcRn pmRn cdRn ctRn ocRs kVRs dcRs pmRs cdRs ctRs ocPt kVPt dcPt pmPt cdPt ctPt ocRt kVRt dcRt pmRt cdRt ctRt ocRp kVRp dcRp pmRp cdRp ctRp ocTi kVTi dcTi pmTi cdTi ctTi ocSi kVSi dcSi pmSi cdSi ctSi : Value}
    {tkDI tkPL : Tok}
    {nmT qT : Str} {NT : Addr} {bsT subT bmT : List Value} {snT : List Str} {abT : Bool} {colT : Option Bool} {ddT : Option Addr} {m0T m1T m2T m3T m5T : Option Value}
    {tkMd : Tok}
    (gT : PySem.W.nsIn K mainGlobals "BadText" = some (some (.ref CT)))
    (xT : K.lookup CT = some (excClassObj nmT qT CT NT bsT bmT true snT subT abT colT ddT m0T m1T m2T m3T m5T "ValueError.__new__"))
    (rT : PySem.HandSPX.refsVE bmT = true)
    (saT : PySem.W.findIn K (.ref CT) "__setattr__" = some (some (.builtin "object.__setattr__")))
    (gaT : PySem.W.findIn K (.ref CT) "__getattribute__" = some (some (.builtin "BaseException.__getattribute__")))
    (ggT : PySem.W.findIn K (.ref CT) "__getattr__" = some none)
    (keT : PySem.W.keepIn K (.ref CT) = true)
    (beT : PySem.W.subIn K (.ref CT) (.type "BaseException") = some true)
    (tyT : PySem.W.typeIn K (.ref CT) = some (.type "type"))
    (hdT : PySem.W.hasDictIn K CT = true)
    (icT : PySem.W.isClsIn K CT = true)
    (nT_place : PySem.W.findIn K (.ref CT) "place" = some none)
    (suTT : PySem.W.subIn K (.ref CT) (.ref CT) = some true)
    (gN : PySem.W.nsIn K mainGlobals "NestError" = some (some (.ref CN)))
    (gS : PySem.W.nsIn K mainGlobals "Scanner" = some (some (.ref CS)))
    (iMd : PySem.W.nsIn K mainGlobals "MOST_DIGITS" = some (some (.int 20 tkMd)))
    (z_len : PySem.W.nsIn K mainGlobals "len" = some none)
    (z_abs : PySem.W.nsIn K mainGlobals "abs" = some none)
    (z_int : PySem.W.nsIn K mainGlobals "int" = some none)
    (z_bool : PySem.W.nsIn K mainGlobals "bool" = some none)
    (z_tuple : PySem.W.nsIn K mainGlobals "tuple" = some none)
    (z_list : PySem.W.nsIn K mainGlobals "list" = some none)
    (z_isinstance : PySem.W.nsIn K mainGlobals "isinstance" = some none)
    (z_all : PySem.W.nsIn K mainGlobals "all" = some none)
    (z_range : PySem.W.nsIn K mainGlobals "range" = some none)
    (z_enumerate : PySem.W.nsIn K mainGlobals "enumerate" = some none)
    (z_repr : PySem.W.nsIn K mainGlobals "repr" = some none)
    (z_min : PySem.W.nsIn K mainGlobals "min" = some none)
    (z_zip : PySem.W.nsIn K mainGlobals "zip" = some none)
    (z_str : PySem.W.nsIn K mainGlobals "str" = some none)
    (z_max : PySem.W.nsIn K mainGlobals "max" = some none)
    (aSo : PySem.W.nsIn K mainGlobals "_law_source" = some (some (.ref fSo)))
    (lSo : K.lookup fSo = some ⟨ocSo, odSo, .func (PySem.W.fnOf "_law_source" "_law_source" (defArgs s__law_source) (defBody s__law_source) (defScope s__law_source) .none kVSo dcSo pmSo anSo cdSo ctSo), slSo⟩)
    (cSo : PySem.W.codeIn K cdSo "_law_source" = true)
    (kSo : PySem.W.keepIn K (.ref fSo) = true)
    (aDr : PySem.W.nsIn K mainGlobals "_law_draw" = some (some (.ref fDr)))
    (lDr : K.lookup fDr = some ⟨ocDr, odDr, .func (PySem.W.fnOf "_law_draw" "_law_draw" (defArgs s__law_draw) (defBody s__law_draw) (defScope s__law_draw) .none kVDr dcDr pmDr anDr cdDr ctDr), slDr⟩)
    (cDr : PySem.W.codeIn K cdDr "_law_draw" = true)
    (kDr : PySem.W.keepIn K (.ref fDr) = true)
    (aPi : PySem.W.nsIn K mainGlobals "_law_pick" = some (some (.ref fPi)))
    (lPi : K.lookup fPi = some ⟨ocPi, odPi, .func (PySem.W.fnOf "_law_pick" "_law_pick" (defArgs s__law_pick) (defBody s__law_pick) (defScope s__law_pick) .none kVPi dcPi pmPi anPi cdPi ctPi), slPi⟩)
    (cPi : PySem.W.codeIn K cdPi "_law_pick" = true)
    (kPi : PySem.W.keepIn K (.ref fPi) = true)
    (aKe : PySem.W.nsIn K mainGlobals "_law_key" = some (some (.ref fKe)))
    (lKe : K.lookup fKe = some ⟨ocKe, odKe, .func (PySem.W.fnOf "_law_key" "_law_key" (defArgs s__law_key) (defBody s__law_key) (defScope s__law_key) .none kVKe dcKe pmKe anKe cdKe ctKe), slKe⟩)
    (cKe : PySem.W.codeIn K cdKe "_law_key" = true)
    (kKe : PySem.W.keepIn K (.ref fKe) = true)
    (aWa : PySem.W.nsIn K mainGlobals "_law_way" = some (some (.ref fWa)))
    (lWa : K.lookup fWa = some ⟨ocWa, odWa, .func (PySem.W.fnOf "_law_way" "_law_way" (defArgs s__law_way) (defBody s__law_way) (defScope s__law_way) .none kVWa dcWa pmWa anWa cdWa ctWa), slWa⟩)
    (cWa : PySem.W.codeIn K cdWa "_law_way" = true)
    (kWa : PySem.W.keepIn K (.ref fWa) = true)
    (aWr : PySem.W.nsIn K mainGlobals "_law_written" = some (some (.ref fWr)))
    (lWr : K.lookup fWr = some ⟨ocWr, odWr, .func (PySem.W.fnOf "_law_written" "_law_written" (defArgs s__law_written) (defBody s__law_written) (defScope s__law_written) .none kVWr dcWr pmWr anWr cdWr ctWr), slWr⟩)
    (cWr : PySem.W.codeIn K cdWr "_law_written" = true)
    (kWr : PySem.W.keepIn K (.ref fWr) = true)
    (aEe : PySem.W.nsIn K mainGlobals "_law_key_end" = some (some (.ref fEe)))
    (lEe : K.lookup fEe = some ⟨ocEe, odEe, .func (PySem.W.fnOf "_law_key_end" "_law_key_end" (defArgs s__law_key_end) (defBody s__law_key_end) (defScope s__law_key_end) .none kVEe dcEe pmEe anEe cdEe ctEe), slEe⟩)
    (cEe : PySem.W.codeIn K cdEe "_law_key_end" = true)
    (kEe : PySem.W.keepIn K (.ref fEe) = true)
    (aPe : PySem.W.nsIn K mainGlobals "_law_place_end" = some (some (.ref fPe)))
    (lPe : K.lookup fPe = some ⟨ocPe, odPe, .func (PySem.W.fnOf "_law_place_end" "_law_place_end" (defArgs s__law_place_end) (defBody s__law_place_end) (defScope s__law_place_end) .none kVPe dcPe pmPe anPe cdPe ctPe), slPe⟩)
    (cPe : PySem.W.codeIn K cdPe "_law_place_end" = true)
    (kPe : PySem.W.keepIn K (.ref fPe) = true)
    (aDu : PySem.W.nsIn K mainGlobals "_law_due" = some (some (.ref fDu)))
    (lDu : K.lookup fDu = some ⟨ocDu, odDu, .func (PySem.W.fnOf "_law_due" "_law_due" (defArgs s__law_due) (defBody s__law_due) (defScope s__law_due) .none kVDu dcDu pmDu anDu cdDu ctDu), slDu⟩)
    (cDu : PySem.W.codeIn K cdDu "_law_due" = true)
    (kDu : PySem.W.keepIn K (.ref fDu) = true)
    (aSa : PySem.W.nsIn K mainGlobals "_law_said" = some (some (.ref fSa)))
    (lSa : K.lookup fSa = some ⟨ocSa, odSa, .func (PySem.W.fnOf "_law_said" "_law_said" (defArgs s__law_said) (defBody s__law_said) (defScope s__law_said) .none kVSa dcSa pmSa anSa cdSa ctSa), slSa⟩)
    (cSa : PySem.W.codeIn K cdSa "_law_said" = true)
    (kSa : PySem.W.keepIn K (.ref fSa) = true)
    (aBn : PySem.W.nsIn K mainGlobals "_law_bent" = some (some (.ref fBn)))
    (lBn : K.lookup fBn = some ⟨ocBn, odBn, .func (PySem.W.fnOf "_law_bent" "_law_bent" (defArgs s__law_bent) (defBody s__law_bent) (defScope s__law_bent) .none kVBn dcBn pmBn anBn cdBn ctBn), slBn⟩)
    (cBn : PySem.W.codeIn K cdBn "_law_bent" = true)
    (kBn : PySem.W.keepIn K (.ref fBn) = true)
    (aRi : PySem.W.nsIn K mainGlobals "_law_right" = some (some (.ref fRi)))
    (lRi : K.lookup fRi = some ⟨ocRi, odRi, .func (PySem.W.fnOf "_law_right" "_law_right" (defArgs s__law_right) (defBody s__law_right) (defScope s__law_right) .none kVRi dcRi pmRi anRi cdRi ctRi), slRi⟩)
    (cRi : PySem.W.codeIn K cdRi "_law_right" = true)
    (kRi : PySem.W.keepIn K (.ref fRi) = true)
    (aLa : PySem.W.nsIn K mainGlobals "law" = some (some (.ref fLa)))
    (lLa : K.lookup fLa = some ⟨ocLa, odLa, .func (PySem.W.fnOf "law" "law" (defArgs s_law) (defBody s_law) (defScope s_law) .none kVLa dcLa pmLa anLa cdLa ctLa), slLa⟩)
    (cLa : PySem.W.codeIn K cdLa "law" = true)
    (kLa : PySem.W.keepIn K (.ref fLa) = true)
    (aQu : PySem.W.nsIn K mainGlobals "_quoted" = some (some (.ref fQu)))
    (lQu : K.lookup fQu = some ⟨ocQu, odQu, .func (PySem.W.fnOf "_quoted" "_quoted" (defArgs s__quoted) (defBody s__quoted) (defScope s__quoted) .none kVQu dcQu pmQu anQu cdQu ctQu), slQu⟩)
    (cQu : PySem.W.codeIn K cdQu "_quoted" = true)
    (kQu : PySem.W.keepIn K (.ref fQu) = true)
    (aAh : PySem.W.nsIn K mainGlobals "_is_ahead" = some (some (.ref fAh)))
    (lAh : K.lookup fAh = some ⟨ocAh, odAh, .func (PySem.W.fnOf "_is_ahead" "_is_ahead" (defArgs s__is_ahead) (defBody s__is_ahead) (defScope s__is_ahead) .none kVAh dcAh pmAh anAh cdAh ctAh), slAh⟩)
    (cAh : PySem.W.codeIn K cdAh "_is_ahead" = true)
    (kAh : PySem.W.keepIn K (.ref fAh) = true)
    (aTa : PySem.W.nsIn K mainGlobals "_take" = some (some (.ref fTa)))
    (lTa : K.lookup fTa = some ⟨ocTa, odTa, .func (PySem.W.fnOf "_take" "_take" (defArgs s__take) (defBody s__take) (defScope s__take) .none kVTa dcTa pmTa anTa cdTa ctTa), slTa⟩)
    (cTa : PySem.W.codeIn K cdTa "_take" = true)
    (kTa : PySem.W.keepIn K (.ref fTa) = true)
    (aTe : PySem.W.nsIn K mainGlobals "_take_end" = some (some (.ref fTe)))
    (lTe : K.lookup fTe = some ⟨ocTe, odTe, .func (PySem.W.fnOf "_take_end" "_take_end" (defArgs s__take_end) (defBody s__take_end) (defScope s__take_end) .none kVTe dcTe pmTe anTe cdTe ctTe), slTe⟩)
    (cTe : PySem.W.codeIn K cdTe "_take_end" = true)
    (kTe : PySem.W.keepIn K (.ref fTe) = true)
    (aRn : PySem.W.nsIn K mainGlobals "_read_number" = some (some (.ref fRn)))
    (lRn : K.lookup fRn = some ⟨ocRn, odRn, .func (PySem.W.fnOf "_read_number" "_read_number" (defArgs s__read_number) (defBody s__read_number) (defScope s__read_number) .none kVRn dcRn pmRn anRn cdRn ctRn), slRn⟩)
    (cRn : PySem.W.codeIn K cdRn "_read_number" = true)
    (kRn : PySem.W.keepIn K (.ref fRn) = true)
    (aRs : PySem.W.nsIn K mainGlobals "_read_string" = some (some (.ref fRs)))
    (lRs : K.lookup fRs = some ⟨ocRs, odRs, .func (PySem.W.fnOf "_read_string" "_read_string" (defArgs s__read_string) (defBody s__read_string) (defScope s__read_string) .none kVRs dcRs pmRs anRs cdRs ctRs), slRs⟩)
    (cRs : PySem.W.codeIn K cdRs "_read_string" = true)
    (kRs : PySem.W.keepIn K (.ref fRs) = true)
    (aPt : PySem.W.nsIn K mainGlobals "path_text" = some (some (.ref fPt)))
    (lPt : K.lookup fPt = some ⟨ocPt, odPt, .func (PySem.W.fnOf "path_text" "path_text" (defArgs s_path_text) (defBody s_path_text) (defScope s_path_text) .none kVPt dcPt pmPt anPt cdPt ctPt), slPt⟩)
    (cPt : PySem.W.codeIn K cdPt "path_text" = true)
    (kPt : PySem.W.keepIn K (.ref fPt) = true)
    (aRt : PySem.W.nsIn K mainGlobals "_read_step" = some (some (.ref fRt)))
    (lRt : K.lookup fRt = some ⟨ocRt, odRt, .func (PySem.W.fnOf "_read_step" "_read_step" (defArgs s__read_step) (defBody s__read_step) (defScope s__read_step) .none kVRt dcRt pmRt anRt cdRt ctRt), slRt⟩)
    (cRt : PySem.W.codeIn K cdRt "_read_step" = true)
    (kRt : PySem.W.keepIn K (.ref fRt) = true)
    (aRp : PySem.W.nsIn K mainGlobals "read_path" = some (some (.ref fRp)))
    (lRp : K.lookup fRp = some ⟨ocRp, odRp, .func (PySem.W.fnOf "read_path" "read_path" (defArgs s_read_path) (defBody s_read_path) (defScope s_read_path) .none kVRp dcRp pmRp anRp cdRp ctRp), slRp⟩)
    (cRp : PySem.W.codeIn K cdRp "read_path" = true)
    (kRp : PySem.W.keepIn K (.ref fRp) = true)
    (aTi : PySem.W.findIn K (.ref CT) "__init__" = some (some (.ref fTi)))
    (tTi : PySem.W.typeIn K (.ref fTi) = some (.type "function"))
    (lTi : K.lookup fTi = some ⟨ocTi, odTi, .func (PySem.W.fnOf "__init__" "BadText.__init__" (defArgs s_BadText___init__) (defBody s_BadText___init__) (defScope s_BadText___init__) .none kVTi dcTi pmTi anTi cdTi ctTi), slTi⟩)
    (cTi : PySem.W.codeIn K cdTi "BadText.__init__" = true)
    (kTi : PySem.W.keepIn K (.ref fTi) = true)
    (aSi : PySem.W.findIn K (.ref CS) "__init__" = some (some (.ref fSi)))
    (tSi : PySem.W.typeIn K (.ref fSi) = some (.type "function"))
    (lSi : K.lookup fSi = some ⟨ocSi, odSi, .func (PySem.W.fnOf "__init__" "Scanner.__init__" (defArgs s_Scanner___init__) (defBody s_Scanner___init__) (defScope s_Scanner___init__) .none kVSi dcSi pmSi anSi cdSi ctSi), slSi⟩)
    (cSi : PySem.W.codeIn K cdSi "Scanner.__init__" = true)
    (kSi : PySem.W.keepIn K (.ref fSi) = true)
    (dDI : PySem.W.nsIn K mainGlobals "DIGITS" = some (some (.str "0123456789" tkDI)))
    (dPL : PySem.W.nsIn K mainGlobals "PLAIN" = some (some (.str " !\"#$&'()*+,-./0123456789:;<=>?@ABCDEFGHIJKLMNOPQRSTUVWXYZ[\\]^_`abcdefghijklmnopqrstuvwxyz{|}~" tkPL)))
    (pgS : PySem.W.plainGet K CS Str.empty = true)
    (phS : PySem.W.hasDictIn K CS = true)
    (poS : PySem.W.plainOver K CS = true)
    (psS : PySem.W.findIn K (.ref CS) "__setattr__" = some (some (.builtin "object.__setattr__")))
    (pnS_text : PySem.W.findIn K (.ref CS) "text" = some none)
    (pnS_place : PySem.W.findIn K (.ref CS) "place" = some none)
    (pkS : PySem.W.makesIn K CS = true)
    (peS : PySem.W.keepIn K (.ref CS) = true)
    : ∃ fd : FuncData, (∀ (s : Shared) (v : Value), BindsTo s fd ⟨[v], []⟩ [("_law_script", v)]) ∧ ∀ base : Heap, K.In base → base.Ns mainGlobals mg → FnOkG P w K mg base 9 fa fd ["_law_script"] (spLaw K) := by
  have e := hfa.symm.trans (PySem.W.mg_of X G aLa)
  cases e
  have FSo := fun_mk (st := s__law_source) lSo cSo kSo
  have bSo := FSo.binds (ps := ["_law_cell"]) fun _ _ _ _ _ _ us hl => match us, hl with | [_], _ => rfl
  have FDr := fun_mk (st := s__law_draw) lDr cDr kDr
  have bDr := FDr.binds (ps := ["_law_source_here", "_law_many"]) fun _ _ _ _ _ _ us hl => match us, hl with | [_, _], _ => rfl
  have FPi := fun_mk (st := s__law_pick) lPi cPi kPi
  have bPi := FPi.binds (ps := ["_law_source_here", "_law_items"]) fun _ _ _ _ _ _ us hl => match us, hl with | [_, _], _ => rfl
  have FKe := fun_mk (st := s__law_key) lKe cKe kKe
  have bKe := FKe.binds (ps := ["_law_source_here"]) fun _ _ _ _ _ _ us hl => match us, hl with | [_], _ => rfl
  have FWa := fun_mk (st := s__law_way) lWa cWa kWa
  have bWa := FWa.binds (ps := ["_law_source_here"]) fun _ _ _ _ _ _ us hl => match us, hl with | [_], _ => rfl
  have FWr := fun_mk (st := s__law_written) lWr cWr kWr
  have bWr := FWr.binds (ps := ["_law_way_here"]) fun _ _ _ _ _ _ us hl => match us, hl with | [_], _ => rfl
  have FEe := fun_mk (st := s__law_key_end) lEe cEe kEe
  have bEe := FEe.binds (ps := ["_law_word", "_law_at"]) fun _ _ _ _ _ _ us hl => match us, hl with | [_, _], _ => rfl
  have FPe := fun_mk (st := s__law_place_end) lPe cPe kPe
  have bPe := FPe.binds (ps := ["_law_word", "_law_at"]) fun _ _ _ _ _ _ us hl => match us, hl with | [_, _], _ => rfl
  have FDu := fun_mk (st := s__law_due) lDu cDu kDu
  have bDu := FDu.binds (ps := ["_law_word"]) fun _ _ _ _ _ _ us hl => match us, hl with | [_], _ => rfl
  have FSa := fun_mk (st := s__law_said) lSa cSa kSa
  have bSa := FSa.binds (ps := ["_law_word"]) fun _ _ _ _ _ _ us hl => match us, hl with | [_], _ => rfl
  have FBn := fun_mk (st := s__law_bent) lBn cBn kBn
  have bBn := FBn.binds (ps := ["_law_source_here", "_law_word"]) fun _ _ _ _ _ _ us hl => match us, hl with | [_, _], _ => rfl
  have FRi := fun_mk (st := s__law_right) lRi cRi kRi
  have bRi := FRi.binds (ps := ["_law_source_here"]) fun _ _ _ _ _ _ us hl => match us, hl with | [_], _ => rfl
  have FLa := fun_mk (st := s_law) lLa cLa kLa
  have FQu := fun_mk (st := s__quoted) lQu cQu kQu
  have bQu := FQu.binds (ps := ["text"]) fun _ _ _ _ _ _ us hl => match us, hl with | [_], _ => rfl
  have FAh := fun_mk (st := s__is_ahead) lAh cAh kAh
  have bAh := FAh.binds (ps := ["scanner", "signs"]) fun _ _ _ _ _ _ us hl => match us, hl with | [_, _], _ => rfl
  have FTa := fun_mk (st := s__take) lTa cTa kTa
  have bTa := FTa.binds (ps := ["scanner", "signs"]) fun _ _ _ _ _ _ us hl => match us, hl with | [_, _], _ => rfl
  have FTe := fun_mk (st := s__take_end) lTe cTe kTe
  have bTe := FTe.binds (ps := ["scanner"]) fun _ _ _ _ _ _ us hl => match us, hl with | [_], _ => rfl
  have FRn := fun_mk (st := s__read_number) lRn cRn kRn
  have bRn := FRn.binds (ps := ["scanner", "first_digits"]) fun _ _ _ _ _ _ us hl => match us, hl with | [_, _], _ => rfl
  have FRs := fun_mk (st := s__read_string) lRs cRs kRs
  have bRs := FRs.binds (ps := ["scanner"]) fun _ _ _ _ _ _ us hl => match us, hl with | [_], _ => rfl
  have FPt := fun_mk (st := s_path_text) lPt cPt kPt
  have bPt := FPt.binds (ps := ["path"]) fun _ _ _ _ _ _ us hl => match us, hl with | [_], _ => rfl
  have FRt := fun_mk (st := s__read_step) lRt cRt kRt
  have bRt := FRt.binds (ps := ["scanner"]) fun _ _ _ _ _ _ us hl => match us, hl with | [_], _ => rfl
  have FRp := fun_mk (st := s_read_path) lRp cRp kRp
  have bRp := FRp.binds (ps := ["text"]) fun _ _ _ _ _ _ us hl => match us, hl with | [_], _ => rfl
  have FTi := fun_mk (st := s_BadText___init__) lTi cTi kTi
  have bTi := FTi.binds (ps := ["self", "place"]) fun _ _ _ _ _ _ us hl => match us, hl with | [_, _], _ => rfl
  have FSi := fun_mk (st := s_Scanner___init__) lSi cSi kSi
  have bSi := FSi.binds (ps := ["self", "text"]) fun _ _ _ _ _ _ us hl => match us, hl with | [_, _], _ => rfl
  have T : Txt K mg := ⟨PySem.W.mg_none_of X G z_len, PySem.W.mg_none_of X G z_abs, PySem.W.mg_none_of X G z_int, PySem.W.mg_none_of X G z_bool, PySem.W.mg_none_of X G z_tuple, PySem.W.mg_none_of X G z_list, PySem.W.mg_none_of X G z_isinstance, PySem.W.mg_none_of X G z_all, PySem.W.mg_none_of X G z_range, PySem.W.mg_none_of X G z_enumerate, PySem.W.mg_none_of X G z_repr, PySem.W.mg_none_of X G z_min, PySem.W.mg_none_of X G z_zip, PySem.W.mg_none_of X G z_str, PySem.W.mg_none_of X G z_max⟩
  have R : ErrC K mg "BadText" CT fTi := ⟨⟨⟨_, _, _, _, _, _, _, _, _, _, _, _, _, _, _, xT, rT⟩, saT, beT, tyT, keT⟩, ⟨gaT, ggT, beT, hdT⟩, aTi, tTi, PySem.W.mg_of X G gT⟩
  have S : ScC K CS := ⟨⟨pgS, phS, poS, psS⟩, pnS_text, pnS_place⟩
  have M : Mk K CS fSi := ⟨pkS, aSi, fn_is tSi, peS⟩
  refine ⟨PySem.W.fnOf "law" "law" (defArgs s_law) (defBody s_law) (defScope s_law) .none kVLa dcLa pmLa anLa cdLa ctLa, fun s v => .of_eq rfl, fun base _ _ => ?_⟩
  have c_source : Cal P w K mg base 1 "_law_source" spSource := ⟨_, _, _, ok_source FSo T, PySem.W.mg_of X G aSo, kSo, bSo⟩
  have c_draw : Cal P w K mg base 1 "_law_draw" spDraw := ⟨_, _, _, ok_draw FDr T, PySem.W.mg_of X G aDr, kDr, bDr⟩
  have c_pick : Cal P w K mg base 2 "_law_pick" (spPick K) := ⟨_, _, _, ok_pick FPi T c_draw, PySem.W.mg_of X G aPi, kPi, bPi⟩
  have c_key : Cal P w K mg base 3 "_law_key" spKey := ⟨_, _, _, ok_key FKe T c_draw c_pick, PySem.W.mg_of X G aKe, kKe, bKe⟩
  have c_way : Cal P w K mg base 4 "_law_way" spWay := ⟨_, _, _, ok_way FWa T c_draw c_pick c_key, PySem.W.mg_of X G aWa, kWa, bWa⟩
  have c_written : Cal P w K mg base 2 "_law_written" (spLWritten K) := ⟨_, _, _, ok_law_written FWr T, PySem.W.mg_of X G aWr, kWr, bWr⟩
  have c_key_end : Cal P w K mg base 1 "_law_key_end" spKeyEnd := ⟨_, _, _, ok_key_end FEe T, PySem.W.mg_of X G aEe, kEe, bEe⟩
  have c_place_end : Cal P w K mg base 1 "_law_place_end" spPlaceEnd := ⟨_, _, _, ok_place_end FPe T, PySem.W.mg_of X G aPe, kPe, bPe⟩
  have c_due : Cal P w K mg base 2 "_law_due" spDue := ⟨_, _, _, ok_due FDu T c_key_end c_place_end, PySem.W.mg_of X G aDu, kDu, bDu⟩
  have c_initT := ok_initT (P := P) (w := w) (mg := mg) (base := base) FTi R.oex nT_place
  have c_scI := ok_scI (P := P) (w := w) (mg := mg) (base := base) FSi S
  have c_ahead : Cal P w K mg base 1 "_is_ahead" (spAhead CS) := ⟨_, _, _, ok_ahead FAh S, PySem.W.mg_of X G aAh, kAh, bAh⟩
  have c_take : CalX P w K mg base 3 "_take" (spTake CS CT) := ⟨_, _, _, ok_take FTa S R bTi c_initT c_ahead, PySem.W.mg_of X G aTa, kTa, bTa⟩
  have c_take_end : CalX P w K mg base 3 "_take_end" (spTakeEnd CS CT) := ⟨_, _, _, ok_take_end FTe T S R bTi c_initT, PySem.W.mg_of X G aTe, kTe, bTe⟩
  have c_number : CalX P w K mg base 4 "_read_number" (spNumber CS CT) := ⟨_, _, _, ok_number FRn T (PySem.W.mg_of X G dDI) (PySem.W.mg_of X G iMd) S c_ahead c_take, PySem.W.mg_of X G aRn, kRn, bRn⟩
  have c_string : CalX P w K mg base 4 "_read_string" (spString CS CT) := ⟨_, _, _, ok_string FRs T (PySem.W.mg_of X G dPL) S c_ahead c_take, PySem.W.mg_of X G aRs, kRs, bRs⟩
  have c_step : CalX P w K mg base 5 "_read_step" (spStep CS CT) := ⟨_, _, _, ok_step FRt (PySem.W.mg_of X G dDI) c_ahead c_string c_number, PySem.W.mg_of X G aRt, kRt, bRt⟩
  have c_read : CalX P w K mg base 6 "read_path" (spPath CT) := ⟨_, _, _, ok_read_path FRp T S M (PySem.W.mg_of X G gS) bSi c_scI c_ahead c_take c_take_end c_step, PySem.W.mg_of X G aRp, kRp, bRp⟩
  have c_quoted : Cal P w K mg base 1 "_quoted" spQuoted := ⟨_, _, _, ok_quoted FQu, PySem.W.mg_of X G aQu, kQu, bQu⟩
  have c_path_text : Cal P w K mg base 2 "path_text" (spPathText K) := ⟨_, _, _, ok_path_text FPt T c_quoted, PySem.W.mg_of X G aPt, kPt, bPt⟩
  have c_said : Cal P w K mg base 7 "_law_said" spSaid := ⟨_, _, _, ok_said FSa R (PySem.W.mg_of X G gN) nT_place (exm_is beT icT tyT suTT) c_read, PySem.W.mg_of X G aSa, kSa, bSa⟩
  have c_bent : Cal P w K mg base 3 "_law_bent" spBent := ⟨_, _, _, ok_bent FBn T c_draw c_pick, PySem.W.mg_of X G aBn, kBn, bBn⟩
  have c_right : CalG P w K mg base 8 "_law_right" spRight := ⟨_, _, _, ok_right FRi T c_way c_written c_path_text c_said c_bent c_due, PySem.W.mg_of X G aRi, kRi, bRi⟩
  exact ok_law FLa T c_source c_said c_right
theorem walk {l : PySem.W.OpenLaw} {q : Program} {loose : List Str} {XP : (Str → Option Value) → Heap → Prop} {YP : World → Heap → Prop} {d : DefRec} {K : Params → PySem.W.Frag} (hn : l.most = some 63) (hdf : d.params.defaults = [])
    (hY : ∀ (w : World) (h : Heap), YP w h → (K w.params).In h)
    (F : ∀ (w : World) (mg : Str → Option Value) (fa : Addr) (h : Heap), (K w.params).In h → h.Ns mainGlobals mg → mg d.name = some (.ref fa) →
      ∃ fd : FuncData, (∀ (s : Shared) (u : Value), BindsTo s fd ⟨[u], []⟩ [("_law_script", u)]) ∧ ∀ base : Heap, (K w.params).In base → base.Ns mainGlobals mg → FnOkG l.prog w (K w.params) mg base 9 fa fd ["_law_script"] (spLaw (K w.params))) :
    PySem.W.WalkO q loose XP YP l.row.toRowW d [] (fun f vs => PySem.call f vs) :=
  QT.walk_ofG (n := 63) (k := 9) (x := "_law_script") (sp := fun w => spLaw (K w.params)) hn (by decide) hdf ⟨rfl, by decide, by decide⟩ hY F (fun _ _ a ns hl _ _ hS => ⟨a, ns, rfl, hS, hl, fun _ => rfl⟩)
end Q75
open PySem PySem.W PyProof.Rows in
set_option maxRecDepth 100000 in
set_option maxHeartbeats 0 in
theorem PySem.Challenge.cw_nestfile_k75_paths_as_texts_holds : PySem.Challenge.rw_nestfile_k75_paths_as_texts.Holds := by
  w_on; o_law; k_head; (case hw => w_witness2)
  k_fill
  refine Q75.walk (l := PySem.Challenge.rw_nestfile_k75_paths_as_texts) rfl rfl (fun w h Y => PySem.W.kIn_of Y) ?F
  case F =>
    intro w mg fa h KX G hmg
    refine' Q75.all_mk KX G hmg ?gT ?xT ?rT ?saT ?gaT ?ggT ?keT ?beT ?tyT ?hdT ?icT ?nT_place ?suTT ?gN ?gS ?iMd ?z_len ?z_abs ?z_int ?z_bool ?z_tuple ?z_list ?z_isinstance ?z_all ?z_range ?z_enumerate ?z_repr ?z_min ?z_zip ?z_str ?z_max ?aSo ?lSo ?cSo ?kSo ?aDr ?lDr ?cDr ?kDr ?aPi ?lPi ?cPi ?kPi ?aKe ?lKe ?cKe ?kKe ?aWa ?lWa ?cWa ?kWa ?aWr ?lWr ?cWr ?kWr ?aEe ?lEe ?cEe ?kEe ?aPe ?lPe ?cPe ?kPe ?aDu ?lDu ?cDu ?kDu ?aSa ?lSa ?cSa ?kSa ?aBn ?lBn ?cBn ?kBn ?aRi ?lRi ?cRi ?kRi ?aLa ?lLa ?cLa ?kLa ?aQu ?lQu ?cQu ?kQu ?aAh ?lAh ?cAh ?kAh ?aTa ?lTa ?cTa ?kTa ?aTe ?lTe ?cTe ?kTe ?aRn ?lRn ?cRn ?kRn ?aRs ?lRs ?cRs ?kRs ?aPt ?lPt ?cPt ?kPt ?aRt ?lRt ?cRt ?kRt ?aRp ?lRp ?cRp ?kRp ?aTi ?tTi ?lTi ?cTi ?kTi ?aSi ?tSi ?lSi ?cSi ?kSi ?dDI ?dPL ?pgS ?phS ?poS ?psS ?pnS_text ?pnS_place ?pkS ?peS
    (case gT => k_is)
    (case xT => k_is)
    (case rT => decide +kernel)
    (case saT => k_is)
    (case gaT => k_is)
    (case ggT => k_is)
    (case keT => k_is)
    (case beT => k_is)
    (case tyT => k_is)
    (case hdT => k_is)
    (case icT => k_is)
    (case nT_place => k_is)
    (case suTT => first | rfl | k_is)
    (case gN => k_is)
    (case gS => k_is)
    (case iMd => k_is)
    (case z_len => k_is)
    (case z_abs => k_is)
    (case z_int => k_is)
    (case z_bool => k_is)
    (case z_tuple => k_is)
    (case z_list => k_is)
    (case z_isinstance => k_is)
    (case z_all => k_is)
    (case z_range => k_is)
    (case z_enumerate => k_is)
    (case z_repr => k_is)
    (case z_min => k_is)
    (case z_zip => k_is)
    (case z_str => k_is)
    (case z_max => k_is)
    (case aSo => k_is)
    (case lSo => k_is)
    (case cSo => k_is)
    (case kSo => k_is)
    (case aDr => k_is)
    (case lDr => k_is)
    (case cDr => k_is)
    (case kDr => k_is)
    (case aPi => k_is)
    (case lPi => k_is)
    (case cPi => k_is)
    (case kPi => k_is)
    (case aKe => k_is)
    (case lKe => k_is)
    (case cKe => k_is)
    (case kKe => k_is)
    (case aWa => k_is)
    (case lWa => k_is)
    (case cWa => k_is)
    (case kWa => k_is)
    (case aWr => k_is)
    (case lWr => k_is)
    (case cWr => k_is)
    (case kWr => k_is)
    (case aEe => k_is)
    (case lEe => k_is)
    (case cEe => k_is)
    (case kEe => k_is)
    (case aPe => k_is)
    (case lPe => k_is)
    (case cPe => k_is)
    (case kPe => k_is)
    (case aDu => k_is)
    (case lDu => k_is)
    (case cDu => k_is)
    (case kDu => k_is)
    (case aSa => k_is)
    (case lSa => k_is)
    (case cSa => k_is)
    (case kSa => k_is)
    (case aBn => k_is)
    (case lBn => k_is)
    (case cBn => k_is)
    (case kBn => k_is)
    (case aRi => k_is)
    (case lRi => k_is)
    (case cRi => k_is)
    (case kRi => k_is)
    (case aLa => k_is)
    (case lLa => k_is)
    (case cLa => k_is)
    (case kLa => k_is)
    (case aQu => k_is)
    (case lQu => k_is)
    (case cQu => k_is)
    (case kQu => k_is)
    (case aAh => k_is)
    (case lAh => k_is)
    (case cAh => k_is)
    (case kAh => k_is)
    (case aTa => k_is)
    (case lTa => k_is)
    (case cTa => k_is)
    (case kTa => k_is)
    (case aTe => k_is)
    (case lTe => k_is)
    (case cTe => k_is)
    (case kTe => k_is)
    (case aRn => k_is)
    (case lRn => k_is)
    (case cRn => k_is)
    (case kRn => k_is)
    (case aRs => k_is)
    (case lRs => k_is)
    (case cRs => k_is)
    (case kRs => k_is)
    (case aPt => k_is)
    (case lPt => k_is)
    (case cPt => k_is)
    (case kPt => k_is)
    (case aRt => k_is)
    (case lRt => k_is)
    (case cRt => k_is)
    (case kRt => k_is)
    (case aRp => k_is)
    (case lRp => k_is)
    (case cRp => k_is)
    (case kRp => k_is)
    (case aTi => k_is)
    (case tTi => k_is)
    (case lTi => k_is)
    (case cTi => k_is)
    (case kTi => k_is)
    (case aSi => k_is)
    (case tSi => k_is)
    (case lSi => k_is)
    (case cSi => k_is)
    (case kSi => k_is)
    (case dDI => first | rfl | k_is)
    (case dPL => first | rfl | k_is)
    (case pgS => first | rfl | k_is)
    (case phS => first | rfl | k_is)
    (case poS => first | rfl | k_is)
    (case psS => first | rfl | k_is)
    (case pnS_text => first | rfl | k_is)
    (case pnS_place => first | rfl | k_is)
    (case pkS => first | rfl | k_is)
    (case peS => first | rfl | k_is)
