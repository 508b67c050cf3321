import PyProof.Rows.All
import Wide.All
import OpenK.AllK
import Wide.FinOn
import PySem.Challenge.RW_fewspans_k10_independent_judged
import HandS.ForMost
import HandS.Wide
import HandS.IsInst
import HandS.Conv
import HandS.TupLe
import HandS.Strs
import HandS.SetFor
import HandS.Style
import HandS.TupSets
import HandS.Keys
import HandS.Sort
import HandS.SortOrd
import HandS.SortRule
import HandS.SortKw
import HandS.SetBool
import HandS.TupAny
import HandS.Zip
import HandS.NoneIn
import HandS.Deep
import KE.GoesEnum
import KE.GoesMore
import HandS.Lambda
import HandS.CallLocal
import KE.DataCmp
import HandS.EndTab
import KE.KMinBuiltin
import HandS.TupMul
import PyProof.NeKinds
import HandS.Defaults
import HandS.MakeKwOnly
import HandS.OwnEq
import HandS.FStr
import KE.KCallOwn
set_option Elab.async false
set_option linter.all false
set_option maxRecDepth 100000
set_option maxHeartbeats 4000000
namespace L9
open PySem PySem.Spec PyProof.Rows L2

/-! ### set(xs), xs a list of ints: the library has it of tuples; the walk is a list's here -/
section
variable {P : Program} {w : World} {A : Around} {E : Value → Shared → Prop} {s : Shared}
abbrev noSet (w : World) : Obj := { cls := .type "set", dict := none, data := .set #[] 0 (.fresh 0 0 (!w.params.followText "set-order")) }
theorem setL_ints {l : Addr} {its : Array Value} (ns : List Int) {Q : Value → Shared → Prop} (quiet : A.handled = none) (isL : s.heap.IsList l its) (allI : IntsAre its.toList ns) (few : ns.length + 1 < scanBound)
    (fin : ∀ (h2 : Heap) (tk n : Nat), SetR w h2 s.heap.objs.size (fun j => decide (j ∈ ns)) n → n ≤ ns.length → (∀ b o, s.heap.get? b = some o → h2.get? b = some o) → Q (.ref s.heap.objs.size) { s with heap := h2, toks := tk }) :
    wpAny (model P w) A (call (.type "set") [.ref l]) Q E s := by
  have size : its.size = ns.length := by
    rw [← Array.length_toList]
    exact allI.length
  obtain ⟨cA, tA, mA⟩ := F.called_set.mro
  have f1 := F.called_set.made
  have f2 := F.called_set.sub
  refine wpAny_call (codeAny_of_tree (?_ : wpAny _ _ (callAny (.type "set") _) _ _ _))
  refine wpAny_pure (And.intro (Code.quiet_builtin _ (by decide +kernel)) (codeAny_builtin F.entry_type_call ?_))
  rw [Around.under_plain (weight_type_call_type "set" [Value.ref l] []) rfl]
  have f3 := F.called_set.notType
  have f4 := F.called_set.canCreate
  have f5 := F.typeCall_set_1 (Value.ref l)
  repeat any_goals first | assumption | wp_step
  refine codeAny_mono (code_set_led1 (.ref l) (E := E) (Q₁ := fun v s1 => v = .ref s.heap.objs.size ∧ s1 = { s with heap := s.heap.push (noSet w) }) (And.intro rfl rfl)) fun r s1 h1 => ?_
  match r, h1 with
  | .error e, h1 => exact h1
  | .ok (.ret v), h1 =>
    obtain ⟨rfl, rfl⟩ := h1
    have at0 : (s.heap.push (noSet w)).get? s.heap.objs.size = some (noSet w) := Heap.get?_push_size _ rfl
    have ty0 : Shared.TypeIs { s with heap := s.heap.push (noSet w) } (.ref s.heap.objs.size) "set" := Exists.intro _ (And.intro at0 rfl)
    have f6 := F.called_set.init.lookup
    have f7 := F.called_set.init.bind (Value.ref s.heap.objs.size)
    repeat any_goals first | assumption | wp_step
    let Z : Value → Shared → Prop := fun v s2 => v = .none ∧ ∃ h2 tk n, s2 = { s with heap := h2, toks := tk } ∧ SetR w h2 s.heap.objs.size (fun j => decide (j ∈ ns)) n ∧ n ≤ ns.length ∧ ∀ b o, s.heap.get? b = some o → h2.get? b = some o
    refine codeAny_mono (codeAny_call_builtin (R := wants Z E) F.called_set.init.plain F.entry_set_init (check_set_init_1 ty0 ?_)) fun r2 s2 h2 => ?_
    · obtain ⟨o, eo, ec, k, ed⟩ := isL
      obtain ⟨oc, od, oD, oS⟩ := o
      simp only at ec ed
      subst ec ed
      have lt : l < s.heap.objs.size := Heap.lt_size eo
      have eo1 : (s.heap.push (noSet w)).get? l = some { cls := .type "list", dict := od, data := .seq its k, slots := oS } := Heap.get?_push_of_some _ eo
      have g1 := F.sub_list_set
      have g2 := F.sub_list_frozenset
      have g3 : (Value.type "list" == Value.type "dict") = false := by decide
      have isL1 : (s.heap.push (noSet w)).IsList l its := Exists.intro _ (And.intro eo1 (And.intro rfl (Exists.intro k rfl)))
      unfold Builtin.«set.__init__» Builtin.Frozenset.updateFrom noKeywords
      generalize keep : pyIter = itr
      wp_walk
      subst keep
      refine wpAny_pyIter_list isL1 (wpAny_bind (wpAny_runValue ?_))
      have quiet3 : A.in1.in1.in1.handled = none := by simp [quiet]
      have sz : (s.heap.push (noSet w)).objs.size = s.heap.objs.size + 1 := Heap.size_push ..
      have lI : l ≠ (s.heap.push (noSet w)).objs.size := by
        rw [sz]
        exact Nat.ne_of_lt (Nat.lt_succ_of_lt lt)
      have out : s.heap.objs.size ∉ [(s.heap.push (noSet w)).objs.size, l] := by
        rw [sz]
        intro z
        rcases List.mem_cons.mp z with z | z
        · exact absurd z (Nat.ne_of_lt (Nat.lt_succ_self _))
        · exact absurd (List.mem_singleton.mp z) (Nat.ne_of_gt lt)
      have vals : ∀ (i : Nat) (v : Value), its[i]? = some v → ∃ j t, ns[i]? = some j ∧ v = .int j t := fun i v hv => by
        have lti : i < ns.length := by
          rw [← size]
          exact (Array.getElem?_eq_some_iff.mp hv).1
        obtain ⟨t, e⟩ := allI.int_at i v (by rw [Array.getElem?_toList]; exact hv)
        have en := List.getElem?_eq_getElem lti
        refine ⟨_, t, en, e.trans ?_⟩
        rw [List.getD_eq_getElem?_getD, en]
        rfl
      refine set_update_ints (Walks.list quiet3 _ l lI its).toS s.heap.objs.size out ns size few vals (its.size - 0) 0 _ rfl (Nat.zero_le _) (And.intro (Exists.intro _ (And.intro (Heap.get?_push_size _ rfl) (And.intro rfl rfl))) (isL1.push _)) ?start ?last
      case start =>
        exact ⟨0, Nat.le_refl _, setR_new_at (Heap.get?_push_of_some _ at0)⟩
      case last =>
        intro s3 n mv le R
        obtain ⟨h3, g3', d3, tk3, o3⟩ := s3
        have m1 : g3' = s.gens := mv.gens
        have m2 : d3 = s.drawn := mv.drawn
        have m3 : o3 = s.os := mv.os
        subst m1 m2 m3
        refine wpAny_pure (?_ : wpAny _ _ (ret Value.none) _ _ _)
        rw [size] at le
        refine wpAny_pure (And.intro rfl ⟨h3, tk3, n, rfl, R, le, fun b o e => ?_⟩)
        have lb := Heap.lt_size e
        refine mv.heap b o (fun z => ?_) (Heap.get?_push_of_some _ (Heap.get?_push_of_some _ e))
        rcases List.mem_cons.mp z with z | z
        · exact absurd z (Nat.ne_of_lt lb)
        · have z1 := List.mem_singleton.mp z
          rw [sz] at z1
          exact absurd z1 (Nat.ne_of_lt (Nat.lt_succ_of_lt lb))
    · match r2, h2 with
      | .error e, h2 => exact h2
      | .ok (.ret v), h2 =>
        obtain ⟨rfl, h', tk, n, rfl, R, le, kp⟩ := h2
        repeat any_goals first | assumption | wp_step
        exact fin h' tk n R le kp
      | .ok .next, h2 => exact h2
      | .ok .brk, h2 => exact h2
      | .ok .cont, h2 => exact h2
  | .ok .next, h1 => exact h1
  | .ok .brk, h1 => exact h1
  | .ok .cont, h1 => exact h1
end
section
variable {X : Cx}
def rSetOfI (K : PySem.W.Frag) (w : World) : List V → Hp → VK → Prop := fun xs H Q => ∃ (l : Addr) (ns : List Int), xs = [V.ref l] ∧ SqL K H l (ns.map V.int) ∧ ns.length < 60 ∧
  ∀ (H' : Hp) a n, Same H H' → H a = none → H' a = some (SetO w a (fun j => decide (j ∈ ns)) n) → n ≤ ns.length → Q (.ref a) H'
theorem cr_setOfI (calm : X.calm = true) : CallR X (.type "set") (rSetOfI X.K X.w) := by
  intro pins s σ H xs us Q I r h
  obtain ⟨l, ns, rfl, hl, few, q⟩ := h
  rw [Vals.ref1 r]
  obtain ⟨its, rv, pl, _⟩ := I.list hl
  refine setL_ints (P := X.prog) (w := X.w) ns (I.ok.hd calm) pl.isList (ints_of_vals rv) (by unfold scanBound; omega) fun h2 tk n R le kp => ?_
  exact ⟨.ref s.heap.objs.size, _, I.laid (t' := tk) kp (Nat.le_refl _) (setO_new R), rfl, q _ _ n (fun b x e => by rw [upd_ne (ne_of_none e (I.hok.fresh (Nat.le_refl _)))]; exact e) (I.hok.fresh (Nat.le_refl _)) upd_same le⟩
end

/-! ### set(t), t a tuple of tuples of ints: the library has it of lists; the walk is a tuple's here -/
section
variable {P : Program} {w : World} {A : Around} {E : Value → Shared → Prop} {s : Shared}
abbrev noSetT (w : World) : Obj := { cls := .type "set", dict := none, data := .set #[] 0 (.fresh 0 0 (!w.params.followText "set-order")) }
theorem setT_tups {l : Addr} {its : Array Value} (ks : List (Addr × List Int)) {Q : Value → Shared → Prop} (quiet : A.handled = none) (isT : s.heap.IsTuple l its) (refs : its.toList = ks.map fun p => Value.ref p.1)
    (tk : ∀ p ∈ ks, IsT P w s.heap p.2 p.1) (few : ks.length < 64) (un : A.units + 3 < cLine)
    (fin : ∀ (h2 : Heap) (tk : Nat) L es ep t, SetTR P w h2 s.heap.objs.size L es ep t → Got ks ks.length L → (∀ b o, s.heap.get? b = some o → h2.get? b = some o) → Q (.ref s.heap.objs.size) { s with heap := h2, toks := tk }) :
    wpAny (model P w) A (call (.type "set") [.ref l]) Q E s := by
  have size : its.size = ks.length := by
    rw [← Array.length_toList, refs, List.length_map]
  obtain ⟨cA, tA, mA⟩ := F.called_set.mro
  have f1 := F.called_set.made
  have f2 := F.called_set.sub
  refine wpAny_call (codeAny_of_tree (?_ : wpAny _ _ (callAny (.type "set") _) _ _ _))
  refine wpAny_pure (And.intro (Code.quiet_builtin _ (by decide +kernel)) (codeAny_builtin F.entry_type_call ?_))
  rw [Around.under_plain (weight_type_call_type "set" [Value.ref l] []) rfl]
  have f3 := F.called_set.notType
  have f4 := F.called_set.canCreate
  have f5 := F.typeCall_set_1 (Value.ref l)
  repeat any_goals first | assumption | wp_step
  refine codeAny_mono (code_set_led1 (.ref l) (E := E) (Q₁ := fun v s1 => v = .ref s.heap.objs.size ∧ s1 = { s with heap := s.heap.push (noSetT w) }) (And.intro rfl rfl)) fun r s1 h1 => ?_
  match r, h1 with
  | .error e, h1 => exact h1
  | .ok (.ret v), h1 =>
    obtain ⟨rfl, rfl⟩ := h1
    have at0 : (s.heap.push (noSetT w)).get? s.heap.objs.size = some (noSetT w) := Heap.get?_push_size _ rfl
    have ty0 : Shared.TypeIs { s with heap := s.heap.push (noSetT w) } (.ref s.heap.objs.size) "set" := Exists.intro _ (And.intro at0 rfl)
    have f6 := F.called_set.init.lookup
    have f7 := F.called_set.init.bind (Value.ref s.heap.objs.size)
    repeat any_goals first | assumption | wp_step
    let Z : Value → Shared → Prop := fun v s2 => v = .none ∧ ∃ h2 tk L es ep t, s2 = { s with heap := h2, toks := tk } ∧ SetTR P w h2 s.heap.objs.size L es ep t ∧ Got ks ks.length L ∧ ∀ b o, s.heap.get? b = some o → h2.get? b = some o
    refine codeAny_mono (codeAny_call_builtin (R := wants Z E) F.called_set.init.plain F.entry_set_init (check_set_init_1 ty0 ?_)) fun r2 s2 h2 => ?_
    · obtain ⟨o, eo, ec, k, ed⟩ := isT
      obtain ⟨oc, od, oD, oS⟩ := o
      simp only at ec ed
      subst ec ed
      have lt : l < s.heap.objs.size := Heap.lt_size eo
      have eo1 : (s.heap.push (noSetT w)).get? l = some { cls := .type "tuple", dict := od, data := .seq its k, slots := oS } := Heap.get?_push_of_some _ eo
      have g1 := F.sub_tuple_set
      have g2 := F.sub_tuple_frozenset
      have g3 : (Value.type "tuple" == Value.type "dict") = false := by decide
      have isT1 : (s.heap.push (noSetT w)).IsTuple l its := Exists.intro _ (And.intro eo1 (And.intro rfl (Exists.intro k rfl)))
      unfold Builtin.«set.__init__» Builtin.Frozenset.updateFrom noKeywords
      generalize keep : pyIter = itr
      wp_walk
      subst keep
      refine wpAny_pyIter_tuple isT1 (wpAny_bind (wpAny_runValue ?_))
      have quiet3 : A.in1.in1.in1.handled = none := by simp [quiet]
      have sz : (s.heap.push (noSetT w)).objs.size = s.heap.objs.size + 1 := Heap.size_push ..
      have lI : l ≠ (s.heap.push (noSetT w)).objs.size := by
        rw [sz]
        exact Nat.ne_of_lt (Nat.lt_succ_of_lt lt)
      have out : s.heap.objs.size ∉ [(s.heap.push (noSetT w)).objs.size, l] := by
        rw [sz]
        intro z
        rcases List.mem_cons.mp z with z | z
        · exact absurd z (Nat.ne_of_lt (Nat.lt_succ_self _))
        · exact absurd (List.mem_singleton.mp z) (Nat.ne_of_gt lt)
      have vals : ∀ (i : Nat) (v : Value), its[i]? = some v → ∃ p, ks[i]? = some p ∧ v = .ref p.1 := fun i v hv => by
        have z : its.toList[i]? = some v := by
          rw [Array.getElem?_toList]
          exact hv
        rw [refs, List.getElem?_map] at z
        obtain ⟨p, e1, e2⟩ := Option.map_eq_some_iff.mp z
        exact Exists.intro p (And.intro e1 e2.symm)
      have beyond : ∀ b, s.heap.objs.size ≤ b → s.heap.get? b = none := fun b hb => by
        cases z : s.heap.get? b with
        | none => rfl
        | some o => exact (Nat.lt_irrefl _ (Nat.lt_of_lt_of_le (Heap.lt_size z) hb)).elim
      refine set_update_tups (Walks.tuple quiet3 _ l lI its).toS s.heap.objs.size out ks size few vals s.heap tk (beyond _ (Nat.le_refl _)) (fun b hb => beyond b ?_) un (its.size - 0) 0 _ rfl (Nat.zero_le _) (And.intro (Exists.intro _ (And.intro (Heap.get?_push_size _ rfl) (And.intro rfl rfl))) (isT1.push _)) (fun b o e => Heap.get?_push_of_some _ (Heap.get?_push_of_some _ e)) ?start ?last
      · rw [List.mem_singleton.mp hb, sz]
        exact Nat.le_succ _
      case start =>
        exact ⟨[], #[], 0, _, setTR_fresh (Heap.get?_push_of_some _ at0), Got.zero ks⟩
      case last =>
        intro s3 L es ep t mv R got kp
        obtain ⟨h3, g3', d3, tk3, o3⟩ := s3
        have m1 : g3' = s.gens := mv.gens
        have m2 : d3 = s.drawn := mv.drawn
        have m3 : o3 = s.os := mv.os
        subst m1 m2 m3
        refine wpAny_pure (?_ : wpAny _ _ (ret Value.none) _ _ _)
        rw [size] at got
        exact wpAny_pure (And.intro rfl ⟨h3, tk3, L, es, ep, t, rfl, R, got, kp⟩)
    · match r2, h2 with
      | .error e, h2 => exact h2
      | .ok (.ret v), h2 =>
        obtain ⟨rfl, h', tk, L, es, ep, t, rfl, R, got, kp⟩ := h2
        repeat any_goals first | assumption | wp_step
        exact fin h' tk L es ep t R got kp
      | .ok .next, h2 => exact h2
      | .ok .brk, h2 => exact h2
      | .ok .cont, h2 => exact h2
  | .ok .next, h1 => exact h1
  | .ok .brk, h1 => exact h1
  | .ok .cont, h1 => exact h1
end
section
variable {X : Cx}
def rSetOfTT (K : PySem.W.Frag) (P : Program) (w : World) : List V → Hp → VK → Prop := fun xs H Q => ∃ (l : Addr) (ks : List (Addr × List Int)), xs = [V.ref l] ∧ SqT K H l (ks.map fun p => V.ref p.1) ∧ (∀ p ∈ ks, SqT K H p.1 (p.2.map V.int)) ∧ ks.length < 64 ∧
  ∀ a L, H a = none → (∀ p ∈ L, p ∈ ks) → (∀ p ∈ ks, p.2 ∈ L.map (·.2)) → Q (.ref a) (upd H a (SetTO P w a L))
theorem cr_setOfTT (calm : X.calm = true) (units : X.A.units + 64 < cLine) : CallR X (.type "set") (rSetOfTT X.K X.prog X.w) := by
  intro pins s σ H xs us Q I r h
  obtain ⟨l, ks, rfl, hl, hk, few, q⟩ := h
  rw [Vals.ref1 r]
  obtain ⟨its, rv, pl, _⟩ := I.tuple hl
  have nn : H s.heap.objs.size = none := I.hok.fresh (Nat.le_refl _)
  refine setT_tups (P := X.prog) (w := X.w) (its := its.toArray) ks (I.ok.hd calm) pl (by simpa using refs_of_vals rv) (fun p hp => I.isT (hk p hp)) few (by omega) fun h2 tk L es ep t R got kp => ?_
  exact ⟨.ref s.heap.objs.size, _, I.laid (t' := tk) kp (Nat.le_refl _) (setTO_new R.t0), rfl, q _ L nn (fun p hp => List.mem_of_mem_take (got.sub p hp)) (fun p hp => got.all p (by rw [List.take_length]; exact hp))⟩
end

/-- a statement that is never come to -/
theorem ps_never {X : Cx} {st : Stmt} : PS X st (fun _ _ _ => False) := ⟨fun _ _ _ _ _ _ h => h.elim⟩

/-! ### defs that are run where no text-making of the machine is under way (repr, str of nested data ask for it) -/
abbrev Quiet (A : Around) : Prop := A.guards = some []
structure FnG (P : Program) (w : World) (K : PySem.W.Frag) (mg : Str → Option Value) (base : Heap) (k : Nat) (f : Addr) (fd : FuncData) (ps : List Str) (sp : Sp) : Prop where
  size : ∀ {vs H Q}, sp vs H Q E0 → vs.length = ps.length
  go : ∀ {A outer s H us vs Q}, Room k A → Quiet A → Env0 P w K mg base A outer s H → BindsTo s fd ⟨us, []⟩ (ps.zip us) → Vals vs us → sp vs H Q E0 →
    codeAny (model P w) A (.call (.ref f) ⟨us, []⟩) (CR CX0 outer P w H s Q E0) s
section
variable {P : Program} {w : World} {K : PySem.W.Frag} {mg : Str → Option Value} {base : Heap}
theorem FnG.of {x qual : Str} {st : Stmt} {f : Addr} {fd : FuncData} {N ps : List Str} {k : Nat} {sp : Sp} (F : Fun K x qual st f fd) (S : FnScope N ps (defScope st))
    (size : ∀ {vs H Q}, sp vs H Q E0 → vs.length = ps.length)
    (body : ∀ cdv A outer s H vs Q, Room k (A.deeper (envOfC qual (defScope st) s.heap.objs.size f cdv)) → Quiet (A.deeper (envOfC qual (defScope st) s.heap.objs.size f cdv)) → sp vs H Q E0 →
      ∃ t, PSs (cxOf CX0 P w K mg base N qual (defScope st) f cdv A outer s H E0).nox (defBody st) t ∧ t { nx := fun _ H' => Q .non H', rt := Q } (start N vs) H) :
    FnG P w K mg base (k + 1) f fd ps sp := by
  obtain ⟨oc, od, kV, doc, pm, an, cdv, ct, osl, rfl, look, code⟩ := F.ex
  constructor
  · exact size
  intro A outer s H us vs Q room quiet e0 bind rel want
  have inH : K.In s.heap := e0.mod.kin.keeps fun b o q => (e0.bs b o q).1
  have lim := e0.mod.nolimit.keeps (fun b o q => (e0.bs b o q).1)
  have kinds : ∀ y ∈ ps.zip us, (defScope st).names.lookup y.1 = some .local ∨ ((defScope st).names.lookup y.1 = some .cell ∧ ((cellsFrom (s.heap.objs.size + 1) (defScope st).names []).lookup y.1).isSome = true) := by
    rintro ⟨n, v⟩ hy
    have hn := (List.of_mem_zip hy).1
    cases S.par n hn with
    | inl q => exact Or.inl q
    | inr q => exact Or.inr ⟨q, PySem.W.cellsFrom_some _ _ _ (Or.inl q)⟩
  apply codeAny_call_function room.depth (inH _ _ look) rfl S.co S.gen rfl (PySem.W.codeRec_of inH code)
  apply bind
  apply wpAny_newFunctionEnv_cells S.kind kinds
  intro env he s1 x
  subst he
  refine And.intro (lim.keeps x.toInCall.keep) (codeAny_func ?_)
  obtain ⟨t, ht, hq⟩ := body cdv A outer s H vs Q (room.deeper _) quiet want
  have I := inv_start (CX := CX0) (E := E0) S room.hd e0 (size want) rel x
  apply wpAny_mono (ht.nox.run [] s1 (start N vs) H _ I hq)
  · intro fl s' hs
    cases fl with
    | ret u =>
      obtain ⟨v, σ', H', J, rv, q⟩ := hs
      exact Exists.intro v ⟨H', J.os, J.bare, J.base, J.hok, rv, q⟩
    | next =>
      obtain ⟨σ', H', J, q⟩ := hs
      exact Exists.intro V.non ⟨H', J.os, J.bare, J.base, J.hok, rfl, q⟩
    | brk => exact hs.elim fun _ h => h.elim fun _ h => h.2.elim
    | cont => exact hs.elim fun _ h => h.elim fun _ h => h.2.elim
  · intro e s' hs
    exact hs
end
section
variable {X : Cx} {k : Nat} {f : Addr} {fd : FuncData} {ps : List Str} {sp : Sp} {x : Str} {p pos : Pos} {e : Expr} {es : List Expr} {t : TA}
theorem pe_callG (F : FnG X.prog X.w X.K X.mg X.base k f fd ps sp) (room : Room k X.A) (quiet : Quiet X.A) (hg : Gl X x) (hm : X.mg x = some (.ref f)) (keep : PySem.W.keepIn X.K (.ref f) = true) (bind : Binds X.K fd ps [])
    (args : PA X (e :: es) t) (hdb : (x == ("__debug__" : Str)) = false := by decide) (star : starEach (e :: es) X.env = (false, eval e X.env) :: starEach es X.env := by rfl) (plain : (backTo pos (starEach es X.env)).any (·.1) = false := by rfl) :
    PE X (.Call (.Name x p) (e :: es) [] pos) (tCall sp [] E0 t) := by
  constructor
  intro pins s σ H Q I h
  apply wpAny_Call_Name_kw
  apply ld_glob I hg hm _ hdb
  apply PySem.W.callWith_K (h₀ := X.base) I.ok.mod.kin keep _ star plain
  apply thn (args.run pos pins s σ H _ I h)
  rintro us s1 ⟨vs, H1, I1, rel, q⟩
  refine And.intro I1.kIn ?_
  have q' : sp vs H1 Q E0 := by
    have z := q
    rw [List.append_nil] at z
    exact z
  have same : us.length = ps.length := rel.length.symm.trans (F.size q')
  have b := bind s1 us I1.kIn (by rw [List.append_nil]; exact same)
  rw [List.append_nil] at b
  apply wpAny_call
  apply codeAny_mono (F.go room quiet I1.env0 b rel q')
  intro r s' hr
  match r, hr with
  | .error _, hr => exact hr.elim
  | .ok (.ret u), hr => exact I1.after hr
  | .ok .next, hr => exact False.elim hr
  | .ok .brk, hr => exact False.elim hr
  | .ok .cont, hr => exact False.elim hr
end
/-! ### repr of data at any depth -/
structure Sm (n dp : Nat) (d : PyData) : Prop where
  shows : d.showable = true
  short : d.leavesShort 40 = true
  small : d.weight ≤ n
  flat : d.depth ≤ dp
theorem Sm.mono {n m dp dq : Nat} {d : PyData} (h : Sm n dp d) (h1 : n ≤ m) (h2 : dp ≤ dq) : Sm m dq d := ⟨h.shows, h.short, Nat.le_trans h.small h1, Nat.le_trans h.flat h2⟩
theorem Sm.none : Sm 0 0 .none := ⟨rfl, rfl, Nat.le_refl _, Nat.le_refl _⟩
theorem Sm.bool (b : Bool) : Sm 0 0 (.bool b) := ⟨rfl, rfl, Nat.le_refl _, Nat.le_refl _⟩
theorem log2_small {i : Int} (h : i.natAbs < 10 ^ 30) : i.natAbs.log2 < 100 := PySem.Flt.log2_lt_of (by decide) (Nat.lt_trans h (by decide))
theorem Sm.int {i : Int} (h : i.natAbs < 10 ^ 30) : Sm 100 0 (.int i) := by
  have l := log2_small h
  refine ⟨decide_eq_true (Nat.lt_trans l (by decide)), decide_eq_true ?_, ?_, Nat.le_refl _⟩
  · have q := int_text_length_le10 (a := i) (k := 30) (by decide) h
    show (Str.ofString (toString i)).length ≤ 40
    rw [PySem.ofString_length]
    exact Nat.le_trans q (by decide)
  · show (if i == 0 then 0 else i.natAbs.log2 + 1) ≤ 100
    split <;> omega
theorem smAll {n dp : Nat} : ∀ {ds : List PyData}, (∀ d ∈ ds, Sm n dp d) → PyData.showableAll ds = true ∧ PyData.leavesShortAll 40 ds = true ∧ PyData.weightAll ds ≤ ds.length * (n + 1) ∧ PyData.depthAll ds ≤ dp
  | [], _ => ⟨rfl, rfl, Nat.zero_le _, Nat.zero_le _⟩
  | d :: ds, h => by
    obtain ⟨a, b, c, e⟩ := smAll (ds := ds) fun x hx => h x (List.mem_cons_of_mem _ hx)
    have z := h d List.mem_cons_self
    refine ⟨?_, ?_, ?_, ?_⟩
    · show (d.showable && PyData.showableAll ds) = true
      rw [z.shows, a]
      rfl
    · show (d.leavesShort 40 && PyData.leavesShortAll 40 ds) = true
      rw [z.short, b]
      rfl
    · show d.weight + 1 + PyData.weightAll ds ≤ (ds.length + 1) * (n + 1)
      have := z.small
      rw [Nat.add_mul]
      omega
    · show max d.depth (PyData.depthAll ds) ≤ dp
      exact Nat.max_le.mpr ⟨z.flat, e⟩
theorem Sm.tup {n dp : Nat} {ds : List PyData} (h : ∀ d ∈ ds, Sm n dp d) : Sm (ds.length * (n + 1)) (dp + 1) (.tuple ds) :=
  let ⟨a, b, c, e⟩ := smAll h
  ⟨a, b, c, Nat.succ_le_succ e⟩
theorem Sm.lst {n dp : Nat} {ds : List PyData} (h : ∀ d ∈ ds, Sm n dp d) : Sm (ds.length * (n + 1)) (dp + 1) (.list ds) :=
  let ⟨a, b, c, e⟩ := smAll h
  ⟨a, b, c, Nat.succ_le_succ e⟩
theorem Sm.fits {n dp : Nat} {d : PyData} (h : Sm n dp d) (hn : n ≤ 300000) : d.shown.length ≤ sizeLine := by
  have q := PyData.shown_le 40 (by decide) d h.short
  have := h.small
  have e : sizeLine = 16777216 := by decide
  rw [e]
  omega
/-- data with dicts in it; its lists stand in the heap by themselves -/
def keyD : Key → PyData
  | .inl i => .int i
  | .inr x => .str x
mutual
inductive Dv (K : PySem.W.Frag) (H : Hp) : V → PyData → Prop
  | non : Dv K H .non .none
  | bl (b : Bool) : Dv K H (.bl b) (.bool b)
  | int (i : Int) : Dv K H (.int i) (.int i)
  | str (x : Str) : Dv K H (.str x) (.str x)
  | lst {a : Addr} {xs : List V} {ds : List PyData} : H a = some (.lst xs) → DvAll K H xs ds → Dv K H (.ref a) (.list ds)
  | tup {a : Addr} {xs : List V} {ds : List PyData} : H a = some (.tup xs) → DvAll K H xs ds → Dv K H (.ref a) (.tuple ds)
  | dic {a : Addr} {kvs : List (Key × V)} {ds : List PyData} : H a = some (.dK kvs) → DvAll K H (kvs.map (·.2)) ds → Dv K H (.ref a) (.dict ((kvs.map fun p => keyD p.1).zip ds))
inductive DvAll (K : PySem.W.Frag) (H : Hp) : List V → List PyData → Prop
  | nil : DvAll K H [] []
  | cons {v : V} {vs : List V} {d : PyData} {ds : List PyData} : Dv K H v d → DvAll K H vs ds → DvAll K H (v :: vs) (d :: ds)
end
theorem DvAll.length {K : PySem.W.Frag} {H : Hp} : ∀ {vs : List V} {ds : List PyData}, DvAll K H vs ds → vs.length = ds.length
  | _, _, .nil => rfl
  | _, _, .cons _ h => by rw [List.length_cons, List.length_cons, h.length]
theorem keys_read {P : Program} {w : World} {h : Heap} : ∀ {es : List DictEntry} {vs : List (Key × Value)}, Pairs (mixKind P w) es vs → ReadsAll h (es.map (·.key)) (vs.map fun p => keyD p.1) []
  | _, _, .nil => .nil
  | _, _, .cons (e := e) (kv := kv) hk _ r => by
    have one : Reads h e.key (keyD kv.1) [] := by
      rcases keyIs_shape hk with ⟨i, t, e1, e2⟩ | ⟨x, t, e1, e2⟩
      · rw [e1, e2]
        exact .int i t
      · rw [e1, e2]
        exact .str x t
    exact ReadsAll.cons one (keys_read r)
theorem vals_read {P : Program} {w : World} : ∀ {es : List DictEntry} {vs : List (Key × Value)}, Pairs (mixKind P w) es vs → es.map (·.val) = vs.map (·.2)
  | _, _, .nil => rfl
  | _, _, .cons _ hv r => by rw [List.map_cons, List.map_cons, hv, vals_read r]
theorem kv_vals : ∀ {kvs : List (Key × V)} {vs : List (Key × Value)}, KV kvs vs → Vals (kvs.map (·.2)) (vs.map (·.2)) ∧ (vs.map fun p => keyD p.1) = kvs.map fun p => keyD p.1
  | _, _, .nil => ⟨.nil, rfl⟩
  | _, _, .cons h r => by
    obtain ⟨a, b⟩ := kv_vals r
    refine ⟨.cons h.2 a, ?_⟩
    rw [List.map_cons, List.map_cons, b, h.1]
section
variable {X : Cx} {pins : List (Addr × Obj)} {σ : L2.St} {H : Hp} {s : Shared}
theorem Dv.reads (I : Inv X pins σ H s) (mods : ∃ mm, X.base.Ns sysModules mm) {v : V} {d : PyData} (h : Dv X.K H v d) : ∀ u : Value, RelV v u → ∃ as, Reads s.heap u d as ∧ sysModules ∉ as := by
  have free : H sysModules = none := by
    obtain ⟨mm, o, es, ep, e, _⟩ := mods
    exact (I.bs _ o e).2
  refine Dv.rec (K := X.K) (H := H) (motive_1 := fun v d _ => ∀ u : Value, RelV v u → ∃ as, Reads s.heap u d as ∧ sysModules ∉ as) (motive_2 := fun vs ds _ => ∀ us : List Value, Vals vs us → ∃ as, ReadsAll s.heap us ds as ∧ sysModules ∉ as) ?_ ?_ ?_ ?_ ?_ ?_ ?_ ?_ ?_ h
  · intro u r
    cases r
    exact ⟨_, .none, fun z => nomatch z⟩
  · intro b u r
    cases r
    exact ⟨_, .bool b, fun z => nomatch z⟩
  · intro i u r
    obtain ⟨t, rfl⟩ := r
    exact ⟨_, .int i t, fun z => nomatch z⟩
  · intro x u r
    obtain ⟨t, rfl⟩ := r
    exact ⟨_, .str x t, fun z => nomatch z⟩
  · intro a xs ds e _ ih u r
    cases r
    obtain ⟨_, its, n, rv, q⟩ := I.hok a _ e
    obtain ⟨as, ra, na⟩ := ih _ rv
    refine ⟨a :: as, .list q rfl rfl (by simpa using ra), fun z => ?_⟩
    rcases List.mem_cons.mp z with z | z
    · rw [← z, free] at e
      cases e
    · exact na z
  · intro a xs ds e _ ih u r
    cases r
    obtain ⟨_, its, rv, o, ho, hc, n, hd⟩ := I.hok a _ e
    obtain ⟨as, ra, na⟩ := ih _ rv
    exact ⟨as, .tuple ho hc hd (by simpa using ra), na⟩
  · intro a kvs ds e hall ih u r
    cases r
    obtain ⟨_, hne, vs, kv, o, es, ep, ho, ex, hd, _, prs, _⟩ := I.hok a _ e
    obtain ⟨rv, ek⟩ := kv_vals kv
    obtain ⟨as, ra, na⟩ := ih _ rv
    have len : (kvs.map fun p => keyD p.1).length = ds.length := by
      have z := hall.length
      rw [List.length_map] at z
      rw [List.length_map, z]
    refine ⟨_, .dict ho ex.1 hd (as := []) (bs := as) ?_ ?_, fun z => ?_⟩
    · rw [List.map_fst_zip (by omega), ← ek]
      exact keys_read prs
    · rw [List.map_snd_zip (by omega), vals_read prs]
      exact ra
    · rcases List.mem_cons.mp z with z | z
      · rw [← z] at hne
        exact absurd hne (by decide)
      · exact na z
  · intro us r
    cases r
    exact ⟨_, .nil, fun z => nomatch z⟩
  · intro v vs d ds _ _ ih1 ih2 us r
    cases r with
    | cons r1 r2 =>
      obtain ⟨as, ra, na⟩ := ih1 _ r1
      obtain ⟨bs, rb, nb⟩ := ih2 _ r2
      refine ⟨_, .cons ra rb, fun z => ?_⟩
      rcases List.mem_append.mp z with z | z
      · exact na z
      · exact nb z
theorem call_reprV (mods : ∃ mm, X.base.Ns sysModules mm) (quiet : Quiet X.A) (units : X.A.units + 64 < cLine) : CallR X (.builtin "repr")
    (fun xs H Q => ∃ v d n dp, xs = [v] ∧ Dv X.K H v d ∧ Sm n dp d ∧ n ≤ 300000 ∧ dp ≤ 60 ∧ Q (.str d.shown) H) := by
  intro pins s σ H xs us Q I r h
  obtain ⟨v, d, n, dp, rfl, hd, sm, hn, hdp, q⟩ := h
  obtain ⟨u, rfl, ru⟩ := vals1 r
  have fits := sm.fits hn
  have flat := sm.flat
  obtain ⟨as, rd, off⟩ := Dv.reads I mods hd _ ru
  cases hd with
  | non =>
    cases ru
    exact PySem.P.repr_of_none ⟨.str _, H, I.tok _, ⟨_, rfl⟩, q⟩
  | bl b =>
    cases ru
    exact PySem.P.repr_of_bool ⟨.str _, H, I.tok _, ⟨_, rfl⟩, q⟩
  | int i =>
    obtain ⟨t, rfl⟩ := ru
    exact PySem.P.repr_of_int (of_decide_eq_true sm.shows) ⟨.str _, H, I.tok _, ⟨_, rfl⟩, q⟩
  | str x =>
    obtain ⟨t, rfl⟩ := ru
    exact PySem.P.repr_of_str ⟨.str _, H, I.tok _, ⟨_, rfl⟩, q⟩ fits
  | _ =>
    cases ru
    exact repr_of_reads' rd sm.shows (fun _ => off) quiet (by omega) (fun _ _ e => e) (fun h' t tk more => ⟨.str _, H, I.kept more, ⟨_, rfl⟩, q⟩) fits
end
theorem Dp.noDict {K : PySem.W.Frag} {H : Hp} {v : V} {d : PyData} (h : Dp K H v d) : d.hasDict = false := by
  refine Dp.rec (K := K) (H := H) (motive_1 := fun v d _ => d.hasDict = false) (motive_2 := fun vs ds _ => PyData.hasDictAll ds = false) ?_ ?_ ?_ ?_ ?_ ?_ ?_ ?_ h
  all_goals intros
  all_goals simp_all [PyData.hasDict, PyData.hasDictAll]
section
variable {X : Cx}
theorem call_reprD (quiet : Quiet X.A) (units : X.A.units + 64 < cLine) : CallR X (.builtin "repr")
    (fun xs H Q => ∃ v d n dp, xs = [v] ∧ Dp X.K H v d ∧ Sm n dp d ∧ n ≤ 300000 ∧ dp ≤ 60 ∧ Q (.str d.shown) H) := by
  intro pins s σ H xs us Q I r h
  obtain ⟨v, d, n, dp, rfl, hd, sm, hn, hdp, q⟩ := h
  obtain ⟨u, rfl, ru⟩ := vals1 r
  have fits := sm.fits hn
  have flat := sm.flat
  obtain ⟨as, rd⟩ := Dp.reads I d v u hd ru
  cases hd with
  | non =>
    cases ru
    exact PySem.P.repr_of_none ⟨.str _, H, I.tok _, ⟨_, rfl⟩, q⟩
  | bl b =>
    cases ru
    exact PySem.P.repr_of_bool ⟨.str _, H, I.tok _, ⟨_, rfl⟩, q⟩
  | int i =>
    obtain ⟨t, rfl⟩ := ru
    exact PySem.P.repr_of_int (of_decide_eq_true sm.shows) ⟨.str _, H, I.tok _, ⟨_, rfl⟩, q⟩
  | str x =>
    obtain ⟨t, rfl⟩ := ru
    exact PySem.P.repr_of_str ⟨.str _, H, I.tok _, ⟨_, rfl⟩, q⟩ fits
  | lst h1 h2 =>
    cases ru
    exact repr_of_reads' rd sm.shows (PyData.noDict_hsm (Dp.noDict (Dp.lst h1 h2))) quiet (by omega) (fun _ _ e => e) (fun h' t tk more => ⟨.str _, H, I.kept more, ⟨_, rfl⟩, q⟩) fits
  | tup h1 h2 =>
    cases ru
    exact repr_of_reads' rd sm.shows (PyData.noDict_hsm (Dp.noDict (Dp.tup h1 h2))) quiet (by omega) (fun _ _ e => e) (fun h' t tk more => ⟨.str _, H, I.kept more, ⟨_, rfl⟩, q⟩) fits
end
/-! ### the end of a law row whose def is of the quiet kind -/
theorem quiet_law {P : Program} {w : World} {K : PySem.W.Frag} {mg mb : Str → Option Value} {k : Nat} {fa a : Addr} {fd : FuncData} {x : Str} {sp : Sp} {s₁ : Shared} {vs : List Value} {ns : List Int}
    (inK : K.In s₁.heap) (glob : s₁.heap.Ns mainGlobals mg) (blt : s₁.heap.Ns builtinsNs mb) (bltIs : ∀ y : Str, y ≠ "__name__" → mb y = bootBuiltins y) (lim : s₁.heap.NoLimit) (gens : s₁.gens = #[]) (mods : ∃ mm, s₁.heap.Ns sysModules mm)
    (here : s₁.heap.get? a = some { cls := .type "list", data := .seq vs.toArray }) (whole : IntsAre vs ns) (few : ns.length ≤ sizeLine) (room : Room k callerA)
    (F : ∀ base : Heap, K.In base → base.Ns mainGlobals mg → (∃ mm, base.Ns sysModules mm) → FnG P w K mg base k fa fd [x] sp) (bind : ∀ (s : Shared) (u : Value), BindsTo s fd ⟨[u], []⟩ [(x, u)])
    (want : ∀ H : Hp, Only H → SqL K H a (ns.map V.int) → sp [.ref a] H (fun v _ => v = .bl true) E0) :
    codeAny (model P w) callerA (.call (.ref fa) ⟨[.ref a], []⟩) (fun r s' => r = .ok (.ret (.bool true)) ∧ OldK s₁.heap s'.heap ∧ s'.os = s₁.os ∧ AllBare s'.gens) s₁ := by
  have rel := vals_ints whole
  -- H: the script alone, or nothing
  have main : ∀ H : Hp, Only H → SqL K H a (ns.map V.int) → HOk P w H s₁.heap → (∀ b u, H b = some u → b = a ∧ K.lookup b = none) →
      codeAny (model P w) callerA (.call (.ref fa) ⟨[.ref a], []⟩) (fun r s' => r = .ok (.ret (.bool true)) ∧ OldK s₁.heap s'.heap ∧ s'.os = s₁.os ∧ AllBare s'.gens) s₁ := by
    intro H only sq ok apart
    have untold : ∀ {b o}, s₁.heap.get? b = some o → (b = a → False) → H b = none := by
      intro b o e ne
      cases q : H b with
      | none => rfl
      | some u => exact (ne (apart b u q).1).elim
    have ns1 : ∀ {b m}, s₁.heap.Ns b m → (hidT s₁.heap H).Ns b m := by
      rintro b m ⟨o, es, ep, e, d, r⟩
      refine ⟨o, es, ep, hidT_get e (untold e fun z => ?_), d, r⟩
      subst z
      rw [here] at e
      cases e
      cases d
    have kIn : K.In (hidT s₁.heap H) := by
      intro b o e
      apply hidT_get (inK b o e)
      cases q : H b with
      | none => rfl
      | some u =>
        have z := (apart b u q).2
        rw [e] at z
        cases z
    have lim1 : (hidT s₁.heap H).NoLimit := by
      obtain ⟨mc, h1, h2⟩ := lim
      exact ⟨mc, ns1 h1, h2⟩
    have e0 : Env0 P w K mg (hidT s₁.heap H) callerA [] s₁ H := {
      frames := rfl, mod := ⟨kIn, ns1 glob, ⟨mb, ns1 blt, bltIs⟩, lim1⟩, bs := fun _ _ e => of_hidT e, bsz := Nat.le_of_eq (hidT_size _ _), funs := True.intro, frf := (fun _ hb => nomatch hb), hok := ok, bare := .of_eq gens }
    apply codeAny_mono ((F _ kIn (ns1 glob) (mods.elim fun mm h => ⟨mm, ns1 h⟩)).go (us := [.ref a]) (vs := [.ref a]) room rfl e0 (bind s₁ _) (.cons rfl .nil) (want H only sq))
    intro r s' hr
    match r, hr with
    | .error _, hr => exact hr.elim
    | .ok .next, hr => exact False.elim hr
    | .ok .brk, hr => exact False.elim hr
    | .ok .cont, hr => exact False.elim hr
    | .ok (.ret u), hr =>
      obtain ⟨v, H', os, bare, un, ok', rv, q⟩ := hr
      cases (show v = V.bl true from q)
      cases (show u = Value.bool true from rv)
      refine ⟨rfl, OldK.of_keep ?_, os, bare⟩
      intro b o e
      cases only b with
      | inl n => exact un.keep b o e n (fun z => nomatch z) (fun z => nomatch z)
      | inr n =>
        obtain ⟨ob, xs, z⟩ := n
        have e1 := (ok b _ z).1
        have e2 := (ok' b _ (un.frzs b ob _ z)).1
        rw [e] at e1
        cases e1
        exact e2
  have small : (ns.map V.int).length ≤ sizeLine := by rw [List.length_map]; exact few
  cases known : K.lookup a with
  | some o =>
    have e := inK a o known
    rw [here] at e
    cases e
    have sz : vs.length ≤ sizeLine := by rw [← rel.length]; exact small
    exact main (fun _ => none) (fun _ => .inl rfl) (.inr ⟨_, vs.toArray, _, known, rfl, rfl, rfl, by simpa using sz, by simpa using rel⟩) (fun _ _ z => nomatch z) (fun _ _ z => nomatch z)
  | none =>
    have at1 : ∀ {b u}, (if b = a then some (HO.frz { cls := .type "list", data := .seq vs.toArray } (.lst (ns.map V.int))) else none) = some u → b = a := by
      intro b u z
      by_cases hb : b = a
      · exact hb
      · rw [if_neg hb] at z
        cases z
    refine main (fun b => if b = a then some (.frz { cls := .type "list", data := .seq vs.toArray } (.lst (ns.map V.int))) else none) (fun b => ?_) (.inl (.inr ⟨{ cls := .type "list", data := .seq vs.toArray }, if_pos rfl⟩)) (fun b u z => ?_) (fun b u z => ?_)
    · by_cases hb : b = a
      · exact .inr ⟨_, _, if_pos hb⟩
      · exact .inl (if_neg hb)
    · have hb := at1 z
      subst hb
      have z2 := (if_pos rfl).symm.trans z
      cases z2
      exact ⟨here, small, vs, _, rel, here⟩
    · have hb := at1 z
      subst hb
      exact ⟨rfl, known⟩
theorem quiet_walk {l : PySem.W.OpenLaw} {n k : Nat} {q : Program} {loose : List Str} {XP : (Str → Option Value) → Heap → Prop} {YP : World → Heap → Prop} {d : DefRec} {K : Params → PySem.W.Frag} {sp : World → Sp} {x : Str}
    (noImport : importsNone q = true) (most : l.most = some n) (n2 : n ≤ sizeLine) (defaults : d.params.defaults = []) (room : Room k callerA) (hY : ∀ (w : World) (h : Heap), YP w h → (K w.params).In h)
    (F : ∀ (w : World) (mg : Str → Option Value) (fa : Addr) (h : Heap), (K w.params).In h → h.Ns mainGlobals mg → mg d.name = some (.ref fa) →
      ∃ fd : FuncData, (∀ (s : Shared) (u : Value), BindsTo s fd ⟨[u], []⟩ [(x, u)]) ∧ ∀ base : Heap, (K w.params).In base → base.Ns mainGlobals mg → (∃ mm, base.Ns sysModules mm) → FnG l.prog w (K w.params) mg base k fa fd [x] (sp w))
    (want : ∀ (w : World) (H : Hp) (a : Addr) (ns : List Int), ns.length ≤ n → Only H → SqL (K w.params) H a (ns.map V.int) → sp w [.ref a] H (fun v _ => v = .bl true) E0) :
    PySem.W.WalkO q loose XP YP l.row.toRowW d [] (fun f vs => PySem.call f vs) := by
  apply Att.attach_call most defaults
  intro w s₀ s₁ mg mb fa o pm cd doc a vs ns G Y ho hd hcd hmg hobj hints hlen hg
  obtain ⟨fd, hb, hF⟩ := F w mg fa _ (hY w _ Y) G.T.g hmg
  exact quiet_law (hY w _ Y) G.T.g G.T.b G.T.builtins G.T.nolimit hg ((G.T.seer noImport).mods.elim fun mm h => ⟨mm, h.1⟩) hobj hints (Nat.le_trans hlen n2) room hF hb fun H o1 s1 => want w H a ns hlen o1 s1

/-! ### a op1 b op2 c op3 .. : chains of any length -/
section
variable {X : Cx}
structure PCh (X : Cx) (ops : List CmpOp) (es : List Expr) (t : V → TE) : Prop where
  run : ∀ (pos : Pos) (pins : List (Addr × Obj)) (s : Shared) (σ : L2.St) (H : Hp) (Q : VK) (x : V) (v : Value), Inv X pins σ H s → RelV x v → t x σ H Q → wpAny (model X.prog X.w) X.A (compareChain pos v ops (evalEach es X.env)) (EP X pins σ Q) X.xe s
structure PChT (X : Cx) (ops : List CmpOp) (es : List Expr) (t : V → TE) : Prop where
  run : ∀ (pos : Pos) (pins : List (Addr × Obj)) (s : Shared) (σ : L2.St) (H : Hp) (Q : Bool → Hp → Prop) (x : V) (v : Value), Inv X pins σ H s → RelV x v → (t x σ H fun y H' => ∃ k, y = .bl k ∧ Q k H') → wpAny (model X.prog X.w) X.A (testChain pos v ops (evalEach es X.env)) (TP X pins σ Q) X.xe s
def tLast (r : R2) (tb : TE) : V → TE := fun x σ H Q => tb σ H fun y H2 => r x y H2 Q
def tLink (r : R2) (tb : TE) (rest : V → TE) : V → TE := fun x σ H Q => tb σ H fun y H2 => r x y H2 fun z H3 => ∃ k, z = .bl k ∧ (if k = true then rest y σ H3 Q else Q (.bl false) H3)
def tCh (ta : TE) (rest : V → TE) : TE := fun σ H Q => ta σ H fun x H1 => rest x σ H1 Q
theorem pch_last {op : CmpOp} {r : R2} {b : Expr} {tb : TE} (ho : OpR X (compareOp op) r) (hb : PE X b tb) : PCh X [op] [b] (tLast r tb) :=
  ⟨fun pos pins s σ H Q x v I rx h => chain_last (thn (hb.run pins s σ H _ I h) fun u s2 ⟨y, H2, I2, r2, q2⟩ => ho pins s2 σ H2 x y v u Q I2 rx r2 q2)⟩
theorem pch_link {op op' : CmpOp} {ops : List CmpOp} {r : R2} {b b' : Expr} {bs : List Expr} {tb : TE} {rest : V → TE} (ho : OpR X (compareOp op) r) (hb : PE X b tb) (hr : PCh X (op' :: ops) (b' :: bs) rest) : PCh X (op :: op' :: ops) (b :: b' :: bs) (tLink r tb rest) := by
  refine ⟨fun pos pins s σ H Q x v I rx h => ?_⟩
  refine chain_link (thn (hb.run pins s σ H _ I h) fun u s2 ⟨y, H2, I2, r2, q2⟩ => thn (ho pins s2 σ H2 x y v u _ I2 rx r2 q2) fun d s3 ⟨z, H3, I3, r3, k, e, q3⟩ => ?_)
  subst e
  cases r3
  refine wpAny_truthy_bool ?_
  cases k with
  | false => exact ite_ff ⟨.bl false, H3, I3, rfl, q3⟩
  | true => exact ite_tt (hr.run pos pins s3 σ H3 Q y u I3 r2 q3)
theorem pe_chN {op op' : CmpOp} {ops : List CmpOp} {a b b' : Expr} {bs : List Expr} {pos : Pos} {ta : TE} {rest : V → TE} (ha : PE X a ta) (hr : PCh X (op :: op' :: ops) (b :: b' :: bs) rest)
    (hm : lastMarks (op :: op' :: ops) (b :: b' :: bs) = false := by with_unfolding_all rfl) : PE X (.Compare a (op :: op' :: ops) (b :: b' :: bs) pos) (tCh ta rest) :=
  ⟨fun pins s σ H Q I h => Compare_chain (thn (ha.run pins s σ H _ I h) fun v s1 ⟨x, H1, I1, r1, q1⟩ => hr.run pos pins s1 σ H1 Q x v I1 r1 q1) hm⟩
theorem pchT_last {op : CmpOp} {r : R2} {b : Expr} {tb : TE} (ho : OpR X (compareOp op) r) (hb : PE X b tb) : PChT X [op] [b] (tLast r tb) := by
  refine ⟨fun pos pins s σ H Q x v I rx h => ?_⟩
  refine test_last (thn (hb.run pins s σ H _ I h) fun u s2 ⟨y, H2, I2, r2, q2⟩ => thn (ho pins s2 σ H2 x y v u _ I2 rx r2 q2) fun d s3 ⟨z, H3, I3, r3, k, e, q3⟩ => ?_)
  subst e
  cases r3
  exact wpAny_truthy_bool ⟨H3, I3, q3⟩
theorem pchT_link {op op' : CmpOp} {ops : List CmpOp} {r : R2} {b b' : Expr} {bs : List Expr} {tb : TE} {rest : V → TE} (ho : OpR X (compareOp op) r) (hb : PE X b tb) (hr : PChT X (op' :: ops) (b' :: bs) rest) : PChT X (op :: op' :: ops) (b :: b' :: bs) (tLink r tb rest) := by
  refine ⟨fun pos pins s σ H Q x v I rx h => ?_⟩
  refine test_link (thn (hb.run pins s σ H _ I h) fun u s2 ⟨y, H2, I2, r2, q2⟩ => thn (ho pins s2 σ H2 x y v u _ I2 rx r2 q2) fun d s3 ⟨z, H3, I3, r3, k, e, q3⟩ => ?_)
  subst e
  cases r3
  refine wpAny_truthy_bool ?_
  cases k with
  | false =>
    obtain ⟨k', e', q'⟩ := q3
    cases e'
    exact ite_ff ⟨H3, I3, q'⟩
  | true => exact ite_tt (hr.run pos pins s3 σ H3 Q y u I3 r2 q3)
theorem pt_chN {op op' : CmpOp} {ops : List CmpOp} {a b b' : Expr} {bs : List Expr} {pos : Pos} {ta : TE} {rest : V → TE} (ha : PE X a ta) (hr : PChT X (op :: op' :: ops) (b :: b' :: bs) rest)
    (hm : lastMarks (op :: op' :: ops) (b :: b' :: bs) = false := by with_unfolding_all rfl) : PT X (.Compare a (op :: op' :: ops) (b :: b' :: bs) pos) (tTest (tCh ta rest)) :=
  ⟨fun pins s σ H Q I h => isTrue_chain (thn (ha.run pins s σ H _ I h) fun v s1 ⟨x, H1, I1, r1, q1⟩ => hr.run pos pins s1 σ H1 Q x v I1 r1 q1) hm⟩
end

theorem pi_listK {X : Cx} {K : PySem.W.Frag} {tg l : Expr} {tl : TE} (hK : X.K = K) (hl : PE X l tl) : PI X tg l (iList K tl) := hK ▸ pi_list hl
theorem pi_tupK {X : Cx} {K : PySem.W.Frag} {tg l : Expr} {tl : TE} (hK : X.K = K) (hl : PE X l tl) : PI X tg l (iTup K tl) := hK ▸ pi_tup hl

/-! ### enumerate of a tuple -/
section
open Sem (wp)
set_option maxHeartbeats 4000000 in
theorem enum_of_tuple (t : Addr) (items : Array Value) : Meets (Builtin.«enumerate.__new__» ⟨[.type "enumerate", .ref t], []⟩) (fun _ R s => s.heap.IsTuple t items ∧
    R (.ok (.ret (.ref (s.heap.push { cls := .type "tuple_iterator", data := .fields #[.ref t, .int 0 0] }).objs.size)))
      { s with heap := (s.heap.push { cls := .type "tuple_iterator", data := .fields #[.ref t, .int 0 0] }).push { cls := .type "enumerate", data := .fields #[.none, .bool false, .ref s.heap.objs.size, rawInt 0, .none, .none] } }) := by
  refine .of_wp fun prog w A R s h => ?_
  obtain ⟨hp, g, d, tk, os⟩ := s
  obtain ⟨isT, h⟩ := h
  have sub := sub_enumerate
  have start : ∀ {A' : Around} {E : Value → Shared → Prop} {Q : Value → Shared → Prop}, Q (.ref hp.objs.size) ⟨hp.push { cls := .type "tuple_iterator", data := .fields #[.ref t, .int 0 0] }, g, d, tk, os⟩ → wpAny (model prog w) A' (pyIter (.ref t)) Q E ⟨hp, g, d, tk, os⟩ := by
    intro A' E Q q
    exact (begins_tuple t items).iter prog w A' E ⟨hp, g, d, tk, os⟩ Q isT q
  wp_walk using start
  refine wpAny_stack_any fun st => wpAny_pure ?_
  split
  · rename_i cc _ _ _ _ _
    cases (cc == Value.type "enumerate") <;> (wp_walk using start; exact Exists.intro _ ⟨rfl, h⟩)
  · wp_walk using start
    exact Exists.intro _ ⟨rfl, h⟩
end
theorem call_enumT {prog : Program} {w : World} {A : Around} {E : Value → Shared → Prop} {s : Shared} {t : Addr} {items : Array Value} {Q : Value → Shared → Prop} (isT : s.heap.IsTuple t items)
    (h : ∀ h', IsEnum h' (s.heap.objs.size + 1) s.heap.objs.size 0 .none → h'.IsTupleIter s.heap.objs.size t 0 → (∀ b o, s.heap.get? b = some o → h'.get? b = some o) → Q (.ref (s.heap.objs.size + 1)) { s with heap := h' }) :
    wpAny (model prog w) A (call (.type "enumerate") [.ref t]) Q E s := by
  refine callType_new F.called_enumerate (by decide) (F.typeCall_enumerate_1 _) (F.newCall_enumerate_1 _) (fun obj => F.args_object_init_2 obj _) F.entry_enumerate_new (enum_of_tuple t items) (And.intro isT ?_)
  have size : (s.heap.push { cls := .type "tuple_iterator", data := .fields #[.ref t, .int 0 0] }).objs.size = s.heap.objs.size + 1 := Heap.size_push ..
  show _ ∧ _
  rw [size]
  have made := Heap.get?_push_size (s.heap.push { cls := .type "tuple_iterator", data := .fields #[.ref t, .int 0 0] }) (o := { cls := .type "enumerate", data := .fields #[.none, .bool false, .ref s.heap.objs.size, rawInt 0, .none, .none] }) rfl
  rw [size] at made
  refine ⟨⟨_, made, rfl⟩, h _ made ⟨_, Heap.get?_push_of_some _ (Heap.get?_push_size _ rfl), rfl, rfl⟩ ?_⟩
  intro b o e
  exact Heap.get?_push_of_some _ (Heap.get?_push_of_some _ e)
/-- the tuple at a, each item in a new pair with its place -/
def IteT (K : PySem.W.Frag) (a : Addr) (N : Nat) : It where
  go := fun i H => ∃ (xs : List V) (x : V), SqT K H a xs ∧ xs[i]? = some x ∧ xs.length = N
  yld := fun i H v H' => ∃ t x, v = .ref t ∧ H t = none ∧ H' = upd H t (.tup [.int (i : Nat), x]) ∧ ∀ xs, SqT K H a xs → xs[i]? = some x
  stop := fun i H => ∃ xs : List V, SqT K H a xs ∧ xs.length = N ∧ N ≤ i
theorem turn_enumT {P : Program} {w : World} {K : PySem.W.Frag} {elts : List Expr} {kk : Nat} {tpos : Pos} (a e it : Addr) (N : Nat) :
    Turn P w K (.Tuple elts kk tpos) (IteT K a N) [e, it] e (fun i h => (∃ old, IsEnum h e it ((i : Nat) : Int) old) ∧ h.IsTupleIter it a i ∧ e ≠ it ∧ i ≤ N) := by
  have two : ∀ {b : Addr}, b ∈ [e, it] → b = e ∨ b = it := fun hb => by simpa using hb
  constructor
  · simp
  · rintro i h ⟨⟨old, he⟩, ⟨o, ho, hc, hd⟩, _, _⟩ b hb
    rcases two hb with rfl | rfl
    · exact ⟨_, he, fun v q => nomatch q⟩
    · refine ⟨o, ho, fun v q => ?_⟩
      rw [hd] at q
      cases q
  · rintro i h h' ⟨⟨old, he⟩, hi, hne, hN⟩ k
    exact ⟨⟨old, k e (by simp) _ he⟩, hi.at fun o q => k it (by simp) o q, hne, hN⟩
  · intro X hP hw hK hc i pins s σ H E I hf st hg
    subst hP hw hK
    obtain ⟨⟨old, he⟩, hit, hne, hN⟩ := st
    obtain ⟨xs, x, hq, hx, hxN⟩ := hg
    have inside := (List.getElem?_eq_some_iff.mp hx).1
    obtain ⟨its, rv, p, _⟩ := I.tuple hq
    obtain ⟨u, hu, ru⟩ := rv.get hx
    have isT : s.heap.IsTuple a its.toArray := p
    have apart : a ≠ it := by
      rintro rfl
      obtain ⟨o1, q1, c1, _⟩ := hit
      obtain ⟨o2, q2, c2, _⟩ := isT
      rw [q1] at q2
      cases q2
      rw [c1] at c2
      exact absurd (Value.type.inj c2) (by decide)
    have hea : e ≠ a := by
      rintro rfl
      obtain ⟨o2, q2, c2, _⟩ := isT
      rw [he] at q2
      cases q2
      exact absurd (Value.type.inj c2) (by decide)
    have lte : e < s.heap.objs.size := Heap.lt_size he
    have lti : it < s.heap.objs.size := hit.elim fun _ q => Heap.lt_size q.1
    have less : i < its.toArray.size := by
      have z := (List.getElem?_eq_some_iff.mp hu).1
      rw [List.size_toArray]
      exact z
    apply wpAny_pyNext_enum_itemD (Draws.tuple (A := X.A.in1) (I.ok.hd hc) it a apart its.toArray) he ⟨hit, isT⟩ less hne (by simp [hne, hea])
    intro y h' tk hy ho st' hT hsz hk
    have ey : y = u := by
      have z : its[i]? = some y := by simpa using hy
      rw [hu] at z
      exact (Option.some.inj z).symm
    subst ey
    refine ⟨_, rfl, wpAny_letOwnedTupleGo_enum (s := { s with heap := h', toks := tk + 1 }) ho fun h2 he2 sb => ?_⟩
    have kept : ∀ b o, b ∉ [e, it] → s.heap.get? b = some o → h2.get? b = some o := by
      intro b o nb q
      have n1 : b ≠ e := fun z => nb (by simp [z])
      have n2 : b ≠ it := fun z => nb (by simp [z])
      exact (sb.2 b n1).trans (hk b o n1 n2 q)
    have hT2 : h2.get? s.heap.objs.size = some { cls := .type "tuple", data := .seq #[.int i tk, y] } := (sb.2 _ (Nat.ne_of_gt lte)).trans hT
    have I1 : Inv X pins σ (upd H s.heap.objs.size (.tup [.int (i : Nat), x])) { s with heap := h2, toks := tk + 1 } := by
      refine I.turnedNew (ch := [e, it]) kept hf (Nat.le_refl _) ⟨by show 2 ≤ sizeLine; decide, [.int i tk, y], .cons ⟨_, rfl⟩ (.cons ru .nil), ?_⟩
      exact ⟨_, hT2, rfl, _, rfl⟩
    refine ⟨.ref s.heap.objs.size, _, I1, rfl, ⟨_, x, rfl, I.hok.fresh (Nat.le_refl _), rfl, fun ys hys => ?_⟩, ⟨⟨y, ?_⟩, ?_, hne, by omega⟩, fun b hb => ?_⟩
    · rw [I.tuple_inj hys hq]
      exact hx
    · have cast : ((i + 1 : Nat) : Int) = (i : Int) + 1 := by omega
      rw [cast]
      exact he2
    · exact st'.1.at fun o q => (sb.2 it hne.symm).trans q
    · have lt : b < s.heap.objs.size := by
        rcases two hb with rfl | rfl
        · exact lte
        · exact lti
      rw [upd_ne (Nat.ne_of_lt lt)]
      exact (hf b hb).1
  · intro X hP hw hK hc i pins s σ H E I hf st hg
    subst hP hw hK
    obtain ⟨⟨old, he⟩, hit, hne, hN⟩ := st
    obtain ⟨xs, hq, hxN, hx⟩ := hg
    obtain ⟨its, rv, p, _⟩ := I.tuple hq
    have isT : s.heap.IsTuple a its.toArray := p
    have apart : a ≠ it := by
      rintro rfl
      obtain ⟨o1, q1, c1, _⟩ := hit
      obtain ⟨o2, q2, c2, _⟩ := isT
      rw [q1] at q2
      cases q2
      rw [c1] at c2
      exact absurd (Value.type.inj c2) (by decide)
    obtain ⟨f0, f1, f2, f3, f4, f5⟩ := hf it (by simp)
    have len := rv.length
    have at1 : i = its.toArray.size := by
      rw [List.size_toArray]
      omega
    subst at1
    apply wpAny_pyNext_enum_endD (Draws.tuple (A := X.A.in1) (I.ok.hd hc) it a apart its.toArray) he ⟨hit, isT⟩
    intro h' eb
    exact And.intro rfl (I.turned (t' := s.toks) (fun b o hb q => eb b o hb q) f0 f1 f3 f4 f5)
  · rintro A i s Q E ⟨⟨_, he⟩, _⟩ h
    exact wpAny_pyIter_enum he h
def iEnumT (K : PySem.W.Frag) (ta : TA) : TI := fun σ H R => ta σ H fun vs H1 => ∃ a xs, vs = [.ref a] ∧ SqT K H1 a xs ∧ R (IteT K a xs.length) H1
theorem pi_enumT {X : Cx} {e : Expr} {ta : TA} {p pos tpos : Pos} {elts : List Expr} {kk : Nat} (hg : Gl X "enumerate") (hm : X.mg "enumerate" = none) (args : PA X [e] ta) (star : starEach [e] X.env = [(false, eval e X.env)] := by rfl) :
    PI X (.Tuple elts kk tpos) (.Call (.Name "enumerate" p) [e] [] pos) (iEnumT X.K ta) := by
  constructor
  intro pins s σ H R I h
  refine Call_ (ld_blt I hg hm boot_enumerate ?_)
  refine PyProof.Rows.callWith_type1 (thn (args.run pos pins s σ H _ I h) ?_) star rfl
  rintro us s1 ⟨vs, H1, I1, rel, a, xs, rfl, sq, q⟩
  obtain ⟨u, rfl, ru⟩ := vals1 rel
  cases ru
  obtain ⟨its, rv, isT, _⟩ := I1.tuple sq
  refine call_enumT (items := its.toArray) isT fun h' he hit hk => wpAny_pyIter_enum he ?_
  have fresh : ∀ b ∈ [s1.heap.objs.size + 1, s1.heap.objs.size], s1.heap.objs.size ≤ b := by
    intro b hb
    have z : b = s1.heap.objs.size + 1 ∨ b = s1.heap.objs.size := by simpa using hb
    rcases z with rfl | rfl
    · exact Nat.le_add_right _ _
    · exact Nat.le_refl _
  exact ⟨_, _, _, _, H1, rfl, I1.kept hk, turn_enumT a (s1.heap.objs.size + 1) s1.heap.objs.size xs.length, ⟨⟨.none, he⟩, hit, Nat.succ_ne_self _, Nat.zero_le _⟩, fun b hb => I1.fpOk (fresh b hb) (I1.hok.fresh (fresh b hb)), q⟩

/-! ### t[::-1] of a tuple; xs == [], xs != [] of a list that may hold anything -/
section
open HT
variable {prog : Program} {w : World} {A : Around} {E : Value → Shared → Prop} {s : Shared}
theorem adjust_rev (n : Nat) : Builtin.Slice.sliceAdjust none none (-1) (n : Int) = ((n : Int) - 1, -1) := by
  unfold Builtin.Slice.sliceAdjust
  have h1 : (-1 : Int) < 0 := by decide
  simp only [h1, if_true]
theorem places_rev (n : Nat) : Builtin.Slice.slicePlaces ((n : Int) - 1) (-1) (-1) = n := by
  unfold Builtin.Slice.slicePlaces
  have h1 : ¬ ((-1 : Int) > 0) := by decide
  simp only [h1, if_false]
  have h2 : (-(-1) : Int) = 1 := by decide
  rw [h2, Int.ediv_one]
  split <;> omega
theorem sliceApplied_rev {sl : Addr} {vl vu vs : Value} {n : Nat} {Q : Int × Int × Nat → Shared → Prop} (hs : s.heap.IsSliceOf sl vl vu vs) (pl : IsPart vl none) (pu : IsPart vu none) (pt : IsPart vs (some (-1)))
    (h : Q ((n : Int) - 1, -1, n) s) : wpAny (model prog w) A (Builtin.Slice.sliceApplied (.ref sl) (pure (n : Int))) Q E s := by
  obtain ⟨os, hos, hcs, hds⟩ := id hs
  unfold Builtin.Slice.sliceApplied Builtin.Slice.sliceFields
  refine wpAny_bind (wpAny_bind (wpAny_field hos hds (x := vl) rfl (wpAny_bind (wpAny_field hos hds (x := vu) rfl (wpAny_bind (wpAny_field hos hds (x := vs) rfl (wpAny_pure ?_)))))))
  refine wpAny_bind (slicePart_ pt ?_)
  show wpAny _ _ (if ((-1 : Int) == 0) = true then _ else _) _ _ s
  rw [if_neg (by decide)]
  refine wpAny_bind (slicePart_ pl (wpAny_bind (slicePart_ pu (wpAny_bind (wpAny_pure ?_)))))
  show wpAny _ _ (match Builtin.Slice.sliceAdjust none none (-1) (n : Int) with | (lo, hi) => pure (lo, (-1 : Int), Builtin.Slice.slicePlaces lo hi (-1))) _ _ s
  rw [adjust_rev]
  show wpAny _ _ (pure ((n : Int) - 1, (-1 : Int), Builtin.Slice.slicePlaces ((n : Int) - 1) (-1) (-1))) _ _ s
  rw [places_rev]
  exact wpAny_pure h
theorem pick_rev (xs : Array Value) : ((List.range xs.size).filterMap fun (k : Nat) => xs[((xs.size : Int) - 1 + (k : Int) * (-1)).toNat]?) = xs.toList.reverse := by
  have e : ∀ m : Nat, m ≤ xs.size → ((List.range m).filterMap fun (k : Nat) => xs[((xs.size : Int) - 1 + (k : Int) * (-1)).toNat]?) = xs.toList.reverse.take m := by
    intro m
    induction m with
    | zero => intro _; rfl
    | succ m ih =>
      intro hm
      rw [List.range_succ, List.filterMap_append, ih (by omega), List.take_add_one]
      congr 1
      have e1 : ((xs.size : Int) - 1 + (m : Int) * (-1)).toNat = xs.size - 1 - m := by omega
      have e2 : xs.toList.reverse[m]? = xs[xs.size - 1 - m]? := by
        rw [List.getElem?_reverse (by rw [Array.length_toList]; omega), Array.length_toList, Array.getElem?_toList]
      rw [e2]
      have lt : xs.size - 1 - m < xs.size := by omega
      simp only [List.filterMap_cons, List.filterMap_nil, e1]
      rw [Array.getElem?_eq_getElem lt]
      rfl
  rw [e _ (Nat.le_refl _), List.take_of_length_le (by rw [List.length_reverse, Array.length_toList]; exact Nat.le_refl _)]
theorem getItem_tuple_rev {t sl : Addr} {items : Array Value} {vl vu vs : Value} {Q : Value → Shared → Prop} (ht : IsTup s.heap t items) (hs : s.heap.IsSliceOf sl vl vu vs) (pl : IsPart vl none) (pu : IsPart vu none) (pt : IsPart vs (some (-1)))
    (h : Q (.ref s.heap.objs.size) { s with heap := s.heap.push { cls := .type "tuple", data := .seq items.toList.reverse.toArray } })
    (hsz : items.size ≤ sizeLine) : wpAny (model prog w) A (getItem (.ref t) (.ref sl)) Q E s := by
  have htake : sizeOk (.seq items.toList.reverse.toArray) := by
    show items.toList.reverse.toArray.size ≤ sizeLine
    rw [List.size_toArray, List.length_reverse, Array.length_toList]
    omega
  obtain ⟨os, hos, hcs, hds⟩ := id hs
  have hTs : s.TypeIs (.ref sl) "slice" := ⟨os, hos, hcs⟩
  unfold getItem
  try with_reducible refine wpAny_holding ?_
  first | refine wpAny_bind (wpAny_pure ?_) | skip
  refine wpAny_bind (wpAny_sequenceKey ht.typeIs (by decide) ?_)
  refine wpAny_bind (wpAny_callSpecial?_slot (name := Str.ofString "__getitem__") ht.typeIs PyProof.Rows.slot_tuple_getitem
    (wpAny_call_entry PyProof.Rows.slot_tuple_getitem ht.typeIs entry_tuple_getitem ?_ (args_tuple_getitem _ _)))
  show wpAny _ _ (Builtin.Tuple.tupleItemsOf (.ref t) >>= _) _ _ s
  refine wpAny_bind (tupleItemsOf_ ht ?_)
  refine wpAny_bind (wpAny_typeOf hTs ?_)
  rw [if_pos (by decide)]
  refine wpAny_bind (sliceApplied_rev hs pl pu pt ?_)
  have hno : ¬ ((((items.size : Int) - 1) == 0 && (-1 : Int) == 1 && items.size == items.size) = true) := by
    intro q
    rw [Bool.and_eq_true, Bool.and_eq_true] at q
    exact absurd q.1.2 (by decide)
  show wpAny _ _ (if (((items.size : Int) - 1) == 0 && (-1 : Int) == 1 && items.size == items.size) = true then _ else _) _ _ s
  rw [if_neg hno, pick_rev]
  first
    | exact wpAny_bind (m := Builtin.Tuple.tupleExact _) (wpAny_newObj_type (wpAny_pure ⟨_, rfl, wpAny_pure h⟩) htake)
    | exact wpAny_bind (m := Builtin.Tuple.tupleExact _) (wpAny_newObj_type (wpAny_bind (wpAny_pure (wpAny_pure ⟨_, rfl, wpAny_pure h⟩))) htake)
    | exact wpAny_bind (wpAny_bind (m := Builtin.Tuple.tupleExact _) (wpAny_newObj_type (wpAny_pure (wpAny_pure ⟨_, rfl, wpAny_pure h⟩)) htake))
    | exact wpAny_bind (wpAny_bind (m := Builtin.Tuple.tupleExact _) (wpAny_newObj_type (wpAny_pure ⟨_, rfl, wpAny_pure h⟩) htake))
end
section
variable {X : Cx}
def tRevT (K : PySem.W.Frag) (te : TE) : TE := fun σ H Q => te σ H fun x H1 => ∃ a xs, x = .ref a ∧ SqT K H1 a xs ∧ ∀ p, H1 p = none → Q (.ref p) (upd H1 p (.tup xs.reverse))
theorem pe_revT {e : Expr} {te : TE} {k : Nat} {p1 p2 p3 pos : Pos} (he : PE X e te) : PE X (.Subscript e (.Slice none none (some (.UnaryOp .USub (.Constant (.int 1) k p1) p2)) p3) pos) (tRevT X.K te) := by
  refine ⟨fun pins s σ H Q I h => ?_⟩
  refine Subscript_ (thn (he.run pins s σ H _ I h) fun v s1 ⟨x, H1, I1, r1, q1⟩ => ?_)
  obtain ⟨a, xs, ex, hx, q⟩ := q1
  subst ex
  cases r1
  have hst : PO X (some (.UnaryOp .USub (.Constant (.int 1) k p1) p2)) (tPart (tUn (rU fun i => .int (-i)) (tC (.int 1)))) := po_some (pe_un un_neg pe_int)
  refine wpAny_Slice (thn (po_none.run pins s1 σ H1 (fun o H2 => o = none ∧ H2 = H1) I1 ⟨rfl, rfl⟩) fun vl s2 ⟨l, H2, I2, pl, el, e2⟩ => ?_)
  subst el e2
  refine thn (po_none.run pins s2 σ H2 (fun o H3 => o = none ∧ H3 = H2) I2 ⟨rfl, rfl⟩) fun vu s3 ⟨u, H3, I3, pu, eu, e3⟩ => ?_
  subst eu e3
  refine thn (hst.run pins s3 σ H3 (fun o H4 => o = some (-1) ∧ H4 = H3) I3 ⟨1, rfl, -1, rfl, rfl, rfl⟩) fun vs s4 ⟨o, H4, I4, ps, eo, e4⟩ => ?_
  subst eo e4
  have I5 : Inv X pins σ H4 { s4 with heap := s4.heap.push { cls := .type "slice", data := .fields #[vl, vu, vs] } } := I4.kept (t' := s4.toks) fun b ob q => Heap.get?_push_of_some _ q
  obtain ⟨its, r, ht, hz⟩ := I5.tuple hx
  have hlen := r.length
  show wpAny (model X.prog X.w) X.A (subscriptTail e (.Slice none none (some (.UnaryOp .USub (.Constant (.int 1) k p1) p2)) p3) (.ref a) (.ref s4.heap.objs.size)) (EP X pins σ Q) X.xe { s4 with heap := s4.heap.push { cls := .type "slice", data := .fields #[vl, vu, vs] } }
  refine tail_any (ops := [.ref a, .ref s4.heap.objs.size]) ht.typeIs (PyProof.Rows.slot_tuple_getitem.lookup) ?_ (by with_unfolding_all rfl)
  refine getItem_tuple_rev ht (Heap.IsSliceOf.new _ vl vu vs) pl pu ps ?_ (by rw [List.size_toArray]; omega)
  refine ⟨.ref _, _, I5.laid (t' := s4.toks) (o := .tup xs.reverse) (fun b ob q => Heap.get?_push_of_some _ q) (Nat.le_refl _) ?_, rfl, q _ (I5.hok.fresh (Nat.le_refl _))⟩
  exact ⟨by rw [List.length_reverse]; exact hz, _, r.reverse, IsTup.new _ _⟩
def rEqL (K : PySem.W.Frag) : R2 := fun x y H Q => ∃ (a b : Addr) (xs : List V), x = .ref a ∧ y = .ref b ∧ SqL K H a xs ∧ SqL K H b [] ∧ Q (.bl xs.isEmpty) H
def rNeL (K : PySem.W.Frag) : R2 := fun x y H Q => ∃ (a b : Addr) (xs : List V), x = .ref a ∧ y = .ref b ∧ SqL K H a xs ∧ SqL K H b [] ∧ Q (.bl (!xs.isEmpty)) H
theorem op_eqL (units : X.A.units < cLine) : OpR X (compareOp .Eq) (rEqL X.K) := by
  intro pins s σ H x y v u Q I rx ry h
  obtain ⟨a, b, xs, rfl, rfl, ha, hb, q⟩ := h
  cases rx
  cases ry
  obtain ⟨its, r1, p1, _⟩ := I.list ha
  obtain ⟨its2, r2, p2, _⟩ := I.list hb
  cases r2
  cases r1 with
  | nil =>
    exact SeqAt.eq_listAt (e := fun _ => true) p1.isList p2.isList rfl units (fun j h1 h2 => absurd h2 (Nat.not_lt_zero j)) ⟨.bl true, H, I, rfl, q⟩
  | cons r t =>
    exact SeqAt.eq_list_lengthsAt p1.isList p2.isList (by simp) units ⟨.bl false, H, I, rfl, q⟩
theorem op_neL (units : X.A.units < cLine) : OpR X (compareOp .NotEq) (rNeL X.K) := by
  intro pins s σ H x y v u Q I rx ry h
  obtain ⟨a, b, xs, rfl, rfl, ha, hb, q⟩ := h
  cases rx
  cases ry
  obtain ⟨its, r1, p1, _⟩ := I.list ha
  obtain ⟨its2, r2, p2, _⟩ := I.list hb
  cases r2
  cases r1 with
  | nil =>
    exact SeqAt.RcNeAt.lists (e := fun _ => true) p1.isList p2.isList rfl units (fun j h1 h2 => absurd h2 (Nat.not_lt_zero j)) X.prog X.w X.xe (EP X pins σ Q) ⟨.bl false, H, I, rfl, q⟩
  | cons r t =>
    exact SeqAt.RcNeAt.lists_lengths p1.isList p2.isList (by simp) units X.prog X.w X.xe (EP X pins σ Q) ⟨.bl true, H, I, rfl, q⟩
end

/-! ### x in t, x not in t, for a tuple of data -/
theorem units65 {k : Nat} {A : Around} (r : Room k A) : A.units + 65 < cLine := by
  have := r.un
  omega
section
variable {X : Cx}
def rInT (K : PySem.W.Frag) : R2 := fun x y H Q => ∃ d ds, Dp K H x d ∧ Dp K H y (.tuple ds) ∧ SeqAt.shaped d = true ∧ SeqAt.shaped (.tuple ds) = true ∧ Q (.bl (ds.any fun z => PyData.eqv z d)) H
def rNotInT (K : PySem.W.Frag) : R2 := fun x y H Q => ∃ d ds, Dp K H x d ∧ Dp K H y (.tuple ds) ∧ SeqAt.shaped d = true ∧ SeqAt.shaped (.tuple ds) = true ∧ Q (.bl (!ds.any fun z => PyData.eqv z d)) H
theorem op_inT (units : X.A.units + 65 < cLine) : OpR X (compareOp .In) (rInT X.K) := by
  intro pins s σ H x y v u Q I rx ry ⟨d, ds, dx, dy, sx, sy, q⟩
  obtain ⟨_, r1⟩ := Dp.reads I d x v dx rx
  obtain ⟨_, r2⟩ := Dp.reads I (.tuple ds) y u dy ry
  have l2 : PyData.canLayAll0 ds = true := SeqAt.canLay_of_shaped sy
  exact SeqAt.in_tuple_reads r2 r1 l2 (SeqAt.canLay_of_shaped sx) (room_in_shaped sx units) (Exists.intro (V.bl _) ⟨H, I, rfl, q⟩)
theorem op_notInT (units : X.A.units + 65 < cLine) : OpR X (compareOp .NotIn) (rNotInT X.K) := by
  intro pins s σ H x y v u Q I rx ry ⟨d, ds, dx, dy, sx, sy, q⟩
  obtain ⟨_, r1⟩ := Dp.reads I d x v dx rx
  obtain ⟨_, r2⟩ := Dp.reads I (.tuple ds) y u dy ry
  have l2 : PyData.canLayAll0 ds = true := SeqAt.canLay_of_shaped sy
  exact SeqAt.notIn_tuple_reads r2 r1 l2 (SeqAt.canLay_of_shaped sx) (room_in_shaped sx units) (Exists.intro (V.bl _) ⟨H, I, rfl, q⟩)
end
theorem for_zipU {K : PySem.W.Frag} {a b : Addr} {xs ys : List V} {g : TG} {tb : TS} {D : Ends} {σ : L2.St} {H : Hp} (Pv : Nat → L2.St → Hp → Prop) (h0 : Pv 0 σ H) (hq : ∀ i σ H, Pv i σ H → SqT K H a xs ∧ SqT K H b ys)
    (hs : ∀ (i : Nat) (x y : V) (T : Addr) (σ : L2.St) (H : Hp), xs[i]? = some x → ys[i]? = some y → Pv i σ H → H T = none → g (.ref T) σ (upd H T (.tup [x, y])) fun σ2 H2 => tb { D with nx := Pv (i + 1), ct := Pv (i + 1), bk := D.nx } σ2 H2) (hd : ∀ i σ H, i ≤ xs.length → Pv i σ H → D.nx σ H) :
    ∃ W : Nat → Nat → L2.St → Hp → Prop, (∃ m, W 0 m σ H) ∧ ∀ i m σ H, W i m σ H →
      ((RZ.ItzT K a b).stop i H ∧ D.nx σ H) ∨ ((RZ.ItzT K a b).go i H ∧ ∃ N : L2.St → Hp → Prop, (∀ σ' H', N σ' H' → ∃ m', m' < m ∧ W (i + 1) m' σ' H') ∧ ∀ v H', (RZ.ItzT K a b).yld i H v H' → g v σ H' fun σ2 H2 => tb { D with nx := N, ct := N, bk := D.nx } σ2 H2) := by
  refine ⟨fun i m σ H => m = xs.length - i ∧ i ≤ xs.length ∧ Pv i σ H, ⟨_, rfl, Nat.zero_le _, h0⟩, ?_⟩
  rintro i m σ H ⟨rfl, hi, p⟩
  obtain ⟨q1, q2⟩ := hq i σ H p
  by_cases c : i < xs.length ∧ i < ys.length
  · refine .inr ⟨⟨xs, ys, xs[i]'c.1, ys[i]'c.2, q1, q2, List.getElem?_eq_getElem c.1, List.getElem?_eq_getElem c.2⟩, Pv (i + 1), fun σ' H' p' => ⟨xs.length - (i + 1), by omega, rfl, by omega, p'⟩, fun v H' hy => ?_⟩
    obtain ⟨T, x, y, rfl, nT, rfl, f1, f2⟩ := hy
    exact hs i x y T σ H (f1 xs q1) (f2 ys q2) p nT
  · exact .inl ⟨⟨xs, ys, q1, q2, by omega⟩, hd i σ H hi p⟩

/-! ### a walk over a tuple, whatever its body is (comprehensions with two for) -/
theorem walkT {K : PySem.W.Frag} {a : Addr} {xs : List V} {B : V → Hp → (Hp → Prop) → Prop} {H0 : Hp} {Qd : Hp → Prop} (Pv : Nat → Hp → Prop) (h0 : Pv 0 H0) (hl : ∀ i H, i ≤ xs.length → Pv i H → SqT K H a xs)
    (hs : ∀ i x H, xs[i]? = some x → Pv i H → B x H (Pv (i + 1))) (hd : ∀ H, Pv xs.length H → Qd H) :
    ∃ W : Nat → Nat → Hp → Prop, (∃ m, W 0 m H0) ∧ ∀ i m H, W i m H →
      ((Itt K a).stop i H ∧ Qd H) ∨ ((Itt K a).go i H ∧ ∃ Nx : Hp → Prop, (∀ H', Nx H' → ∃ m', m' < m ∧ W (i + 1) m' H') ∧ ∀ x H', (Itt K a).yld i H x H' → B x H' Nx) := by
  refine ⟨fun i m H => m = xs.length - i ∧ i ≤ xs.length ∧ Pv i H, ⟨xs.length, by simp, Nat.zero_le _, h0⟩, ?_⟩
  rintro i m H ⟨rfl, hi, p⟩
  have q := hl i H hi p
  by_cases hlt : i < xs.length
  · refine .inr ⟨⟨xs, xs[i], q, by simp [hlt]⟩, Pv (i + 1), fun H' p' => ⟨xs.length - (i + 1), by omega, rfl, hlt, p'⟩, fun x H' y => ?_⟩
    obtain ⟨e, y⟩ := y
    subst e
    exact hs i x _ (y xs q) p
  · have e : i = xs.length := by omega
    subst e
    exact .inl ⟨⟨xs, q, by omega⟩, hd H p⟩

/-! ### a min-max theorem: demands are rectangles, intervals are points -/
abbrev Dem := Int × Int × Int
def sv (z : Int × Int) (d : Dem) : Bool := decide (d.2.1 ≤ z.1 ∧ z.1 ≤ d.1 ∧ d.1 ≤ z.2 ∧ z.2 ≤ d.2.2)
def cf (d e : Dem) : Bool := decide ((e.2.1 ≤ d.1 ∧ d.1 ≤ e.2.2) ∧ d.2.1 ≤ e.1 ∧ e.1 ≤ d.2.2)
def Vd (d : Dem) : Prop := d.2.1 ≤ d.1 ∧ d.1 ≤ d.2.2
theorem sv_iff' {z : Int × Int} {d : Dem} : sv z d = true ↔ d.2.1 ≤ z.1 ∧ z.1 ≤ d.1 ∧ d.1 ≤ z.2 ∧ z.2 ≤ d.2.2 := decide_eq_true_iff
theorem cf_iff {d e : Dem} : cf d e = true ↔ (e.2.1 ≤ d.1 ∧ d.1 ≤ e.2.2) ∧ d.2.1 ≤ e.1 ∧ e.1 ≤ d.2.2 := decide_eq_true_iff
theorem cf_comm (d e : Dem) : cf d e = cf e d := by
  rw [Bool.eq_iff_iff, cf_iff, cf_iff]
  exact ⟨fun h => ⟨h.2, h.1⟩, fun h => ⟨h.2, h.1⟩⟩
theorem cf_of_sv {z : Int × Int} {d e : Dem} (h1 : sv z d = true) (h2 : sv z e = true) : cf d e = true := by
  rw [sv_iff'] at h1 h2
  rw [cf_iff]
  omega
theorem cf_self {d : Dem} (h : Vd d) : cf d d = true := by
  rw [cf_iff]
  exact ⟨h, h⟩
/-- how many of the demands the point serves -/
def cov (L : List Dem) (z : Int × Int) : Nat := L.countP (sv z)
theorem cov_nil (z : Int × Int) : cov [] z = 0 := rfl
theorem cov_cons (d : Dem) (L : List Dem) (z : Int × Int) : cov (d :: L) z = cov L z + (if sv z d = true then 1 else 0) := List.countP_cons
theorem cov_app (L M : List Dem) (z : Int × Int) : cov (L ++ M) z = cov L z + cov M z := List.countP_append
theorem cov_perm {L M : List Dem} (h : L.Perm M) (z : Int × Int) : cov L z = cov M z := h.countP_eq _
/-- no two of them conflict -/
def Ind (L : List Dem) : Prop := L.Pairwise fun d e => cf d e = false
theorem Ind.cov_le {L : List Dem} (h : Ind L) (z : Int × Int) : cov L z ≤ 1 := by
  induction L with
  | nil => exact Nat.zero_le _
  | cons d L ih =>
    have p := List.pairwise_cons.mp h
    rw [cov_cons]
    split
    · next s =>
      have e : cov L z = 0 := List.countP_eq_zero.mpr fun e he c => by
        have := p.1 e he
        rw [cf_of_sv s c] at this
        cases this
      omega
    · have := ih p.2
      omega
structure Fam (F : List Dem) : Prop where
  ok : ∀ d ∈ F, 0 ≤ d.2.1 ∧ Vd d
  ex : ∀ d ∈ F, ∀ e ∈ F, d.1 < e.1 → d.2.1 < e.2.1 → d.2.2 < e.2.2 → cf d e = true → (d.1, e.2) ∈ F ∧ (e.1, d.2) ∈ F
  cross : ∀ d ∈ F, ∀ e ∈ F, cf d e = true → d.2 = e.2 ∨ (d.2.1 < e.2.1 ∧ d.2.2 < e.2.2) ∨ (e.2.1 < d.2.1 ∧ e.2.2 < d.2.2)
theorem sv_exch {z : Int × Int} {d e : Dem} (h1 : d.1 < e.1) (h2 : d.2.1 < e.2.1) (h3 : d.2.2 < e.2.2) (c : cf d e = true) :
    (if sv z (d.1, e.2) = true then 1 else 0) + (if sv z (e.1, d.2) = true then 1 else 0) ≤ (if sv z d = true then 1 else 0) + (if sv z e = true then 1 else 0) := by
  have c := cf_iff.mp c
  simp only [sv_iff']
  split <;> split <;> split <;> split <;> omega
def pot (L : List Dem) : Int := (L.map fun d => d.1 * (d.2.1 + d.2.2)).sum
theorem pot_cons (d : Dem) (L : List Dem) : pot (d :: L) = d.1 * (d.2.1 + d.2.2) + pot L := by
  unfold pot
  rw [List.map_cons, List.sum_cons]
theorem pot_nonneg {L : List Dem} (h : ∀ d ∈ L, 0 ≤ d.2.1 ∧ Vd d) : 0 ≤ pot L := by
  induction L with
  | nil => exact Int.le_refl _
  | cons d L ih =>
    rw [pot_cons]
    have := ih fun e he => h e (List.mem_cons_of_mem _ he)
    have q := h d List.mem_cons_self
    unfold Vd at q
    have : 0 ≤ d.1 * (d.2.1 + d.2.2) := Int.mul_nonneg (by omega) (by omega)
    omega
theorem pot_perm {L M : List Dem} (h : L.Perm M) : pot L = pot M := by
  induction h with
  | nil => rfl
  | cons x _ ih => rw [pot_cons, pot_cons, ih]
  | swap x y l =>
    rw [pot_cons, pot_cons, pot_cons, pot_cons]
    omega
  | trans _ _ i1 i2 => rw [i1, i2]
def Corner (d e : Dem) : Prop := cf d e = true ∧ d.1 < e.1 ∧ d.2.1 < e.2.1 ∧ d.2.2 < e.2.2
theorem pull2 {L : List Dem} {d e : Dem} (hd : d ∈ L) (he : e ∈ L) (ne : d ≠ e) : ∃ R, L.Perm (d :: e :: R) := by
  have p1 := List.perm_cons_erase hd
  have he' : e ∈ L.erase d := (List.mem_erase_of_ne (Ne.symm ne)).mpr he
  exact ⟨(L.erase d).erase e, p1.trans ((List.perm_cons_erase he').cons d)⟩
theorem uncross {F : List Dem} (fam : Fam F) : ∀ (n : Nat) (L : List Dem), (∀ d ∈ L, d ∈ F) → (pot L).toNat < n → ∃ M : List Dem, (∀ d ∈ M, d ∈ F) ∧ M.length = L.length ∧ (∀ z, cov M z ≤ cov L z) ∧ ∀ d ∈ M, ∀ e ∈ M, ¬ Corner d e := by
  intro n
  induction n with
  | zero => exact fun _ _ h => absurd h (Nat.not_lt_zero _)
  | succ n ih =>
    intro L hL hn
    by_cases c : ∀ d ∈ L, ∀ e ∈ L, ¬ Corner d e
    · exact ⟨L, hL, rfl, fun _ => Nat.le_refl _, c⟩
    · have ⟨d, hd, e, he, k⟩ : ∃ d ∈ L, ∃ e ∈ L, Corner d e := by
        refine Classical.byContradiction fun z => c fun d hd e he k => z ⟨d, hd, e, he, k⟩
      obtain ⟨k1, k2, k3, k4⟩ := k
      have ne : d ≠ e := fun z => by
        subst z
        exact absurd k2 (Int.lt_irrefl _)
      obtain ⟨R, pm⟩ := pull2 hd he ne
      have x := fam.ex d (hL d hd) e (hL e he) k2 k3 k4 k1
      have hR : ∀ f ∈ R, f ∈ F := fun f hf => hL f (pm.mem_iff.mpr (List.mem_cons_of_mem _ (List.mem_cons_of_mem _ hf)))
      have hN : ∀ f ∈ (d.1, e.2) :: (e.1, d.2) :: R, f ∈ F := fun f hf => by
        rcases List.mem_cons.mp hf with rfl | hf
        · exact x.1
        rcases List.mem_cons.mp hf with rfl | hf
        · exact x.2
        · exact hR f hf
      have less : pot ((d.1, e.2) :: (e.1, d.2) :: R) < pot L := by
        rw [pot_perm pm, pot_cons, pot_cons, pot_cons, pot_cons]
        show d.1 * (e.2.1 + e.2.2) + (e.1 * (d.2.1 + d.2.2) + pot R) < d.1 * (d.2.1 + d.2.2) + (e.1 * (e.2.1 + e.2.2) + pot R)
        have : 0 < (e.1 - d.1) * ((e.2.1 + e.2.2) - (d.2.1 + d.2.2)) := Int.mul_pos (by omega) (by omega)
        rw [Int.sub_mul, Int.mul_sub, Int.mul_sub] at this
        omega
      have nn := pot_nonneg fun f hf => fam.ok f (hN f hf)
      obtain ⟨M, m1, m2, m3, m4⟩ := ih _ hN (by omega)
      refine ⟨M, m1, by rw [m2, pm.length_eq]; rfl, fun z => Nat.le_trans (m3 z) ?_, m4⟩
      rw [cov_perm pm, cov_cons, cov_cons, cov_cons, cov_cons]
      have := sv_exch (z := z) k2 k3 k4 k1
      omega
/-- e lies across d -/
def Und (e d : Dem) : Prop := d.2.1 ≤ e.2.1 ∧ e.1 ≤ d.1 ∧ d.2.2 ≤ e.2.2
theorem und_of {F : List Dem} (fam : Fam F) {d e : Dem} (hd : d ∈ F) (he : e ∈ F) (c : cf d e = true) (n1 : ¬ Corner d e) (n2 : ¬ Corner e d) : Und d e ∨ Und e d := by
  unfold Und
  rcases fam.cross d hd e he c with h | h | h
  · rw [h]
    omega
  · have : ¬ d.1 < e.1 := fun z => n1 ⟨c, z, h.1, h.2⟩
    omega
  · have : ¬ e.1 < d.1 := fun z => n2 ⟨by rw [cf_comm]; exact c, z, h.1, h.2⟩
    omega
def leD (d e : Dem) : Bool := decide (d.1 - d.2.1 < e.1 - e.2.1 ∨ (d.1 - d.2.1 = e.1 - e.2.1 ∧ e.2.2 ≤ d.2.2))
theorem leD_total (a b : Dem) : (leD a b || leD b a) = true := by
  unfold leD
  rw [Bool.or_eq_true, decide_eq_true_eq, decide_eq_true_eq]
  omega
theorem leD_trans (a b c : Dem) : leD a b = true → leD b c = true → leD a c = true := by
  unfold leD
  rw [decide_eq_true_eq, decide_eq_true_eq, decide_eq_true_eq]
  omega
theorem und_le {F : List Dem} (fam : Fam F) {f e : Dem} (hf : f ∈ F) (he : e ∈ F) (c : cf f e = true) (n1 : ¬ Corner f e) (n2 : ¬ Corner e f) (le : leD f e = true) : Und f e := by
  have le := of_decide_eq_true le
  rcases und_of fam hf he c n1 n2 with h | h
  · exact h
  · unfold Und at *
    omega
def gre : Nat → List Dem → List Dem
  | 0, _ => []
  | _, [] => []
  | n + 1, d :: R => d :: gre n (R.filter fun e => !cf d e)
def lef : Nat → List Dem → List Dem
  | 0, L => L
  | _, [] => []
  | n + 1, d :: R => (R.filter fun e => cf d e) ++ lef n (R.filter fun e => !cf d e)
theorem gre_lef : ∀ (n : Nat) (L : List Dem), L.Perm (gre n L ++ lef n L)
  | 0, L => List.Perm.refl _
  | n + 1, [] => List.Perm.refl _
  | n + 1, d :: R => by
    have ih := gre_lef n (R.filter fun e => !cf d e)
    show (d :: R).Perm (d :: (gre n (R.filter fun e => !cf d e) ++ ((R.filter fun e => cf d e) ++ lef n (R.filter fun e => !cf d e))))
    refine List.Perm.cons d ?_
    have p1 := (List.filter_append_perm (fun e => cf d e) R).symm
    refine p1.trans ?_
    refine ((List.Perm.refl (R.filter fun e => cf d e)).append ih).trans ?_
    rw [← List.append_assoc, ← List.append_assoc]
    exact List.perm_append_comm.append_right _
theorem gre_sub (n : Nat) (L : List Dem) : ∀ d ∈ gre n L, d ∈ L := fun d hd => (gre_lef n L).mem_iff.mpr (List.mem_append_left _ hd)
theorem lef_sub (n : Nat) (L : List Dem) : ∀ d ∈ lef n L, d ∈ L := fun d hd => (gre_lef n L).mem_iff.mpr (List.mem_append_right _ hd)
theorem gre_ind : ∀ (n : Nat) (L : List Dem), Ind (gre n L)
  | 0, _ => List.Pairwise.nil
  | n + 1, [] => List.Pairwise.nil
  | n + 1, d :: R => by
    refine List.pairwise_cons.mpr ⟨fun e he => ?_, gre_ind n _⟩
    have := (List.mem_filter.mp (gre_sub n _ e he)).2
    rw [Bool.not_eq_true'] at this
    exact this
theorem gre_in : ∀ (n : Nat) (A B : List Dem) (e : Dem), A.length < n → e ∈ gre n (A ++ e :: B) ∨ ∃ f ∈ A, cf f e = true
  | 0, _, _, _, h => absurd h (Nat.not_lt_zero _)
  | n + 1, [], B, e, _ => .inl List.mem_cons_self
  | n + 1, d :: A, B, e, h => by
    by_cases c : cf d e = true
    · exact .inr ⟨d, List.mem_cons_self, c⟩
    · have eq : (A ++ e :: B).filter (fun x => !cf d x) = A.filter (fun x => !cf d x) ++ e :: B.filter (fun x => !cf d x) := by
        rw [List.filter_append, List.filter_cons_of_pos (by rw [Bool.not_eq_true] at c; rw [c]; rfl)]
      have l : (A.filter fun x => !cf d x).length < n := Nat.lt_of_le_of_lt (List.length_filter_le _ _) (Nat.lt_of_succ_lt_succ h)
      rcases gre_in n (A.filter fun x => !cf d x) (B.filter fun x => !cf d x) e l with g | ⟨f, hf, k⟩
      · refine .inl (List.mem_cons_of_mem _ ?_)
        show e ∈ gre n ((A ++ e :: B).filter fun x => !cf d x)
        rw [eq]
        exact g
      · exact .inr ⟨f, List.mem_cons_of_mem _ (List.mem_filter.mp hf).1, k⟩
theorem cov_lt {z w : Int × Int} {f : Dem} : ∀ {L : List Dem}, f ∈ L → (∀ c ∈ L, sv z c = true → sv w c = true) → sv z f = false → sv w f = true → cov L z < cov L w
  | [], hf, _, _, _ => nomatch hf
  | d :: L, hf, h, n, y => by
    rw [cov_cons, cov_cons]
    have le : cov L z ≤ cov L w := List.countP_mono_left fun c hc => h c (List.mem_cons_of_mem _ hc)
    have h1 := h d List.mem_cons_self
    rcases List.mem_cons.mp hf with rfl | hf
    · rw [n, y]
      simp
      omega
    · have ih := cov_lt hf (fun c hc => h c (List.mem_cons_of_mem _ hc)) n y
      split
      · next s => rw [if_pos (h1 s)]; omega
      · split <;> omega
theorem first_of {p : Dem → Bool} : ∀ {L : List Dem}, (∃ d ∈ L, p d = true) → ∃ A e B, L = A ++ e :: B ∧ p e = true ∧ ∀ f ∈ A, p f = false
  | [], h => by
    obtain ⟨d, hd, _⟩ := h
    cases hd
  | d :: L, h => by
    by_cases c : p d = true
    · exact ⟨[], d, L, rfl, c, fun f hf => nomatch hf⟩
    · obtain ⟨x, hx, px⟩ := h
      rcases List.mem_cons.mp hx with rfl | hx
      · exact absurd px c
      · obtain ⟨A, e, B, r1, r2, r3⟩ := first_of ⟨x, hx, px⟩
        refine ⟨d :: A, e, B, by rw [r1]; rfl, r2, fun f hf => ?_⟩
        rcases List.mem_cons.mp hf with rfl | hf
        · exact Bool.not_eq_true _ ▸ c
        · exact r3 f hf
theorem lef_cov {F : List Dem} (fam : Fam F) {L : List Dem} (hL : ∀ d ∈ L, d ∈ F) (nc : ∀ d ∈ L, ∀ e ∈ L, ¬ Corner d e) (srt : L.Pairwise fun d e => leD d e = true) {m : Nat} (hm : ∀ z, cov L z ≤ m + 1) (z : Int × Int) : cov (lef L.length L) z ≤ m := by
  have sum := cov_perm (gre_lef L.length L) z
  rw [cov_app] at sum
  have top := hm z
  by_cases g : ∃ d ∈ gre L.length L, sv z d = true
  · have : 0 < cov (gre L.length L) z := List.countP_pos_iff.mpr g
    omega
  · by_cases s : ∃ d ∈ L, sv z d = true
    · obtain ⟨A, e, B, rfl, se, nA⟩ := first_of s
      have la : A.length < (A ++ e :: B).length := by
        rw [List.length_append, List.length_cons]
        omega
      rcases gre_in _ A B e la with q | ⟨f, hf, k⟩
      · exact absurd ⟨e, q, se⟩ g
      · have mf : f ∈ A ++ e :: B := List.mem_append_left _ hf
        have me : e ∈ A ++ e :: B := List.mem_append_right _ List.mem_cons_self
        have pw := List.pairwise_append.mp srt
        have u1 := und_le fam (hL f mf) (hL e me) k (nc f mf e me) (nc e me f mf) (pw.2.2 f hf e List.mem_cons_self)
        have w : cov (A ++ e :: B) z < cov (A ++ e :: B) (f.1, z.2) := by
          have vf := (fam.ok f (hL f mf)).2
          have ve := sv_iff'.mp se
          refine cov_lt mf (fun c hc sc => ?_) (nA f hf) ?_
          · have u2 : Und e c := by
              rcases List.mem_append.mp hc with h | h
              · rw [nA c h] at sc
                cases sc
              · rcases List.mem_cons.mp h with rfl | h
                · exact ⟨Int.le_refl _, Int.le_refl _, Int.le_refl _⟩
                · exact und_le fam (hL e me) (hL c hc) (cf_of_sv se sc) (nc e me c hc) (nc c hc e me) ((List.pairwise_cons.mp pw.2.1).1 c h)
            have sc := sv_iff'.mp sc
            rw [sv_iff']
            unfold Und Vd at *
            show c.2.1 ≤ f.1 ∧ f.1 ≤ c.1 ∧ c.1 ≤ z.2 ∧ z.2 ≤ c.2.2
            omega
          · rw [sv_iff']
            unfold Und Vd at *
            show f.2.1 ≤ f.1 ∧ f.1 ≤ f.1 ∧ f.1 ≤ z.2 ∧ z.2 ≤ f.2.2
            omega
        have := hm (f.1, z.2)
        omega
    · have : cov L z = 0 := List.countP_eq_zero.mpr fun d hd c => s ⟨d, hd, c⟩
      omega
theorem len_le {F : List Dem} (fam : Fam F) {k : Nat} (hk : ∀ I, Ind I → (∀ d ∈ I, d ∈ F) → I.length ≤ k) : ∀ (m : Nat) (L : List Dem), (∀ d ∈ L, d ∈ F) → (∀ d ∈ L, ∀ e ∈ L, ¬ Corner d e) → (∀ z, cov L z ≤ m) → L.length ≤ m * k
  | 0, L, hL, _, hm => by
    cases L with
    | nil => exact Nat.zero_le _
    | cons d L =>
      have v := (fam.ok d (hL d List.mem_cons_self)).2
      have := hm (d.1, d.1)
      rw [cov_cons, if_pos (sv_iff'.mpr (by unfold Vd at v; exact ⟨v.1, Int.le_refl _, Int.le_refl _, v.2⟩))] at this
      omega
  | m + 1, L, hL, nc, hm => by
    have pm := List.mergeSort_perm L leD
    have srt := List.pairwise_mergeSort leD_trans leD_total L
    generalize L.mergeSort leD = S at *
    have hS : ∀ d ∈ S, d ∈ L := fun d hd => pm.mem_iff.mp hd
    have hl := lef_cov fam (fun d hd => hL d (hS d hd)) (fun d hd e he => nc d (hS d hd) e (hS e he)) srt (m := m) (fun z => by rw [cov_perm pm]; exact hm z)
    have sub := lef_sub S.length S
    have ih := len_le fam hk m (lef S.length S) (fun d hd => hL d (hS d (sub d hd))) (fun d hd e he => nc d (hS d (sub d hd)) e (hS e (sub e he))) hl
    have g := hk _ (gre_ind S.length S) fun d hd => hL d (hS d (gre_sub _ _ d hd))
    have e := (gre_lef S.length S).length_eq
    have e2 := pm.length_eq
    rw [List.length_append] at e
    rw [Nat.add_mul]
    omega
theorem sum_lt {α : Type} {f : α → Nat} : ∀ {Z : List α} {w : α}, w ∈ Z → (∀ x ∈ Z, f x ≤ 1) → f w = 0 → (Z.map f).sum + 1 ≤ Z.length
  | [], _, h, _, _ => nomatch h
  | x :: Z, w, h, h1, h0 => by
    have le : ∀ Y : List α, (∀ x ∈ Y, f x ≤ 1) → (Y.map f).sum ≤ Y.length := by
      intro Y
      induction Y with
      | nil => exact fun _ => Nat.le_refl _
      | cons y Y ih =>
        intro hy
        have := ih fun x hx => hy x (List.mem_cons_of_mem _ hx)
        have := hy y List.mem_cons_self
        rw [List.map_cons, List.sum_cons, List.length_cons]
        omega
    have r := le Z fun x hx => h1 x (List.mem_cons_of_mem _ hx)
    have hx := h1 x List.mem_cons_self
    rw [List.map_cons, List.sum_cons, List.length_cons]
    rcases List.mem_cons.mp h with rfl | h
    · omega
    · have := sum_lt h (fun x hx => h1 x (List.mem_cons_of_mem _ hx)) h0
      omega
theorem cov_flat {α : Type} (I : α → List Dem) (z : Int × Int) : ∀ Z : List α, cov (Z.flatMap I) z = (Z.map fun w => cov (I w) z).sum
  | [] => rfl
  | x :: Z => by
    rw [List.flatMap_cons, cov_app, cov_flat I z Z, List.map_cons, List.sum_cons]
theorem len_flat {α β : Type} (I : α → List β) {k : Nat} : ∀ Z : List α, (∀ w ∈ Z, (I w).length = k) → (Z.flatMap I).length = Z.length * k
  | [], _ => by simp
  | x :: Z, h => by
    rw [List.flatMap_cons, List.length_append, len_flat I Z fun w hw => h w (List.mem_cons_of_mem _ hw), h x List.mem_cons_self, List.length_cons, Nat.add_mul]
    omega
theorem top_of (F : List Dem) : ∃ M : Nat, ∀ d ∈ F, d.2.2 ≤ M := by
  induction F with
  | nil => exact ⟨0, fun d hd => nomatch hd⟩
  | cons d F ih =>
    obtain ⟨M, h⟩ := ih
    refine ⟨M + d.2.2.toNat, fun e he => ?_⟩
    rcases List.mem_cons.mp he with rfl | he
    · omega
    · have := h e he
      omega
def box (M : Nat) : List (Int × Int) := (List.range (M + 1)).flatMap fun (x : Nat) => (List.range (M + 1)).map fun (y : Nat) => ((x : Int), (y : Int))
theorem mem_box {M : Nat} {z : Int × Int} (h : 0 ≤ z.1 ∧ z.1 ≤ M) (h2 : 0 ≤ z.2 ∧ z.2 ≤ M) : z ∈ box M := by
  unfold box
  refine List.mem_flatMap.mpr ⟨z.1.toNat, List.mem_range.mpr (by omega), List.mem_map.mpr ⟨z.2.toNat, List.mem_range.mpr (by omega), ?_⟩⟩
  exact Prod.ext (by show ((z.1.toNat : Nat) : Int) = z.1; omega) (by show ((z.2.toNat : Nat) : Int) = z.2; omega)
/-- a point that every largest selection has to pay for -/
theorem hits {F : List Dem} (fam : Fam F) {k : Nat} (hk : ∀ I, Ind I → (∀ d ∈ I, d ∈ F) → I.length ≤ k + 1) : ∃ z, ∀ I, Ind I → (∀ d ∈ I, d ∈ F) → I.length = k + 1 → ∃ d ∈ I, sv z d = true := by
  refine Classical.byContradiction fun no => ?_
  have miss : ∀ z, ∃ I, Ind I ∧ (∀ d ∈ I, d ∈ F) ∧ I.length = k + 1 ∧ ∀ d ∈ I, sv z d = false := fun z => by
    refine Classical.byContradiction fun h => no ⟨z, fun I i1 i2 i3 => Classical.byContradiction fun n => h ⟨I, i1, i2, i3, fun d hd => ?_⟩⟩
    rw [← Bool.not_eq_true]
    exact fun s => n ⟨d, hd, s⟩
  obtain ⟨I, hI⟩ := Classical.axiomOfChoice miss
  obtain ⟨M, hM⟩ := top_of F
  have hsub : ∀ d ∈ (box M).flatMap I, d ∈ F := fun d hd => by
    obtain ⟨w, _, h⟩ := List.mem_flatMap.mp hd
    exact (hI w).2.1 d h
  have hlen := len_flat I (k := k + 1) (box M) fun w _ => (hI w).2.2.1
  have pos : 0 < (box M).length := List.length_pos_of_mem (mem_box (M := M) (z := (0, 0)) ⟨by decide, by show (0 : Int) ≤ M; omega⟩ ⟨by decide, by show (0 : Int) ≤ M; omega⟩)
  have hc : ∀ z, cov ((box M).flatMap I) z ≤ (box M).length - 1 := fun z => by
    by_cases b : (0 ≤ z.1 ∧ z.1 ≤ M) ∧ 0 ≤ z.2 ∧ z.2 ≤ M
    · have s := sum_lt (f := fun w => cov (I w) z) (mem_box b.1 b.2) (fun x _ => (hI x).1.cov_le z) (List.countP_eq_zero.mpr fun d hd c => by
        rw [(hI z).2.2.2 d hd] at c
        cases c)
      rw [cov_flat]
      omega
    · have : cov ((box M).flatMap I) z = 0 := List.countP_eq_zero.mpr fun d hd c => b (by
        have c := sv_iff'.mp c
        have o := fam.ok d (hsub d hd)
        have t := hM d (hsub d hd)
        unfold Vd at o
        omega)
      omega
  obtain ⟨N, n1, n2, n3, n4⟩ := uncross fam _ _ hsub (Nat.lt_succ_self _)
  have := len_le fam hk ((box M).length - 1) N n1 n4 fun z => Nat.le_trans (n3 z) (hc z)
  rw [n2, hlen] at this
  obtain ⟨b, eb⟩ : ∃ b, (box M).length = b + 1 := ⟨(box M).length - 1, by omega⟩
  rw [eb, Nat.add_sub_cancel, Nat.add_mul, Nat.one_mul] at this
  omega
theorem Fam.rest {F : List Dem} (fam : Fam F) (z : Int × Int) : Fam (F.filter fun d => !sv z d) := by
  have hs : ∀ d, d ∈ F.filter (fun d => !sv z d) → d ∈ F ∧ sv z d = false := fun d hd => by
    have := List.mem_filter.mp hd
    exact ⟨this.1, by rw [← Bool.not_eq_true']; exact this.2⟩
  refine ⟨fun d hd => fam.ok d (hs d hd).1, fun d hd e he h1 h2 h3 c => ?_, fun d hd e he c => fam.cross d (hs d hd).1 e (hs e he).1 c⟩
  have x := fam.ex d (hs d hd).1 e (hs e he).1 h1 h2 h3 c
  have y := sv_exch (z := z) h1 h2 h3 c
  rw [(hs d hd).2, (hs e he).2] at y
  simp at y
  exact ⟨List.mem_filter.mpr ⟨x.1, by rw [y.1]; rfl⟩, List.mem_filter.mpr ⟨x.2, by rw [y.2]; rfl⟩⟩
/-- as many points as the largest selection has serve all -/
theorem min_max : ∀ (k : Nat) {F : List Dem}, Fam F → (∀ I, Ind I → (∀ d ∈ I, d ∈ F) → I.length ≤ k) → ∃ S : List (Int × Int), S.length ≤ k ∧ ∀ d ∈ F, ∃ z ∈ S, sv z d = true
  | 0, F, fam, hk => ⟨[], Nat.le_refl _, fun d hd => by
    have := hk [d] (List.pairwise_singleton _ _) fun e he => by
      rw [List.mem_singleton.mp he]
      exact hd
    exact absurd this (by simp)⟩
  | k + 1, F, fam, hk => by
    obtain ⟨z, hz⟩ := hits fam hk
    obtain ⟨S, s1, s2⟩ := min_max k (fam.rest z) fun I i1 i2 => by
      have sub : ∀ d ∈ I, d ∈ F ∧ sv z d = false := fun d hd => by
        have := List.mem_filter.mp (i2 d hd)
        exact ⟨this.1, by rw [← Bool.not_eq_true']; exact this.2⟩
      have le := hk I i1 fun d hd => (sub d hd).1
      by_cases e : I.length = k + 1
      · obtain ⟨d, hd, s⟩ := hz I i1 (fun d hd => (sub d hd).1) e
        rw [(sub d hd).2] at s
        cases s
      · omega
    refine ⟨z :: S, by rw [List.length_cons]; omega, fun d hd => ?_⟩
    by_cases s : sv z d = true
    · exact ⟨z, List.mem_cons_self, s⟩
    · obtain ⟨w, hw, q⟩ := s2 d (List.mem_filter.mpr ⟨hd, by rw [Bool.not_eq_true] at s; rw [s]; rfl⟩)
      exact ⟨w, List.mem_cons_of_mem _ hw, q⟩

def topS (i : Nat) : Stmt := PySem.Challenge.pw_fewspans_k10_independent_judged.main.body.getD i (.Pass ⟨0, 0, 0, 0⟩)
abbrev s_is_number : Stmt := topS 2
abbrev N_is_number : List Str := ["value"]
theorem sc_is_number : FnScope N_is_number ["value"] (defScope s_is_number) := ⟨rfl, rfl, rfl, by decide +kernel, rfl, by decide +kernel, by decide +kernel⟩
abbrev s_is_position : Stmt := topS 3
abbrev N_is_position : List Str := ["value"]
theorem sc_is_position : FnScope N_is_position ["value"] (defScope s_is_position) := ⟨rfl, rfl, rfl, by decide +kernel, rfl, by decide +kernel, by decide +kernel⟩
abbrev s_is_tuple_of : Stmt := topS 4
abbrev N_is_tuple_of : List Str := ["value", "length"]
theorem sc_is_tuple_of : FnScope N_is_tuple_of ["value", "length"] (defScope s_is_tuple_of) := ⟨rfl, rfl, rfl, by decide +kernel, rfl, by decide +kernel, by decide +kernel⟩
abbrev s_is_interval : Stmt := topS 5
abbrev N_is_interval : List Str := ["value", "low", "high"]
theorem sc_is_interval : FnScope N_is_interval ["value"] (defScope s_is_interval) := ⟨rfl, rfl, rfl, by decide +kernel, rfl, by decide +kernel, by decide +kernel⟩
abbrev s_has_position : Stmt := topS 6
abbrev N_has_position : List Str := ["interval", "position"]
theorem sc_has_position : FnScope N_has_position ["interval", "position"] (defScope s_has_position) := ⟨rfl, rfl, rfl, by decide +kernel, rfl, by decide +kernel, by decide +kernel⟩
abbrev s_is_demand : Stmt := topS 8
abbrev N_is_demand : List Str := ["value", "position", "target"]
theorem sc_is_demand : FnScope N_is_demand ["value"] (defScope s_is_demand) := ⟨rfl, rfl, rfl, by decide +kernel, rfl, by decide +kernel, by decide +kernel⟩
abbrev s_conflict : Stmt := topS 9
abbrev N_conflict : List Str := ["first", "second"]
theorem sc_conflict : FnScope N_conflict ["first", "second"] (defScope s_conflict) := ⟨rfl, rfl, rfl, by decide +kernel, rfl, by decide +kernel, by decide +kernel⟩
abbrev s_is_independent : Stmt := topS 10
abbrev N_is_independent : List Str := ["value", "item", "index", "first", "second"]
theorem sc_is_independent : FnScope N_is_independent ["value"] (defScope s_is_independent) := ⟨rfl, rfl, rfl, by decide +kernel, rfl, by decide +kernel, by decide +kernel⟩
abbrev s_law_deck : Stmt := topS 12
abbrev N_law_deck : List Str := ["_law_script", "_law_cell"]
theorem sc_law_deck : FnScope N_law_deck ["_law_script"] (defScope s_law_deck) := ⟨rfl, rfl, rfl, by decide +kernel, rfl, by decide +kernel, by decide +kernel⟩
abbrev s_law_draw : Stmt := topS 13
abbrev N_law_draw : List Str := ["_law_deck_here", "_law_bound", "_law_place", "_law_cell", "_law_mixed"]
theorem sc_law_draw : FnScope N_law_draw ["_law_deck_here", "_law_bound"] (defScope s_law_draw) := ⟨rfl, rfl, rfl, by decide +kernel, rfl, by decide +kernel, by decide +kernel⟩
abbrev s_law_line : Stmt := topS 14
abbrev N_law_line : List Str := ["_law_deck_here", "_law_count", "_law_line_here", "_law_k"]
theorem sc_law_line : FnScope N_law_line ["_law_deck_here", "_law_count"] (defScope s_law_line) := ⟨rfl, rfl, rfl, by decide +kernel, rfl, by decide +kernel, by decide +kernel⟩
abbrev s_law_interval : Stmt := topS 15
abbrev N_law_interval : List Str := ["_law_deck_here", "_law_line_here", "_law_first", "_law_second"]
theorem sc_law_interval : FnScope N_law_interval ["_law_deck_here", "_law_line_here"] (defScope s_law_interval) := ⟨rfl, rfl, rfl, by decide +kernel, rfl, by decide +kernel, by decide +kernel⟩
abbrev s_law_intervals : Stmt := topS 16
abbrev N_law_intervals : List Str := ["_law_deck_here", "_law_line_here", "_law_most", "_law_items", "_law_k"]
theorem sc_law_intervals : FnScope N_law_intervals ["_law_deck_here", "_law_line_here", "_law_most"] (defScope s_law_intervals) := ⟨rfl, rfl, rfl, by decide +kernel, rfl, by decide +kernel, by decide +kernel⟩
abbrev s_law_demand : Stmt := topS 17
abbrev N_law_demand : List Str := ["_law_deck_here", "_law_line_here", "_law_target", "_law_low", "_law_high", "_law_positions", "_law_position", "_law_options"]
theorem sc_law_demand : FnScope N_law_demand ["_law_deck_here", "_law_line_here"] (defScope s_law_demand) := ⟨rfl, rfl, rfl, by decide +kernel, rfl, by decide +kernel, by decide +kernel⟩
abbrev s_law_conflict : Stmt := topS 18
abbrev N_law_conflict : List Str := ["_law_first", "_law_second", "_law_low", "_law_high"]
theorem sc_law_conflict : FnScope N_law_conflict ["_law_first", "_law_second"] (defScope s_law_conflict) := ⟨rfl, rfl, rfl, by decide +kernel, rfl, by decide +kernel, by decide +kernel⟩
abbrev s_law_starts : Stmt := topS 19
abbrev N_law_starts : List Str := ["_law_intervals_here", "_law_cuts", "_law_low", "_law_high", "_law_cut"]
theorem sc_law_starts : FnScope N_law_starts ["_law_intervals_here"] (defScope s_law_starts) := ⟨rfl, rfl, rfl, by decide +kernel, rfl, by decide +kernel, by decide +kernel⟩
abbrev s_law_demands : Stmt := topS 20
abbrev N_law_demands : List Str := ["_law_targets", "_law_positions", "_law_items", "_law_target", "_law_position"]
theorem sc_law_demands : FnScope N_law_demands ["_law_targets", "_law_positions"] (defScope s_law_demands) := ⟨rfl, rfl, rfl, by decide +kernel, rfl, by decide +kernel, by decide +kernel⟩
abbrev s_law_independent : Stmt := topS 21
abbrev N_law_independent : List Str := ["_law_deck_here", "_law_demands_here", "_law_remaining", "_law_chosen", "_law_demand_here", "_law_other"]
theorem sc_law_independent : FnScope N_law_independent ["_law_deck_here", "_law_demands_here"] (defScope s_law_independent) := ⟨rfl, rfl, rfl, by decide +kernel, rfl, by decide +kernel, by decide +kernel⟩
abbrev s_law_odd : Stmt := topS 22
abbrev N_law_odd : List Str := ["_law_deck_here", "_law_values_here"]
theorem sc_law_odd : FnScope N_law_odd ["_law_deck_here"] (defScope s_law_odd) := ⟨rfl, rfl, rfl, by decide +kernel, rfl, by decide +kernel, by decide +kernel⟩
abbrev s_law_replaced : Stmt := topS 23
abbrev N_law_replaced : List Str := ["_law_deck_here", "_law_value", "_law_depth", "_law_index", "_law_part", "_law_way", "_law_options"]
theorem sc_law_replaced : FnScope N_law_replaced ["_law_deck_here", "_law_value", "_law_depth"] (defScope s_law_replaced) := ⟨rfl, rfl, rfl, by decide +kernel, rfl, by decide +kernel, by decide +kernel⟩
abbrev s_law_is_demand : Stmt := topS 24
abbrev N_law_is_demand : List Str := ["_law_value", "_law_numbers", "_law_number"]
theorem sc_law_is_demand : FnScope N_law_is_demand ["_law_value"] (defScope s_law_is_demand) := ⟨rfl, rfl, rfl, by decide +kernel, rfl, by decide +kernel, by decide +kernel⟩
abbrev s_law_due : Stmt := topS 25
abbrev N_law_due : List Str := ["_law_value", "_law_item", "_law_index", "_law_demand_here", "_law_other"]
theorem sc_law_due : FnScope N_law_due ["_law_value"] (defScope s_law_due) := ⟨rfl, rfl, rfl, by decide +kernel, rfl, by decide +kernel, by decide +kernel⟩
abbrev s_law_values : Stmt := topS 26
abbrev N_law_values : List Str := ["_law_deck_here", "_law_line_here", "_law_targets", "_law_chosen", "_law_drawn", "_law_k", "_law_values_here", "_law_turn", "_law_value"]
theorem sc_law_values : FnScope N_law_values ["_law_deck_here", "_law_line_here"] (defScope s_law_values) := ⟨rfl, rfl, rfl, by decide +kernel, rfl, by decide +kernel, by decide +kernel⟩
abbrev s_law : Stmt := topS 27
abbrev N_law : List Str := ["_law_script", "_law_deck_here", "_law_turn", "_law_line_here", "_law_value", "_law_shown"]
theorem sc_law : FnScope N_law ["_law_script"] (defScope s_law) := ⟨rfl, rfl, rfl, by decide +kernel, rfl, by decide +kernel, by decide +kernel⟩
/-! ### the deck and its draws -/
structure Dk (H : Hp) (d c : Addr) (n : Int) : Prop where
  top : H d = some (.lst [.ref c, .int n])
  cells : ∃ xs : List Int, H c = some (.lst (xs.map V.int)) ∧ xs.length ≤ 63 ∧ ∀ x ∈ xs, 0 ≤ x
theorem Dk.ne {H : Hp} {d c : Addr} {n : Int} (h : Dk H d c n) : c ≠ d := by
  obtain ⟨xs, e, _⟩ := h.cells
  intro z
  subst z
  have q := e.symm.trans h.top
  cases xs with
  | nil => cases q
  | cons x r => cases q
/-- nothing but the deck has changed -/
def Kp (d c : Addr) (H H' : Hp) : Prop := ∀ b o, b ≠ d → b ≠ c → H b = some o → H' b = some o
theorem Kp.trans {d c : Addr} {H H1 H2 : Hp} (h1 : Kp d c H H1) (h2 : Kp d c H1 H2) : Kp d c H H2 := fun b o n1 n2 e => h2 b o n1 n2 (h1 b o n1 n2 e)
theorem Kp.same {d c : Addr} {H H1 : Hp} (h : Same H H1) : Kp d c H H1 := fun b o _ _ e => h b o e
theorem Kp.none {d c : Addr} {H H' : Hp} (k : Kp d c H H') {n m : Int} (h : Dk H d c n) (h' : Dk H' d c m) {t : Addr} (e : H' t = none) : H t = none := by
  by_cases e1 : t = d
  · rw [e1, h'.top] at e
    cases e
  · by_cases e2 : t = c
    · obtain ⟨xs, z, _⟩ := h'.cells
      rw [e2, z] at e
      cases e
    · cases q : H t with
      | none => rfl
      | some o =>
        rw [k t o e1 e2 q] at e
        cases e
theorem Dk.kept {H H' : Hp} {d c : Addr} {n : Int} (h : Dk H d c n) (s : Same H H') : Dk H' d c n :=
  let ⟨xs, e, a⟩ := h.cells
  ⟨s _ _ h.top, xs, s _ _ e, a⟩
theorem Dk.eq {H : Hp} {d c : Addr} {n m : Int} (h : Dk H d c n) (e : n = m) : Dk H d c m := e ▸ h
def sp_law_deck (K : PySem.W.Frag) : Sp := fun vs H Q _ => ∃ (a : Addr) (ns : List Int), vs = [.ref a] ∧ SqL K H a (ns.map V.int) ∧ ns.length ≤ 63 ∧
  ∀ H' d c, Same H H' → H d = none → H c = none → Dk H' d c 0 → Q (.ref d) H'
def sp_law_draw : Sp := fun vs H Q _ => ∃ (d c : Addr) (n lim : Int), vs = [.ref d, .int lim] ∧ Dk H d c n ∧ 0 ≤ n ∧ n < 1000000 ∧ 0 < lim ∧ lim < 2 ^ 63 ∧
  ∀ H' r, Kp d c H H' → Dk H' d c (n + 1) → 0 ≤ r → r < lim → Q (.int r) H'
theorem same_new {H : Hp} {p : Addr} {o : HO} (h : H p = none) : Same H (upd H p o) := fun b x e => by
  rw [upd_ne (ne_of_none e h)]
  exact e
theorem cutTo (xs : List V) (j : Nat) : cutV xs none (some (j : Int)) = xs.take j := by
  unfold cutV
  rw [HT.sIx_none, show HT.sIx xs.length xs.length (some (j : Int)) = min j xs.length from HT.sIx_nat xs.length xs.length j]
  rw [Nat.sub_zero, List.drop_zero]
  rcases Nat.le_total j xs.length with h | h
  · rw [Nat.min_eq_left h]
  · rw [Nat.min_eq_right h, List.take_length, List.take_of_length_le h]
section
structure Tx (K : PySem.W.Frag) (mg : Str → Option Value) (f_is_number f_is_position f_is_tuple_of f_is_interval f_has_position f_is_demand f_conflict f_is_independent f_law_deck f_law_draw f_law_line f_law_interval f_law_intervals f_law_demand f_law_conflict f_law_starts f_law_demands f_law_independent f_law_odd f_law_replaced f_law_is_demand f_law_due f_law_values f_law : Addr) (d_is_number d_is_position d_is_tuple_of d_is_interval d_has_position d_is_demand d_conflict d_is_independent d_law_deck d_law_draw d_law_line d_law_interval d_law_intervals d_law_demand d_law_conflict d_law_starts d_law_demands d_law_independent d_law_odd d_law_replaced d_law_is_demand d_law_due d_law_values d_law : FuncData) (t_LAST_POSITION : Tok) : Prop where
  F_is_number : Fun K "is_number" "is_number" s_is_number f_is_number d_is_number
  b_is_number : Binds K d_is_number ["value"] []
  g_is_number : mg "is_number" = some (.ref f_is_number)
  F_is_position : Fun K "is_position" "is_position" s_is_position f_is_position d_is_position
  b_is_position : Binds K d_is_position ["value"] []
  g_is_position : mg "is_position" = some (.ref f_is_position)
  F_is_tuple_of : Fun K "is_tuple_of" "is_tuple_of" s_is_tuple_of f_is_tuple_of d_is_tuple_of
  b_is_tuple_of : Binds K d_is_tuple_of ["value", "length"] []
  g_is_tuple_of : mg "is_tuple_of" = some (.ref f_is_tuple_of)
  F_is_interval : Fun K "is_interval" "is_interval" s_is_interval f_is_interval d_is_interval
  b_is_interval : Binds K d_is_interval ["value"] []
  g_is_interval : mg "is_interval" = some (.ref f_is_interval)
  F_has_position : Fun K "has_position" "has_position" s_has_position f_has_position d_has_position
  b_has_position : Binds K d_has_position ["interval", "position"] []
  g_has_position : mg "has_position" = some (.ref f_has_position)
  F_is_demand : Fun K "is_demand" "is_demand" s_is_demand f_is_demand d_is_demand
  b_is_demand : Binds K d_is_demand ["value"] []
  g_is_demand : mg "is_demand" = some (.ref f_is_demand)
  F_conflict : Fun K "conflict" "conflict" s_conflict f_conflict d_conflict
  b_conflict : Binds K d_conflict ["first", "second"] []
  g_conflict : mg "conflict" = some (.ref f_conflict)
  F_is_independent : Fun K "is_independent" "is_independent" s_is_independent f_is_independent d_is_independent
  b_is_independent : Binds K d_is_independent ["value"] []
  g_is_independent : mg "is_independent" = some (.ref f_is_independent)
  F_law_deck : Fun K "_law_deck" "_law_deck" s_law_deck f_law_deck d_law_deck
  b_law_deck : Binds K d_law_deck ["_law_script"] []
  g_law_deck : mg "_law_deck" = some (.ref f_law_deck)
  F_law_draw : Fun K "_law_draw" "_law_draw" s_law_draw f_law_draw d_law_draw
  b_law_draw : Binds K d_law_draw ["_law_deck_here", "_law_bound"] []
  g_law_draw : mg "_law_draw" = some (.ref f_law_draw)
  F_law_line : Fun K "_law_line" "_law_line" s_law_line f_law_line d_law_line
  b_law_line : Binds K d_law_line ["_law_deck_here", "_law_count"] []
  g_law_line : mg "_law_line" = some (.ref f_law_line)
  F_law_interval : Fun K "_law_interval" "_law_interval" s_law_interval f_law_interval d_law_interval
  b_law_interval : Binds K d_law_interval ["_law_deck_here", "_law_line_here"] []
  g_law_interval : mg "_law_interval" = some (.ref f_law_interval)
  F_law_intervals : Fun K "_law_intervals" "_law_intervals" s_law_intervals f_law_intervals d_law_intervals
  b_law_intervals : Binds K d_law_intervals ["_law_deck_here", "_law_line_here", "_law_most"] []
  g_law_intervals : mg "_law_intervals" = some (.ref f_law_intervals)
  F_law_demand : Fun K "_law_demand" "_law_demand" s_law_demand f_law_demand d_law_demand
  b_law_demand : Binds K d_law_demand ["_law_deck_here", "_law_line_here"] []
  g_law_demand : mg "_law_demand" = some (.ref f_law_demand)
  F_law_conflict : Fun K "_law_conflict" "_law_conflict" s_law_conflict f_law_conflict d_law_conflict
  b_law_conflict : Binds K d_law_conflict ["_law_first", "_law_second"] []
  g_law_conflict : mg "_law_conflict" = some (.ref f_law_conflict)
  F_law_starts : Fun K "_law_starts" "_law_starts" s_law_starts f_law_starts d_law_starts
  b_law_starts : Binds K d_law_starts ["_law_intervals_here"] []
  g_law_starts : mg "_law_starts" = some (.ref f_law_starts)
  F_law_demands : Fun K "_law_demands" "_law_demands" s_law_demands f_law_demands d_law_demands
  b_law_demands : Binds K d_law_demands ["_law_targets", "_law_positions"] []
  g_law_demands : mg "_law_demands" = some (.ref f_law_demands)
  F_law_independent : Fun K "_law_independent" "_law_independent" s_law_independent f_law_independent d_law_independent
  b_law_independent : Binds K d_law_independent ["_law_deck_here", "_law_demands_here"] []
  g_law_independent : mg "_law_independent" = some (.ref f_law_independent)
  F_law_odd : Fun K "_law_odd" "_law_odd" s_law_odd f_law_odd d_law_odd
  b_law_odd : Binds K d_law_odd ["_law_deck_here"] []
  g_law_odd : mg "_law_odd" = some (.ref f_law_odd)
  F_law_replaced : Fun K "_law_replaced" "_law_replaced" s_law_replaced f_law_replaced d_law_replaced
  b_law_replaced : Binds K d_law_replaced ["_law_deck_here", "_law_value", "_law_depth"] []
  g_law_replaced : mg "_law_replaced" = some (.ref f_law_replaced)
  F_law_is_demand : Fun K "_law_is_demand" "_law_is_demand" s_law_is_demand f_law_is_demand d_law_is_demand
  b_law_is_demand : Binds K d_law_is_demand ["_law_value"] []
  g_law_is_demand : mg "_law_is_demand" = some (.ref f_law_is_demand)
  F_law_due : Fun K "_law_due" "_law_due" s_law_due f_law_due d_law_due
  b_law_due : Binds K d_law_due ["_law_value"] []
  g_law_due : mg "_law_due" = some (.ref f_law_due)
  F_law_values : Fun K "_law_values" "_law_values" s_law_values f_law_values d_law_values
  b_law_values : Binds K d_law_values ["_law_deck_here", "_law_line_here"] []
  g_law_values : mg "_law_values" = some (.ref f_law_values)
  F_law : Fun K "law" "law" s_law f_law d_law
  b_law : Binds K d_law ["_law_script"] []
  g_law : mg "law" = some (.ref f_law)
  c_LAST_POSITION : mg "LAST_POSITION" = some (.int 1000000000000 t_LAST_POSITION)
  z_abs : mg "abs" = none
  z_all : mg "all" = none
  z_any : mg "any" = none
  z_bool : mg "bool" = none
  z_enumerate : mg "enumerate" = none
  z_int : mg "int" = none
  z_isinstance : mg "isinstance" = none
  z_len : mg "len" = none
  z_list : mg "list" = none
  z_max : mg "max" = none
  z_min : mg "min" = none
  z_range : mg "range" = none
  z_repr : mg "repr" = none
  z_set : mg "set" = none
  z_sorted : mg "sorted" = none
  z_tuple : mg "tuple" = none
variable {P : Program} {w : World} {K : PySem.W.Frag} {mg : Str → Option Value} {base : Heap} {f_is_number f_is_position f_is_tuple_of f_is_interval f_has_position f_is_demand f_conflict f_is_independent f_law_deck f_law_draw f_law_line f_law_interval f_law_intervals f_law_demand f_law_conflict f_law_starts f_law_demands f_law_independent f_law_odd f_law_replaced f_law_is_demand f_law_due f_law_values f_law : Addr} {d_is_number d_is_position d_is_tuple_of d_is_interval d_has_position d_is_demand d_conflict d_is_independent d_law_deck d_law_draw d_law_line d_law_interval d_law_intervals d_law_demand d_law_conflict d_law_starts d_law_demands d_law_independent d_law_odd d_law_replaced d_law_is_demand d_law_due d_law_values d_law : FuncData} {t_LAST_POSITION : Tok}
abbrev TxA (K : PySem.W.Frag) (mg : Str → Option Value) (f_is_number f_is_position f_is_tuple_of f_is_interval f_has_position f_is_demand f_conflict f_is_independent f_law_deck f_law_draw f_law_line f_law_interval f_law_intervals f_law_demand f_law_conflict f_law_starts f_law_demands f_law_independent f_law_odd f_law_replaced f_law_is_demand f_law_due f_law_values f_law : Addr) (d_is_number d_is_position d_is_tuple_of d_is_interval d_has_position d_is_demand d_conflict d_is_independent d_law_deck d_law_draw d_law_line d_law_interval d_law_intervals d_law_demand d_law_conflict d_law_starts d_law_demands d_law_independent d_law_odd d_law_replaced d_law_is_demand d_law_due d_law_values d_law : FuncData) (t_LAST_POSITION : Tok) := Tx K mg f_is_number f_is_position f_is_tuple_of f_is_interval f_has_position f_is_demand f_conflict f_is_independent f_law_deck f_law_draw f_law_line f_law_interval f_law_intervals f_law_demand f_law_conflict f_law_starts f_law_demands f_law_independent f_law_odd f_law_replaced f_law_is_demand f_law_due f_law_values f_law d_is_number d_is_position d_is_tuple_of d_is_interval d_has_position d_is_demand d_conflict d_is_independent d_law_deck d_law_draw d_law_line d_law_interval d_law_intervals d_law_demand d_law_conflict d_law_starts d_law_demands d_law_independent d_law_odd d_law_replaced d_law_is_demand d_law_due d_law_values d_law t_LAST_POSITION
theorem ok_law_deck (T : Tx K mg f_is_number f_is_position f_is_tuple_of f_is_interval f_has_position f_is_demand f_conflict f_is_independent f_law_deck f_law_draw f_law_line f_law_interval f_law_intervals f_law_demand f_law_conflict f_law_starts f_law_demands f_law_independent f_law_odd f_law_replaced f_law_is_demand f_law_due f_law_values f_law d_is_number d_is_position d_is_tuple_of d_is_interval d_has_position d_is_demand d_conflict d_is_independent d_law_deck d_law_draw d_law_line d_law_interval d_law_intervals d_law_demand d_law_conflict d_law_starts d_law_demands d_law_independent d_law_odd d_law_replaced d_law_is_demand d_law_due d_law_values d_law t_LAST_POSITION) : FnOk P w K mg base CX0 1 f_law_deck d_law_deck ["_law_script"] (sp_law_deck K) := by
  refine T.F_law_deck.ok sc_law_deck (fun vs H Q E h => ?_) (fun cdv A outer s H vs Q E hr h => ?_)
  · obtain ⟨a, ns, rfl, _⟩ := h
    rfl
  · obtain ⟨a, ns0, rfl, hS, hlen, q⟩ := h
    refine ⟨_, (pss_one (ps_ret (pe_lst (pa_cons (pe_lc (own := [("_law_cell", 1)]) (g := (gName 1)) (tt := tYes) (by rfl) sc_law_deck.nd (pi_list (pe_slice sl_list (pv 0) po_none (po_some pe_int))) (blkOk_by (own := [("_law_cell", 1)]) (N := N_law_deck) (sc := defScope s_law_deck) (by decide +kernel)) (fun _ _ _ _ _ => (pg_name (i := 1) sc_law_deck.nd rfl (Or.inl rfl))) (fun _ _ _ _ _ => pts_nil) (fun _ _ _ _ _ => (pe_callB call_abs (by rfl) T.z_abs (by decide +kernel) (pa_cons (pv 1) pa_nil)))) (pa_cons pe_int pa_nil))))), ?_⟩
    refine ⟨.ref a, rfl, 60, rfl, a, ns0.map V.int, rfl, hS, fun p np => ?_⟩
    rw [show cutV (ns0.map V.int) none (some 60) = (ns0.take 60).map V.int by rw [List.map_take]; exact cutTo _ 60]
    have hlen : (ns0.take 60).length ≤ 63 := Nat.le_trans (List.length_take_le' _ _) hlen
    generalize ns0.take 60 = ns at *
    have s1 : Same H (upd H p (.lst (ns.map V.int))) := same_new np
    refine ⟨p, rfl, ⟨_, SqL.of upd_same⟩, fun D nD => ?_⟩
    have nDp : D ≠ p := fun e => by
      rw [e, upd_same] at nD
      cases nD
    have nD0 : H D = none := by
      rw [upd_ne nDp] at nD
      exact nD
    refine lc_list (K := K) (a := p) (xs := ns.map V.int) (fun i H' => Same (upd H p (.lst (ns.map V.int))) H' ∧ H' D = some (.lst (((ns.take i).map fun (x : Int) => if x < 0 then -x else x).map V.int))) ⟨same_new nD, upd_same⟩ (fun i H' _ h => h.1.seq (SqL.of upd_same)) ?_ ?_
    · rintro i x H' hi ⟨sm, eD⟩
      rw [List.getElem?_map] at hi
      obtain ⟨n, en, rfl⟩ := Option.map_eq_some_iff.mp hi
      refine ⟨rfl, .int n, rfl, n, rfl, _, eD, ?_, ?_, ?_⟩
      · have : (List.take i ns).length ≤ ns.length := List.length_take_le' i ns
        simp only [List.length_map]
        exact small1000 (by omega)
      · intro b o e
        have nb : b ≠ D := ne_of_none e nD
        rw [upd_ne nb]
        exact sm b o e
      · rw [upd_same, List.take_add_one, en]
        simp
    · rintro H' ⟨sm, eD⟩
      rw [List.length_map, List.take_length] at eD
      refine ⟨by show 2 ≤ sizeLine; decide, fun d nd => ?_⟩
      have nDd : D ≠ d := ne_of_none eD nd
      have nd0 : H d = none := s1.free (sm.free nd)
      refine q _ d D (s1.trans (sm.trans (same_new nd))) nd0 nD0 ⟨upd_same, _, by rw [upd_ne nDd]; exact eD, by rw [List.length_map]; exact hlen, fun x hx => ?_⟩
      obtain ⟨y, _, rfl⟩ := List.mem_map.mp hx
      split <;> omega
def mxI (i j : Int) : Int := if j > i then j else i
def mnI (i j : Int) : Int := if j < i then j else i
theorem ok_law_draw (T : Tx K mg f_is_number f_is_position f_is_tuple_of f_is_interval f_has_position f_is_demand f_conflict f_is_independent f_law_deck f_law_draw f_law_line f_law_interval f_law_intervals f_law_demand f_law_conflict f_law_starts f_law_demands f_law_independent f_law_odd f_law_replaced f_law_is_demand f_law_due f_law_values f_law d_is_number d_is_position d_is_tuple_of d_is_interval d_has_position d_is_demand d_conflict d_is_independent d_law_deck d_law_draw d_law_line d_law_interval d_law_intervals d_law_demand d_law_conflict d_law_starts d_law_demands d_law_independent d_law_odd d_law_replaced d_law_is_demand d_law_due d_law_values d_law t_LAST_POSITION) : FnOk P w K mg base CX0 1 f_law_draw d_law_draw ["_law_deck_here", "_law_bound"] sp_law_draw := by
  refine T.F_law_draw.ok sc_law_draw (fun vs H Q E h => ?_) (fun cdv A outer s H vs Q E hr h => ?_)
  · obtain ⟨d, c, n, lim, rfl, _⟩ := h
    rfl
  · obtain ⟨d, c, n, lim, rfl, dk, n0, n1, l0, l1, q⟩ := h
    obtain ⟨xs, ec, xl, xp⟩ := dk.cells
    have ncd := dk.ne
    have ed := dk.top
    have l64 : lim.natAbs < 2 ^ 64 := by omega
    have n64 : (n + 1).natAbs < 2 ^ 64 := by omega
    refine ⟨_, (pss_cons (ps_asg (pe_op op_add (pe_ix ix_list (pv 0) pe_int (fun _ _ => rfl)) pe_int) (pg_sub (pv 0) pe_int set_list))
      (pss_cons (ps_set (i := 2) sc_law_draw.nd rfl (Or.inl rfl) (pe_op op_mod (pe_ix ix_list (pv 0) pe_int (fun _ _ => rfl)) (pe_callB (call_max2 rfl) (by rfl) T.z_max (by decide +kernel) (pa_cons pe_int (pa_cons (pe_callB call_len_seq (by rfl) T.z_len PySem.boot_len (pa_cons (pe_ix ix_list (pv 0) pe_int (fun _ _ => rfl)) pa_nil)) pa_nil)))))
      (pss_cons (ps_set (i := 3) sc_law_draw.nd rfl (Or.inl rfl) (pe_ix ix_list (pe_op op_cat (pe_ix ix_list (pv 0) pe_int (fun _ _ => rfl)) (pe_lst (pa_cons pe_int pa_nil))) (pv 2) (fun _ _ => rfl)))
      (pss_cons (ps_if (pt_cmpR op_ge (pv 3) (pe_op op_pow pe_int pe_int) (nomark _))
      (pss_cons (ps_asg (pe_op op_fdivW (pv 3) (pv 1)) (pg_sub (pe_ix ix_list (pv 0) pe_int (fun _ _ => rfl)) (pv 2) set_list))
      (pss_one (ps_ret (pe_op op_mod (pv 3) (pv 1)))))
      pss_nil)
      (pss_cons (ps_set (i := 4) sc_law_draw.nd rfl (Or.inl rfl) (pe_op op_mod (pe_op op_pow (pe_op op_add (pe_op op_add (pe_op op_mod (pv 3) pe_int) (pe_op op_mulW pe_int (pe_ix ix_list (pv 0) pe_int (fun _ _ => rfl)))) pe_int) pe_int) pe_int))
      (pss_one (ps_ret (pe_op op_mod (pe_op op_add (pe_op op_fdivW (pv 4) pe_int) (pe_op op_mulW pe_int (pe_ix ix_list (pv 0) pe_int (fun _ _ => rfl)))) (pv 1))))))))), ?_⟩
    -- deck[1] = deck[1] + 1
    refine ⟨.ref d, rfl, d, _, 1, .int n, rfl, rfl, SqL.of ed, rfl, n, 1, rfl, rfl, .ref d, rfl, d, _, 1, 1, rfl, rfl, ed, rfl, ?_⟩
    generalize eH : upd H d (.lst ([V.ref c, V.int n].set 1 (.int (n + 1)))) = H1
    have ed1 : H1 d = some (.lst [.ref c, .int (n + 1)]) := by
      rw [← eH, upd_same]
      rfl
    have ec1 : H1 c = some (.lst (xs.map V.int)) := by
      rw [← eH, upd_ne ncd]
      exact ec
    have kp1 : Kp d c H H1 := fun b o nb _ e => by
      rw [← eH, upd_ne nb]
      exact e
    -- place
    refine ⟨.ref d, rfl, d, _, 1, .int (n + 1), rfl, rfl, SqL.of ed1, rfl, .ref d, rfl, d, _, 0, .ref c, rfl, rfl, SqL.of ed1, rfl, c, _, rfl, .inl (SqL.of ec1), 1, _, rfl, ?_⟩
    obtain ⟨m, em⟩ : ∃ m : Int, (if ((xs.map V.int).length : Int) > 1 then ((xs.map V.int).length : Int) else 1) = m := ⟨_, rfl⟩
    have hm : (m = xs.length ∧ 0 < xs.length) ∨ (m = 1 ∧ xs.length = 0) := by
      rw [List.length_map] at em
      rw [← em]
      split <;> omega
    rw [em]
    have m0 : 0 < m := by omega
    refine ⟨_, _, rfl, rfl, m0, ?_⟩
    have rem0 : 0 ≤ (n + 1) % m := Int.emod_nonneg _ (by omega)
    have rem1 : (n + 1) % m < m := Int.emod_lt_of_pos _ m0
    obtain ⟨j, ej⟩ : ∃ j : Nat, (n + 1) % m = j := ⟨_, (Int.toNat_of_nonneg rem0).symm⟩
    rw [ej] at rem1
    -- cell
    obtain ⟨cell, gj, c0, cin⟩ : ∃ cell : Int, (xs.map V.int ++ [V.int 0])[j]? = some (.int cell) ∧ 0 ≤ cell ∧ (cell ≠ 0 → ∃ h : j < xs.length, xs[j] = cell) := by
      by_cases hj : j < xs.length
      · refine ⟨xs[j], ?_, xp _ (List.getElem_mem hj), fun _ => ⟨hj, rfl⟩⟩
        rw [List.getElem?_append_left (by rw [List.length_map]; exact hj), List.getElem?_map, List.getElem?_eq_getElem hj]
        rfl
      · refine ⟨0, ?_, by decide, fun h => absurd rfl h⟩
        have : j = xs.length := by omega
        subst this
        rw [List.getElem?_append_right (by rw [List.length_map]; exact Nat.le_refl _), List.length_map, Nat.sub_self]
        rfl
    refine ⟨.ref d, rfl, d, _, 0, .ref c, rfl, rfl, SqL.of ed1, rfl, by show 1 ≤ sizeLine; decide, fun z nz => ?_⟩
    have s2 := same_new (o := .lst [.int 0]) nz
    refine ⟨c, z, _, _, rfl, rfl, s2 _ _ ec1, upd_same, ?_, fun g ng => ?_⟩
    · rw [List.length_map, show sizeLine = 16777216 by decide]
      show xs.length + 1 ≤ _
      omega
    have s3 := same_new (o := .lst (xs.map V.int ++ [.int 0])) ng
    refine ⟨.int _, rfl, g, _, _, .int cell, rfl, rfl, SqL.of upd_same, (by rw [ej]; exact atI_nat gj), ?_⟩
    have s23 := s2.trans s3
    replace ed1 := s23 _ _ ed1
    replace ec1 := s23 _ _ ec1
    replace kp1 := kp1.trans (Kp.same s23)
    generalize upd (upd H1 z (.lst [.int 0])) g (.lst (xs.map V.int ++ [.int 0])) = H2 at *
    have dk1 : Dk H2 d c (n + 1) := ⟨ed1, xs, ec1, xl, xp⟩
    -- if cell >= 10 ** 18
    refine ⟨.int cell, rfl, 10, 18, rfl, rfl, ⟨by decide, by decide, by decide⟩, _, _, rfl, rfl, _, rfl, ite2 (fun e2 => ?_) (fun e2 => ?_)⟩
    · have e3 : (10 : Int) ^ (18 : Int).toNat ≤ cell := of_decide_eq_true e2
      rw [show (10 : Int) ^ (18 : Int).toNat = 1000000000000000000 by decide] at e3
      obtain ⟨hj, ex⟩ := cin (by omega)
      refine ⟨.int cell, rfl, .int lim, rfl, _, _, rfl, rfl, wide_div l0 l64 (by decide) (by decide), .ref d, rfl, d, _, 0, .ref c, rfl, rfl, SqL.of ed1, rfl, .int _, rfl, c, _, _, j, rfl, rfl, ec1, ?_, ?_⟩
      · rw [ej]
        unfold ixN
        rw [if_pos (by omega), if_pos (by rw [List.length_map]; omega)]
        rfl
      · refine ⟨.int cell, rfl, .int lim, rfl, _, _, rfl, rfl, l0, ?_⟩
        refine q _ _ ?_ ⟨?_, xs.set j (cell / lim), ?_, ?_, ?_⟩ (Int.emod_nonneg _ (by omega)) (Int.emod_lt_of_pos _ l0)
        · intro b o nb nc e
          rw [upd_ne nc]
          exact kp1 b o nb nc e
        · rw [upd_ne ncd.symm]
          exact ed1
        · rw [upd_same, List.map_set]
        · rw [List.length_set]
          exact xl
        · intro x hx
          rcases List.mem_or_eq_of_mem_set hx with hm | he
          · exact xp x hm
          · rw [he]
            exact Int.ediv_nonneg c0 (by omega)
    · refine ⟨.int cell, rfl, _, _, rfl, rfl, (by show (0 : Int) < 2147483563; decide), .ref d, rfl, d, _, 1, .int (n + 1), rfl, rfl, SqL.of ed1, rfl, _, _, rfl, rfl, wide_mul (a := 17) (b := 64) (by decide) n64 (by decide) (by decide) (by decide), _, _, rfl, rfl, _, _, rfl, rfl, _, _, rfl, rfl, ⟨by decide, by decide, ?_⟩, _, _, rfl, rfl, (by show (0 : Int) < 2147483629; decide), ?_⟩
      · have a0 := Int.emod_nonneg cell (show (2147483563 : Int) ≠ 0 by decide)
        have a1 := Int.emod_lt_of_pos cell (show (0 : Int) < 2147483563 by decide)
        omega
      · refine ⟨_, rfl, _, _, rfl, rfl, wide_div (b := 4) (by decide) (by decide) (by decide) (by decide), .ref d, rfl, d, _, 1, .int (n + 1), rfl, rfl, SqL.of ed1, rfl, _, _, rfl, rfl, wide_mul (a := 5) (b := 64) (by decide) n64 (by decide) (by decide) (by decide), _, _, rfl, rfl, .int lim, rfl, _, _, rfl, rfl, l0, ?_⟩
        exact q _ _ kp1 dk1 (Int.emod_nonneg _ (by omega)) (Int.emod_lt_of_pos _ l0)

abbrev Off (d c p : Addr) : Prop := p ≠ d ∧ p ≠ c
/-! ### a line of positions, and intervals of it -/
theorem Kp.keep {d c : Addr} {H H' : Hp} (k : Kp d c H H') {a : Addr} {o : HO} (n1 : a ≠ d ∧ a ≠ c) (h : H a = some o) : H' a = some o := k a o n1.1 n1.2 h
theorem Kp.tup {d c : Addr} {n : Int} {H H' : Hp} (k : Kp d c H H') (dk : Dk H d c n) {a : Addr} {xs : List V} (h : H a = some (.tup xs)) : H' a = some (.tup xs) := by
  obtain ⟨ys, e, _⟩ := dk.cells
  exact k a _ (ne_of h dk.top (fun z => by cases z)) (ne_of h e (fun z => by cases z)) h
theorem Dk.off {H : Hp} {d c : Addr} {n : Int} (h : Dk H d c n) {p : Addr} (e : H p = none) : p ≠ d ∧ p ≠ c := by
  obtain ⟨ys, z, _⟩ := h.cells
  exact ⟨(ne_of_none h.top e).symm, (ne_of_none z e).symm⟩
theorem Dk.upd {H : Hp} {d c : Addr} {n : Int} (h : Dk H d c n) {p : Addr} {o : HO} (off : p ≠ d ∧ p ≠ c) : Dk (upd H p o) d c n := by
  obtain ⟨ys, z, w⟩ := h.cells
  exact ⟨by rw [upd_ne off.1.symm]; exact h.top, ys, by rw [upd_ne off.2.symm]; exact z, w⟩
/-- a line: strictly ascending positions -/
structure Ln (ns : List Int) : Prop where
  asc : ns.Pairwise (· < ·)
  ok : ∀ x ∈ ns, 0 ≤ x ∧ x ≤ 999999999990
def sp_law_line : Sp := fun vs H Q _ => ∃ (d c : Addr) (n cnt : Int), vs = [.ref d, .int cnt] ∧ Dk H d c n ∧ 0 ≤ n ∧ n < 999000 ∧ 1 ≤ cnt ∧ cnt ≤ 9 ∧
  ∀ H' p ns, Kp d c H H' → Dk H' d c (n + cnt) → H p = none → H' p = some (.lst (ns.map V.int)) → (ns.length : Int) = cnt → Ln ns → Q (.ref p) H'
theorem lim3 {r : Int} (h0 : 0 ≤ r) (h1 : r < 3) : ∃ L : Int, atI [V.int 0, .int 4, .int ((10 : Int) ^ (12 : Int).toNat - 90)] r = some (.int L) ∧ 0 ≤ L ∧ L ≤ 999999999910 := by
  have : r = 0 ∨ r = 1 ∨ r = 2 := by omega
  rcases this with rfl | rfl | rfl
  · exact ⟨0, rfl, by decide, by decide⟩
  · exact ⟨4, rfl, by decide, by decide⟩
  · exact ⟨_, rfl, by decide, by decide⟩
theorem step4 {r : Int} (h0 : 0 ≤ r) (h1 : r < 4) : ∃ L : Int, atI [V.int 1, .int 1, .int 2, .int 9] r = some (.int L) ∧ 1 ≤ L ∧ L ≤ 9 := by
  have : r = 0 ∨ r = 1 ∨ r = 2 ∨ r = 3 := by omega
  rcases this with rfl | rfl | rfl | rfl
  · exact ⟨1, rfl, by decide, by decide⟩
  · exact ⟨1, rfl, by decide, by decide⟩
  · exact ⟨2, rfl, by decide, by decide⟩
  · exact ⟨9, rfl, by decide, by decide⟩
theorem ok_law_line (T : Tx K mg f_is_number f_is_position f_is_tuple_of f_is_interval f_has_position f_is_demand f_conflict f_is_independent f_law_deck f_law_draw f_law_line f_law_interval f_law_intervals f_law_demand f_law_conflict f_law_starts f_law_demands f_law_independent f_law_odd f_law_replaced f_law_is_demand f_law_due f_law_values f_law d_is_number d_is_position d_is_tuple_of d_is_interval d_has_position d_is_demand d_conflict d_is_independent d_law_deck d_law_draw d_law_line d_law_interval d_law_intervals d_law_demand d_law_conflict d_law_starts d_law_demands d_law_independent d_law_odd d_law_replaced d_law_is_demand d_law_due d_law_values d_law t_LAST_POSITION) : FnOk P w K mg base CX0 2 f_law_line d_law_line ["_law_deck_here", "_law_count"] sp_law_line := by
  refine T.F_law_line.ok sc_law_line (fun vs H Q E h => ?_) (fun cdv A outer s H vs Q E hr h => ?_)
  · obtain ⟨d, c, n, cnt, rfl, _⟩ := h
    rfl
  · obtain ⟨d, c, n, cnt, rfl, dk, n0, n1, c0, c1, q⟩ := h
    refine ⟨_, (pss_cons (ps_set (i := 2) sc_law_line.nd rfl (Or.inl rfl) (pe_lst (pa_cons (pe_ix ix_list (pe_lst (pa_cons pe_int (pa_cons pe_int (pa_cons (pe_op op_sub (pe_op op_pow pe_int pe_int) pe_int) pa_nil)))) (pe_call (ok_law_draw T) (hr.mono (by decide)) (by rfl) T.g_law_draw T.F_law_draw.kp T.b_law_draw .nil pass0 (pa_cons (pv 0) (pa_cons pe_int pa_nil))) (fun _ _ => rfl)) pa_nil)))
      (pss_cons (ps_for PassesOwn.never rfl (pi_range1 (by rfl) T.z_range (pa_cons (pe_op op_sub (pv 1) pe_int) pa_nil)) (pg_name (i := 3) sc_law_line.nd rfl (Or.inl rfl))
      (pss_one (ps_expr (pe_bm PySem.F.plainAttrs_list PySem.F.slot_list_append PySem.F.type_list_append mt_append (pv 2) (pa_cons (pe_op op_add (pe_ix ix_list (pv 2) (pe_un un_neg pe_int) (fun _ _ => rfl)) (pe_ix ix_list (pe_lst (pa_cons pe_int (pa_cons pe_int (pa_cons pe_int (pa_cons pe_int pa_nil))))) (pe_call (ok_law_draw T) (hr.mono (by decide)) (by rfl) T.g_law_draw T.F_law_draw.kp T.b_law_draw .nil pass0 (pa_cons (pv 0) (pa_cons pe_int pa_nil))) (fun _ _ => rfl))) pa_nil)))))
      (pss_one (ps_ret (pv 2))))), ?_⟩
    refine ⟨10, 12, rfl, rfl, ⟨by decide, by decide, by decide⟩, _, _, rfl, rfl, by show 3 ≤ sizeLine; decide, fun p np => ?_⟩
    have off := dk.off np
    refine ⟨.ref d, rfl, d, c, n, 3, rfl, dk.kept (same_new np), n0, by omega, by decide, by decide, fun H1 r kp1 dk1 r0 r1 => ?_⟩
    obtain ⟨L, eL, L0, L1⟩ := lim3 r0 r1
    refine ⟨p, _, r, _, rfl, rfl, SqL.of (kp1.keep off upd_same), eL, by show 1 ≤ sizeLine; decide, fun l nl => ?_⟩
    have kpA : Kp d c H H1 := (Kp.same (same_new np)).trans kp1
    have offl := dk1.off nl
    have nl0 : H l = none := kpA.none dk dk1 nl
    obtain ⟨m, rfl⟩ : ∃ m : Nat, cnt = m + 1 := ⟨(cnt - 1).toNat, by omega⟩
    refine ⟨.int _, rfl, _, _, rfl, rfl, (m : Int) + 1 - 1, rfl, by omega, by omega, for_range (n := ((m : Int) + 1 - 1).toNat) (fun i σ H' => (Kp d c H H' ∧ Dk H' d c (n + 1 + i)) ∧ (∃ ns : List Int, H' l = some (.lst (ns.map V.int)) ∧ ns.length = i + 1 ∧ ns.Pairwise (· < ·) ∧ (∀ x ∈ ns, 0 ≤ x ∧ x ≤ 999999999910 + 9 * i) ∧ ∃ (ys : List Int) (z : Int), ns = ys ++ [z] ∧ (∀ y ∈ ys, y < z)) ∧ ∃ y3, σ = [some (.ref d), some (.int ((m : Int) + 1)), some (.ref l), y3])
      ⟨⟨kpA.trans (Kp.same (same_new nl)), (dk1.upd offl).eq (by simp)⟩, ⟨[L], upd_same, rfl, List.pairwise_singleton _ _, fun x hx => ?_, [], L, rfl, fun y hy => nomatch hy⟩, _, rfl⟩ ?_ ?_⟩
    · rw [List.mem_singleton.mp hx]
      omega
    · rintro i σ H2 hi ⟨⟨kp2, dk2⟩, ⟨ns, el, nl1, asc, bd, ys, z, rfl, hz⟩, y3, rfl⟩
      refine ⟨.ref l, rfl, .inl ⟨rfl, _, SqL.of el⟩, .ref l, rfl, 1, rfl, l, _, -1, .int z, rfl, rfl, SqL.of el, (by rw [List.map_append]; exact atI_last _ _), by show 4 ≤ sizeLine; decide, fun p2 np2 => ?_⟩
      have off2 := dk2.off np2
      refine ⟨.ref d, rfl, d, c, _, 4, rfl, dk2.kept (same_new np2), by omega, by omega, by decide, by decide, fun H3 r2 kp3 dk3 r20 r21 => ?_⟩
      obtain ⟨L2, eL2, L20, L21⟩ := step4 r20 r21
      have el3 : H3 l = some (.lst ((ys ++ [z]).map V.int)) := kp3.keep offl (same_new np2 _ _ el)
      refine ⟨p2, _, r2, _, rfl, rfl, SqL.of (kp3.keep off2 upd_same), eL2, _, _, rfl, rfl, l, _, _, rfl, rfl, el3, ?_, ?_⟩
      · rw [List.length_map]
        exact small1000 (by omega)
      refine ⟨⟨?_, ?_⟩, ⟨(ys ++ [z]) ++ [z + L2], ?_, ?_, ?_, ?_, ys ++ [z], z + L2, rfl, ?_⟩, _, rfl⟩
      · intro b o n1 n2 e
        rw [upd_ne (ne_of_none e nl0)]
        exact kp3 b o n1 n2 (same_new np2 _ _ (kp2 b o n1 n2 e))
      · exact (dk3.upd offl).eq (by omega)
      · rw [upd_same, List.map_append (l₁ := ys ++ [z])]
        rfl
      · rw [List.length_append, nl1]
        rfl
      · refine List.pairwise_append.mpr ⟨asc, List.pairwise_singleton _ _, fun a ha b hb => ?_⟩
        rw [List.mem_singleton.mp hb]
        rcases List.mem_append.mp ha with h | h
        · have := hz a h
          omega
        · rw [List.mem_singleton.mp h]
          omega
      · intro x hx
        have bz := bd z (List.mem_append_right _ (List.mem_singleton.mpr rfl))
        rcases List.mem_append.mp hx with h | h
        · have := bd x h
          omega
        · rw [List.mem_singleton.mp h]
          omega
      · intro y hy
        rcases List.mem_append.mp hy with h | h
        · have := hz y h
          omega
        · rw [List.mem_singleton.mp h]
          omega
    · rintro σ H2 ⟨⟨kp2, dk2⟩, ⟨ns, el, nl1, asc, bd, _⟩, y3, rfl⟩
      refine ⟨.ref l, rfl, q H2 l ns kp2 (dk2.eq (by omega)) nl0 el (by omega) ⟨asc, fun x hx => ?_⟩⟩
      have := bd x hx
      omega
def sp_law_interval : Sp := fun vs H Q _ => ∃ (d c l : Addr) (n : Int) (ns : List Int), vs = [.ref d, .ref l] ∧ Dk H d c n ∧ 0 ≤ n ∧ n < 999990 ∧ (l ≠ d ∧ l ≠ c) ∧ H l = some (.lst (ns.map V.int)) ∧ 0 < ns.length ∧ ns.length ≤ 100 ∧
  ∀ H' lo hi t, Kp d c H H' → Dk H' d c (n + 2) → lo ∈ ns → hi ∈ ns → lo ≤ hi → H t = none → H' t = some (.tup [.int lo, .int hi]) → Q (.ref t) H'
theorem nth_of {ns : List Int} {r : Int} (h0 : 0 ≤ r) (h1 : r < ((ns.map V.int).length : Nat)) : ∃ x, x ∈ ns ∧ atI (ns.map V.int) r = some (.int x) := by
  obtain ⟨j, rfl⟩ : ∃ j : Nat, r = j := ⟨r.toNat, by omega⟩
  have hj : j < ns.length := by
    rw [List.length_map] at h1
    omega
  refine ⟨ns[j], List.getElem_mem hj, atI_nat ?_⟩
  rw [List.getElem?_map, List.getElem?_eq_getElem hj]
  rfl
theorem ok_law_interval (T : Tx K mg f_is_number f_is_position f_is_tuple_of f_is_interval f_has_position f_is_demand f_conflict f_is_independent f_law_deck f_law_draw f_law_line f_law_interval f_law_intervals f_law_demand f_law_conflict f_law_starts f_law_demands f_law_independent f_law_odd f_law_replaced f_law_is_demand f_law_due f_law_values f_law d_is_number d_is_position d_is_tuple_of d_is_interval d_has_position d_is_demand d_conflict d_is_independent d_law_deck d_law_draw d_law_line d_law_interval d_law_intervals d_law_demand d_law_conflict d_law_starts d_law_demands d_law_independent d_law_odd d_law_replaced d_law_is_demand d_law_due d_law_values d_law t_LAST_POSITION) : FnOk P w K mg base CX0 2 f_law_interval d_law_interval ["_law_deck_here", "_law_line_here"] sp_law_interval := by
  refine T.F_law_interval.ok sc_law_interval (fun vs H Q E h => ?_) (fun cdv A outer s H vs Q E hr h => ?_)
  · obtain ⟨d, c, l, n, ns, rfl, _⟩ := h
    rfl
  · obtain ⟨d, c, l, n, ns, rfl, dk, n0, n1, off, el, ln0, ln1, q⟩ := h
    have lp : (0 : Int) < ((ns.map V.int).length : Nat) := by rw [List.length_map]; omega
    have lp2 : (((ns.map V.int).length : Nat) : Int) < 2 ^ 63 := by rw [List.length_map]; omega
    refine ⟨_, (pss_cons (ps_par (by rfl) sc_law_interval.nd (i := 2) (j := 3) rfl rfl (by decide) rfl rfl (pa_cons (pe_ix ix_list (pv 1) (pe_call (ok_law_draw T) (hr.mono (by decide)) (by rfl) T.g_law_draw T.F_law_draw.kp T.b_law_draw .nil pass0 (pa_cons (pv 0) (pa_cons (pe_callB call_len_seq (by rfl) T.z_len PySem.boot_len (pa_cons (pv 1) pa_nil)) pa_nil))) (fun _ _ => rfl)) (pa_cons (pe_ix ix_list (pv 1) (pe_call (ok_law_draw T) (hr.mono (by decide)) (by rfl) T.g_law_draw T.F_law_draw.kp T.b_law_draw .nil pass0 (pa_cons (pv 0) (pa_cons (pe_callB call_len_seq (by rfl) T.z_len PySem.boot_len (pa_cons (pv 1) pa_nil)) pa_nil))) (fun _ _ => rfl)) pa_nil)) (by rfl))
      (pss_one (ps_ret (pe_tup (pa_cons (pe_callB (call_min2 rfl) (by rfl) T.z_min (by decide +kernel) (pa_cons (pv 2) (pa_cons (pv 3) pa_nil))) (pa_cons (pe_callB (call_max2 rfl) (by rfl) T.z_max (by decide +kernel) (pa_cons (pv 2) (pa_cons (pv 3) pa_nil))) pa_nil)))))), ?_⟩
    refine ⟨.ref l, rfl, .ref d, rfl, .ref l, rfl, l, _, rfl, .inl (SqL.of el), d, c, n, _, rfl, dk, n0, by omega, lp, lp2, fun H1 r kp1 dk1 r0 r1 => ?_⟩
    have el1 := kp1.keep off el
    obtain ⟨x, mx, ex⟩ := nth_of r0 r1
    refine ⟨l, _, r, _, rfl, rfl, SqL.of el1, ex, .ref l, rfl, .ref d, rfl, .ref l, rfl, l, _, rfl, .inl (SqL.of el1), d, c, n + 1, _, rfl, dk1, by omega, by omega, lp, lp2, fun H2 r2 kp2 dk2 r20 r21 => ?_⟩
    have el2 := kp2.keep off el1
    obtain ⟨y, my, ey⟩ := nth_of r20 r21
    refine ⟨l, _, r2, _, rfl, rfl, SqL.of el2, ey, _, _, rfl, ?_⟩
    refine ⟨_, rfl, _, rfl, _, _, rfl, _, rfl, _, rfl, _, _, rfl, by show 2 ≤ sizeLine; decide, fun t nt => ?_⟩
    have s := same_new (o := .tup [.int (mnI x y), .int (mxI x y)]) nt
    have kp := kp1.trans kp2
    refine q _ (mnI x y) (mxI x y) t (kp.trans (Kp.same s)) ((dk2.kept s).eq (by omega)) ?_ ?_ ?_ (kp.none dk dk2 nt) upd_same
    · unfold mnI
      split <;> assumption
    · unfold mxI
      split <;> assumption
    · unfold mnI mxI
      split <;> split <;> omega

/-! ### a demand of a line -/
def sp_law_demand : Sp := fun vs H Q _ => ∃ (d c l : Addr) (n : Int) (ns : List Int), vs = [.ref d, .ref l] ∧ Dk H d c n ∧ 0 ≤ n ∧ n < 999980 ∧ (l ≠ d ∧ l ≠ c) ∧ H l = some (.lst (ns.map V.int)) ∧ 0 < ns.length ∧ ns.length ≤ 100 ∧ Ln ns ∧
  ∀ H' pos lo hi t u, Kp d c H H' → Dk H' d c (n + 5) → lo ∈ ns → hi ∈ ns → lo ≤ pos → pos ≤ hi → H u = none → H' t = some (.tup [.int lo, .int hi]) → H' u = some (.tup [.int pos, .ref t]) → Q (.ref u) H'
theorem take_filter_snoc {ns : List Int} {i : Nat} {n : Int} {p : Int → Bool} (h : ns[i]? = some n) : (ns.take (i + 1)).filter p = (ns.take i).filter p ++ (if p n = true then [n] else []) := by
  rw [List.take_add_one, h, List.filter_append]
  congr 1
  show List.filter p [n] = _
  rw [List.filter_cons]
  split <;> rfl
theorem ok_law_demand (T : Tx K mg f_is_number f_is_position f_is_tuple_of f_is_interval f_has_position f_is_demand f_conflict f_is_independent f_law_deck f_law_draw f_law_line f_law_interval f_law_intervals f_law_demand f_law_conflict f_law_starts f_law_demands f_law_independent f_law_odd f_law_replaced f_law_is_demand f_law_due f_law_values f_law d_is_number d_is_position d_is_tuple_of d_is_interval d_has_position d_is_demand d_conflict d_is_independent d_law_deck d_law_draw d_law_line d_law_interval d_law_intervals d_law_demand d_law_conflict d_law_starts d_law_demands d_law_independent d_law_odd d_law_replaced d_law_is_demand d_law_due d_law_values d_law t_LAST_POSITION) : FnOk P w K mg base CX0 3 f_law_demand d_law_demand ["_law_deck_here", "_law_line_here"] sp_law_demand := by
  refine T.F_law_demand.ok sc_law_demand (fun vs H Q E h => ?_) (fun cdv A outer s H vs Q E hr h => ?_)
  · obtain ⟨d, c, l, n, ns, rfl, _⟩ := h
    rfl
  · obtain ⟨d, c, l, n, ns, rfl, dk, n0, n1, off, el, ln0, ln1, ln, q⟩ := h
    refine ⟨_, (pss_cons (ps_set (i := 2) sc_law_demand.nd rfl (Or.inl rfl) (pe_call (ok_law_interval T) (hr.mono (by decide)) (by rfl) T.g_law_interval T.F_law_interval.kp T.b_law_interval .nil pass0 (pa_cons (pv 0) (pa_cons (pv 1) pa_nil))))
      (pss_cons (ps_asg (pv 2) (pg_tup rfl (pgs_cons (pg_name (i := 3) sc_law_demand.nd rfl (Or.inr rfl)) (pgs_cons (pg_name (i := 4) sc_law_demand.nd rfl (Or.inr rfl)) pgs_nil))))
      (pss_cons (ps_setLc (i := 5) (own := [("_law_position", 6)]) (g := (gName 6)) (by rfl) sc_law_demand.nd rfl rfl (sw_true rfl rfl rfl (by decide +kernel)) (pi_list (pv 1)) (blkOk_by (own := [("_law_position", 6)]) (N := N_law_demand) (sc := defScope s_law_demand) (by decide +kernel)) (fun _ _ _ _ _ => (pg_name (i := 6) sc_law_demand.nd rfl (Or.inl rfl))) (fun _ _ _ _ _ => pts_one (pt_chain op_le op_le (pv 3) (pv 6) (pv 4))) (fun _ _ _ _ _ => (pv 6)))
      (pss_cons (ps_set (i := 7) sc_law_demand.nd rfl (Or.inl rfl) (pe_lst (pa_cons (pv 3) (pa_cons (pv 4) (pa_cons (pe_ix ix_list (pv 5) (pe_call (ok_law_draw T) (hr.mono (by decide)) (by rfl) T.g_law_draw T.F_law_draw.kp T.b_law_draw .nil pass0 (pa_cons (pv 0) (pa_cons (pe_callB call_len_seq (by rfl) T.z_len PySem.boot_len (pa_cons (pv 5) pa_nil)) pa_nil))) (fun _ _ => rfl)) (pa_cons (pe_op op_add (pv 3) (pe_call (ok_law_draw T) (hr.mono (by decide)) (by rfl) T.g_law_draw T.F_law_draw.kp T.b_law_draw .nil pass0 (pa_cons (pv 0) (pa_cons (pe_op op_add (pe_op op_sub (pv 4) (pv 3)) pe_int) pa_nil)))) pa_nil))))))
      (pss_one (ps_ret (pe_tup (pa_cons (pe_ix ix_list (pv 7) (pe_call (ok_law_draw T) (hr.mono (by decide)) (by rfl) T.g_law_draw T.F_law_draw.kp T.b_law_draw .nil pass0 (pa_cons (pv 0) (pa_cons pe_int pa_nil))) (fun _ _ => rfl)) (pa_cons (pv 2) pa_nil))))))))), ?_⟩
    refine ⟨.ref d, rfl, .ref l, rfl, d, c, l, n, ns, rfl, dk, n0, by omega, off, el, ln0, ln1, fun H1 lo hi t kp1 dk1 mlo mhi lh nt et => ?_⟩
    have el1 := kp1.keep off el
    have blo := ln.ok lo mlo
    have bhi := ln.ok hi mhi
    refine ⟨.ref t, rfl, t, _, rfl, SqT.of et, rfl, .int lo, [.int hi], rfl, .int hi, [], rfl, rfl, ?_⟩
    refine ⟨.ref l, rfl, l, rfl, ⟨_, SqL.of el1⟩, fun D nD => ?_⟩
    have offD := dk1.off nD
    let p : Int → Bool := fun x => decide (lo ≤ x ∧ x ≤ hi)
    refine lc_list (K := K) (a := l) (xs := ns.map V.int) (fun i H' => Same H1 H' ∧ H' D = some (.lst (((ns.take i).filter p).map V.int))) ⟨same_new nD, upd_same⟩ (fun i H' _ h => SqL.of (h.1 _ _ el1)) ?_ ?_
    · rintro i x H' hi2 ⟨sm, eD⟩
      rw [List.getElem?_map] at hi2
      obtain ⟨x, ex, rfl⟩ := Option.map_eq_some_iff.mp hi2
      have no : ¬ p x = true → Same H1 H' ∧ H' D = some (.lst (((ns.take (i + 1)).filter p).map V.int)) := fun e => ⟨sm, by rw [eD, take_filter_snoc ex, if_neg e, List.append_nil]⟩
      refine ⟨rfl, .int lo, rfl, .int x, rfl, _, _, rfl, rfl, _, rfl, ite2 (fun c1 => ?_) (fun c1 => ?_)⟩
      · refine ⟨.int hi, rfl, _, _, rfl, rfl, _, rfl, ite2 (fun c2 => ?_) (fun c2 => ?_)⟩
        · have e : p x = true := decide_eq_true ⟨of_decide_eq_true c1, of_decide_eq_true c2⟩
          refine ⟨.int x, rfl, _, eD, ?_, ?_, ?_⟩
          · rw [List.length_map]
            exact small1000 (Nat.le_trans (List.length_filter_le _ _) (Nat.le_trans (List.length_take_le' _ _) (by omega)))
          · intro b o eb
            rw [upd_ne (ne_of_none eb nD)]
            exact sm b o eb
          · rw [upd_same, take_filter_snoc ex, if_pos e, List.map_append]
            rfl
        · exact no fun e => c2 (decide_eq_true (of_decide_eq_true e).2)
      · exact ⟨_, rfl, iteF (no fun e => c1 (decide_eq_true (of_decide_eq_true e).1))⟩
    · rintro H2 ⟨sm2, eD⟩
      rw [List.length_map, List.take_length] at eD
      have dk2 := dk1.kept sm2
      have et2 := sm2 _ _ et
      have mem : ∀ x ∈ ns.filter p, lo ≤ x ∧ x ≤ hi := fun x hx => of_decide_eq_true (List.mem_filter.mp hx).2
      have fl : 0 < (ns.filter p).length := List.length_pos_of_mem (List.mem_filter.mpr ⟨mlo, decide_eq_true ⟨Int.le_refl _, lh⟩⟩)
      have fl2 := List.length_filter_le p ns
      generalize ns.filter p = fs at *
      have lp : (0 : Int) < ((fs.map V.int).length : Nat) := by rw [List.length_map]; omega
      have lp2 : (((fs.map V.int).length : Nat) : Int) < 2 ^ 63 := by rw [List.length_map]; omega
      refine ⟨.int lo, rfl, .int hi, rfl, .ref D, rfl, .ref d, rfl, .ref D, rfl, D, _, rfl, .inl (SqL.of eD), d, c, _, _, rfl, dk2, by omega, by omega, lp, lp2, fun H3 r kp3 dk3 r0 r1 => ?_⟩
      obtain ⟨x, mx, ex⟩ := nth_of r0 r1
      have bx := mem x mx
      refine ⟨D, _, r, _, rfl, rfl, SqL.of (kp3.keep offD eD), ex, .int lo, rfl, .ref d, rfl, .int hi, rfl, .int lo, rfl, _, _, rfl, rfl, _, _, rfl, rfl, d, c, _, _, rfl, dk3, by omega, by omega, by omega, by omega, fun H4 r2 kp4 dk4 r20 r21 => ?_⟩
      refine ⟨_, _, rfl, rfl, by show 4 ≤ sizeLine; decide, fun po npo => ?_⟩
      have offp := dk4.off npo
      refine ⟨.ref po, rfl, .ref d, rfl, d, c, _, 4, rfl, dk4.kept (same_new npo), by omega, by omega, by decide, by decide, fun H5 r3 kp5 dk5 r30 r31 => ?_⟩
      obtain ⟨pos, epos, bp⟩ : ∃ pos : Int, atI [V.int lo, .int hi, .int x, .int (lo + r2)] r3 = some (.int pos) ∧ lo ≤ pos ∧ pos ≤ hi := by
        have : r3 = 0 ∨ r3 = 1 ∨ r3 = 2 ∨ r3 = 3 := by omega
        rcases this with rfl | rfl | rfl | rfl
        · exact ⟨lo, rfl, by omega, by omega⟩
        · exact ⟨hi, rfl, by omega, by omega⟩
        · exact ⟨x, rfl, by omega, by omega⟩
        · exact ⟨lo + r2, rfl, by omega, by omega⟩
      refine ⟨po, _, r3, _, rfl, rfl, SqL.of (kp5.keep offp upd_same), epos, .ref t, rfl, by show 2 ≤ sizeLine; decide, fun u nu => ?_⟩
      have s6 := same_new (o := .tup [.int pos, .ref t]) nu
      have kp : Kp d c H1 H5 := (Kp.same sm2).trans (kp3.trans (kp4.trans ((Kp.same (same_new npo)).trans kp5)))
      have kpA := kp1.trans kp
      refine q _ pos lo hi t u (kpA.trans (Kp.same s6)) ((dk5.kept s6).eq (by omega)) mlo mhi bp.1 bp.2 (kpA.none dk dk5 nu) (s6 _ _ (kp.tup dk1 et)) upd_same

/-! ### what stays when the heap grows, or the deck is drawn from -/
theorem rd_same {H H' : Hp} (s : Same H H') {a : Addr} {u : HO} (h : Rd H a u) : Rd H' a u := by
  rcases h with h | ⟨o, h⟩
  · exact .inl (s _ _ h)
  · exact .inr ⟨o, s _ _ h⟩
theorem sqT_same {K : PySem.W.Frag} {H H' : Hp} (s : Same H H') {a : Addr} {xs : List V} (h : SqT K H a xs) : SqT K H' a xs := by
  rcases h with h | h
  · exact .inl (rd_same s h)
  · exact .inr h
theorem dp_same {K : PySem.W.Frag} {H H' : Hp} (s : Same H H') {v : V} {d : PyData} (h : Dp K H v d) : Dp K H' v d := by
  refine Dp.rec (K := K) (H := H) (motive_1 := fun v d _ => Dp K H' v d) (motive_2 := fun vs ds _ => DpAll K H' vs ds) .non (fun b => .bl b) (fun i => .int i) (fun x => .str x) (fun hs _ q => .lst (s.seq hs) q) (fun hs _ q => .tup (sqT_same s hs) q) .nil (fun _ _ a b => .cons a b) h
theorem dp2 {K : PySem.W.Frag} {H : Hp} {t : Addr} {x y : Int} (h : H t = some (.tup [.int x, .int y])) : Dp K H (.ref t) (.tuple [.int x, .int y]) := .tup (SqT.of h) (.cons (.int x) (.cons (.int y) .nil))
theorem sm2 {x y : Int} (h1 : x.natAbs < 10 ^ 30) (h2 : y.natAbs < 10 ^ 30) : Sm 202 1 (.tuple [.int x, .int y]) := by
  have h := Sm.tup (n := 100) (dp := 0) (ds := [.int x, .int y]) (fun d hd => by
    rcases List.mem_cons.mp hd with rfl | hd
    · exact Sm.int h1
    · rcases List.mem_cons.mp hd with rfl | hd
      · exact Sm.int h2
      · cases hd)
  exact h
/-- an interval, or None -/
def optD : Option (Int × Int) → PyData
  | none => .none
  | some (x, y) => .tuple [.int x, .int y]
def OV (H : Hp) (v : V) : Option (Int × Int) → Prop
  | none => v = .non
  | some (x, y) => ∃ t, v = .ref t ∧ H t = some (.tup [.int x, .int y])
theorem OV.same {H H' : Hp} (s : Same H H') {v : V} {o : Option (Int × Int)} (h : OV H v o) : OV H' v o := by
  match o, h with
  | none, h => exact h
  | some (x, y), h =>
    obtain ⟨t, e, z⟩ := h
    exact ⟨t, e, s _ _ z⟩
theorem OV.kp {d c : Addr} {n : Int} {H H' : Hp} (k : Kp d c H H') (dk : Dk H d c n) {v : V} {o : Option (Int × Int)} (h : OV H v o) : OV H' v o := by
  match o, h with
  | none, h => exact h
  | some (x, y), h =>
    obtain ⟨t, e, z⟩ := h
    exact ⟨t, e, k.tup dk z⟩
theorem OV.dp {K : PySem.W.Frag} {H : Hp} {v : V} {o : Option (Int × Int)} (h : OV H v o) : Dp K H v (optD o) := by
  match o, h with
  | none, h =>
    cases h
    exact .non
  | some (x, y), h =>
    obtain ⟨t, e, z⟩ := h
    subst e
    exact dp2 z

/-! ### rows of intervals -/
inductive Ivs (H : Hp) : List V → List (Int × Int) → Prop
  | nil : Ivs H [] []
  | cons {a : Addr} {x y : Int} {vs : List V} {ps : List (Int × Int)} : H a = some (.tup [.int x, .int y]) → Ivs H vs ps → Ivs H (.ref a :: vs) ((x, y) :: ps)
theorem Ivs.length {H : Hp} {vs : List V} {ps : List (Int × Int)} (h : Ivs H vs ps) : vs.length = ps.length := by
  induction h with
  | nil => rfl
  | cons _ _ ih => rw [List.length_cons, List.length_cons, ih]
theorem Ivs.same {H H' : Hp} (s : Same H H') {vs : List V} {ps : List (Int × Int)} (h : Ivs H vs ps) : Ivs H' vs ps := by
  induction h with
  | nil => exact .nil
  | cons e _ ih => exact .cons (s _ _ e) ih
theorem Ivs.kp {d c : Addr} {n : Int} {H H' : Hp} (k : Kp d c H H') (dk : Dk H d c n) {vs : List V} {ps : List (Int × Int)} (h : Ivs H vs ps) : Ivs H' vs ps := by
  induction h with
  | nil => exact .nil
  | cons e _ ih => exact .cons (k.tup dk e) ih
theorem Ivs.get {H : Hp} {vs : List V} {ps : List (Int × Int)} (h : Ivs H vs ps) : ∀ {i : Nat} {v : V}, vs[i]? = some v → ∃ a x y, v = .ref a ∧ ps[i]? = some (x, y) ∧ H a = some (.tup [.int x, .int y]) := by
  induction h with
  | nil =>
    intro i v e
    simp at e
  | cons e _ ih =>
    intro i v q
    cases i with
    | zero =>
      cases q
      exact ⟨_, _, _, rfl, rfl, e⟩
    | succ i => exact ih q
theorem Ivs.snoc {H : Hp} {vs : List V} {ps : List (Int × Int)} {a : Addr} {x y : Int} (h : Ivs H vs ps) (e : H a = some (.tup [.int x, .int y])) : Ivs H (vs ++ [.ref a]) (ps ++ [(x, y)]) := by
  induction h with
  | nil => exact .cons e .nil
  | cons z _ ih => exact .cons z ih
def pairD (p : Int × Int) : PyData := .tuple [.int p.1, .int p.2]
theorem Ivs.dp {K : PySem.W.Frag} {H : Hp} {vs : List V} {ps : List (Int × Int)} (h : Ivs H vs ps) : DpAll K H vs (ps.map pairD) := by
  induction h with
  | nil => exact .nil
  | cons e _ ih => exact .cons (dp2 e) ih

/-! ### comprehensions that change nothing but make new objects -/
/-- the tuples stay -/
def Tps (H H' : Hp) : Prop := ∀ b xs, H b = some (.tup xs) → H' b = some (.tup xs)
theorem Tps.refl (H : Hp) : Tps H H := fun _ _ e => e
theorem Tps.trans {H H1 H2 : Hp} (h : Tps H H1) (h2 : Tps H1 H2) : Tps H H2 := fun b xs e => h2 b xs (h b xs e)
theorem Tps.same {H H1 : Hp} (h : Same H H1) : Tps H H1 := fun b xs e => h b _ e
theorem Kp.tps {d c : Addr} {n : Int} {H H' : Hp} (k : Kp d c H H') (dk : Dk H d c n) : Tps H H' := fun _ _ e => k.tup dk e
theorem Tps.lst {H : Hp} {D : Addr} {ws vs : List V} (e : H D = some (.lst ws)) : Tps H (upd H D (.lst vs)) := fun b xs h => by
  rw [upd_ne (ne_of h e (fun z => by cases z))]
  exact h
theorem same_off {H0 H : Hp} {D : Addr} {o : HO} (n : H0 D = none) (s : Same H0 H) : Same H0 (upd H D o) := fun b u e => by
  rw [upd_ne (ne_of_none e n)]
  exact s b u e
theorem few_line {n : Nat} (h : n < 1000) : n < sizeLine := by
  rw [show sizeLine = 16777216 by decide]
  omega
theorem lcL {K : PySem.W.Frag} {a : Addr} {xs : List V} {g : TG} {tt : TT} {te : TE} {vs : List Nat} {σ : L2.St} {H1 : Hp} {D : Addr} {Qd : Hp → Prop} (R : Nat → Hp → List V → Prop) (nD : H1 D = none) (hl : ∀ H', Same H1 H' → SqL K H' a xs) (few : xs.length < 1000)
    (mono : ∀ i H' H'' ws, Tps H' H'' → R i H' ws → R i H'' ws) (len : ∀ i H' ws, R i H' ws → ws.length ≤ i) (r0 : ∀ H', R 0 H' [])
    (hs : ∀ i x H' (N : Hp → Prop) acc, xs[i]? = some x → Same H1 H' → H' D = some (.lst acc) → acc.length < sizeLine → R i H' acc → (∀ H'', Same H' H'' → R (i + 1) H'' acc → N H'') → (∀ H'' y, Same H' H'' → R (i + 1) H'' (acc ++ [y]) → ∃ acc', H'' D = some (.lst acc') ∧ acc'.length < sizeLine ∧ N (upd H'' D (.lst (acc' ++ [y])))) →
      g x (wipe σ vs) H' fun σ2 H2 => wipe σ2 vs = wipe σ vs ∧ tt σ2 H2 fun b H3 => if b = true then te σ2 H3 fun y H4 => ∃ acc, H4 D = some (.lst acc) ∧ acc.length < sizeLine ∧ N (upd H4 D (.lst (acc ++ [y]))) else N H3)
    (hd : ∀ H' ws, Same H1 H' → H' D = some (.lst ws) → R xs.length H' ws → Qd H') :
    ∃ W : Nat → Nat → Hp → Prop, (∃ m, W 0 m (upd H1 D (.lst []))) ∧ ∀ i m H, W i m H →
      ((Itl K a).stop i H ∧ Qd H) ∨ ((Itl K a).go i H ∧ ∃ Nx : Hp → Prop, (∀ H', Nx H' → ∃ m', m' < m ∧ W (i + 1) m' H') ∧ ∀ x H', (Itl K a).yld i H x H' → g x (wipe σ vs) H' fun σ2 H2 => wipe σ2 vs = wipe σ vs ∧ tt σ2 H2 fun b H3 =>
        if b = true then te σ2 H3 fun y H4 => ∃ acc, H4 D = some (.lst acc) ∧ acc.length < sizeLine ∧ Nx (upd H4 D (.lst (acc ++ [y]))) else Nx H3) := by
  refine lc_list (K := K) (a := a) (xs := xs) (fun i H' => Same H1 H' ∧ ∃ ws, H' D = some (.lst ws) ∧ R i H' ws) ⟨same_new nD, [], upd_same, r0 _⟩ (fun i H' _ h => hl H' h.1) ?_ ?_
  · rintro i x H' hi ⟨sm, ws, eD, r⟩
    have lt := (List.getElem?_eq_some_iff.mp hi).1
    have lw := len i H' ws r
    have sz : ws.length < sizeLine := few_line (by omega)
    refine hs i x H' _ ws hi sm eD sz r (fun H'' s r2 => ⟨sm.trans s, ws, s _ _ eD, r2⟩) (fun H'' y s r2 => ?_)
    exact ⟨ws, s _ _ eD, sz, same_off nD (sm.trans s), _, upd_same, mono _ _ _ _ (Tps.lst (s _ _ eD)) r2⟩
  · rintro H' ⟨sm, ws, eD, r⟩
    exact hd H' ws sm eD r
theorem lcT {K : PySem.W.Frag} {a : Addr} {xs : List V} {g : TG} {tt : TT} {te : TE} {vs : List Nat} {σ : L2.St} {H1 : Hp} {D : Addr} {Qd : Hp → Prop} (R : Nat → Hp → List V → Prop) (nD : H1 D = none) (hl : ∀ H', Same H1 H' → SqT K H' a xs) (few : xs.length < 1000)
    (mono : ∀ i H' H'' ws, Tps H' H'' → R i H' ws → R i H'' ws) (len : ∀ i H' ws, R i H' ws → ws.length ≤ i) (r0 : ∀ H', R 0 H' [])
    (hs : ∀ i x H' (N : Hp → Prop) acc, xs[i]? = some x → Same H1 H' → H' D = some (.lst acc) → acc.length < sizeLine → R i H' acc → (∀ H'', Same H' H'' → R (i + 1) H'' acc → N H'') → (∀ H'' y, Same H' H'' → R (i + 1) H'' (acc ++ [y]) → ∃ acc', H'' D = some (.lst acc') ∧ acc'.length < sizeLine ∧ N (upd H'' D (.lst (acc' ++ [y])))) →
      g x (wipe σ vs) H' fun σ2 H2 => wipe σ2 vs = wipe σ vs ∧ tt σ2 H2 fun b H3 => if b = true then te σ2 H3 fun y H4 => ∃ acc, H4 D = some (.lst acc) ∧ acc.length < sizeLine ∧ N (upd H4 D (.lst (acc ++ [y]))) else N H3)
    (hd : ∀ H' ws, Same H1 H' → H' D = some (.lst ws) → R xs.length H' ws → Qd H') :
    ∃ W : Nat → Nat → Hp → Prop, (∃ m, W 0 m (upd H1 D (.lst []))) ∧ ∀ i m H, W i m H →
      ((Itt K a).stop i H ∧ Qd H) ∨ ((Itt K a).go i H ∧ ∃ Nx : Hp → Prop, (∀ H', Nx H' → ∃ m', m' < m ∧ W (i + 1) m' H') ∧ ∀ x H', (Itt K a).yld i H x H' → g x (wipe σ vs) H' fun σ2 H2 => wipe σ2 vs = wipe σ vs ∧ tt σ2 H2 fun b H3 =>
        if b = true then te σ2 H3 fun y H4 => ∃ acc, H4 D = some (.lst acc) ∧ acc.length < sizeLine ∧ Nx (upd H4 D (.lst (acc ++ [y]))) else Nx H3) := by
  refine lc_tup (K := K) (a := a) (xs := xs) (fun i H' => Same H1 H' ∧ ∃ ws, H' D = some (.lst ws) ∧ R i H' ws) ⟨same_new nD, [], upd_same, r0 _⟩ (fun i H' _ h => hl H' h.1) ?_ ?_
  · rintro i x H' hi ⟨sm, ws, eD, r⟩
    have lt := (List.getElem?_eq_some_iff.mp hi).1
    have lw := len i H' ws r
    have sz : ws.length < sizeLine := few_line (by omega)
    refine hs i x H' _ ws hi sm eD sz r (fun H'' s r2 => ⟨sm.trans s, ws, s _ _ eD, r2⟩) (fun H'' y s r2 => ?_)
    exact ⟨ws, s _ _ eD, sz, same_off nD (sm.trans s), _, upd_same, mono _ _ _ _ (Tps.lst (s _ _ eD)) r2⟩
  · rintro H' ⟨sm, ws, eD, r⟩
    exact hd H' ws sm eD r
theorem map_filter_len {α : Type} {ns : List α} {p : α → Bool} {f : α → V} (i : Nat) : (((ns.take i).filter p).map f).length ≤ i := by
  rw [List.length_map]
  exact Nat.le_trans (List.length_filter_le _ _) (List.length_take_le _ _)
theorem take_filter {α : Type} {ns : List α} {i : Nat} {n : α} {p : α → Bool} (h : ns[i]? = some n) : (ns.take (i + 1)).filter p = (ns.take i).filter p ++ (if p n = true then [n] else []) := by
  rw [List.take_add_one, h, List.filter_append]
  congr 1
  show List.filter p [n] = _
  rw [List.filter_cons]
  split <;> rfl
theorem nodup_le {α : Type} [DecidableEq α] : ∀ {l m : List α}, l.Nodup → (∀ x ∈ l, x ∈ m) → l.length ≤ m.length
  | [], _, _, _ => Nat.zero_le _
  | a :: l, m, h, hs => by
    have hm := hs a List.mem_cons_self
    have h' := List.nodup_cons.mp h
    have ih := nodup_le (l := l) (m := m.erase a) h'.2 (fun x hx => (List.mem_erase_of_ne (fun e => h'.1 (by rw [← e]; exact hx))).mpr (hs x (List.mem_cons_of_mem _ hx)))
    rw [List.length_erase_of_mem hm] at ih
    have := List.length_pos_of_mem hm
    rw [List.length_cons]
    omega

/-! ### demands, and rows of them -/
structure Dm (H : Hp) (v : V) (p lo hi : Int) : Prop where
  ex : ∃ u t, v = .ref u ∧ H u = some (.tup [.int p, .ref t]) ∧ H t = some (.tup [.int lo, .int hi])
  low : lo ≤ p
  high : p ≤ hi
theorem Dm.tps {H H' : Hp} (s : Tps H H') {v : V} {p lo hi : Int} (h : Dm H v p lo hi) : Dm H' v p lo hi := by
  obtain ⟨u, t, rfl, e1, e2⟩ := h.ex
  exact ⟨⟨u, t, rfl, s _ _ e1, s _ _ e2⟩, h.low, h.high⟩
theorem Dm.same {H H' : Hp} (s : Same H H') {v : V} {p lo hi : Int} (h : Dm H v p lo hi) : Dm H' v p lo hi := h.tps (Tps.same s)
inductive Dms (H : Hp) : List V → List (Int × Int × Int) → Prop
  | nil : Dms H [] []
  | cons {v : V} {p lo hi : Int} {vs : List V} {ds : List (Int × Int × Int)} : Dm H v p lo hi → Dms H vs ds → Dms H (v :: vs) ((p, lo, hi) :: ds)
theorem Dms.length {H : Hp} {vs : List V} {ds : List (Int × Int × Int)} (h : Dms H vs ds) : vs.length = ds.length := by
  induction h with
  | nil => rfl
  | cons _ _ ih => rw [List.length_cons, List.length_cons, ih]
theorem Dms.tps {H H' : Hp} (s : Tps H H') {vs : List V} {ds : List (Int × Int × Int)} (h : Dms H vs ds) : Dms H' vs ds := by
  induction h with
  | nil => exact .nil
  | cons e _ ih => exact .cons (e.tps s) ih
theorem Dms.same {H H' : Hp} (s : Same H H') {vs : List V} {ds : List (Int × Int × Int)} (h : Dms H vs ds) : Dms H' vs ds := h.tps (Tps.same s)
theorem Dms.get {H : Hp} {vs : List V} {ds : List (Int × Int × Int)} (h : Dms H vs ds) : ∀ {i : Nat} {v : V}, vs[i]? = some v → ∃ p lo hi, ds[i]? = some (p, lo, hi) ∧ Dm H v p lo hi := by
  induction h with
  | nil =>
    intro i v e
    simp at e
  | cons e _ ih =>
    intro i v q
    cases i with
    | zero =>
      cases q
      exact ⟨_, _, _, rfl, e⟩
    | succ i => exact ih q
theorem Dms.append {H : Hp} {vs us : List V} {ds es : List (Int × Int × Int)} (h : Dms H vs ds) (h2 : Dms H us es) : Dms H (vs ++ us) (ds ++ es) := by
  induction h with
  | nil => exact h2
  | cons e _ ih => exact .cons e ih
theorem Dms.snoc {H : Hp} {vs : List V} {ds : List (Int × Int × Int)} {v : V} {p lo hi : Int} (h : Dms H vs ds) (e : Dm H v p lo hi) : Dms H (vs ++ [v]) (ds ++ [(p, lo, hi)]) := h.append (.cons e .nil)
theorem Dms.take {H : Hp} {vs : List V} {ds : List (Int × Int × Int)} (h : Dms H vs ds) : ∀ n : Nat, Dms H (vs.take n) (ds.take n) := by
  induction h with
  | nil =>
    intro n
    rw [List.take_nil, List.take_nil]
    exact .nil
  | cons e _ ih =>
    intro n
    cases n with
    | zero => exact .nil
    | succ n => exact .cons e (ih n)
theorem Dms.reverse {H : Hp} {vs : List V} {ds : List (Int × Int × Int)} (h : Dms H vs ds) : Dms H vs.reverse ds.reverse := by
  induction h with
  | nil => exact .nil
  | cons e _ ih =>
    rw [List.reverse_cons, List.reverse_cons]
    exact ih.snoc e
theorem Dms.isEmpty {H : Hp} {vs : List V} {ds : List (Int × Int × Int)} (h : Dms H vs ds) : vs.isEmpty = ds.isEmpty := by
  cases h <;> rfl
theorem Dms.ok {H : Hp} {vs : List V} {ds : List (Int × Int × Int)} (h : Dms H vs ds) : ∀ q ∈ ds, q.2.1 ≤ q.1 ∧ q.1 ≤ q.2.2 := by
  induction h with
  | nil =>
    intro q hq
    cases hq
  | cons e _ ih =>
    intro q hq
    rcases List.mem_cons.mp hq with rfl | hq
    · exact ⟨e.low, e.high⟩
    · exact ih q hq
/-! ### comprehensions over a range that draw -/
theorem lcK {d c : Addr} {n0 per : Int} {lo : Int} {n : Nat} {g : TG} {tt : TT} {te : TE} {vs : List Nat} {σ : L2.St} {H1 : Hp} {D : Addr} {Qd : Hp → Prop} (R : Nat → Hp → List V → Prop) (nD : H1 D = none) (dk : Dk H1 d c n0) (few : n < 1000)
    (mono : ∀ i H' H'' ws, Tps H' H'' → R i H' ws → R i H'' ws) (len : ∀ i H' ws, R i H' ws → ws.length ≤ i) (r0 : ∀ H', R 0 H' [])
    (hs : ∀ i H' (N : Hp → Prop) acc, i < n → Kp d c H1 H' → Dk H' d c (n0 + per * i) → H' D = some (.lst acc) → R i H' acc → (∀ H'' y, Kp d c H' H'' → Dk H'' d c (n0 + per * i + per) → R (i + 1) H'' (acc ++ [y]) → ∃ acc', H'' D = some (.lst acc') ∧ acc'.length < sizeLine ∧ N (upd H'' D (.lst (acc' ++ [y])))) →
      g (.int (lo + i)) (wipe σ vs) H' fun σ2 H2 => wipe σ2 vs = wipe σ vs ∧ tt σ2 H2 fun b H3 => if b = true then te σ2 H3 fun y H4 => ∃ acc, H4 D = some (.lst acc) ∧ acc.length < sizeLine ∧ N (upd H4 D (.lst (acc ++ [y]))) else N H3)
    (hd : ∀ H' ws, Kp d c H1 H' → Dk H' d c (n0 + per * n) → H' D = some (.lst ws) → R n H' ws → Qd H') :
    ∃ W : Nat → Nat → Hp → Prop, (∃ m, W 0 m (upd H1 D (.lst []))) ∧ ∀ i m H, W i m H →
      ((Itr lo n).stop i H ∧ Qd H) ∨ ((Itr lo n).go i H ∧ ∃ Nx : Hp → Prop, (∀ H', Nx H' → ∃ m', m' < m ∧ W (i + 1) m' H') ∧ ∀ x H', (Itr lo n).yld i H x H' → g x (wipe σ vs) H' fun σ2 H2 => wipe σ2 vs = wipe σ vs ∧ tt σ2 H2 fun b H3 =>
        if b = true then te σ2 H3 fun y H4 => ∃ acc, H4 D = some (.lst acc) ∧ acc.length < sizeLine ∧ Nx (upd H4 D (.lst (acc ++ [y]))) else Nx H3) := by
  have off := dk.off nD
  refine lc_range (lo := lo) (n := n) (fun i H' => Kp d c H1 H' ∧ Dk H' d c (n0 + per * i) ∧ ∃ ws, H' D = some (.lst ws) ∧ R i H' ws) ⟨Kp.same (same_new nD), (dk.upd off).eq (by simp), [], upd_same, r0 _⟩ ?_ ?_
  · rintro i H' hi ⟨kp, dk', ws, eD, r⟩
    have lw := len i H' ws r
    have sz : ws.length < sizeLine := few_line (by omega)
    refine hs i H' _ ws hi kp dk' eD r (fun H'' y kp2 dk2 r2 => ?_)
    have eD2 := kp2.keep off eD
    refine ⟨ws, eD2, sz, fun b o n1 n2 e => ?_, (dk2.upd off).eq ?_, _, upd_same, mono _ _ _ _ (Tps.lst eD2) r2⟩
    · rw [upd_ne (ne_of_none e nD)]
      exact kp2 b o n1 n2 (kp b o n1 n2 e)
    · rw [Int.natCast_succ, Int.mul_add, Int.mul_one]
      omega
  · rintro H' ⟨kp, dk', ws, eD, r⟩
    exact hd H' ws kp dk' eD r

theorem Ivs.tps {H H' : Hp} (s : Tps H H') {vs : List V} {ps : List (Int × Int)} (h : Ivs H vs ps) : Ivs H' vs ps := by
  induction h with
  | nil => exact .nil
  | cons e _ ih => exact .cons (s _ _ e) ih
theorem Ivs.append {H : Hp} {vs us : List V} {ps qs : List (Int × Int)} (h : Ivs H vs ps) (h2 : Ivs H us qs) : Ivs H (vs ++ us) (ps ++ qs) := by
  induction h with
  | nil => exact h2
  | cons e _ ih => exact .cons e ih
theorem Ivs.isEmpty {H : Hp} {vs : List V} {ps : List (Int × Int)} (h : Ivs H vs ps) : vs.isEmpty = ps.isEmpty := by
  cases h <;> rfl

/-! ### sorted(set(pairs)) -/
def ltP (a b : Int × Int) : Prop := a.1 < b.1 ∨ (a.1 = b.1 ∧ a.2 < b.2)
def prL (q : Int × Int) : List Int := [q.1, q.2]
theorem prL_inj {a b : Int × Int} (h : prL a = prL b) : a = b := by
  unfold prL at h
  cases a
  cases b
  simp at h
  rw [h.1, h.2]
theorem mem_prL {q : Int × Int} {ps : List (Int × Int)} : prL q ∈ ps.map prL ↔ q ∈ ps := by
  rw [List.mem_map]
  exact ⟨fun ⟨a, ha, e⟩ => prL_inj e ▸ ha, fun h => ⟨q, h, rfl⟩⟩
theorem Ivs.keys {H : Hp} {us : List V} {ps : List (Int × Int)} (h : Ivs H us ps) : ∃ ks : List (Addr × List Int), us = ks.map (fun p => V.ref p.1) ∧ ks.map (·.2) = ps.map prL ∧ ∀ p ∈ ks, ∃ x y : Int, p.2 = [x, y] ∧ H p.1 = some (.tup [.int x, .int y]) := by
  induction h with
  | nil => exact ⟨[], rfl, rfl, fun p hp => nomatch hp⟩
  | cons e _ ih =>
    obtain ⟨ks, e1, e2, e3⟩ := ih
    refine ⟨(_, [_, _]) :: ks, by rw [List.map_cons, e1], by rw [List.map_cons, List.map_cons, e2]; rfl, fun p hp => ?_⟩
    rcases List.mem_cons.mp hp with rfl | hp
    · exact ⟨_, _, rfl, e⟩
    · exact e3 p hp
theorem Ivs.ofKeys {H : Hp} : ∀ {L : List (Addr × List Int)}, (∀ p ∈ L, ∃ x y : Int, p.2 = [x, y] ∧ H p.1 = some (.tup [.int x, .int y])) → ∃ ps, Ivs H (L.map fun p => V.ref p.1) ps ∧ L.map (·.2) = ps.map prL
  | [], _ => ⟨[], .nil, rfl⟩
  | p :: L, h => by
    obtain ⟨x, y, e, e1⟩ := h p List.mem_cons_self
    obtain ⟨ps, i, e2⟩ := Ivs.ofKeys (L := L) fun q hq => h q (List.mem_cons_of_mem _ hq)
    exact ⟨(x, y) :: ps, .cons e1 i, by rw [List.map_cons, List.map_cons, e2, e]; rfl⟩
theorem Ivs.tpsMem {H : Hp} {us : List V} {ps : List (Int × Int)} (h : Ivs H us ps) {q : Int × Int} (hq : q ∈ ps) : ∃ a, V.ref a ∈ us ∧ H a = some (.tup [.int q.1, .int q.2]) := by
  induction h with
  | nil => cases hq
  | cons e _ ih =>
    rcases List.mem_cons.mp hq with rfl | hq
    · exact ⟨_, List.mem_cons_self, e⟩
    · obtain ⟨a, h1, h2⟩ := ih hq
      exact ⟨a, List.mem_cons_of_mem _ h1, h2⟩
theorem sorted_keys {K : PySem.W.Frag} {P : Program} {w : World} {H : Hp} {ps : List (Int × Int)} {Q : VK} {ks L : List (Addr × List Int)} {a : Addr} (e2 : ks.map (·.2) = ps.map prL) (e3 : ∀ p ∈ ks, ∃ x y : Int, p.2 = [x, y] ∧ H p.1 = some (.tup [.int x, .int y])) (na : H a = none) (h1 : ∀ p ∈ L, p ∈ ks) (h2 : ∀ p ∈ ks, p.2 ∈ L.map (·.2)) (bd : ∀ q ∈ ps, (0 ≤ q.1 ∧ q.1 < 10 ^ 13) ∧ 0 ≤ q.2 ∧ q.2 < 10 ^ 13)
    (fin : ∀ H' p us' ps', Same H H' → H p = none → H' p = some (.lst us') → Ivs H' us' ps' → ps'.Pairwise ltP → (∀ q, q ∈ ps' ↔ q ∈ ps) → Q (.ref p) H') :
    rSortedT K P w [.ref a] (upd H a (SetTO P w a L)) Q := by
  have s1 : Same H (upd H a (SetTO P w a L)) := same_new na
  refine ⟨a, L, 2, 10 ^ 13, rfl, upd_same, fun p hp => ?_, by decide, fun p hp => ?_, fun L' p pm nd fw pw np => ?_⟩
  · obtain ⟨x, y, e, e1⟩ := e3 p (h1 p hp)
    rw [e]
    exact SqT.of (s1 _ _ e1)
  · have m : p.2 ∈ ks.map (·.2) := List.mem_map.mpr ⟨p, h1 p hp, rfl⟩
    rw [e2] at m
    obtain ⟨q, hq, e⟩ := List.mem_map.mp m
    have b := bd q hq
    rw [← e]
    refine ⟨rfl, fun m hm => ?_⟩
    unfold prL at hm
    rcases List.mem_cons.mp hm with rfl | hm
    · exact b.1
    · rw [List.mem_singleton.mp hm]
      exact b.2
  · have s2 : Same (upd H a (SetTO P w a L)) (upd (upd H a (SetTO P w a L)) p (.lst (L'.map fun q => V.ref q.1))) := same_new np
    obtain ⟨ps', i, e4⟩ := Ivs.ofKeys (H := H) (L := L') fun q hq => e3 q (h1 q (pm.mem_iff.mp hq))
    have mem : ∀ q, q ∈ ps' ↔ q ∈ ps := fun q => by
      rw [← mem_prL, ← e4, ← mem_prL (ps := ps), ← e2, (pm.map (·.2)).mem_iff]
      constructor
      · intro h
        obtain ⟨p, hp, e⟩ := List.mem_map.mp h
        exact List.mem_map.mpr ⟨p, h1 p hp, e⟩
      · intro h
        obtain ⟨p, hp, e⟩ := List.mem_map.mp h
        rw [← e]
        exact h2 p hp
    refine fin _ p _ ps' (s1.trans s2) (s1.free np) upd_same (i.same (s1.trans s2)) ?_ mem
    have pw2 : (L'.map (·.2)).Pairwise (fun q r => TS.code (10 ^ 13) q ≤ TS.code (10 ^ 13) r) := List.pairwise_map.mpr pw
    have both := pw2.and nd
    rw [e4] at both
    refine (List.pairwise_map.mp both).imp_of_mem fun {x y} hx hy h => ?_
    have bx := bd x ((mem x).mp hx)
    have bY := bd y ((mem y).mp hy)
    have tb : ∀ {z : Int × Int}, ((0 ≤ z.1 ∧ z.1 < 10 ^ 13) ∧ 0 ≤ z.2 ∧ z.2 < 10 ^ 13) → TS.Bd (10 ^ 13) [z.1, z.2] := fun b m hm => by
      rcases List.mem_cons.mp hm with rfl | hm
      · exact b.1
      · rw [List.mem_singleton.mp hm]
        exact b.2
    rcases code_lex (tb bx) (tb bY) h.1 with c | ⟨c1, c2⟩
    · exact .inl c
    · refine .inr ⟨c1, ?_⟩
      rcases Int.lt_or_eq_of_le c2 with z | z
      · exact z
      · exact absurd (show prL x = prL y by unfold prL; rw [c1, z]) h.2
theorem sorted_set_pairs {K : PySem.W.Frag} {P : Program} {w : World} {H : Hp} {l : Addr} {us : List V} {ps : List (Int × Int)} {Q : VK} (hl : SqL K H l us) (iv : Ivs H us ps) (few : ps.length < 64) (bd : ∀ q ∈ ps, (0 ≤ q.1 ∧ q.1 < 10 ^ 13) ∧ 0 ≤ q.2 ∧ q.2 < 10 ^ 13)
    (fin : ∀ H' p us' ps', Same H H' → H p = none → H' p = some (.lst us') → Ivs H' us' ps' → ps'.Pairwise ltP → (∀ q, q ∈ ps' ↔ q ∈ ps) → Q (.ref p) H') :
    rSetOfT K P w [.ref l] H (fun x H1 => rSortedT K P w [x] H1 Q) := by
  obtain ⟨ks, rfl, e2, e3⟩ := iv.keys
  have lk : ks.length = ps.length := by
    have z := congrArg List.length e2
    rw [List.length_map, List.length_map] at z
    exact z
  refine ⟨l, ks, rfl, hl, fun p hp => ?_, by omega, fun a L na h1 h2 => ?_⟩
  · obtain ⟨x, y, e, e1⟩ := e3 p hp
    rw [e]
    exact SqT.of e1
  exact sorted_keys e2 e3 na h1 h2 bd fin
/-- drawn intervals: ascending, of the line -/
structure Row (ls : List Int) (ps : List (Int × Int)) : Prop where
  asc : ps.Pairwise ltP
  ok : ∀ q ∈ ps, (q.1 ∈ ls ∧ q.2 ∈ ls) ∧ q.1 ≤ q.2
def sp_law_intervals : Sp := fun vs H Q _ => ∃ (d c l : Addr) (n most : Int) (ls : List Int), vs = [.ref d, .ref l, .int most] ∧ Dk H d c n ∧ 0 ≤ n ∧ n < 999000 ∧ (l ≠ d ∧ l ≠ c) ∧ H l = some (.lst (ls.map V.int)) ∧ 0 < ls.length ∧ ls.length ≤ 100 ∧ Ln ls ∧ 0 ≤ most ∧ most ≤ 30 ∧
  ∀ H' t us ps m, Kp d c H H' → Dk H' d c m → n ≤ m → m ≤ n + 1 + 2 * most → H' t = some (.tup us) → Ivs H' us ps → Row ls ps → (ps.length : Int) ≤ most → Q (.ref t) H'
theorem ok_law_intervals (T : Tx K mg f_is_number f_is_position f_is_tuple_of f_is_interval f_has_position f_is_demand f_conflict f_is_independent f_law_deck f_law_draw f_law_line f_law_interval f_law_intervals f_law_demand f_law_conflict f_law_starts f_law_demands f_law_independent f_law_odd f_law_replaced f_law_is_demand f_law_due f_law_values f_law d_is_number d_is_position d_is_tuple_of d_is_interval d_has_position d_is_demand d_conflict d_is_independent d_law_deck d_law_draw d_law_line d_law_interval d_law_intervals d_law_demand d_law_conflict d_law_starts d_law_demands d_law_independent d_law_odd d_law_replaced d_law_is_demand d_law_due d_law_values d_law t_LAST_POSITION) : FnOk P w K mg base CX0 3 f_law_intervals d_law_intervals ["_law_deck_here", "_law_line_here", "_law_most"] sp_law_intervals := by
  refine T.F_law_intervals.ok sc_law_intervals (fun vs H Q E h => ?_) (fun cdv A outer s H vs Q E hr h => ?_)
  · obtain ⟨d, c, l, n, most, ls, rfl, _⟩ := h
    rfl
  · obtain ⟨d, c, l, n, most, ls, rfl, dk, n0, n1, off, el, ln0, ln1, ln, m0, m1, q⟩ := h
    refine ⟨_, (pss_cons (ps_setLc (i := 3) (own := [("_law_k", 4)]) (g := (gName 4)) (tt := tYes) (by rfl) sc_law_intervals.nd rfl rfl (sw_true rfl rfl rfl (by decide +kernel)) (pi_range1 (by rfl) T.z_range (pa_cons (pe_call (ok_law_draw T) (hr.mono (by decide)) (by rfl) T.g_law_draw T.F_law_draw.kp T.b_law_draw .nil pass0 (pa_cons (pv 0) (pa_cons (pe_op op_add (pv 2) pe_int) pa_nil))) pa_nil)) (blkOk_by (own := [("_law_k", 4)]) (N := N_law_intervals) (sc := defScope s_law_intervals) (by decide +kernel)) (fun _ _ _ _ _ => (pg_name (i := 4) sc_law_intervals.nd rfl (Or.inl rfl))) (fun _ _ _ _ _ => pts_nil) (fun _ _ _ _ _ => (pe_call (ok_law_interval T) (hr.mono (by decide)) (by rfl) T.g_law_interval T.F_law_interval.kp T.b_law_interval .nil pass0 (pa_cons (pv 0) (pa_cons (pv 1) pa_nil)))))
      (pss_one (ps_ret (pe_callTy call_tuple_of (by rfl) T.z_tuple (by decide +kernel) (pa_cons (pe_callB (cr_sortedT rfl) (by rfl) T.z_sorted (by decide +kernel) (pa_cons (pe_callTy (cr_setOfT rfl hr.units) (by rfl) T.z_set (by decide +kernel) (pa_cons (pv 3) pa_nil)) pa_nil)) pa_nil))))), ?_⟩
    refine ⟨.ref d, rfl, .int most, rfl, _, _, rfl, rfl, d, c, n, most + 1, rfl, dk, n0, by omega, by omega, by omega, fun H1 r kp1 dk1 r0 r1 => ?_⟩
    have el1 := kp1.keep off el
    refine ⟨r, rfl, by omega, by omega, fun D nD => ?_⟩
    refine lcK (d := d) (c := c) (per := 2) (n0 := n + 1) (lo := 0) (n := r.toNat) (fun j H' ws => ∃ ps, Ivs H' ws ps ∧ ps.length = j ∧ ∀ q ∈ ps, (q.1 ∈ ls ∧ q.2 ∈ ls) ∧ q.1 ≤ q.2) nD dk1 (by omega) (fun _ _ _ _ t ⟨ps, h1, h2⟩ => ⟨ps, h1.tps t, h2⟩) (fun j H' ws ⟨ps, h1, h2, _⟩ => by rw [h1.length, h2]; exact Nat.le_refl _) (fun _ => ⟨[], .nil, rfl, fun q hq => nomatch hq⟩) ?_ ?_
    · rintro j H' N acc hj kp' dk' eD ⟨ps, iv, pl, pin⟩ yes
      refine ⟨rfl, .ref d, rfl, .ref l, rfl, d, c, l, _, ls, rfl, dk', by omega, by omega, off, kp'.keep off el1, by omega, by omega, fun H6 lo hi t kp6 dk6 mlo mhi lh nt et => ?_⟩
      refine yes H6 _ kp6 dk6 ⟨ps ++ [(lo, hi)], (iv.tps (kp6.tps dk')).snoc et, by rw [List.length_append, pl]; rfl, fun q hq => ?_⟩
      rcases List.mem_append.mp hq with hq | hq
      · exact pin q hq
      · rw [List.mem_singleton.mp hq]
        exact ⟨⟨mlo, mhi⟩, lh⟩
    · rintro H6 ws kp6 dk6 eD ⟨ps, iv, pl, pin⟩
      refine ⟨.ref D, rfl, ?_⟩
      dsimp only [tNil]
      refine sorted_set_pairs (SqL.of eD) iv (by omega) (fun q hq => ?_) (fun H7 p us' ps' s7 np ep iv' asc mem => ?_)
      · have h := pin q hq
        have h1 := ln.ok _ h.1.1
        have h2 := ln.ok _ h.1.2
        omega
      · refine ⟨p, us', rfl, .inl ⟨SqL.of ep, fun t nt => ?_⟩⟩
        have s8 := same_new (o := .tup us') nt
        have nd : ps'.length ≤ ps.length := by
          have ndp : ps'.Nodup := asc.imp fun {a b} h e => by
            subst e
            rcases h with h | h <;> omega
          exact nodup_le ndp fun x hx => (mem x).mp hx
        refine q _ t us' ps' _ (kp1.trans (kp6.trans (Kp.same (s7.trans s8)))) (dk6.kept (s7.trans s8)) (by omega) (by omega) upd_same (iv'.same s8) ⟨asc, fun q hq => pin q ((mem q).mp hq)⟩ (by omega)

/-! ### has_position -/
def inI (x y u v : Int) : Bool := decide (x ≤ u) && decide (v ≤ y)
def atP (x y p : Int) : Bool := decide (x ≤ p) && decide (p ≤ y)
def svI (x y p lo hi : Int) : Bool := inI lo hi x y && atP x y p
def sp_has_position : Sp := fun vs H Q _ => ∃ (a : Addr) (x y p : Int), vs = [.ref a, .int p] ∧ H a = some (.tup [.int x, .int y]) ∧ Q (.bl (atP x y p)) H
theorem ok_has_position (T : Tx K mg f_is_number f_is_position f_is_tuple_of f_is_interval f_has_position f_is_demand f_conflict f_is_independent f_law_deck f_law_draw f_law_line f_law_interval f_law_intervals f_law_demand f_law_conflict f_law_starts f_law_demands f_law_independent f_law_odd f_law_replaced f_law_is_demand f_law_due f_law_values f_law d_is_number d_is_position d_is_tuple_of d_is_interval d_has_position d_is_demand d_conflict d_is_independent d_law_deck d_law_draw d_law_line d_law_interval d_law_intervals d_law_demand d_law_conflict d_law_starts d_law_demands d_law_independent d_law_odd d_law_replaced d_law_is_demand d_law_due d_law_values d_law t_LAST_POSITION) : FnOk P w K mg base CX0 1 f_has_position d_has_position ["interval", "position"] sp_has_position := by
  refine T.F_has_position.ok sc_has_position (fun vs H Q E h => ?_) (fun cdv A outer s H vs Q E hr h => ?_)
  · obtain ⟨a, x, y, p, rfl, _⟩ := h
    rfl
  · obtain ⟨a, x, y, p, rfl, ha, q⟩ := h
    refine ⟨_, (pss_one (ps_ret (pe_chain op_le op_le (pe_ix ix_tup (pv 0) pe_int (fun _ _ => rfl)) (pv 1) (pe_ix ix_tup (pv 0) pe_int (fun _ _ => rfl))))), ?_⟩
    unfold atP at q
    refine ⟨.ref a, rfl, a, _, 0, .int x, rfl, rfl, SqT.of ha, rfl, .int p, rfl, _, _, rfl, rfl, _, rfl, ite2 (fun e => ?_) (fun e => ?_)⟩
    · refine ⟨.ref a, rfl, a, _, 1, .int y, rfl, rfl, SqT.of ha, rfl, _, _, rfl, rfl, ?_⟩
      rw [e] at q
      exact q
    · rw [Bool.not_eq_true] at e
      rw [e] at q
      exact q

def strI (f s : Int) (p : Int × Int) : Int × Int := (p.1 * f + s, p.2 * f + f - 1 + s)

/-! ### tuples joined and cut, whichever object comes out -/
theorem catA_any {K : PySem.W.Frag} {H : Hp} {a b : Addr} {xs ys : List V} {Q : VK} (h1 : H a = some (.tup xs)) (h2 : H b = some (.tup ys)) (sz : xs.length + ys.length ≤ sizeLine) (k : ∀ H' p, Same H H' → H' p = some (.tup (xs ++ ys)) → Q (.ref p) H') : rCatA K (.ref a) (.ref b) H Q := by
  refine ⟨a, b, xs, ys, rfl, rfl, SqT.of h1, SqT.of h2, sz, fun e => k H b (Same.refl _) ?_, fun _ e => k H a (Same.refl _) ?_, fun _ _ p np => k _ p (same_new np) upd_same⟩
  · rw [e]
    exact h2
  · rw [e, List.append_nil]
    exact h1
theorem slA_any {K : PySem.W.Frag} {H : Hp} {a : Addr} {xs : List V} {lo hi : Option Int} {Q : VK} (h1 : H a = some (.tup xs)) (k : ∀ H' p, Same H H' → H' p = some (.tup (cutV xs lo hi)) → Q (.ref p) H') : rSlA K (.ref a) lo hi H Q := by
  refine ⟨a, xs, rfl, SqT.of h1, fun e => k H a (Same.refl _) ?_, fun _ p np => k _ p (same_new np) upd_same⟩
  have e2 : cutV xs lo hi = xs := by
    unfold cutV
    rw [e.1, e.2]
    simp
  rw [e2]
  exact h1
theorem Ivs.take {H : Hp} {vs : List V} {ps : List (Int × Int)} (h : Ivs H vs ps) : ∀ n : Nat, Ivs H (vs.take n) (ps.take n) := by
  induction h with
  | nil =>
    intro n
    rw [List.take_nil, List.take_nil]
    exact .nil
  | cons e _ ih =>
    intro n
    cases n with
    | zero => exact .nil
    | succ n => exact .cons e (ih n)

theorem cutFrom (xs : List V) (j : Nat) : cutV xs (some (j : Int)) none = xs.drop j := by
  unfold cutV
  rw [show HT.sIx xs.length 0 (some (j : Int)) = min j xs.length from HT.sIx_nat xs.length 0 j, HT.sIx_none]
  rcases Nat.le_total j xs.length with h | h
  · rw [Nat.min_eq_left h]
    exact List.take_of_length_le (by rw [List.length_drop]; exact Nat.le_refl _)
  · rw [Nat.min_eq_right h, List.drop_of_length_le (Nat.le_refl _), List.drop_of_length_le h]
    exact List.take_nil

/-! ### what a value is -/
def tyD : PyData → String
  | .none => "NoneType"
  | .bool _ => "bool"
  | .int _ => "int"
  | .str _ => "str"
  | .list _ => "list"
  | .tuple _ => "tuple"
  | .dict _ => "dict"
theorem Dv.ty {K : PySem.W.Frag} {H : Hp} {v : V} {d : PyData} (h : Dv K H v d) : TyX K H v (.type (tyD d)) := by
  cases h with
  | non => exact .base .non
  | bl b => exact .base (.bl b)
  | int i => exact .base (.int i)
  | str x => exact .base (.str x)
  | lst e _ => exact .base (.lst e)
  | tup e _ => exact .base (.tup e)
  | dic e _ => exact .base (.dK e)
def intB : PyData → Bool
  | .bool _ => true
  | .int _ => true
  | _ => false
def boolB : PyData → Bool
  | .bool _ => true
  | _ => false
def tupB : PyData → Bool
  | .tuple _ => true
  | _ => false
theorem kit_int {K : PySem.W.Frag} (d : PyData) : PySem.W.kitOne K (.type (tyD d)) (.type "int") = some (intB d) := by
  cases d with
  | none => exact kit_ty (a := "NoneType") (b := "int") (r := false) (by decide +kernel)
  | bool _ => exact kit_ty (a := "bool") (b := "int") (r := true) (by decide +kernel)
  | int _ => exact kit_ty (a := "int") (b := "int") (r := true) (by decide +kernel)
  | str _ => exact kit_ty (a := "str") (b := "int") (r := false) (by decide +kernel)
  | list _ => exact kit_ty (a := "list") (b := "int") (r := false) (by decide +kernel)
  | tuple _ => exact kit_ty (a := "tuple") (b := "int") (r := false) (by decide +kernel)
  | dict _ => exact kit_ty (a := "dict") (b := "int") (r := false) (by decide +kernel)
theorem kit_bool {K : PySem.W.Frag} (d : PyData) : PySem.W.kitOne K (.type (tyD d)) (.type "bool") = some (boolB d) := by
  cases d with
  | none => exact kit_ty (a := "NoneType") (b := "bool") (r := false) (by decide +kernel)
  | bool _ => exact kit_ty (a := "bool") (b := "bool") (r := true) (by decide +kernel)
  | int _ => exact kit_ty (a := "int") (b := "bool") (r := false) (by decide +kernel)
  | str _ => exact kit_ty (a := "str") (b := "bool") (r := false) (by decide +kernel)
  | list _ => exact kit_ty (a := "list") (b := "bool") (r := false) (by decide +kernel)
  | tuple _ => exact kit_ty (a := "tuple") (b := "bool") (r := false) (by decide +kernel)
  | dict _ => exact kit_ty (a := "dict") (b := "bool") (r := false) (by decide +kernel)
theorem kit_tup {K : PySem.W.Frag} (d : PyData) : PySem.W.kitOne K (.type (tyD d)) (.type "tuple") = some (tupB d) := by
  cases d with
  | none => exact kit_ty (a := "NoneType") (b := "tuple") (r := false) (by decide +kernel)
  | bool _ => exact kit_ty (a := "bool") (b := "tuple") (r := false) (by decide +kernel)
  | int _ => exact kit_ty (a := "int") (b := "tuple") (r := false) (by decide +kernel)
  | str _ => exact kit_ty (a := "str") (b := "tuple") (r := false) (by decide +kernel)
  | list _ => exact kit_ty (a := "list") (b := "tuple") (r := false) (by decide +kernel)
  | tuple _ => exact kit_ty (a := "tuple") (b := "tuple") (r := true) (by decide +kernel)
  | dict _ => exact kit_ty (a := "dict") (b := "tuple") (r := false) (by decide +kernel)
def inB (lo hi : Int) : PyData → Bool
  | .int i => decide (lo ≤ i) && decide (i ≤ hi)
  | _ => false
def leB : PyData → PyData → Bool
  | .int x, .int y => decide (x ≤ y)
  | _, _ => false
def ivB : PyData → Bool
  | .tuple [a, b] => inB 0 1000000000000 a && (inB 0 1000000000000 b && leB a b)
  | _ => false
theorem Dv.asInt {K : PySem.W.Frag} {H : Hp} {v : V} {i : Int} (h : Dv K H v (.int i)) : v = .int i := by
  cases h
  rfl
theorem dv_same {K : PySem.W.Frag} {H H' : Hp} (s : Same H H') {v : V} {d : PyData} (h : Dv K H v d) : Dv K H' v d :=
  Dv.rec (K := K) (H := H) (motive_1 := fun v d _ => Dv K H' v d) (motive_2 := fun vs ds _ => DvAll K H' vs ds) .non (fun b => .bl b) (fun i => .int i) (fun x => .str x) (fun e _ q => .lst (s _ _ e) q) (fun e _ q => .tup (s _ _ e) q) (fun e _ q => .dic (s _ _ e) q) .nil (fun _ _ a b => .cons a b) h
theorem dvAll_same {K : PySem.W.Frag} {H H' : Hp} (s : Same H H') : ∀ {vs : List V} {ds : List PyData}, DvAll K H vs ds → DvAll K H' vs ds
  | _, _, .nil => .nil
  | _, _, .cons a b => .cons (dv_same s a) (dvAll_same s b)
theorem DvAll.get {K : PySem.W.Frag} {H : Hp} : ∀ {vs : List V} {ds : List PyData}, DvAll K H vs ds → ∀ {i : Nat} {v : V}, vs[i]? = some v → ∃ d, ds[i]? = some d ∧ Dv K H v d
  | _, _, .nil, _, _, e => by simp at e
  | _, _, .cons a b, 0, _, e => by
    cases e
    exact ⟨_, rfl, a⟩
  | _, _, .cons a b, i + 1, _, e => b.get (i := i) e
theorem DvAll.append {K : PySem.W.Frag} {H : Hp} : ∀ {vs us : List V} {ds es : List PyData}, DvAll K H vs ds → DvAll K H us es → DvAll K H (vs ++ us) (ds ++ es)
  | _, _, _, _, .nil, h => h
  | _, _, _, _, .cons a b, h => .cons a (b.append h)
theorem Dv.dp {K : PySem.W.Frag} {H : Hp} {v : V} {d : PyData} (h : Dv K H v d) : d.canLay0 = true → Dp K H v d := by
  refine Dv.rec (K := K) (H := H) (motive_1 := fun v d _ => d.canLay0 = true → Dp K H v d) (motive_2 := fun vs ds _ => PyData.canLayAll0 ds = true → DpAll K H vs ds) (fun _ => .non) (fun b _ => .bl b) (fun i _ => .int i) (fun x _ => .str x) (fun e _ q z => .lst (SqL.of e) (q z)) (fun e _ q z => .tup (SqT.of e) (q z)) (fun _ _ _ z => ?_) (fun _ => .nil) (fun _ _ a b z => ?_) h
  · cases z
  · have z' := Bool.and_eq_true_iff.mp z
    exact .cons (a z'.1) (b z'.2)
/-- a value that may be asked whether it is an interval: what stands in it, if it is a tuple, has no dicts -/
def PlainT (d : PyData) : Prop := ∀ ds, d = .tuple ds → PyData.canLayAll0 ds = true ∧ PyData.depthAll ds ≤ 60

/-! ### the program's own -/
def sp_is_number (K : PySem.W.Frag) : Sp := fun vs H Q _ => ∃ (v : V) (d : PyData), vs = [v] ∧ Dv K H v d ∧ Q (.bl (intB d && !boolB d)) H
theorem ok_is_number (T : Tx K mg f_is_number f_is_position f_is_tuple_of f_is_interval f_has_position f_is_demand f_conflict f_is_independent f_law_deck f_law_draw f_law_line f_law_interval f_law_intervals f_law_demand f_law_conflict f_law_starts f_law_demands f_law_independent f_law_odd f_law_replaced f_law_is_demand f_law_due f_law_values f_law d_is_number d_is_position d_is_tuple_of d_is_interval d_has_position d_is_demand d_conflict d_is_independent d_law_deck d_law_draw d_law_line d_law_interval d_law_intervals d_law_demand d_law_conflict d_law_starts d_law_demands d_law_independent d_law_odd d_law_replaced d_law_is_demand d_law_due d_law_values d_law t_LAST_POSITION) : FnOk P w K mg base CX0 1 f_is_number d_is_number ["value"] (sp_is_number K) := by
  refine T.F_is_number.ok sc_is_number (fun vs H Q E h => ?_) (fun cdv A outer s H vs Q E hr h => ?_)
  · obtain ⟨v, d, rfl, _⟩ := h
    rfl
  · obtain ⟨v, d, rfl, hd, q⟩ := h
    refine ⟨_, (pss_one (ps_ret (pe_and (pe_callB call_isi (by rfl) T.z_isinstance (by decide +kernel) (pa_cons (pv 0) (pa_cons (pe_bltn (v := .ty "int") (u := .type "int") (by rfl) T.z_int (by decide +kernel) rfl) pa_nil))) (pe_one (pe_not (pe_callB call_isi (by rfl) T.z_isinstance (by decide +kernel) (pa_cons (pv 0) (pa_cons (pe_bltn (v := .ty "bool") (u := .type "bool") (by rfl) T.z_bool (by decide +kernel) rfl) pa_nil)))))))), ?_⟩
    refine ⟨v, rfl, v, .ty "int", _, _, _, rfl, .ty "int", hd.ty, kit_int d, _, rfl, ite2 (fun e => ?_) (fun e => ?_)⟩
    · refine ⟨v, rfl, v, .ty "bool", _, _, _, rfl, .ty "bool", hd.ty, kit_bool d, _, rfl, ?_⟩
      rw [e] at q
      exact q
    · rw [Bool.not_eq_true] at e
      rw [e] at q
      exact q
theorem num_int {d : PyData} (h : (intB d && !boolB d) = true) : ∃ i, d = .int i := by
  cases d with
  | int i => exact ⟨i, rfl⟩
  | _ => exact (Bool.false_ne_true h).elim
theorem num_no {d : PyData} {lo hi : Int} (h : (intB d && !boolB d) = false) : inB lo hi d = false := by
  cases d with
  | int i => exact Bool.noConfusion (show true = false from h)
  | _ => rfl
def sp_is_position (K : PySem.W.Frag) : Sp := fun vs H Q _ => ∃ (v : V) (d : PyData), vs = [v] ∧ Dv K H v d ∧ Q (.bl (inB 0 1000000000000 d)) H
theorem ok_is_position (T : Tx K mg f_is_number f_is_position f_is_tuple_of f_is_interval f_has_position f_is_demand f_conflict f_is_independent f_law_deck f_law_draw f_law_line f_law_interval f_law_intervals f_law_demand f_law_conflict f_law_starts f_law_demands f_law_independent f_law_odd f_law_replaced f_law_is_demand f_law_due f_law_values f_law d_is_number d_is_position d_is_tuple_of d_is_interval d_has_position d_is_demand d_conflict d_is_independent d_law_deck d_law_draw d_law_line d_law_interval d_law_intervals d_law_demand d_law_conflict d_law_starts d_law_demands d_law_independent d_law_odd d_law_replaced d_law_is_demand d_law_due d_law_values d_law t_LAST_POSITION) : FnOk P w K mg base CX0 2 f_is_position d_is_position ["value"] (sp_is_position K) := by
  refine T.F_is_position.ok sc_is_position (fun vs H Q E h => ?_) (fun cdv A outer s H vs Q E hr h => ?_)
  · obtain ⟨v, d, rfl, _⟩ := h
    rfl
  · obtain ⟨v, d, rfl, hd, q⟩ := h
    refine ⟨_, (pss_one (ps_ret (pe_and (pe_call (ok_is_number T) (hr.mono (by decide)) (by rfl) T.g_is_number T.F_is_number.kp T.b_is_number .nil pass0 (pa_cons (pv 0) pa_nil)) (pe_one (pe_chain op_le op_le pe_int (pv 0) (pe_glob (v := .int 1000000000000) (by rfl) T.c_LAST_POSITION ⟨_, rfl⟩)))))), ?_⟩
    refine ⟨v, rfl, v, d, rfl, hd, _, rfl, ite2 (fun e => ?_) (fun e => ?_)⟩
    · obtain ⟨i, rfl⟩ := num_int e
      have ev := hd.asInt
      subst ev
      refine ⟨.int i, rfl, _, _, rfl, rfl, _, rfl, ite2 (fun e2 => ?_) (fun e2 => ?_)⟩
      · refine ⟨_, _, rfl, rfl, ?_⟩
        have q' : Q (.bl (decide (0 ≤ i) && decide (i ≤ 1000000000000))) H := q
        rw [e2] at q'
        exact q'
      · have q' : Q (.bl (decide (0 ≤ i) && decide (i ≤ 1000000000000))) H := q
        rw [Bool.not_eq_true] at e2
        rw [e2] at q'
        exact q'
    · rw [Bool.not_eq_true] at e
      rw [num_no e] at q
      exact q
def sp_is_interval (K : PySem.W.Frag) : Sp := fun vs H Q _ => ∃ (v : V) (d : PyData), vs = [v] ∧ Dv K H v d ∧ Q (.bl (ivB d)) H
theorem iv_not {d : PyData} (h : tupB d = false) : ivB d = false := by
  cases d with
  | tuple ds => cases h
  | _ => rfl
def tlB (n : Int) : PyData → Bool
  | .tuple ds => decide ((ds.length : Int) = n)
  | _ => false
def sp_is_tuple_of (K : PySem.W.Frag) : Sp := fun vs H Q _ => ∃ (v : V) (d : PyData) (n : Int), vs = [v, .int n] ∧ Dv K H v d ∧ Q (.bl (tlB n d)) H
theorem tl_not {n : Int} {d : PyData} (h : tupB d = false) : tlB n d = false := by
  cases d with
  | tuple ds => cases h
  | _ => rfl
theorem ok_is_tuple_of (T : Tx K mg f_is_number f_is_position f_is_tuple_of f_is_interval f_has_position f_is_demand f_conflict f_is_independent f_law_deck f_law_draw f_law_line f_law_interval f_law_intervals f_law_demand f_law_conflict f_law_starts f_law_demands f_law_independent f_law_odd f_law_replaced f_law_is_demand f_law_due f_law_values f_law d_is_number d_is_position d_is_tuple_of d_is_interval d_has_position d_is_demand d_conflict d_is_independent d_law_deck d_law_draw d_law_line d_law_interval d_law_intervals d_law_demand d_law_conflict d_law_starts d_law_demands d_law_independent d_law_odd d_law_replaced d_law_is_demand d_law_due d_law_values d_law t_LAST_POSITION) : FnOk P w K mg base CX0 1 f_is_tuple_of d_is_tuple_of ["value", "length"] (sp_is_tuple_of K) := by
  refine T.F_is_tuple_of.ok sc_is_tuple_of (fun vs H Q E h => ?_) (fun cdv A outer s H vs Q E hr h => ?_)
  · obtain ⟨v, d, n, rfl, _⟩ := h
    rfl
  · obtain ⟨v, d, n, rfl, hd, q⟩ := h
    refine ⟨_, (pss_one (ps_ret (pe_and (pe_callB call_isi (by rfl) T.z_isinstance (by decide +kernel) (pa_cons (pv 0) (pa_cons (pe_bltn (v := .ty "tuple") (u := .type "tuple") (by rfl) T.z_tuple (by decide +kernel) rfl) pa_nil))) (pe_one (pe_cmpR op_eq (pe_callB call_len_seq (by rfl) T.z_len PySem.boot_len (pa_cons (pv 0) pa_nil)) (pv 1) (nomark _)))))), ?_⟩
    refine ⟨v, rfl, v, .ty "tuple", _, _, _, rfl, .ty "tuple", hd.ty, kit_tup d, _, rfl, ?_⟩
    cases tb : tupB d with
    | false =>
      refine iteF ?_
      rw [tl_not tb] at q
      exact q
    | true =>
      refine iteT ?_
      cases hd with
      | @tup a xs ds e all =>
        have len := all.length
        refine ⟨.ref a, rfl, a, xs, rfl, .inr (SqT.of e), .int n, rfl, rfl, ?_⟩
        have z : tlB n (.tuple ds) = decide (V.int (xs.length : Nat) = V.int n) := by
          show decide ((ds.length : Int) = n) = _
          rw [← len]
          by_cases y : ((xs.length : Nat) : Int) = n
          · rw [decide_eq_true y, decide_eq_true (by rw [y])]
          · rw [decide_eq_false y, decide_eq_false (fun z => y (V.int.inj z))]
        rw [z] at q
        exact q
      | _ => exact (Bool.false_ne_true tb).elim
theorem tl_two {d : PyData} (h : tlB 2 d = true) : ∃ a b, d = .tuple [a, b] := by
  match d, h with
  | .tuple [a, b], _ => exact ⟨a, b, rfl⟩
  | .tuple (x :: y :: z :: l), h =>
    have h' : ((x :: y :: z :: l).length : Int) = 2 := of_decide_eq_true (show decide (((x :: y :: z :: l).length : Int) = 2) = true from h)
    rw [List.length_cons, List.length_cons, List.length_cons] at h'
    omega
theorem iv_two {d : PyData} (h : ¬ tlB 2 d = true) : ivB d = false := by
  match d, h with
  | .tuple [a, b], h => exact absurd rfl h
  | .tuple [], _ => rfl
  | .tuple [_], _ => rfl
  | .tuple (_ :: _ :: _ :: l), _ => rfl
  | .none, _ => rfl
  | .bool _, _ => rfl
  | .int _, _ => rfl
  | .str _, _ => rfl
  | .list _, _ => rfl
  | .dict _, _ => rfl
theorem ok_is_interval (T : Tx K mg f_is_number f_is_position f_is_tuple_of f_is_interval f_has_position f_is_demand f_conflict f_is_independent f_law_deck f_law_draw f_law_line f_law_interval f_law_intervals f_law_demand f_law_conflict f_law_starts f_law_demands f_law_independent f_law_odd f_law_replaced f_law_is_demand f_law_due f_law_values f_law d_is_number d_is_position d_is_tuple_of d_is_interval d_has_position d_is_demand d_conflict d_is_independent d_law_deck d_law_draw d_law_line d_law_interval d_law_intervals d_law_demand d_law_conflict d_law_starts d_law_demands d_law_independent d_law_odd d_law_replaced d_law_is_demand d_law_due d_law_values d_law t_LAST_POSITION) : FnOk P w K mg base CX0 3 f_is_interval d_is_interval ["value"] (sp_is_interval K) := by
  refine T.F_is_interval.ok sc_is_interval (fun vs H Q E h => ?_) (fun cdv A outer s H vs Q E hr h => ?_)
  · obtain ⟨v, d, rfl, _⟩ := h
    rfl
  · obtain ⟨v, d, rfl, hd, q⟩ := h
    refine ⟨_, (pss_cons (ps_if (pt_not (pt_val (pe_call (ok_is_tuple_of T) (hr.mono (by decide)) (by rfl) T.g_is_tuple_of T.F_is_tuple_of.kp T.b_is_tuple_of .nil pass0 (pa_cons (pv 0) (pa_cons pe_int pa_nil)))))
      (pss_one (ps_ret pe_bl))
      pss_nil)
      (pss_cons (ps_asg (pv 0) (pg_tup rfl (pgs_cons (pg_name (i := 1) sc_is_interval.nd rfl (Or.inl rfl)) (pgs_cons (pg_name (i := 2) sc_is_interval.nd rfl (Or.inl rfl)) pgs_nil))))
      (pss_one (ps_ret (pe_and (pe_call (ok_is_position T) (hr.mono (by decide)) (by rfl) T.g_is_position T.F_is_position.kp T.b_is_position .nil pass0 (pa_cons (pv 1) pa_nil)) (pe_and (pe_call (ok_is_position T) (hr.mono (by decide)) (by rfl) T.g_is_position T.F_is_position.kp T.b_is_position .nil pass0 (pa_cons (pv 2) pa_nil)) (pe_one (pe_cmpR op_le (pv 1) (pv 2) (nomark _))))))))), ?_⟩
    refine ⟨v, rfl, v, d, 2, rfl, hd, _, rfl, ?_⟩
    by_cases tb : tlB 2 d = true
    · rw [tb]
      refine iteF ?_
      obtain ⟨d1, d2, rfl⟩ := tl_two tb
      cases hd with
      | @tup a xs ds e all =>
        match xs, all, e, q with
          | [v1, v2], .cons h1 (.cons h2 .nil), e, q =>
            refine ⟨.ref a, rfl, a, _, rfl, SqT.of e, rfl, v1, [v2], rfl, v2, [], rfl, rfl, ?_⟩
            refine ⟨v1, rfl, v1, d1, rfl, h1, _, rfl, ite2 (fun e1 => ?_) (fun e1 => ?_)⟩
            · refine ⟨v2, rfl, v2, d2, rfl, h2, _, rfl, ite2 (fun e2 => ?_) (fun e2 => ?_)⟩
              · cases d1 with
                | int i =>
                  cases d2 with
                  | int j =>
                    have x1 := h1.asInt
                    have x2 := h2.asInt
                    subst x1 x2
                    refine ⟨.int i, rfl, .int j, rfl, _, _, rfl, rfl, ?_⟩
                    have q' : Q (.bl (inB 0 1000000000000 (.int i) && (inB 0 1000000000000 (.int j) && decide (i ≤ j)))) H := q
                    rw [e1, e2] at q'
                    exact q'
                  | _ => exact absurd e2 (by simp [inB])
                | _ => exact absurd e1 (by simp [inB])
              · have q' : Q (.bl (inB 0 1000000000000 d1 && (inB 0 1000000000000 d2 && leB d1 d2))) H := q
                rw [Bool.not_eq_true] at e2
                rw [e1, e2] at q'
                exact q'
            · have q' : Q (.bl (inB 0 1000000000000 d1 && (inB 0 1000000000000 d2 && leB d1 d2))) H := q
              rw [Bool.not_eq_true] at e1
              rw [e1] at q'
              exact q'
    · rw [iv_two tb] at q
      rw [Bool.not_eq_true] at tb
      rw [tb]
      exact iteT q
/-! ### the law's own -/

/-! ### for i, x in enumerate(t) -/
theorem for_enumT {K : PySem.W.Frag} {a : Addr} {xs : List V} {g : TG} {tb : TS} {D : Ends} {σ : L2.St} {H : Hp} (Pv : Nat → L2.St → Hp → Prop) (h0 : Pv 0 σ H) (hq : ∀ i σ H, Pv i σ H → SqT K H a xs)
    (hs : ∀ (i : Nat) (x : V) (t : Addr) (σ : L2.St) (H : Hp), xs[i]? = some x → Pv i σ H → H t = none → g (.ref t) σ (upd H t (.tup [.int (i : Nat), x])) fun σ2 H2 => tb { D with nx := Pv (i + 1), ct := Pv (i + 1), bk := D.nx } σ2 H2) (hd : ∀ σ H, Pv xs.length σ H → D.nx σ H) :
    ∃ W : Nat → Nat → L2.St → Hp → Prop, (∃ m, W 0 m σ H) ∧ ∀ i m σ H, W i m σ H →
      ((IteT K a xs.length).stop i H ∧ D.nx σ H) ∨ ((IteT K a xs.length).go i H ∧ ∃ N : L2.St → Hp → Prop, (∀ σ' H', N σ' H' → ∃ m', m' < m ∧ W (i + 1) m' σ' H') ∧ ∀ v H', (IteT K a xs.length).yld i H v H' → g v σ H' fun σ2 H2 => tb { D with nx := N, ct := N, bk := D.nx } σ2 H2) := by
  refine ⟨fun i m σ H => i + m = xs.length ∧ Pv i σ H, ⟨xs.length, by omega, h0⟩, ?_⟩
  rintro i m σ H ⟨im, p⟩
  have hx := hq i σ H p
  by_cases c : i < xs.length
  · refine .inr ⟨⟨xs, xs[i], hx, List.getElem?_eq_getElem c, rfl⟩, Pv (i + 1), fun σ' H' p' => ⟨m - 1, by omega, by omega, p'⟩, ?_⟩
    rintro v H' ⟨t, x, rfl, nt, rfl, at_⟩
    exact hs i x t σ H (at_ xs hx) p nt
  · refine .inl ⟨⟨xs, hx, rfl, by omega⟩, hd σ H ?_⟩
    have : i = xs.length := by omega
    rw [← this]
    exact p

def sp_conflict : Sp := fun vs H Q _ => ∃ (v1 v2 : V) (p1 lo1 hi1 p2 lo2 hi2 : Int), vs = [v1, v2] ∧ Dm H v1 p1 lo1 hi1 ∧ Dm H v2 p2 lo2 hi2 ∧ Q (.bl (cf (p1, lo1, hi1) (p2, lo2, hi2))) H
theorem cf_at {p1 lo1 hi1 p2 lo2 hi2 : Int} : cf (p1, lo1, hi1) (p2, lo2, hi2) = (atP lo2 hi2 p1 && atP lo1 hi1 p2) := by
  rw [Bool.eq_iff_iff, cf_iff, Bool.and_eq_true]
  unfold atP
  rw [Bool.and_eq_true, Bool.and_eq_true, decide_eq_true_eq, decide_eq_true_eq, decide_eq_true_eq, decide_eq_true_eq]
theorem ok_conflict (T : Tx K mg f_is_number f_is_position f_is_tuple_of f_is_interval f_has_position f_is_demand f_conflict f_is_independent f_law_deck f_law_draw f_law_line f_law_interval f_law_intervals f_law_demand f_law_conflict f_law_starts f_law_demands f_law_independent f_law_odd f_law_replaced f_law_is_demand f_law_due f_law_values f_law d_is_number d_is_position d_is_tuple_of d_is_interval d_has_position d_is_demand d_conflict d_is_independent d_law_deck d_law_draw d_law_line d_law_interval d_law_intervals d_law_demand d_law_conflict d_law_starts d_law_demands d_law_independent d_law_odd d_law_replaced d_law_is_demand d_law_due d_law_values d_law t_LAST_POSITION) : FnOk P w K mg base CX0 2 f_conflict d_conflict ["first", "second"] sp_conflict := by
  refine T.F_conflict.ok sc_conflict (fun vs H Q E h => ?_) (fun cdv A outer s H vs Q E hr h => ?_)
  · obtain ⟨v1, v2, p1, lo1, hi1, p2, lo2, hi2, rfl, _⟩ := h
    rfl
  · obtain ⟨v1, v2, p1, lo1, hi1, p2, lo2, hi2, rfl, d1, d2, q⟩ := h
    refine ⟨_, (pss_one (ps_ret (pe_and (pe_call (ok_has_position T) (hr.mono (by decide)) (by rfl) T.g_has_position T.F_has_position.kp T.b_has_position .nil pass0 (pa_cons (pe_ix ix_tup (pv 1) pe_int (fun _ _ => rfl)) (pa_cons (pe_ix ix_tup (pv 0) pe_int (fun _ _ => rfl)) pa_nil))) (pe_one (pe_call (ok_has_position T) (hr.mono (by decide)) (by rfl) T.g_has_position T.F_has_position.kp T.b_has_position .nil pass0 (pa_cons (pe_ix ix_tup (pv 0) pe_int (fun _ _ => rfl)) (pa_cons (pe_ix ix_tup (pv 1) pe_int (fun _ _ => rfl)) pa_nil))))))), ?_⟩
    obtain ⟨u1, t1, rfl, e11, e12⟩ := d1.ex
    obtain ⟨u2, t2, rfl, e21, e22⟩ := d2.ex
    rw [cf_at] at q
    refine ⟨.ref u2, rfl, u2, _, 1, .ref t2, rfl, rfl, SqT.of e21, rfl, .ref u1, rfl, u1, _, 0, .int p1, rfl, rfl, SqT.of e11, rfl, t2, lo2, hi2, p1, rfl, e22, _, rfl, ite2 (fun c => ?_) (fun c => ?_)⟩
    · refine ⟨.ref u1, rfl, u1, _, 1, .ref t1, rfl, rfl, SqT.of e11, rfl, .ref u2, rfl, u2, _, 0, .int p2, rfl, rfl, SqT.of e21, rfl, t1, lo1, hi1, p2, rfl, e12, ?_⟩
      rw [c] at q
      exact q
    · rw [Bool.not_eq_true] at c
      rw [c] at q
      exact q

/-! ### odd values through draws (the plain deck) -/
/-- the heap but for the deck -/
def OffP (d c : Addr) (H : Hp) : Hp := fun b => if b = d ∨ b = c then none else H b
theorem offP_get {d c : Addr} {H : Hp} {b : Addr} {o : HO} (n : Off d c b) (e : H b = some o) : OffP d c H b = some o := by
  unfold OffP
  rw [if_neg (fun z => z.elim n.1 n.2)]
  exact e
theorem offP_at {d c : Addr} {H : Hp} {b : Addr} {o : HO} (e : OffP d c H b = some o) : b ≠ d ∧ b ≠ c ∧ H b = some o := by
  unfold OffP at e
  by_cases z : b = d ∨ b = c
  · rw [if_pos z] at e
    cases e
  · rw [if_neg z] at e
    exact ⟨fun q => z (.inl q), fun q => z (.inr q), e⟩
theorem offP_sub {d c : Addr} {H : Hp} : Same (OffP d c H) H := fun _ _ e => (offP_at e).2.2
theorem offP_kp {d c : Addr} {H H' : Hp} (k : Kp d c H H') : Same (OffP d c H) (OffP d c H') := fun b o e => by
  obtain ⟨n1, n2, z⟩ := offP_at e
  exact offP_get ⟨n1, n2⟩ (k b o n1 n2 z)
theorem Dk.offT {H : Hp} {d c : Addr} {n : Int} (h : Dk H d c n) {b : Addr} {us : List V} (e : H b = some (.tup us)) : Off d c b := by
  obtain ⟨xs, q, _⟩ := h.cells
  exact ⟨ne_of e h.top (fun z => by cases z), ne_of e q (fun z => by cases z)⟩
theorem ivs_dv {K : PySem.W.Frag} {d c : Addr} {n : Int} {H : Hp} (dk : Dk H d c n) : ∀ {us : List V} {ps : List (Int × Int)}, Ivs H us ps → DvAll K (OffP d c H) us (ps.map pairD)
  | _, _, .nil => .nil
  | _, _, .cons e h => .cons (.tup (offP_get (dk.offT e) e) (.cons (.int _) (.cons (.int _) .nil))) (ivs_dv dk h)
/-- every sign of a text is a sign -/
def okc (x : Str) : Prop := ∀ c ∈ x.cps.toList, c < 16 ^ 8
theorem okc_app {a b : Str} (h : okc a) (g : okc b) : okc (a ++ b) := by
  intro c hc
  have e : (a ++ b).cps = a.cps ++ b.cps := rfl
  rw [e, Array.toList_append] at hc
  exact (List.mem_append.mp hc).elim (h c) (g c)
theorem okc_int (i : Int) : okc (PyData.shown (.int i)) := by
  intro c hc
  have hc : c ∈ (Str.ofString (toString i)).cps.toList := hc
  rw [Str.ofString_eq_toList] at hc
  have hc : c ∈ ((toString i).toList.map Char.toNat) := by simpa using hc
  obtain ⟨x, _, rfl⟩ := List.mem_map.mp hc
  have := x.val.toNat_lt
  show x.val.toNat < 16 ^ 8
  omega
theorem okc_lit {x : Str} (h : (x.cps.toList.all fun c => decide (c < 16 ^ 8)) = true) : okc x := fun c hc => of_decide_eq_true (List.all_eq_true.mp h c hc)
theorem okc_pair (x y : Int) : okc (PyData.shown (.tuple [.int x, .int y])) := by
  have e : PyData.shown (.tuple [.int x, .int y]) = ("(" : Str) ++ (PyData.shown (.int x) ++ (", " : Str) ++ PyData.shown (.int y)) ++ (")" : Str) := by
    show ("(" : Str) ++ Str.join ", " [PyData.shown (.int x), PyData.shown (.int y)] ++ (")" : Str) = _
    rfl
  rw [e]
  exact okc_app (okc_app (okc_lit (by decide +kernel)) (okc_app (okc_app (okc_int x) (okc_lit (by decide +kernel))) (okc_int y))) (okc_lit (by decide +kernel))
theorem sm_shown {n dp : Nat} {d : PyData} (h : Sm n dp d) (c : okc d.shown) (hn : n ≤ 1000) : Sm 50000 0 (.str d.shown) := by
  refine ⟨rfl, ?_, ?_, Nat.le_refl _⟩
  · show (d.shown.cps.toList.all fun c => decide (c < 16 ^ 8)) = true
    exact List.all_eq_true.mpr fun x hx => decide_eq_true (c x hx)
  · have q := PyData.shown_le 40 (by decide) d h.short
    have := h.small
    show d.shown.length ≤ 50000
    omega
def oddE : List PyData := [.none, .tuple [], .list [], .dict [], .int 5, .str "0-3", .tuple [.int 3, .int 2], .tuple [.int 0, .bool true], .tuple [.bool false, .int 1], .tuple [.int 0, .int 1, .int 2], .tuple [.int (-1), .int 0], .list [.int 0, .int 1], .tuple [.int 0, .int (10 ^ 12 + 1)], .tuple [.int 0, .str "1"], .tuple [.none, .int 3], .tuple [.tuple [.int 0, .int 1], .tuple [.int 0, .int 1]], .bool true, .int (10 ^ 20)]
def fineE (d : PyData) : Bool := (d.showable && (d.leavesShort 40 && (decide (d.weight ≤ 1000) && decide (d.depth ≤ 3)))) && d.shown.cps.toList.all fun c => decide (c < 16 ^ 8)
theorem oddE_fine : oddE.all fineE = true := by decide +kernel
theorem oddE_ok {d : PyData} (h : d ∈ oddE) : Sm 1000 3 d ∧ okc d.shown := by
  have h := Bool.and_eq_true_iff.mp (List.all_eq_true.mp oddE_fine d h)
  have h1 := Bool.and_eq_true_iff.mp h.1
  have h2 := Bool.and_eq_true_iff.mp h1.2
  have h3 := Bool.and_eq_true_iff.mp h2.2
  exact ⟨⟨h1.1, h2.1, of_decide_eq_true h3.1, of_decide_eq_true h3.2⟩, okc_lit h.2⟩
/-- a list of data that stays through draws -/
structure OddL (K : PySem.W.Frag) (d c : Addr) (Hx : Hp) (D : Addr) (ds : List PyData) (H' : Hp) : Prop where
  same : Same Hx H'
  off : Off d c D
  ex : ∃ us, H' D = some (.lst us) ∧ DvAll K (OffP d c H') us ds

/-! ### data by its weight: what a value with a part replaced weighs -/
mutual
def intsB (B : Nat) : PyData → Bool
  | .none | .bool _ | .str _ => true
  | .int i => decide (i.natAbs < B)
  | .list xs | .tuple xs => intsBAll B xs
  | .dict kvs => intsBKv B kvs
def intsBAll (B : Nat) : List PyData → Bool
  | [] => true
  | x :: xs => intsB B x && intsBAll B xs
def intsBKv (B : Nat) : List (PyData × PyData) → Bool
  | [] => true
  | (k, v) :: r => intsB B k && intsB B v && intsBKv B r
end
mutual
theorem intsB_mono {B C : Nat} (h : B ≤ C) : ∀ d : PyData, intsB B d = true → intsB C d = true
  | .none, _ => by unfold intsB; rfl
  | .bool _, _ => by unfold intsB; rfl
  | .str _, _ => by unfold intsB; rfl
  | .int i, q => by
    unfold intsB at q ⊢
    have := of_decide_eq_true q
    exact decide_eq_true (Nat.lt_of_lt_of_le this h)
  | .list xs, q => by
    unfold intsB at q ⊢
    exact intsBAll_mono h xs q
  | .tuple xs, q => by
    unfold intsB at q ⊢
    exact intsBAll_mono h xs q
  | .dict kvs, q => by
    unfold intsB at q ⊢
    exact intsBKv_mono h kvs q
theorem intsBAll_mono {B C : Nat} (h : B ≤ C) : ∀ xs : List PyData, intsBAll B xs = true → intsBAll C xs = true
  | [], _ => by unfold intsBAll; rfl
  | x :: xs, q => by
    unfold intsBAll at q ⊢
    have z := Bool.and_eq_true_iff.mp q
    exact Bool.and_eq_true_iff.mpr ⟨intsB_mono h x z.1, intsBAll_mono h xs z.2⟩
theorem intsBKv_mono {B C : Nat} (h : B ≤ C) : ∀ xs : List (PyData × PyData), intsBKv B xs = true → intsBKv C xs = true
  | [], _ => by unfold intsBKv; rfl
  | (k, v) :: xs, q => by
    unfold intsBKv at q ⊢
    have z := Bool.and_eq_true_iff.mp q
    have y := Bool.and_eq_true_iff.mp z.1
    exact Bool.and_eq_true_iff.mpr ⟨Bool.and_eq_true_iff.mpr ⟨intsB_mono h k y.1, intsB_mono h v y.2⟩, intsBKv_mono h xs z.2⟩
end
theorem intsBAll_mem {B : Nat} : ∀ {xs : List PyData}, intsBAll B xs = true → ∀ x ∈ xs, intsB B x = true
  | [], _, x, hx => nomatch hx
  | y :: xs, q, x, hx => by
    unfold intsBAll at q
    have z := Bool.and_eq_true_iff.mp q
    rcases List.mem_cons.mp hx with rfl | hx
    · exact z.1
    · exact intsBAll_mem z.2 x hx
theorem intsBAll_of {B : Nat} : ∀ {xs : List PyData}, (∀ x ∈ xs, intsB B x = true) → intsBAll B xs = true
  | [], _ => by unfold intsBAll; rfl
  | y :: xs, q => by
    unfold intsBAll
    exact Bool.and_eq_true_iff.mpr ⟨q y List.mem_cons_self, intsBAll_of fun x hx => q x (List.mem_cons_of_mem _ hx)⟩
/-- what may be shown, with numbers below B -/
structure Fine (B : Nat) (d : PyData) : Prop where
  shows : d.showable = true
  short : d.leavesShort 40 = true
  nums : intsB B d = true
theorem Fine.mono {B C : Nat} {d : PyData} (h : Fine B d) (l : B ≤ C) : Fine C d := ⟨h.shows, h.short, intsB_mono l d h.nums⟩
theorem Fine.bool (B : Nat) (b : Bool) : Fine B (.bool b) := ⟨rfl, rfl, by unfold intsB; rfl⟩
theorem Fine.none (B : Nat) : Fine B .none := ⟨rfl, rfl, by unfold intsB; rfl⟩
theorem Fine.int {B : Nat} {i : Int} (h : i.natAbs < B) (l : B ≤ 10 ^ 30) : Fine B (.int i) := by
  have s := Sm.int (Nat.lt_of_lt_of_le h l)
  exact ⟨s.shows, s.short, by unfold intsB; exact decide_eq_true h⟩
theorem Fine.lt {B : Nat} {i : Int} (h : Fine B (.int i)) : i.natAbs < B := by
  have z := h.nums
  unfold intsB at z
  exact of_decide_eq_true z
theorem fine_seq {B : Nat} {ds : List PyData} (h : ∀ x ∈ ds, Fine B x) : PyData.showableAll ds = true ∧ PyData.leavesShortAll 40 ds = true ∧ intsBAll B ds = true := by
  induction ds with
  | nil => exact ⟨rfl, rfl, by unfold intsBAll; rfl⟩
  | cons d ds ih =>
    obtain ⟨a, b, c⟩ := ih fun x hx => h x (List.mem_cons_of_mem _ hx)
    have z := h d List.mem_cons_self
    refine ⟨?_, ?_, intsBAll_of fun x hx => (h x hx).nums⟩
    · show (d.showable && PyData.showableAll ds) = true
      rw [z.shows, a]
      rfl
    · show (d.leavesShort 40 && PyData.leavesShortAll 40 ds) = true
      rw [z.short, b]
      rfl
theorem Fine.tup {B : Nat} {ds : List PyData} (h : ∀ x ∈ ds, Fine B x) : Fine B (.tuple ds) :=
  let ⟨a, b, c⟩ := fine_seq h
  ⟨a, b, by unfold intsB; exact c⟩
theorem Fine.lst {B : Nat} {ds : List PyData} (h : ∀ x ∈ ds, Fine B x) : Fine B (.list ds) :=
  let ⟨a, b, c⟩ := fine_seq h
  ⟨a, b, by unfold intsB; exact c⟩
theorem fine_all {B : Nat} : ∀ {ds : List PyData}, PyData.showableAll ds = true → PyData.leavesShortAll 40 ds = true → intsBAll B ds = true → ∀ x ∈ ds, Fine B x
  | [], _, _, _, x, hx => nomatch hx
  | d :: ds, h1, h2, h3, x, hx => by
    have z1 := Bool.and_eq_true_iff.mp (show (d.showable && PyData.showableAll ds) = true from h1)
    have z2 := Bool.and_eq_true_iff.mp (show (d.leavesShort 40 && PyData.leavesShortAll 40 ds) = true from h2)
    unfold intsBAll at h3
    have z3 := Bool.and_eq_true_iff.mp h3
    rcases List.mem_cons.mp hx with rfl | hx
    · exact ⟨z1.1, z2.1, z3.1⟩
    · exact fine_all z1.2 z2.2 z3.2 x hx
theorem Fine.mem {B : Nat} {ds : List PyData} (h : Fine B (.tuple ds)) : ∀ x ∈ ds, Fine B x := by
  have c := h.nums
  unfold intsB at c
  exact fine_all h.shows h.short c
theorem wAll_app : ∀ {a b : List PyData}, PyData.weightAll (a ++ b) = PyData.weightAll a + PyData.weightAll b
  | [], b => (Nat.zero_add _).symm
  | x :: a, b => by
    show x.weight + 1 + PyData.weightAll (a ++ b) = x.weight + 1 + PyData.weightAll a + PyData.weightAll b
    rw [wAll_app]
    omega
theorem wAll_mem : ∀ {a : List PyData} {x : PyData}, x ∈ a → x.weight + 1 ≤ PyData.weightAll a
  | y :: a, x, h => by
    show x.weight + 1 ≤ y.weight + 1 + PyData.weightAll a
    rcases List.mem_cons.mp h with rfl | h
    · omega
    · have := wAll_mem h
      omega
theorem wAll_take (n : Nat) (a : List PyData) : PyData.weightAll (a.take n) ≤ PyData.weightAll a := by
  have := wAll_app (a := a.take n) (b := a.drop n)
  rw [List.take_append_drop] at this
  omega
theorem wAll_drop (n : Nat) (a : List PyData) : PyData.weightAll (a.drop n) ≤ PyData.weightAll a := by
  have := wAll_app (a := a.take n) (b := a.drop n)
  rw [List.take_append_drop] at this
  omega
theorem wAll_rev : ∀ a : List PyData, PyData.weightAll a.reverse = PyData.weightAll a
  | [] => rfl
  | x :: a => by
    rw [List.reverse_cons, wAll_app, wAll_rev a]
    show PyData.weightAll a + (x.weight + 1 + 0) = x.weight + 1 + PyData.weightAll a
    omega
theorem wAll_set {ds : List PyData} {i : Nat} {x y : PyData} (h : ds[i]? = some x) : PyData.weightAll (ds.take i ++ [y] ++ ds.drop (i + 1)) + x.weight = PyData.weightAll ds + y.weight := by
  have e : ds = ds.take i ++ [x] ++ ds.drop (i + 1) := by
    obtain ⟨z, w⟩ := List.getElem?_eq_some_iff.mp h
    rw [← w, List.append_assoc, List.singleton_append, List.getElem_cons_drop, List.take_append_drop]
  have w1 := congrArg PyData.weightAll e
  rw [wAll_app, wAll_app] at w1 ⊢
  show _ + (y.weight + 1 + 0) + _ + _ = _
  rw [w1]
  show _ = _ + (x.weight + 1 + 0) + _ + _
  omega
theorem dAll_mem : ∀ {a : List PyData} {n : Nat}, (∀ x ∈ a, x.depth ≤ n) → PyData.depthAll a ≤ n
  | [], _, _ => Nat.zero_le _
  | x :: a, n, h => Nat.max_le.mpr ⟨h x List.mem_cons_self, dAll_mem fun y hy => h y (List.mem_cons_of_mem _ hy)⟩
theorem dAll_le : ∀ {a : List PyData} {x : PyData}, x ∈ a → x.depth ≤ PyData.depthAll a
  | y :: a, x, h => by
    rcases List.mem_cons.mp h with rfl | h
    · exact Nat.le_max_left _ _
    · exact Nat.le_trans (dAll_le h) (Nat.le_max_right _ _)
theorem len_weight : ∀ a : List PyData, a.length ≤ PyData.weightAll a
  | [] => Nat.le_refl _
  | x :: a => by
    have := len_weight a
    show a.length + 1 ≤ x.weight + 1 + PyData.weightAll a
    omega
/-- a value of data: fine, of weight at most N and depth at most dp -/
def Gw (K : PySem.W.Frag) (B N dp : Nat) (G : Hp) (v : V) : Prop := ∃ d, Dv K G v d ∧ Fine B d ∧ d.weight ≤ N ∧ d.depth ≤ dp
/-- items of data, of weight at most N together -/
def Rw (K : PySem.W.Frag) (B N dp : Nat) (G : Hp) (us : List V) : Prop := ∃ ds, DvAll K G us ds ∧ (∀ x ∈ ds, Fine B x ∧ x.depth ≤ dp) ∧ PyData.weightAll ds ≤ N
section
variable {K : PySem.W.Frag} {B C N M dp dq : Nat} {G G' : Hp} {v : V} {us vs : List V}
theorem Gw.same (h : Gw K B N dp G v) (s : Same G G') : Gw K B N dp G' v :=
  let ⟨d, a, b, c⟩ := h
  ⟨d, dv_same s a, b, c⟩
theorem Gw.mono (h : Gw K B N dp G v) (l1 : B ≤ C) (l2 : N ≤ M) (l3 : dp ≤ dq) : Gw K C M dq G v :=
  let ⟨d, a, b, c, e⟩ := h
  ⟨d, a, b.mono l1, Nat.le_trans c l2, Nat.le_trans e l3⟩
theorem Gw.sm (h : Gw K B N dp G v) : ∃ d, Dv K G v d ∧ Sm N dp d :=
  let ⟨d, a, b, c, e⟩ := h
  ⟨d, a, b.shows, b.short, c, e⟩
theorem Rw.same (h : Rw K B N dp G us) (s : Same G G') : Rw K B N dp G' us :=
  let ⟨ds, a, b⟩ := h
  ⟨ds, dvAll_same s a, b⟩
theorem Rw.mono (h : Rw K B N dp G us) (l1 : B ≤ C) (l2 : N ≤ M) (l3 : dp ≤ dq) : Rw K C M dq G us :=
  let ⟨ds, a, b, c⟩ := h
  ⟨ds, a, fun x hx => ⟨(b x hx).1.mono l1, Nat.le_trans (b x hx).2 l3⟩, Nat.le_trans c l2⟩
theorem Rw.len (h : Rw K B N dp G us) : us.length ≤ N := by
  obtain ⟨ds, a, b, c⟩ := h
  rw [a.length]
  exact Nat.le_trans (len_weight ds) c
theorem dvAll_take' : ∀ {us : List V} {ds : List PyData}, DvAll K G us ds → ∀ n : Nat, DvAll K G (us.take n) (ds.take n)
  | _, _, .nil, n => by
    rw [List.take_nil, List.take_nil]
    exact .nil
  | _, _, .cons a b, 0 => .nil
  | _, _, .cons a b, n + 1 => .cons a (dvAll_take' b n)
theorem dvAll_drop' : ∀ {us : List V} {ds : List PyData}, DvAll K G us ds → ∀ n : Nat, DvAll K G (us.drop n) (ds.drop n)
  | _, _, .nil, n => by
    rw [List.drop_nil, List.drop_nil]
    exact .nil
  | _, _, .cons a b, 0 => .cons a b
  | _, _, .cons a b, n + 1 => dvAll_drop' b n
theorem dvAll_rev' : ∀ {vs : List V} {ds : List PyData}, DvAll K G vs ds → DvAll K G vs.reverse ds.reverse
  | _, _, .nil => .nil
  | _, _, .cons a b => by
    rw [List.reverse_cons, List.reverse_cons]
    exact (dvAll_rev' b).append (.cons a .nil)
theorem Rw.cut (h : Rw K B N dp G us) (lo hi : Option Int) : Rw K B N dp G (cutV us lo hi) := by
  obtain ⟨ds, a, b, c⟩ := h
  unfold cutV
  exact ⟨_, dvAll_take' (dvAll_drop' a _) _, fun x hx => b x (List.mem_of_mem_drop (List.mem_of_mem_take hx)), Nat.le_trans (wAll_take _ _) (Nat.le_trans (wAll_drop _ _) c)⟩
theorem Rw.cat (h : Rw K B N dp G us) (h2 : Rw K B M dp G vs) : Rw K B (N + M) dp G (us ++ vs) := by
  obtain ⟨ds, a, b, c⟩ := h
  obtain ⟨es, a2, b2, c2⟩ := h2
  refine ⟨_, a.append a2, fun x hx => ?_, by rw [wAll_app]; omega⟩
  rcases List.mem_append.mp hx with hx | hx
  · exact b x hx
  · exact b2 x hx
theorem Rw.rev (h : Rw K B N dp G us) : Rw K B N dp G us.reverse := by
  obtain ⟨ds, a, b, c⟩ := h
  exact ⟨_, dvAll_rev' a, fun x hx => b x (List.mem_reverse.mp hx), by rw [wAll_rev]; exact c⟩
theorem Rw.nil : Rw K B 0 dp G [] := ⟨[], .nil, (fun x hx => nomatch hx), Nat.le_refl _⟩
theorem Rw.cons (h : Gw K B N dp G v) (h2 : Rw K B M dp G us) : Rw K B (N + 1 + M) dp G (v :: us) := by
  obtain ⟨d, a, b, c, e⟩ := h
  obtain ⟨ds, a2, b2, c2⟩ := h2
  refine ⟨d :: ds, .cons a a2, fun x hx => ?_, by show d.weight + 1 + PyData.weightAll ds ≤ _; omega⟩
  rcases List.mem_cons.mp hx with rfl | hx
  · exact ⟨b, e⟩
  · exact b2 x hx
theorem Rw.one (h : Gw K B N dp G v) : Rw K B (N + 1) dp G [v] := Rw.cons h .nil
theorem Rw.tup (h : Rw K B N dp G us) {p : Addr} (e : G p = some (.tup us)) : Gw K B N (dp + 1) G (.ref p) := by
  obtain ⟨ds, a, b, c⟩ := h
  exact ⟨_, .tup e a, .tup fun x hx => (b x hx).1, c, Nat.succ_le_succ (dAll_mem fun x hx => (b x hx).2)⟩
theorem Rw.lst (h : Rw K B N dp G us) {p : Addr} (e : G p = some (.lst us)) : Gw K B N (dp + 1) G (.ref p) := by
  obtain ⟨ds, a, b, c⟩ := h
  exact ⟨_, .lst e a, .lst fun x hx => (b x hx).1, c, Nat.succ_le_succ (dAll_mem fun x hx => (b x hx).2)⟩
/-- the row with one item replaced weighs as much more as the new item does -/
theorem swap_row {ds : List PyData} {y : V} {d : PyData} {i : Nat} (all : DvAll K G us ds) (fine : ∀ x ∈ ds, Fine B x ∧ x.depth ≤ dp) (ed : ds[i]? = some d) (hy : Gw K C (2 * d.weight + M) dq G y) (l : B ≤ C) (l3 : dp ≤ dq) : Rw K C (2 * PyData.weightAll ds + M) dq G (us.take i ++ [y] ++ us.drop (i + 1)) := by
  have wd := wAll_mem (List.mem_of_getElem? ed)
  obtain ⟨x, hx1, hx2, hx3, hx4⟩ := hy
  refine ⟨ds.take i ++ [x] ++ ds.drop (i + 1), ((dvAll_take' all i).append (.cons hx1 .nil)).append (dvAll_drop' all (i + 1)), fun z hz => ?_, ?_⟩
  · rcases List.mem_append.mp hz with hz | hz
    · rcases List.mem_append.mp hz with hz | hz
      · have m := fine z (List.mem_of_mem_take hz)
        exact ⟨m.1.mono l, Nat.le_trans m.2 l3⟩
      · rw [List.mem_singleton.mp hz]
        exact ⟨hx2, hx4⟩
    · have m := fine z (List.mem_of_mem_drop hz)
      exact ⟨m.1.mono l, Nat.le_trans m.2 l3⟩
  · have := wAll_set (y := x) ed
    omega
end

/-! ### odd values -/
def oddD : List PyData := [.none, .bool true, .int 0, .int (-1), .str "", .str "0", .list [], .list [.int 0], .dict [], .dict [(.str "a", .int 0)], .tuple [.int 0], .tuple [.int 0, .int 0], .tuple [.tuple [.int 0, .int 0]], .tuple [.none], .int (10 ^ 29)]
def sp_law_odd (K : PySem.W.Frag) : Sp := fun vs H Q _ => ∃ (d : Addr) (c : Addr) (n : Int), vs = [.ref d] ∧ Dk H d c n ∧ 0 ≤ n ∧ n < 999990 ∧
  ∀ H' v dd, Kp d c H H' → Dk H' d c (n + 1) → dd ∈ oddD → Dv K (OffP d c H') v dd → Q v H'
theorem ok_law_odd (T : Tx K mg f_is_number f_is_position f_is_tuple_of f_is_interval f_has_position f_is_demand f_conflict f_is_independent f_law_deck f_law_draw f_law_line f_law_interval f_law_intervals f_law_demand f_law_conflict f_law_starts f_law_demands f_law_independent f_law_odd f_law_replaced f_law_is_demand f_law_due f_law_values f_law d_is_number d_is_position d_is_tuple_of d_is_interval d_has_position d_is_demand d_conflict d_is_independent d_law_deck d_law_draw d_law_line d_law_interval d_law_intervals d_law_demand d_law_conflict d_law_starts d_law_demands d_law_independent d_law_odd d_law_replaced d_law_is_demand d_law_due d_law_values d_law t_LAST_POSITION) : FnOk P w K mg base CX0 2 f_law_odd d_law_odd ["_law_deck_here"] (sp_law_odd K) := by
  refine T.F_law_odd.ok sc_law_odd (fun vs H Q E h => ?_) (fun cdv A outer s H vs Q E hr h => ?_)
  · obtain ⟨d, c, n, rfl, _⟩ := h
    rfl
  · obtain ⟨d, c, n, rfl, dk, n0, n1, q⟩ := h
    refine ⟨_, (pss_cons (ps_set (i := 1) sc_law_odd.nd rfl (Or.inl rfl) (pe_lst (pa_cons pe_non (pa_cons pe_bl (pa_cons pe_int (pa_cons (pe_un un_neg pe_int) (pa_cons pe_str (pa_cons pe_str (pa_cons (pe_lst pa_nil) (pa_cons (pe_lst (pa_cons pe_int pa_nil)) (pa_cons pe_dnewK (pa_cons (pe_disp (pps_cons pe_str pe_int pps_nil) (by rfl) (by rfl) (fun z => by cases z) (by decide)) (pa_cons (pe_tup (pa_cons pe_int pa_nil)) (pa_cons (pe_tup (pa_cons pe_int (pa_cons pe_int pa_nil))) (pa_cons (pe_tup (pa_cons (pe_tup (pa_cons pe_int (pa_cons pe_int pa_nil))) pa_nil)) (pa_cons (pe_tup (pa_cons pe_non pa_nil)) (pa_cons (pe_op op_pow pe_int pe_int) pa_nil)))))))))))))))))
      (pss_one (ps_ret (pe_ix ix_list (pv 1) (pe_call (ok_law_draw T) (hr.mono (by decide)) (by rfl) T.g_law_draw T.F_law_draw.kp T.b_law_draw .nil pass0 (pa_cons (pv 0) (pa_cons pe_int pa_nil))) (fun _ _ => rfl))))), ?_⟩
    refine ⟨1, rfl, by show 0 ≤ sizeLine; decide, fun p1 m1 => ?_⟩
    have s1 := same_new (H := H) (p := p1) (o := .lst []) m1
    have e1 := upd_same (H := H) (a := p1) (o := .lst [])
    generalize upd H p1 (.lst []) = H1 at *
    refine ⟨by show 1 ≤ sizeLine; decide, fun p2 m2 => ?_⟩
    have s2 := same_new (H := H1) (p := p2) (o := .lst [.int 0]) m2
    have e2 := upd_same (H := H1) (a := p2) (o := .lst [.int 0])
    generalize upd H1 p2 (.lst [.int 0]) = H2 at *
    refine fun p3 m3 => ?_
    have s3 := same_new (H := H2) (p := p3) (o := .dK []) m3
    have e3 := upd_same (H := H2) (a := p3) (o := .dK [])
    generalize upd H2 p3 (.dK []) = H3 at *
    refine fun p4 m4 => ⟨upd_same, [(.inr "a", .int 0)], rfl, by decide, ?_⟩
    have s4 : Same H3 (upd (upd H3 p4 (.dK [])) p4 (.dK (mergeK [] [(.inr "a", .int 0)]))) := by
      rw [upd_upd]
      exact same_new m4
    have e4 := upd_same (H := upd H3 p4 (.dK [])) (a := p4) (o := .dK (mergeK [] [(.inr "a", .int 0)]))
    generalize upd (upd H3 p4 (.dK [])) p4 (.dK (mergeK [] [(.inr "a", .int 0)])) = H4 at *
    refine ⟨by show 1 ≤ sizeLine; decide, fun p5 m5 => ?_⟩
    have s5 := same_new (H := H4) (p := p5) (o := .tup [.int 0]) m5
    have e5 := upd_same (H := H4) (a := p5) (o := .tup [.int 0])
    generalize upd H4 p5 (.tup [.int 0]) = H5 at *
    refine ⟨by show 2 ≤ sizeLine; decide, fun p6 m6 => ?_⟩
    have s6 := same_new (H := H5) (p := p6) (o := .tup [.int 0, .int 0]) m6
    have e6 := upd_same (H := H5) (a := p6) (o := .tup [.int 0, .int 0])
    generalize upd H5 p6 (.tup [.int 0, .int 0]) = H6 at *
    refine ⟨by show 2 ≤ sizeLine; decide, fun p7 m7 => ?_⟩
    have s7 := same_new (H := H6) (p := p7) (o := .tup [.int 0, .int 0]) m7
    have e7 := upd_same (H := H6) (a := p7) (o := .tup [.int 0, .int 0])
    generalize upd H6 p7 (.tup [.int 0, .int 0]) = H7 at *
    refine ⟨by show 1 ≤ sizeLine; decide, fun p8 m8 => ?_⟩
    have s8 := same_new (H := H7) (p := p8) (o := .tup [.ref p7]) m8
    have e8 := upd_same (H := H7) (a := p8) (o := .tup [.ref p7])
    generalize upd H7 p8 (.tup [.ref p7]) = H8 at *
    refine ⟨by show 1 ≤ sizeLine; decide, fun p9 m9 => ?_⟩
    have s9 := same_new (H := H8) (p := p9) (o := .tup [.non]) m9
    have e9 := upd_same (H := H8) (a := p9) (o := .tup [.non])
    generalize upd H8 p9 (.tup [.non]) = H9 at *
    refine ⟨10, 29, rfl, rfl, ⟨by decide, by decide, by decide⟩, by show 15 ≤ sizeLine; decide, fun p10 m10 => ?_⟩
    have s10 := same_new (H := H9) (p := p10) (o := .lst [.non, .bl true, .int 0, .int (-1), .str "", .str "0", .ref p1, .ref p2, .ref p3, .ref p4, .ref p5, .ref p6, .ref p8, .ref p9, .int ((10 : Int) ^ (29 : Int).toNat)]) m10
    have e10 := upd_same (H := H9) (a := p10) (o := .lst [.non, .bl true, .int 0, .int (-1), .str "", .str "0", .ref p1, .ref p2, .ref p3, .ref p4, .ref p5, .ref p6, .ref p8, .ref p9, .int ((10 : Int) ^ (29 : Int).toNat)])
    generalize upd H9 p10 (.lst [.non, .bl true, .int 0, .int (-1), .str "", .str "0", .ref p1, .ref p2, .ref p3, .ref p4, .ref p5, .ref p6, .ref p8, .ref p9, .int ((10 : Int) ^ (29 : Int).toNat)]) = H10 at *
    have hs : Same H H10 := s1.trans ( s2.trans ( s3.trans ( s4.trans ( s5.trans ( s6.trans ( s7.trans ( s8.trans ( s9.trans (s10)))))))))
    have o1 : OffP d c H10 p1 = some _ := offP_get (dk.off m1) (s10 _ _ (s9 _ _ (s8 _ _ (s7 _ _ (s6 _ _ (s5 _ _ (s4 _ _ (s3 _ _ (s2 _ _ (e1))))))))))
    have o2 : OffP d c H10 p2 = some _ := offP_get (dk.off (s1.free m2)) (s10 _ _ (s9 _ _ (s8 _ _ (s7 _ _ (s6 _ _ (s5 _ _ (s4 _ _ (s3 _ _ (e2)))))))))
    have o3 : OffP d c H10 p3 = some _ := offP_get (dk.off (s1.free (s2.free m3))) (s10 _ _ (s9 _ _ (s8 _ _ (s7 _ _ (s6 _ _ (s5 _ _ (s4 _ _ (e3))))))))
    have o4 : OffP d c H10 p4 = some _ := offP_get (dk.off (s1.free (s2.free (s3.free m4)))) (s10 _ _ (s9 _ _ (s8 _ _ (s7 _ _ (s6 _ _ (s5 _ _ (e4)))))))
    have o5 : OffP d c H10 p5 = some _ := offP_get (dk.off (s1.free (s2.free (s3.free (s4.free m5))))) (s10 _ _ (s9 _ _ (s8 _ _ (s7 _ _ (s6 _ _ (e5))))))
    have o6 : OffP d c H10 p6 = some _ := offP_get (dk.off (s1.free (s2.free (s3.free (s4.free (s5.free m6)))))) (s10 _ _ (s9 _ _ (s8 _ _ (s7 _ _ (e6)))))
    have o7 : OffP d c H10 p7 = some _ := offP_get (dk.off (s1.free (s2.free (s3.free (s4.free (s5.free (s6.free m7))))))) (s10 _ _ (s9 _ _ (s8 _ _ (e7))))
    have o8 : OffP d c H10 p8 = some _ := offP_get (dk.off (s1.free (s2.free (s3.free (s4.free (s5.free (s6.free (s7.free m8)))))))) (s10 _ _ (s9 _ _ (e8)))
    have o9 : OffP d c H10 p9 = some _ := offP_get (dk.off (s1.free (s2.free (s3.free (s4.free (s5.free (s6.free (s7.free (s8.free m9))))))))) (s10 _ _ (e9))
    have oL := (((((((((dk.kept s1).kept s2).kept s3).kept s4).kept s5).kept s6).kept s7).kept s8).kept s9).off m10
    have all : DvAll K (OffP d c H10) [.non, .bl true, .int 0, .int (-1), .str "", .str "0", .ref p1, .ref p2, .ref p3, .ref p4, .ref p5, .ref p6, .ref p8, .ref p9, .int ((10 : Int) ^ (29 : Int).toNat)] oddD := .cons (.non) (.cons (.bl _) (.cons (.int _) (.cons (.int _) (.cons (.str _) (.cons (.str _) (.cons (.lst o1 (.nil)) (.cons (.lst o2 (.cons (.int _) (.nil))) (.cons (.dic o3 .nil) (.cons (.dic o4 (.cons (.int _) (.nil))) (.cons (.tup o5 (.cons (.int _) (.nil))) (.cons (.tup o6 (.cons (.int _) (.cons (.int _) (.nil)))) (.cons (.tup o8 (.cons (.tup o7 (.cons (.int _) (.cons (.int _) (.nil)))) (.nil))) (.cons (.tup o9 (.cons (.non) (.nil))) (.cons (.int _) (.nil)))))))))))))))
    generalize ([.non, .bl true, .int 0, .int (-1), .str "", .str "0", .ref p1, .ref p2, .ref p3, .ref p4, .ref p5, .ref p6, .ref p8, .ref p9, .int ((10 : Int) ^ (29 : Int).toNat)] : List V) = items at *
    have len : items.length = 15 := all.length
    refine ⟨.ref p10, rfl, .ref d, rfl, d, c, n, 15, rfl, dk.kept hs, n0, by omega, by decide, by decide, fun Hd r kp dk2 r0 r1 => ?_⟩
    obtain ⟨j, rfl⟩ : ∃ j : Nat, r = j := ⟨r.toNat, by omega⟩
    have hj : j < items.length := by omega
    have ej : items[j]? = some items[j] := List.getElem?_eq_getElem hj
    obtain ⟨dd, ed, hdv⟩ := all.get ej
    refine ⟨p10, items, j, items[j], rfl, rfl, SqL.of (kp.keep oL e10), atI_nat ej, ?_⟩
    exact q _ _ dd ((Kp.same hs).trans kp) dk2 (List.mem_of_getElem? ed) (dv_same (offP_kp kp) hdv)

def fineW (d : PyData) : Bool := (d.showable && (d.leavesShort 40 && intsB (10 ^ 29 + 1) d)) && (decide (d.weight ≤ 1000) && decide (d.depth ≤ 3))
theorem oddW : oddD.all fineW = true := by decide +kernel
theorem odd_gw {K : PySem.W.Frag} {G : Hp} {v : V} {dd : PyData} {B : Nat} (h : dd ∈ oddD) (hd : Dv K G v dd) (hB : 10 ^ 29 < B) : Gw K B 1000 3 G v := by
  have h := Bool.and_eq_true_iff.mp (List.all_eq_true.mp oddW dd h)
  have h1 := Bool.and_eq_true_iff.mp h.1
  have h2 := Bool.and_eq_true_iff.mp h1.2
  have h3 := Bool.and_eq_true_iff.mp h.2
  exact ⟨dd, hd, ⟨h1.1, h2.1, intsB_mono hB dd h2.2⟩, of_decide_eq_true h3.1, of_decide_eq_true h3.2⟩
theorem fn_weak {P : Program} {w : World} {K : PySem.W.Frag} {mg : Str → Option Value} {base : Heap} {k : Nat} {f : Addr} {fd : FuncData} {ps : List Str} {sp0 sp1 : Sp} {CX : CXT} (F : FnOk P w K mg base CX k f fd ps sp0) (h : ∀ vs H Q E, sp1 vs H Q E → sp0 vs H Q E) : FnOk P w K mg base CX k f fd ps sp1 :=
  ⟨fun vs H Q E z => F.len vs H Q E (h _ _ _ _ z), fun A outer s H args us vs Q E hr he hb hv z => F.run A outer s H args us vs Q E hr he hb hv (h _ _ _ _ z)⟩
def sp_repl (K : PySem.W.Frag) (D : Nat) : Sp := fun vs H Q _ => ∃ (d c : Addr) (m : Int) (v : V) (B N dp : Nat), vs = [.ref d, v, .int D] ∧ Dk H d c m ∧ 0 ≤ m ∧ m + 2 * (D : Int) < 900000 ∧ 10 ^ 29 < B ∧ B + 10 ^ 13 ≤ 10 ^ 30 ∧ N ≤ 100000 ∧ Gw K B N dp (OffP d c H) v ∧
  ∀ H' v' m', Kp d c H H' → Dk H' d c m' → m ≤ m' → m' ≤ m + 2 * D + 3 → Gw K (B + 10 ^ 13) (2 * N + 1001) (dp + 4) (OffP d c H') v' → Q v' H'
theorem noPart_of {σ : L2.St} {H : Hp} {Q : Option Int → Hp → Prop} (h : Q none H) : tNoPart σ H Q := h
theorem at5 {α : Type} {r : Int} (h0 : 0 ≤ r) (h1 : r < 5) (a b e f g : α) : ∃ v, atI [a, b, e, f, g] r = some v ∧ (v = a ∨ v = b ∨ v = e ∨ v = f ∨ v = g) := by
  have : r = 0 ∨ r = 1 ∨ r = 2 ∨ r = 3 ∨ r = 4 := by omega
  rcases this with rfl | rfl | rfl | rfl | rfl
  · exact ⟨a, rfl, .inl rfl⟩
  · exact ⟨b, rfl, .inr (.inl rfl)⟩
  · exact ⟨e, rfl, .inr (.inr (.inl rfl))⟩
  · exact ⟨f, rfl, .inr (.inr (.inr (.inl rfl)))⟩
  · exact ⟨g, rfl, .inr (.inr (.inr (.inr rfl)))⟩
theorem ok_repl (T : Tx K mg f_is_number f_is_position f_is_tuple_of f_is_interval f_has_position f_is_demand f_conflict f_is_independent f_law_deck f_law_draw f_law_line f_law_interval f_law_intervals f_law_demand f_law_conflict f_law_starts f_law_demands f_law_independent f_law_odd f_law_replaced f_law_is_demand f_law_due f_law_values f_law d_is_number d_is_position d_is_tuple_of d_is_interval d_has_position d_is_demand d_conflict d_is_independent d_law_deck d_law_draw d_law_line d_law_interval d_law_intervals d_law_demand d_law_conflict d_law_starts d_law_demands d_law_independent d_law_odd d_law_replaced d_law_is_demand d_law_due d_law_values d_law t_LAST_POSITION) (D lv : Nat) (lv2 : 2 ≤ lv) (ih : FnOk P w K mg base CX0 lv f_law_replaced d_law_replaced ["_law_deck_here", "_law_value", "_law_depth"] (fun vs H Q E => ∃ D', D = D' + 1 ∧ sp_repl K D' vs H Q E)) : FnOk P w K mg base CX0 (lv + 1) f_law_replaced d_law_replaced ["_law_deck_here", "_law_value", "_law_depth"] (sp_repl K D) := by
  refine T.F_law_replaced.ok sc_law_replaced (fun vs H Q E h => ?_) (fun cdv A outer s H vs Q E hr h => ?_)
  · obtain ⟨d, c, m, v, B, N, dp, rfl, _⟩ := h
    rfl
  · obtain ⟨d, c, m, v, B, N, dp, rfl, dk, m0, m1, hB, hB2, hN, ⟨dd, hd, fine, wt, dep⟩, q⟩ := h
    refine ⟨_, (C8.pss_cut (ps_if (PW.pt (pw_and (pt_val (pe_callB call_isi (by rfl) T.z_isinstance (by decide +kernel) (pa_cons (pv 1) (pa_cons (pe_bltn (v := .ty "tuple") (u := .type "tuple") (by rfl) T.z_tuple (by decide +kernel) rfl) pa_nil)))) (pw_and (pt_cmpR op_gt (pe_callB call_len_seq (by rfl) T.z_len PySem.boot_len (pa_cons (pv 1) pa_nil)) pe_int (nomark _)) (pw_and (pt_cmpR op_gt (pv 2) pe_int (nomark _)) (pw_and1 (pt_cmpR op_gt (pe_call (ok_law_draw T) (hr.mono (by omega)) (by rfl) T.g_law_draw T.F_law_draw.kp T.b_law_draw .nil pass0 (pa_cons (pv 0) (pa_cons pe_int pa_nil))) pe_int (nomark _)))))))
      (pss_cons (ps_set (i := 3) sc_law_replaced.nd rfl (Or.inl rfl) (pe_call (ok_law_draw T) (hr.mono (by omega)) (by rfl) T.g_law_draw T.F_law_draw.kp T.b_law_draw .nil pass0 (pa_cons (pv 0) (pa_cons (pe_callB call_len_seq (by rfl) T.z_len PySem.boot_len (pa_cons (pv 1) pa_nil)) pa_nil))))
      (pss_cons (ps_set (i := 4) sc_law_replaced.nd rfl (Or.inl rfl) (pe_call ih (hr.mono (by omega)) (by rfl) T.g_law_replaced T.F_law_replaced.kp T.b_law_replaced .nil pass0 (pa_cons (pv 0) (pa_cons (pe_ix ix_tup (pv 1) (pv 3) (fun _ _ => rfl)) (pa_cons (pe_op op_sub (pv 2) pe_int) pa_nil)))))
      (pss_one (ps_ret (pe_op op_catA (pe_op op_catA (pe_slice sl_tupA (pv 1) po_none (po_some (pv 3))) (pe_tup (pa_cons (pv 4) pa_nil))) (pe_slice sl_tupA (pv 1) (po_some (pe_op op_add (pv 3) pe_int)) po_none))))))
      pss_nil)
      (pss_cons (ps_set (i := 5) sc_law_replaced.nd rfl (Or.inl rfl) (pe_call (ok_law_draw T) (hr.mono (by omega)) (by rfl) T.g_law_draw T.F_law_draw.kp T.b_law_draw .nil pass0 (pa_cons (pv 0) (pa_cons pe_int pa_nil))))
      (pss_cons (ps_if (PW.pt (pw_and (pt_val (pe_callB call_isi (by rfl) T.z_isinstance (by decide +kernel) (pa_cons (pv 1) (pa_cons (pe_bltn (v := .ty "tuple") (u := .type "tuple") (by rfl) T.z_tuple (by decide +kernel) rfl) pa_nil)))) (pw_and1 (pt_cmpR op_lt (pv 5) pe_int (nomark _)))))
      (pss_cons (ps_set (i := 6) sc_law_replaced.nd rfl (Or.inl rfl) (pe_lst (pa_cons (pe_callTy call_list_of (by rfl) T.z_list (by decide +kernel) (pa_cons (pv 1) pa_nil)) (pa_cons (pe_slice sl_tupA (pv 1) po_none (po_some (pe_un un_neg pe_int))) (pa_cons (pe_op op_catA (pv 1) (pe_slice sl_tupA (pv 1) po_none (po_some pe_int))) (pa_cons (pe_revT (pv 1)) pa_nil))))))
      (pss_one (ps_ret (pe_ix ix_list (pe_op op_cat (pv 6) (pe_lst (pa_cons (pe_op op_catA (pv 1) (pe_tup (pa_cons (pe_call (ok_law_odd T) (hr.mono (by omega)) (by rfl) T.g_law_odd T.F_law_odd.kp T.b_law_odd .nil pass0 (pa_cons (pv 0) pa_nil)) pa_nil))) pa_nil))) (pv 5) (fun _ _ => rfl)))))
      pss_nil)
      (pss_cons (ps_if (PW.pt (pw_and (pt_val (pe_callB call_isi (by rfl) T.z_isinstance (by decide +kernel) (pa_cons (pv 1) (pa_cons (pe_bltn (v := .ty "int") (u := .type "int") (by rfl) T.z_int (by decide +kernel) rfl) pa_nil)))) (pw_and (pt_not (pt_val (pe_callB call_isi (by rfl) T.z_isinstance (by decide +kernel) (pa_cons (pv 1) (pa_cons (pe_bltn (v := .ty "bool") (u := .type "bool") (by rfl) T.z_bool (by decide +kernel) rfl) pa_nil))))) (pw_and1 (pt_cmpR op_lt (pv 5) pe_int (nomark _))))))
      (pss_one (ps_ret (pe_ix ix_list (pe_lst (pa_cons (pe_op op_add (pv 1) pe_int) (pa_cons (pe_op op_sub (pv 1) pe_int) (pa_cons (pe_op op_sub pe_int (pv 1)) (pa_cons (pe_cmpR op_eq (pv 1) pe_int (nomark _)) (pa_cons (pe_op op_add (pv 1) (pe_op op_pow pe_int pe_int)) pa_nil)))))) (pv 5) (fun _ _ => rfl))))
      pss_nil)
      (pss_one (ps_ret (pe_call (ok_law_odd T) (hr.mono (by omega)) (by rfl) T.g_law_odd T.F_law_odd.kp T.b_law_odd .nil pass0 (pa_cons (pv 0) pa_nil)))))))), ?_⟩
    have big : sizeLine = 16777216 := by decide
    have e13 : (10 : Nat) ^ 13 = 10000000000000 := by decide
    have e29 : (10 : Nat) ^ 29 = 100000000000000000000000000000 := by decide
    have e30 : (10 : Nat) ^ 30 = 1000000000000000000000000000000 := by decide
    -- whatever is the case, the rest may follow
    refine ⟨fun σ H' => ∃ m', Kp d c H H' ∧ Dk H' d c m' ∧ m ≤ m' ∧ m' ≤ m + 1 ∧ σ = [some (.ref d), some v, some (.int D), none, none, none, none], ?_, ?_⟩
    · have go : ∀ H' m', Kp d c H H' → Dk H' d c m' → m ≤ m' → m' ≤ m + 1 → ∃ m', Kp d c H H' ∧ Dk H' d c m' ∧ m ≤ m' ∧ m' ≤ m + 1 ∧ [some (V.ref d), some v, some (V.int D), none, none, none, none] = [some (V.ref d), some v, some (V.int D), none, none, none, none] := fun H' m' a b c e => ⟨m', a, b, c, e, rfl⟩
      refine ⟨v, rfl, v, .ty "tuple", _, _, _, rfl, .ty "tuple", (dv_same offP_sub hd).ty, kit_tup dd, _, rfl, ?_⟩
      cases tb : tupB dd with
      | false => exact iteF (go H m (Kp.same (Same.refl _)) dk (Int.le_refl _) (by omega))
      | true =>
        refine iteT ?_
        cases hd with
        | @tup a us ds e all =>
          have aH := (offP_at e).2.2
          have lu := all.length
          have lw := len_weight ds
          have wt' : PyData.weightAll ds ≤ N := wt
          refine ⟨.ref a, rfl, a, us, rfl, .inr (SqT.of aH), _, _, rfl, rfl, _, rfl, ite2 (fun c1 => ?_) (fun _ => go H m (Kp.same (Same.refl _)) dk (Int.le_refl _) (by omega))⟩
          have c1 := of_decide_eq_true c1
          refine ⟨.int D, rfl, _, _, rfl, rfl, _, rfl, ite2 (fun c2 => ?_) (fun _ => go H m (Kp.same (Same.refl _)) dk (Int.le_refl _) (by omega))⟩
          have c2 := of_decide_eq_true c2
          refine ⟨.ref d, rfl, d, c, m, 5, rfl, dk, m0, by omega, by decide, by decide, fun H1 r kp1 dk1 r0 r1 => ?_⟩
          refine ⟨_, _, rfl, rfl, _, rfl, ite2 (fun _ => ?_) (fun _ => go H1 (m + 1) kp1 dk1 (by omega) (by omega))⟩
          have a1 := kp1.tup dk aH
          refine ⟨.ref d, rfl, .ref a, rfl, a, us, rfl, .inr (SqT.of a1), d, c, m + 1, (us.length : Int), rfl, dk1, by omega, by omega, by omega, by omega, fun H2 at1 kp2 dk2 b0 b1 => ?_⟩
          obtain ⟨j, rfl⟩ : ∃ j : Nat, at1 = j := ⟨at1.toNat, by omega⟩
          have jl : j < us.length := by omega
          have ej : us[j]? = some us[j] := List.getElem?_eq_getElem jl
          generalize us[j] = u at *
          obtain ⟨x, ex, hx⟩ := all.get ej
          have a2 := kp2.tup dk1 a1
          have kpH2 := kp1.trans kp2
          obtain ⟨D', rfl⟩ : ∃ D' : Nat, D = D' + 1 := ⟨D - 1, by omega⟩
          have fm := fine.mem
          have dm : ∀ z ∈ ds, z.depth ≤ PyData.depthAll ds := fun z hz => dAll_le hz
          have mx := List.mem_of_getElem? ex
          have wx := wAll_mem mx
          have dep' : PyData.depthAll ds + 1 ≤ dp := dep
          refine ⟨.ref d, rfl, .ref a, rfl, .int j, rfl, a, us, (j : Int), u, rfl, rfl, SqT.of a2, atI_nat ej, .int ((D' + 1 : Nat) : Int), rfl, _, _, rfl, rfl, ?_⟩
          refine ⟨D', rfl, d, c, m + 1 + 1, u, B, x.weight, PyData.depthAll ds, by show [V.ref d, u, V.int (((D' + 1 : Nat) : Int) - 1)] = _; rw [show ((D' + 1 : Nat) : Int) - 1 = (D' : Int) by omega], dk2, by omega, by omega, hB, hB2, by omega, ⟨x, dv_same (offP_kp kpH2) hx, fm x mx, Nat.le_refl _, dm x mx⟩, fun H3 v3 m3 kp3 dk3 q0 q1 g3 => ?_⟩
          have a3 := kp3.tup dk2 a2
          refine ⟨.ref a, rfl, .int j, rfl, (j : Int), rfl, slA_any a3 (fun H4 p4 s4 ep4 => ?_)⟩
          refine ⟨v3, rfl, by show 1 ≤ sizeLine; decide, fun t nt => ?_⟩
          have s5 := same_new (o := .tup [v3]) nt
          have et := upd_same (H := H4) (a := t) (o := .tup [v3])
          generalize upd H4 t (.tup [v3]) = H5 at *
          have l1 : (cutV us none (some (j : Int))).length ≤ us.length := by rw [cutTo]; exact List.length_take_le' _ _
          refine catA_any (s5 _ _ ep4) et (by rw [big]; show _ + 1 ≤ _; omega) (fun H6 p6 s6 ep6 => ?_)
          have s36 := s4.trans (s5.trans s6)
          refine ⟨.ref a, rfl, .int j, rfl, _, _, rfl, rfl, (j : Int) + 1, rfl, ?_⟩
          refine noPart_of ?_
          refine slA_any (s36 _ _ a3) (fun H7 p7 s7 ep7 => ?_)
          have l2 : (cutV us (some ((j : Int) + 1)) none).length ≤ us.length := by rw [show (j : Int) + 1 = ((j + 1 : Nat) : Int) by omega, cutFrom, List.length_drop]; omega
          refine catA_any (s7 _ _ ep6) ep7 (by rw [big, List.length_append]; show _ + 1 + _ ≤ _; omega) (fun H8 p8 s8 ep8 => ?_)
          have s38 := s36.trans (s7.trans s8)
          have kpH8 : Kp d c H H8 := kpH2.trans (kp3.trans (Kp.same s38))
          have dk8 := dk3.kept s38
          rw [cutTo, show (j : Int) + 1 = ((j + 1 : Nat) : Int) by omega, cutFrom] at ep8
          have row := swap_row (dq := PyData.depthAll ds + 4) (dvAll_same (offP_kp kpH8) all) (fun z hz => ⟨fm z hz, dm z hz⟩) ex (g3.same (offP_kp (Kp.same s38))) (Nat.le_add_right _ _) (by omega)
          refine q H8 _ m3 kpH8 dk8 (by omega) (by omega) ?_
          exact (row.tup (offP_get (dk8.offT ep8) ep8)).mono (Nat.le_refl _) (by omega) (by omega)
        | _ => exact (Bool.false_ne_true tb).elim
    · rintro σ H0 ⟨m2, kp0, dk0, n0, n1, rfl⟩
      have hd0 := dv_same (offP_kp kp0) hd
      refine ⟨.ref d, rfl, d, c, m2, 7, rfl, dk0, by omega, by omega, by decide, by decide, fun H1 wy kp1 dk1 y0 y1 => ?_⟩
      have kpH1 := kp0.trans kp1
      have hd1 := dv_same (offP_kp kp1) hd0
      have hdH := dv_same offP_sub hd1
      have odd : sp_law_odd K [.ref d] H1 Q E0 := by
        refine ⟨d, c, m2 + 1, rfl, dk1, by omega, by omega, fun H2 v2 d2 kp2 dk2 md hv => ?_⟩
        exact q _ v2 _ (kpH1.trans kp2) dk2 (by omega) (by omega) ((odd_gw md hv hB).mono (by omega) (by omega) (by omega))
      refine ⟨v, rfl, v, .ty "tuple", _, _, _, rfl, .ty "tuple", hdH.ty, kit_tup dd, _, rfl, ?_⟩
      cases tb : tupB dd with
      | true =>
        refine iteT ?_
        cases hd1 with
        | @tup a us ds e all =>
          have a1 := (offP_at e).2.2
          have lu := all.length
          have lw := len_weight ds
          have wt' : PyData.weightAll ds ≤ N := wt
          have dep' : PyData.depthAll ds + 1 ≤ dp := dep
          have rw1 : Rw K B N (PyData.depthAll ds) (OffP d c H1) us := ⟨ds, all, fun x hx => ⟨fine.mem x hx, dAll_le hx⟩, wt'⟩
          refine ⟨.int wy, rfl, _, _, rfl, rfl, _, rfl, ite2 (fun cc => ?_) (fun _ => ?_)⟩
          · have cc := of_decide_eq_true cc
            have cl : ∀ lo hi, (cutV us lo hi).length ≤ N := fun lo hi => Rw.len (rw1.cut lo hi)
            have c1 := cl none (some (1 : Int))
            have cM := cl none (some (-1 : Int))
            refine ⟨.ref a, rfl, a, us, rfl, .inr (SqT.of a1), fun p1 np1 => ?_⟩
            have s1 := same_new (o := .lst us) np1
            have e1 := upd_same (H := H1) (a := p1) (o := .lst us)
            generalize upd H1 p1 (.lst us) = H2 at *
            refine ⟨.ref a, rfl, 1, rfl, -1, rfl, ?_⟩
            refine slA_any (s1 _ _ a1) (fun H3 p3 s3 e3 => ?_)
            have s13 := s1.trans s3
            refine ⟨.ref a, rfl, .ref a, rfl, 1, rfl, slA_any (s13 _ _ a1) (fun H4 p4 s4 e4 => ?_)⟩
            refine catA_any ((s13.trans s4) _ _ a1) e4 (by rw [big]; omega) (fun H5 p5 s5 e5 => ?_)
            have s15 := s13.trans (s4.trans s5)
            refine ⟨.ref a, rfl, a, us, rfl, SqT.of (s15 _ _ a1), fun p6 n6 => ?_⟩
            have s6 := same_new (o := .tup us.reverse) n6
            have e6 := upd_same (H := H5) (a := p6) (o := .tup us.reverse)
            generalize upd H5 p6 (.tup us.reverse) = H6 at *
            refine ⟨by show 4 ≤ sizeLine; decide, fun L nL => ?_⟩
            have s7 := same_new (o := .lst [.ref p1, .ref p3, .ref p5, .ref p6]) nL
            have eL := upd_same (H := H6) (a := L) (o := .lst [.ref p1, .ref p3, .ref p5, .ref p6])
            generalize upd H6 L (.lst [.ref p1, .ref p3, .ref p5, .ref p6]) = H7 at *
            have s17 := s15.trans (s6.trans s7)
            have dk7 := dk1.kept s17
            have offL : Off d c L := (dk1.kept (s15.trans s6)).off nL
            have off1 : Off d c p1 := dk1.off np1
            refine ⟨.ref L, rfl, .ref a, rfl, .ref d, rfl, d, c, m2 + 1, rfl, dk7, by omega, by omega, fun H8 v8 d8 kp8 dk8 md8 hv8 => ?_⟩
            have g8 := odd_gw md8 hv8 hB
            refine ⟨by show 1 ≤ sizeLine; decide, fun t nt => ?_⟩
            have s9 := same_new (o := .tup [v8]) nt
            have et := upd_same (H := H8) (a := t) (o := .tup [v8])
            generalize upd H8 t (.tup [v8]) = H9 at *
            have a9 := s9 _ _ (kp8.tup dk7 (s17 _ _ a1))
            refine catA_any a9 et (by rw [big]; show _ + 1 ≤ _; omega) (fun H10 p10 s10 e10 => ?_)
            refine ⟨by show 1 ≤ sizeLine; decide, fun l2 nl2 => ?_⟩
            have s11 := same_new (o := .lst [.ref p10]) nl2
            have el2 := upd_same (H := H10) (a := l2) (o := .lst [.ref p10])
            generalize upd H10 l2 (.lst [.ref p10]) = H11 at *
            have s811 := s9.trans (s10.trans s11)
            refine ⟨L, l2, _, _, rfl, rfl, s811 _ _ (kp8.keep offL eL), el2, by rw [big]; show 4 + 1 ≤ _; omega, fun g ng => ?_⟩
            have s12 := same_new (o := .lst ([.ref p1, .ref p3, .ref p5, .ref p6] ++ [.ref p10])) ng
            have eg := upd_same (H := H11) (a := g) (o := .lst ([.ref p1, .ref p3, .ref p5, .ref p6] ++ [.ref p10]))
            obtain ⟨v, ev, hv⟩ := at5 (r := wy) (by omega) (by omega) (V.ref p1) (.ref p3) (.ref p5) (.ref p6) (.ref p10)
            refine ⟨.int wy, rfl, g, _, wy, v, rfl, rfl, SqL.of eg, ev, ?_⟩
            generalize upd H11 g (.lst ([.ref p1, .ref p3, .ref p5, .ref p6] ++ [.ref p10])) = H12 at *
            have s812 := s811.trans s12
            have kp112 : Kp d c H1 H12 := (Kp.same s17).trans (kp8.trans (Kp.same s812))
            have kpH := kpH1.trans kp112
            have dk12 := dk8.kept s812
            refine q _ v (m2 + 1 + 1) kpH dk12 (by omega) (by omega) ?_
            have rwF := rw1.same (offP_kp kp112)
            have kp712 : Kp d c H7 H12 := kp8.trans (Kp.same s812)
            have tupG : ∀ {x : Addr} {vs : List V} {M : Nat}, H12 x = some (.tup vs) → Rw K B M (PyData.depthAll ds + 3) (OffP d c H12) vs → M ≤ 2 * N + 1001 → Gw K (B + 10 ^ 13) (2 * N + 1001) (dp + 4) (OffP d c H12) (.ref x) := fun e rr k => (rr.tup (offP_get (dk12.offT e) e)).mono (by omega) k (by omega)
            have up : ∀ {vs : List V} {M : Nat}, Rw K B M (PyData.depthAll ds) (OffP d c H12) vs → Rw K B M (PyData.depthAll ds + 3) (OffP d c H12) vs := fun h => h.mono (Nat.le_refl _) (Nat.le_refl _) (by omega)
            rcases hv with rfl | rfl | rfl | rfl | rfl
            · have e := kp712.keep off1 (((s3.trans (s4.trans (s5.trans (s6.trans s7))))) _ _ e1)
              exact (rwF.lst (offP_get off1 e)).mono (by omega) (by omega) (by omega)
            · exact tupG (kp712.tup dk7 ((s4.trans (s5.trans (s6.trans s7))) _ _ e3)) (up (rwF.cut _ _)) (by omega)
            · exact tupG (kp712.tup dk7 ((s6.trans s7) _ _ e5)) (up (rwF.cat (rwF.cut _ _))) (by omega)
            · exact tupG (kp712.tup dk7 (s7 _ _ e6)) (up rwF.rev) (by omega)
            · exact tupG (s12 _ _ (s11 _ _ e10)) ((up rwF).cat (Rw.one ((g8.same (offP_kp (Kp.same s812))).mono (Nat.le_refl _) (Nat.le_refl _) (by omega)))) (by omega)
          · refine ⟨.ref a, rfl, .ref a, .ty "int", _, _, _, rfl, .ty "int", hdH.ty, kit_int (.tuple ds), _, rfl, iteF ?_⟩
            exact ⟨.ref d, rfl, odd⟩
        | _ => exact (Bool.false_ne_true tb).elim
      | false =>
        refine iteF ?_
        refine ⟨v, rfl, v, .ty "int", _, _, _, rfl, .ty "int", hdH.ty, kit_int dd, _, rfl, ?_⟩
        cases ib : intB dd with
        | false => exact iteF ⟨.ref d, rfl, odd⟩
        | true =>
          refine iteT ?_
          refine ⟨v, rfl, v, .ty "bool", _, _, _, rfl, .ty "bool", hdH.ty, kit_bool dd, _, rfl, ?_⟩
          cases bb : boolB dd with
          | true => exact iteF ⟨.ref d, rfl, odd⟩
          | false =>
            refine iteT ?_
            obtain ⟨i, rfl⟩ := num_int (d := dd) (by rw [ib, bb]; rfl)
            have ev := hd.asInt
            subst ev
            have li := fine.lt
            refine ⟨.int wy, rfl, _, _, rfl, rfl, _, rfl, ite2 (fun cc => ?_) (fun _ => ⟨.ref d, rfl, odd⟩)⟩
            have cc := of_decide_eq_true cc
            have p12 : (10 : Int) ^ (12 : Int).toNat = 1000000000000 := by decide
            refine ⟨.int i, rfl, _, _, rfl, rfl, .int i, rfl, _, _, rfl, rfl, .int i, rfl, _, _, rfl, rfl, .int i, rfl, rfl, .int i, rfl, 10, 12, rfl, rfl, ⟨by decide, by decide, by decide⟩, _, _, rfl, rfl, by show 5 ≤ sizeLine; decide, fun l nl => ?_⟩
            have sl := same_new (o := .lst [.int (i + 1), .int (i - 1), .int (0 - i), .bl (decide (V.int i = V.int 1)), .int (i + (10 : Int) ^ (12 : Int).toNat)]) nl
            obtain ⟨v, ev, hv⟩ := at5 (r := wy) (by omega) (by omega) (V.int (i + 1)) (.int (i - 1)) (.int (0 - i)) (.bl (decide (V.int i = V.int 1))) (.int (i + (10 : Int) ^ (12 : Int).toNat))
            refine ⟨.int wy, rfl, l, _, wy, v, rfl, rfl, SqL.of upd_same, ev, ?_⟩
            refine q _ v (m2 + 1) (kpH1.trans (Kp.same sl)) (dk1.kept sl) (by omega) (by omega) ?_
            have num : ∀ k : Int, k.natAbs < B + 10 ^ 13 → Gw K (B + 10 ^ 13) (2 * N + 1001) (dp + 4) (OffP d c (upd H1 l (.lst [.int (i + 1), .int (i - 1), .int (0 - i), .bl (decide (V.int i = V.int 1)), .int (i + (10 : Int) ^ (12 : Int).toNat)]))) (.int k) := fun k hk => by
              have s := Sm.int (Nat.lt_of_lt_of_le hk hB2)
              exact ⟨_, .int k, Fine.int hk hB2, by have := s.small; omega, Nat.zero_le _⟩
            rcases hv with rfl | rfl | rfl | rfl | rfl
            · exact num _ (by omega)
            · exact num _ (by omega)
            · exact num _ (by omega)
            · exact ⟨_, .bl _, Fine.bool _ _, Nat.zero_le _, Nat.zero_le _⟩
            · exact num _ (by rw [p12]; omega)

/-! ### comprehensions over longer rows (comp.part's, to a million) -/
theorem few_lineb {n : Nat} (h : n < 1000000) : n < sizeLine := by
  rw [show sizeLine = 16777216 by decide]
  omega
theorem lcLb {K : PySem.W.Frag} {a : Addr} {xs : List V} {g : TG} {tt : TT} {te : TE} {vs : List Nat} {σ : L2.St} {H1 : Hp} {D : Addr} {Qd : Hp → Prop} (R : Nat → Hp → List V → Prop) (nD : H1 D = none) (hl : ∀ H', Same H1 H' → SqL K H' a xs) (few : xs.length < 1000000)
    (mono : ∀ i H' H'' ws, Tps H' H'' → R i H' ws → R i H'' ws) (len : ∀ i H' ws, R i H' ws → ws.length ≤ i) (r0 : ∀ H', R 0 H' [])
    (hs : ∀ i x H' (N : Hp → Prop) acc, xs[i]? = some x → Same H1 H' → H' D = some (.lst acc) → acc.length < sizeLine → R i H' acc → (∀ H'', Same H' H'' → R (i + 1) H'' acc → N H'') → (∀ H'' y, Same H' H'' → R (i + 1) H'' (acc ++ [y]) → ∃ acc', H'' D = some (.lst acc') ∧ acc'.length < sizeLine ∧ N (upd H'' D (.lst (acc' ++ [y])))) →
      g x (wipe σ vs) H' fun σ2 H2 => wipe σ2 vs = wipe σ vs ∧ tt σ2 H2 fun b H3 => if b = true then te σ2 H3 fun y H4 => ∃ acc, H4 D = some (.lst acc) ∧ acc.length < sizeLine ∧ N (upd H4 D (.lst (acc ++ [y]))) else N H3)
    (hd : ∀ H' ws, Same H1 H' → H' D = some (.lst ws) → R xs.length H' ws → Qd H') :
    ∃ W : Nat → Nat → Hp → Prop, (∃ m, W 0 m (upd H1 D (.lst []))) ∧ ∀ i m H, W i m H →
      ((Itl K a).stop i H ∧ Qd H) ∨ ((Itl K a).go i H ∧ ∃ Nx : Hp → Prop, (∀ H', Nx H' → ∃ m', m' < m ∧ W (i + 1) m' H') ∧ ∀ x H', (Itl K a).yld i H x H' → g x (wipe σ vs) H' fun σ2 H2 => wipe σ2 vs = wipe σ vs ∧ tt σ2 H2 fun b H3 =>
        if b = true then te σ2 H3 fun y H4 => ∃ acc, H4 D = some (.lst acc) ∧ acc.length < sizeLine ∧ Nx (upd H4 D (.lst (acc ++ [y]))) else Nx H3) := by
  refine lc_list (K := K) (a := a) (xs := xs) (fun i H' => Same H1 H' ∧ ∃ ws, H' D = some (.lst ws) ∧ R i H' ws) ⟨same_new nD, [], upd_same, r0 _⟩ (fun i H' _ h => hl H' h.1) ?_ ?_
  · rintro i x H' hi ⟨sm, ws, eD, r⟩
    have lt := (List.getElem?_eq_some_iff.mp hi).1
    have lw := len i H' ws r
    have sz : ws.length < sizeLine := few_lineb (by omega)
    refine hs i x H' _ ws hi sm eD sz r (fun H'' s r2 => ⟨sm.trans s, ws, s _ _ eD, r2⟩) (fun H'' y s r2 => ?_)
    exact ⟨ws, s _ _ eD, sz, same_off nD (sm.trans s), _, upd_same, mono _ _ _ _ (Tps.lst (s _ _ eD)) r2⟩
  · rintro H' ⟨sm, ws, eD, r⟩
    exact hd H' ws sm eD r
theorem lcTb {K : PySem.W.Frag} {a : Addr} {xs : List V} {g : TG} {tt : TT} {te : TE} {vs : List Nat} {σ : L2.St} {H1 : Hp} {D : Addr} {Qd : Hp → Prop} (R : Nat → Hp → List V → Prop) (nD : H1 D = none) (hl : ∀ H', Same H1 H' → SqT K H' a xs) (few : xs.length < 1000000)
    (mono : ∀ i H' H'' ws, Tps H' H'' → R i H' ws → R i H'' ws) (len : ∀ i H' ws, R i H' ws → ws.length ≤ i) (r0 : ∀ H', R 0 H' [])
    (hs : ∀ i x H' (N : Hp → Prop) acc, xs[i]? = some x → Same H1 H' → H' D = some (.lst acc) → acc.length < sizeLine → R i H' acc → (∀ H'', Same H' H'' → R (i + 1) H'' acc → N H'') → (∀ H'' y, Same H' H'' → R (i + 1) H'' (acc ++ [y]) → ∃ acc', H'' D = some (.lst acc') ∧ acc'.length < sizeLine ∧ N (upd H'' D (.lst (acc' ++ [y])))) →
      g x (wipe σ vs) H' fun σ2 H2 => wipe σ2 vs = wipe σ vs ∧ tt σ2 H2 fun b H3 => if b = true then te σ2 H3 fun y H4 => ∃ acc, H4 D = some (.lst acc) ∧ acc.length < sizeLine ∧ N (upd H4 D (.lst (acc ++ [y]))) else N H3)
    (hd : ∀ H' ws, Same H1 H' → H' D = some (.lst ws) → R xs.length H' ws → Qd H') :
    ∃ W : Nat → Nat → Hp → Prop, (∃ m, W 0 m (upd H1 D (.lst []))) ∧ ∀ i m H, W i m H →
      ((Itt K a).stop i H ∧ Qd H) ∨ ((Itt K a).go i H ∧ ∃ Nx : Hp → Prop, (∀ H', Nx H' → ∃ m', m' < m ∧ W (i + 1) m' H') ∧ ∀ x H', (Itt K a).yld i H x H' → g x (wipe σ vs) H' fun σ2 H2 => wipe σ2 vs = wipe σ vs ∧ tt σ2 H2 fun b H3 =>
        if b = true then te σ2 H3 fun y H4 => ∃ acc, H4 D = some (.lst acc) ∧ acc.length < sizeLine ∧ Nx (upd H4 D (.lst (acc ++ [y]))) else Nx H3) := by
  refine lc_tup (K := K) (a := a) (xs := xs) (fun i H' => Same H1 H' ∧ ∃ ws, H' D = some (.lst ws) ∧ R i H' ws) ⟨same_new nD, [], upd_same, r0 _⟩ (fun i H' _ h => hl H' h.1) ?_ ?_
  · rintro i x H' hi ⟨sm, ws, eD, r⟩
    have lt := (List.getElem?_eq_some_iff.mp hi).1
    have lw := len i H' ws r
    have sz : ws.length < sizeLine := few_lineb (by omega)
    refine hs i x H' _ ws hi sm eD sz r (fun H'' s r2 => ⟨sm.trans s, ws, s _ _ eD, r2⟩) (fun H'' y s r2 => ?_)
    exact ⟨ws, s _ _ eD, sz, same_off nD (sm.trans s), _, upd_same, mono _ _ _ _ (Tps.lst (s _ _ eD)) r2⟩
  · rintro H' ⟨sm, ws, eD, r⟩
    exact hd H' ws sm eD r

/-! ### the law's demands -/
def ldmT (L : List Int) (t : Int × Int) : List Dem := (L.filter fun x => atP t.1 t.2 x).map fun x => (x, t.1, t.2)
def ldm (ts : List (Int × Int)) (L : List Int) : List Dem := ts.flatMap (ldmT L)
theorem ldm_snoc {ts : List (Int × Int)} {L : List Int} {t : Int × Int} : ldm (ts ++ [t]) L = ldm ts L ++ ldmT L t := by
  unfold ldm
  rw [List.flatMap_append]
  simp
theorem ldmT_len {L : List Int} {t : Int × Int} : (ldmT L t).length ≤ L.length := by
  unfold ldmT
  rw [List.length_map]
  exact List.length_filter_le _ _
theorem ldm_len {L : List Int} : ∀ {ts : List (Int × Int)}, (ldm ts L).length ≤ ts.length * L.length
  | [] => Nat.zero_le _
  | t :: ts => by
    have ih := ldm_len (L := L) (ts := ts)
    have := ldmT_len (L := L) (t := t)
    unfold ldm at ih ⊢
    rw [List.flatMap_cons, List.length_append, List.length_cons, Nat.add_mul]
    omega
theorem mem_ldm {ts : List (Int × Int)} {L : List Int} {d : Dem} : d ∈ ldm ts L ↔ ∃ t ∈ ts, ∃ x ∈ L, atP t.1 t.2 x = true ∧ d = (x, t.1, t.2) := by
  unfold ldm ldmT
  rw [List.mem_flatMap]
  constructor
  · rintro ⟨t, ht, h⟩
    obtain ⟨x, hx, e⟩ := List.mem_map.mp h
    have z := List.mem_filter.mp hx
    exact ⟨t, ht, x, z.1, z.2, e.symm⟩
  · rintro ⟨t, ht, x, hx, c, e⟩
    exact ⟨t, ht, List.mem_map.mpr ⟨x, List.mem_filter.mpr ⟨hx, c⟩, e.symm⟩⟩
def sp_law_demands : Sp := fun vs H Q _ => ∃ (a b : Addr) (us : List V) (ts : List (Int × Int)) (L : List Int), vs = [.ref a, .ref b] ∧ H a = some (.tup us) ∧ H b = some (.lst (L.map V.int)) ∧ Ivs H us ts ∧ ts.length ≤ 30 ∧ L.length ≤ 100 ∧
  ∀ H' p zs, Same H H' → H' p = some (.lst zs) → Dms H' zs (ldm ts L) → Q (.ref p) H'
theorem ok_law_demands (T : Tx K mg f_is_number f_is_position f_is_tuple_of f_is_interval f_has_position f_is_demand f_conflict f_is_independent f_law_deck f_law_draw f_law_line f_law_interval f_law_intervals f_law_demand f_law_conflict f_law_starts f_law_demands f_law_independent f_law_odd f_law_replaced f_law_is_demand f_law_due f_law_values f_law d_is_number d_is_position d_is_tuple_of d_is_interval d_has_position d_is_demand d_conflict d_is_independent d_law_deck d_law_draw d_law_line d_law_interval d_law_intervals d_law_demand d_law_conflict d_law_starts d_law_demands d_law_independent d_law_odd d_law_replaced d_law_is_demand d_law_due d_law_values d_law t_LAST_POSITION) : FnOk P w K mg base CX0 1 f_law_demands d_law_demands ["_law_targets", "_law_positions"] sp_law_demands := by
  refine T.F_law_demands.ok sc_law_demands (fun vs H Q E h => ?_) (fun cdv A outer s H vs Q E hr h => ?_)
  · obtain ⟨a, b, us, ts, L, rfl, _⟩ := h
    rfl
  · obtain ⟨a, b, us, ts, L, rfl, ha, hb, iv, lt, lL, q⟩ := h
    have lu := iv.length
    refine ⟨_, (pss_cons (ps_set (i := 2) sc_law_demands.nd rfl (Or.inl rfl) (pe_lst pa_nil))
      (pss_cons (ps_for PassesOwn.never rfl (pi_tup (pv 0)) (pg_name (i := 3) sc_law_demands.nd rfl (Or.inr rfl))
      (pss_one (ps_set (i := 2) sc_law_demands.nd rfl (Or.inl rfl) (pe_op op_cat (pv 2) (pe_lc (own := [("_law_position", 4)]) (g := (gName 4)) (by rfl) sc_law_demands.nd (pi_list (pv 1)) (blkOk_by (own := [("_law_position", 4)]) (N := N_law_demands) (sc := defScope s_law_demands) (by decide +kernel)) (fun _ _ _ _ _ => (pg_name (i := 4) sc_law_demands.nd rfl (Or.inl rfl))) (fun _ _ _ _ _ => pts_one (pt_chain op_le op_le (pe_ix (show IxR _ (rIxT K) from ix_tup) (pv 3) pe_int (fun _ _ => rfl)) (pv 4) (pe_ix (show IxR _ (rIxT K) from ix_tup) (pv 3) pe_int (fun _ _ => rfl)))) (fun _ _ _ _ _ => (pe_tup (pa_cons (pv 4) (pa_cons (pv 3) pa_nil)))))))))
      (pss_one (ps_ret (pv 2))))), ?_⟩
    refine ⟨by show 0 ≤ sizeLine; decide, fun l0 nl0 => ?_⟩
    have s0 := same_new (o := .lst []) nl0
    refine ⟨.ref a, rfl, a, rfl, ⟨_, SqT.of (s0 _ _ ha)⟩, ?_⟩
    refine for_tup (K := K) (a := a) (xs := us) (D := ⟨_, _, fun _ _ => True, fun _ _ => True⟩) (fun j σ H' => Same H H' ∧ ∃ p zs z3 z4, H' p = some (.lst zs) ∧ Dms H' zs (ldm (ts.take j) L) ∧ σ = [some (.ref a), some (.ref b), some (.ref p), z3, z4])
      ⟨s0, l0, [], _, _, upd_same, .nil, rfl⟩ (fun j σ H' _ h => SqT.of (h.1 _ _ ha)) ?_ ?_
    · rintro j v σ H1 hj ⟨s1, p, zs, z3, z4, ep, dm, rfl⟩
      obtain ⟨tt, lo, hi, rfl, et, htt⟩ := iv.get hj
      have hjl := (List.getElem?_eq_some_iff.mp et).1
      refine ⟨.ref p, rfl, .ref b, rfl, b, rfl, ⟨_, SqL.of (s1 _ _ hb)⟩, fun D nD => ?_⟩
      refine lcL (K := K) (a := b) (xs := L.map V.int) (fun k H' ys => Dms H' ys (ldmT (L.take k) (lo, hi)) ∧ ys.length ≤ k) nD (fun H' s => SqL.of (s _ _ (s1 _ _ hb))) (by rw [List.length_map]; omega) (fun _ _ _ _ t h => ⟨h.1.tps t, h.2⟩) (fun k H' ys h => h.2) (fun _ => ⟨.nil, Nat.le_refl _⟩) ?_ ?_
      · rintro k v H' N acc hk sm eA sz ⟨r, rl⟩ no yes
        rw [List.getElem?_map] at hk
        obtain ⟨x, ex, rfl⟩ := Option.map_eq_some_iff.mp hk
        have htt' := sm _ _ (s1 _ _ htt)
        have out : ¬ atP lo hi x = true → N H' := fun e => by
          refine no H' (Same.refl _) ⟨?_, Nat.le_succ_of_le rl⟩
          have e2 : ldmT (L.take (k + 1)) (lo, hi) = ldmT (L.take k) (lo, hi) := by
            unfold ldmT
            rw [take_filter ex, if_neg e, List.append_nil]
          rw [e2]
          exact r
        refine ⟨rfl, .ref tt, rfl, tt, _, 0, .int lo, rfl, rfl, SqT.of htt', rfl, .int x, rfl, _, _, rfl, rfl, _, rfl, ite2 (fun c1 => ?_) (fun c1 => ?_)⟩
        · refine ⟨.ref tt, rfl, tt, _, 1, .int hi, rfl, rfl, SqT.of htt', rfl, _, _, rfl, rfl, _, rfl, ite2 (fun c2 => ?_) (fun c2 => ?_)⟩
          · refine ⟨.int x, rfl, .ref tt, rfl, by show 2 ≤ sizeLine; decide, fun t nt => yes _ _ (same_new nt) ⟨?_, by rw [List.length_append]; show acc.length + 1 ≤ _; omega⟩⟩
            have e2 : ldmT (L.take (k + 1)) (lo, hi) = ldmT (L.take k) (lo, hi) ++ [(x, lo, hi)] := by
              unfold ldmT
              rw [take_filter ex, if_pos (show atP (lo, hi).1 (lo, hi).2 x = true from Bool.and_eq_true_iff.mpr ⟨c1, c2⟩), List.map_append]
              rfl
            rw [e2]
            exact (r.same (same_new nt)).snoc ⟨⟨t, tt, rfl, upd_same, same_new nt _ _ htt'⟩, of_decide_eq_true c1, of_decide_eq_true c2⟩
          · exact out fun e => c2 (Bool.and_eq_true_iff.mp e).2
        · exact ⟨_, rfl, iteF (out fun e => c1 (Bool.and_eq_true_iff.mp e).1)⟩
      · rintro H2 ys s2 eD ⟨r, _⟩
        rw [List.length_map, List.take_length] at r
        have l1 := dm.length
        have l2 := r.length
        have l3 := ldm_len (ts := ts.take j) (L := L)
        have l4 := ldmT_len (L := L) (t := (lo, hi))
        have l5 : (ts.take j).length * L.length ≤ 30 * 100 := Nat.mul_le_mul (Nat.le_trans (List.length_take_le' _ _) lt) lL
        refine ⟨p, D, zs, ys, rfl, rfl, s2 _ _ ep, eD, by rw [show sizeLine = 16777216 by decide]; omega, fun g ng => ?_⟩
        have s3 := same_new (o := .lst (zs ++ ys)) ng
        have s23 := s2.trans s3
        refine ⟨s1.trans s23, g, zs ++ ys, _, _, upd_same, ?_, rfl⟩
        rw [List.take_add_one, et]
        show Dms _ (zs ++ ys) (ldm (ts.take j ++ [(lo, hi)]) L)
        rw [ldm_snoc]
        exact (dm.same s23).append (r.same s3)
    · rintro σ H1 ⟨s1, p, zs, z3, z4, ep, dm, rfl⟩
      rw [lu, List.take_length] at dm
      exact ⟨.ref p, rfl, q _ p zs s1 ep dm⟩

def sp_law_starts : Sp := fun vs H Q _ => ∃ (a : Addr) (us : List V) (row : List (Int × Int)), vs = [.ref a] ∧ H a = some (.tup us) ∧ Ivs H us row ∧ row.length ≤ 10 ∧
  ∀ H' p (cs : List Int), Same H H' → H' p = some (.lst (cs.map V.int)) → cs.length ≤ 20 → Q (.ref p) H'
theorem ok_law_starts (T : Tx K mg f_is_number f_is_position f_is_tuple_of f_is_interval f_has_position f_is_demand f_conflict f_is_independent f_law_deck f_law_draw f_law_line f_law_interval f_law_intervals f_law_demand f_law_conflict f_law_starts f_law_demands f_law_independent f_law_odd f_law_replaced f_law_is_demand f_law_due f_law_values f_law d_is_number d_is_position d_is_tuple_of d_is_interval d_has_position d_is_demand d_conflict d_is_independent d_law_deck d_law_draw d_law_line d_law_interval d_law_intervals d_law_demand d_law_conflict d_law_starts d_law_demands d_law_independent d_law_odd d_law_replaced d_law_is_demand d_law_due d_law_values d_law t_LAST_POSITION) : FnOk P w K mg base CX0 1 f_law_starts d_law_starts ["_law_intervals_here"] sp_law_starts := by
  refine T.F_law_starts.ok sc_law_starts (fun vs H Q E h => ?_) (fun cdv A outer s H vs Q E hr h => ?_)
  · obtain ⟨a, us, row, rfl, _⟩ := h
    rfl
  · obtain ⟨a, us, row, rfl, ha, iv, few, q⟩ := h
    refine ⟨_, (pss_cons (ps_set (i := 1) sc_law_starts.nd rfl (Or.inl rfl) (pe_op op_cat (pe_lc (own := [("_law_low", 2), ("_law_high", 3)]) (g := (gTup K 2 (gCons (gName 2) (gCons (gName 3) gNil)))) (tt := tYes) (by rfl) sc_law_starts.nd (pi_tup (pv 0)) (blkOk_by (own := [("_law_low", 2), ("_law_high", 3)]) (N := N_law_starts) (sc := defScope s_law_starts) (by decide +kernel)) (fun _ _ _ _ _ => (pg_tup rfl (pgs_cons (pg_name (i := 2) sc_law_starts.nd rfl (Or.inl rfl)) (pgs_cons (pg_name (i := 3) sc_law_starts.nd rfl (Or.inl rfl)) pgs_nil)))) (fun _ _ _ _ _ => pts_nil) (fun _ _ _ _ _ => (pv 2))) (pe_lc (own := [("_law_low", 2), ("_law_high", 3)]) (g := (gTup K 2 (gCons (gName 2) (gCons (gName 3) gNil)))) (tt := tYes) (by rfl) sc_law_starts.nd (pi_tup (pv 0)) (blkOk_by (own := [("_law_low", 2), ("_law_high", 3)]) (N := N_law_starts) (sc := defScope s_law_starts) (by decide +kernel)) (fun _ _ _ _ _ => (pg_tup rfl (pgs_cons (pg_name (i := 2) sc_law_starts.nd rfl (Or.inl rfl)) (pgs_cons (pg_name (i := 3) sc_law_starts.nd rfl (Or.inl rfl)) pgs_nil)))) (fun _ _ _ _ _ => pts_nil) (fun _ _ _ _ _ => (pe_op op_add (pv 3) pe_int)))))
      (pss_one (ps_ret (pe_lc (own := [("_law_cut", 4)]) (g := (gName 4)) (by rfl) sc_law_starts.nd (pi_list (pe_callB (cr_sortedSet rfl) (by rfl) T.z_sorted (by decide +kernel) (pa_cons (pe_callTy (cr_setOfI rfl) (by rfl) T.z_set (by decide +kernel) (pa_cons (pv 1) pa_nil)) pa_nil))) (blkOk_by (own := [("_law_cut", 4)]) (N := N_law_starts) (sc := defScope s_law_starts) (by decide +kernel)) (fun _ _ _ _ _ => (pg_name (i := 4) sc_law_starts.nd rfl (Or.inr rfl))) (fun _ _ _ _ _ => pts_one (pt_cmpR (show OpR _ (compareOp .NotEq) (rNeL K) from (op_neL hr.units0)) (pe_lc (own := [("_law_low", 2), ("_law_high", 3)]) (g := (gTup K 2 (gCons (gName 2) (gCons (gName 3) gNil)))) (by rfl) sc_law_starts.nd (pi_tupK (K := K) rfl (pv 0)) (blkOk_by (own := [("_law_low", 2), ("_law_high", 3)]) (N := N_law_starts) (by rfl)) (fun _ _ _ _ _ => (pg_tup rfl (pgs_cons (pg_name (i := 2) sc_law_starts.nd rfl (Or.inl rfl)) (pgs_cons (pg_name (i := 3) sc_law_starts.nd rfl (Or.inl rfl)) pgs_nil)))) (fun _ _ _ _ _ => pts_one (pt_chain op_le op_le (pv 2) (pv 4) (pv 3))) (fun _ _ _ _ _ => pe_int)) (pe_lst pa_nil) (nomark _))) (fun _ _ _ _ _ => (pv 4)))))), ?_⟩
    have lu := iv.length
    refine ⟨.ref a, rfl, a, rfl, ⟨_, SqT.of ha⟩, fun D nD => ?_⟩
    refine lcT (K := K) (a := a) (xs := us) (fun j H' ws => ws = ((row.take j).map (·.1)).map V.int) nD (fun H' s => SqT.of (s _ _ (ha))) (by omega) (fun _ _ _ _ t r => r) (fun j H' ws r => (by rw [r, List.length_map, List.length_map]; exact List.length_take_le _ _)) (fun _ => rfl) ?_ ?_
    · rintro j z H' N acc hj sj eA sz r no yes
      obtain ⟨b, x, y, rfl, exy, hb⟩ := iv.get hj
      refine ⟨b, _, rfl, SqT.of (sj _ _ hb), rfl, .int x, [.int y], rfl, .int y, [], rfl, rfl, rfl, .int x, rfl, yes H' _ (Same.refl _) ?_⟩
      rw [r, List.take_add_one, exy, List.map_append, List.map_append]
      rfl
    intro H1 ws s1 eD r
    rw [lu, List.take_length] at r
    subst r
    refine ⟨.ref a, rfl, a, rfl, ⟨_, SqT.of (s1 _ _ ha)⟩, fun D2 nD2 => ?_⟩
    refine lcT (K := K) (a := a) (xs := us) (fun j H' ws => ws = ((row.take j).map (fun q => q.2 + 1)).map V.int) nD2 (fun H' s => SqT.of (s _ _ ((s1 _ _ ha)))) (by omega) (fun _ _ _ _ t r => r) (fun j H' ws r => (by rw [r, List.length_map, List.length_map]; exact List.length_take_le _ _)) (fun _ => rfl) ?_ ?_
    · rintro j z H' N acc hj sj eA sz r no yes
      obtain ⟨b, x, y, rfl, exy, hb⟩ := iv.get hj
      refine ⟨b, _, rfl, SqT.of (sj _ _ (s1 _ _ hb)), rfl, .int x, [.int y], rfl, .int y, [], rfl, rfl, rfl, .int y, rfl, _, _, rfl, rfl, yes H' _ (Same.refl _) ?_⟩
      rw [r, List.take_add_one, exy, List.map_append, List.map_append]
      rfl
    intro H2 ws s2 eD2 r
    rw [lu, List.take_length] at r
    subst r
    refine ⟨D, D2, _, _, rfl, rfl, s2 _ _ eD, eD2, by rw [show sizeLine = 16777216 by decide, List.length_map, List.length_map, List.length_map, List.length_map]; omega, fun g ng => ?_⟩
    have s3 := same_new (o := .lst ((row.map (·.1)).map V.int ++ (row.map (fun q => q.2 + 1)).map V.int)) ng
    have e3 := upd_same (H := H2) (a := g) (o := .lst ((row.map (·.1)).map V.int ++ (row.map (fun q => q.2 + 1)).map V.int))
    generalize upd H2 g (.lst ((row.map (·.1)).map V.int ++ (row.map (fun q => q.2 + 1)).map V.int)) = H3 at *
    rw [← List.map_append] at e3
    have s13 := s1.trans (s2.trans s3)
    have lall : (row.map (fun q : Int × Int => q.1) ++ row.map (fun q : Int × Int => q.2 + 1)).length ≤ 20 := by
      rw [List.length_append, List.length_map, List.length_map]
      omega
    generalize row.map (fun q : Int × Int => q.1) ++ row.map (fun q : Int × Int => q.2 + 1) = all at *
    refine ⟨.ref g, rfl, ?_⟩
    dsimp only [tNil]
    refine ⟨g, all, rfl, SqL.of e3, by omega, fun H4 st n s4 nst est ln => ?_⟩
    refine ⟨st, _, n, rfl, est, by omega, fun cs pe asc mem len npe => ?_⟩
    have s5 := same_new (o := .lst (cs.map V.int)) npe
    have e5 := upd_same (H := H4) (a := pe) (o := .lst (cs.map V.int))
    generalize upd H4 pe (.lst (cs.map V.int)) = H5 at *
    have s15 := s13.trans (s4.trans s5)
    have lcs : cs.length ≤ 20 := by
      refine Nat.le_trans (nodup_le (m := all) (asc.imp fun {a b} h e => ?_) fun x hx => ?_) lall
      · omega
      · have z := (mem x).mp hx
        exact of_decide_eq_true z
    refine ⟨pe, rfl, ⟨_, SqL.of e5⟩, fun D4 nD4 => ?_⟩
    refine lcL (K := K) (a := pe) (xs := cs.map V.int) (fun j H' ws => ∃ zs : List Int, ws = zs.map V.int ∧ zs.length ≤ j) nD4 (fun H' s => SqL.of (s _ _ e5)) (by rw [List.length_map]; omega) (fun _ _ _ _ _ r => r) (fun j H' ws r => by obtain ⟨zs, rfl, h⟩ := r; rw [List.length_map]; exact h) (fun _ => ⟨[], rfl, Nat.le_refl _⟩) ?_ ?_
    · rintro j v H' N acc hj sj eA sz ⟨zs, rfl, lz⟩ no yes
      rw [List.getElem?_map] at hj
      obtain ⟨ct, ec, rfl⟩ := Option.map_eq_some_iff.mp hj
      have s1j := s15.trans sj
      refine ⟨rfl, .ref a, rfl, a, rfl, ⟨_, SqT.of (s1j _ _ ha)⟩, fun D5 nD5 => ?_⟩
      refine lcT (K := K) (a := a) (xs := us) (fun j H' ws => ws = ((row.take j).filter fun q => decide (q.1 ≤ ct) && decide (ct ≤ q.2)).map fun _ => V.int 1) nD5 (fun H' s => SqT.of (s _ _ (s1j _ _ ha))) (by omega) (fun _ _ _ _ _ r => r) (fun j H' ws r => by rw [r]; exact map_filter_len j) (fun _ => rfl) ?_ ?_
      · rintro j2 z2 H'' N2 acc2 hj2 sj2 eA2 sz2 r2 no2 yes2
        obtain ⟨b, x, y, rfl, exy, hb⟩ := iv.get hj2
        have out2 : ¬ (decide (x ≤ ct) && decide (ct ≤ y)) = true → N2 H'' := fun e => by
          refine no2 H'' (Same.refl _) ?_
          rw [r2, take_filter exy, if_neg e, List.append_nil]
        refine ⟨b, _, rfl, SqT.of (sj2 _ _ (s1j _ _ hb)), rfl, .int x, [.int y], rfl, .int y, [], rfl, rfl, rfl, .int x, rfl, .int ct, rfl, _, _, rfl, rfl, _, rfl, ite2 (fun c2 => ?_) (fun c2 => ?_)⟩
        · refine ⟨.int y, rfl, _, _, rfl, rfl, _, rfl, ite2 (fun c3 => ?_) (fun c3 => ?_)⟩
          · refine yes2 H'' _ (Same.refl _) ?_
            rw [r2, take_filter exy, if_pos (Bool.and_eq_true_iff.mpr ⟨c2, c3⟩), List.map_append]
            rfl
          · exact out2 fun e => c3 (Bool.and_eq_true_iff.mp e).2
        · exact ⟨_, rfl, iteF (out2 fun e => c2 (Bool.and_eq_true_iff.mp e).1)⟩
      · intro H8 ws8 s8 eD5 r8
        refine ⟨by show 0 ≤ sizeLine; decide, fun z9 nz9 => ?_⟩
        have s9 := same_new (o := .lst []) nz9
        refine ⟨D5, z9, ws8, rfl, rfl, SqL.of (s9 _ _ eD5), SqL.of upd_same, _, rfl, ?_⟩
        refine ite2 (fun c => ?_) (fun c => ?_)
        · exact ⟨.int ct, rfl, yes _ _ (s8.trans s9) ⟨zs ++ [ct], by rw [List.map_append]; rfl, by rw [List.length_append]; show zs.length + 1 ≤ _; omega⟩⟩
        · exact no _ (s8.trans s9) ⟨zs, rfl, by omega⟩
    · rintro H6 ws6 s6 eD4 ⟨zs, rfl, lz⟩
      rw [List.length_map] at lz
      exact q _ D4 zs (s15.trans s6) eD4 (by omega)

/-! ### demands chosen without conflicts -/
def sp_law_conflict : Sp := fun vs H Q _ => ∃ (v1 v2 : V) (p1 lo1 hi1 p2 lo2 hi2 : Int), vs = [v1, v2] ∧ Dm H v1 p1 lo1 hi1 ∧ Dm H v2 p2 lo2 hi2 ∧ Q (.bl (cf (p1, lo1, hi1) (p2, lo2, hi2))) H
theorem ok_law_conflict (T : Tx K mg f_is_number f_is_position f_is_tuple_of f_is_interval f_has_position f_is_demand f_conflict f_is_independent f_law_deck f_law_draw f_law_line f_law_interval f_law_intervals f_law_demand f_law_conflict f_law_starts f_law_demands f_law_independent f_law_odd f_law_replaced f_law_is_demand f_law_due f_law_values f_law d_is_number d_is_position d_is_tuple_of d_is_interval d_has_position d_is_demand d_conflict d_is_independent d_law_deck d_law_draw d_law_line d_law_interval d_law_intervals d_law_demand d_law_conflict d_law_starts d_law_demands d_law_independent d_law_odd d_law_replaced d_law_is_demand d_law_due d_law_values d_law t_LAST_POSITION) : FnOk P w K mg base CX0 1 f_law_conflict d_law_conflict ["_law_first", "_law_second"] sp_law_conflict := by
  refine T.F_law_conflict.ok sc_law_conflict (fun vs H Q E h => ?_) (fun cdv A outer s H vs Q E hr h => ?_)
  · obtain ⟨v1, v2, p1, lo1, hi1, p2, lo2, hi2, rfl, _⟩ := h
    rfl
  · obtain ⟨v1, v2, p1, lo1, hi1, p2, lo2, hi2, rfl, d1, d2, q⟩ := h
    refine ⟨_, (pss_cons (ps_par (by rfl) sc_law_conflict.nd (i := 2) (j := 3) rfl rfl (by decide) rfl rfl (pa_cons (pe_callB (call_max2 rfl) (by rfl) T.z_max (by decide +kernel) (pa_cons (pe_ix ix_tup (pe_ix ix_tup (pv 0) pe_int (fun _ _ => rfl)) pe_int (fun _ _ => rfl)) (pa_cons (pe_ix ix_tup (pe_ix ix_tup (pv 1) pe_int (fun _ _ => rfl)) pe_int (fun _ _ => rfl)) pa_nil))) (pa_cons (pe_callB (call_min2 rfl) (by rfl) T.z_min (by decide +kernel) (pa_cons (pe_ix ix_tup (pe_ix ix_tup (pv 0) pe_int (fun _ _ => rfl)) pe_int (fun _ _ => rfl)) (pa_cons (pe_ix ix_tup (pe_ix ix_tup (pv 1) pe_int (fun _ _ => rfl)) pe_int (fun _ _ => rfl)) pa_nil))) pa_nil)) (by rfl))
      (pss_one (ps_ret (pe_and (pe_chain op_le op_le (pv 2) (pe_ix ix_tup (pv 0) pe_int (fun _ _ => rfl)) (pv 3)) (pe_one (pe_chain op_le op_le (pv 2) (pe_ix ix_tup (pv 1) pe_int (fun _ _ => rfl)) (pv 3))))))), ?_⟩
    obtain ⟨⟨u1, t1, rfl, e11, e12⟩, k1, k2⟩ := d1
    obtain ⟨⟨u2, t2, rfl, e21, e22⟩, k3, k4⟩ := d2
    have unf : cf (p1, lo1, hi1) (p2, lo2, hi2) = decide ((lo2 ≤ p1 ∧ p1 ≤ hi2) ∧ lo1 ≤ p2 ∧ p2 ≤ hi1) := rfl
    refine ⟨.ref u1, rfl, u1, _, 1, .ref t1, rfl, rfl, SqT.of e11, rfl, t1, _, 0, .int lo1, rfl, rfl, SqT.of e12, rfl, .ref u2, rfl, u2, _, 1, .ref t2, rfl, rfl, SqT.of e21, rfl, t2, _, 0, .int lo2, rfl, rfl, SqT.of e22, rfl, lo1, lo2, rfl, ?_⟩
    refine ⟨.ref u1, rfl, u1, _, 1, .ref t1, rfl, rfl, SqT.of e11, rfl, t1, _, 1, .int hi1, rfl, rfl, SqT.of e12, rfl, .ref u2, rfl, u2, _, 1, .ref t2, rfl, rfl, SqT.of e21, rfl, t2, _, 1, .int hi2, rfl, rfl, SqT.of e22, rfl, hi1, hi2, rfl, ?_⟩
    refine ⟨_, _, rfl, ?_⟩
    have no : cf (p1, lo1, hi1) (p2, lo2, hi2) = false → Q (.bl false) H := fun e => by
      rw [e] at q
      exact q
    refine ⟨.int _, rfl, .ref u1, rfl, u1, _, 0, .int p1, rfl, rfl, SqT.of e11, rfl, _, _, rfl, rfl, _, rfl, ite2 (fun a1 => ?_) (fun a1 => ⟨_, rfl, iteF (no (by rw [unf]; exact decide_eq_false fun z => a1 (decide_eq_true (by split <;> omega))))⟩)⟩
    refine ⟨.int _, rfl, _, _, rfl, rfl, _, rfl, ite2 (fun a2 => ?_) (fun a2 => no (by rw [unf]; exact decide_eq_false fun z => a2 (decide_eq_true (by split <;> omega))))⟩
    refine ⟨.int _, rfl, .ref u2, rfl, u2, _, 0, .int p2, rfl, rfl, SqT.of e21, rfl, _, _, rfl, rfl, _, rfl, ite2 (fun a3 => ?_) (fun a3 => no (by rw [unf]; exact decide_eq_false fun z => a3 (decide_eq_true (by split <;> omega))))⟩
    refine ⟨.int _, rfl, _, _, rfl, rfl, ?_⟩
    have a1 := of_decide_eq_true a1
    have a2 := of_decide_eq_true a2
    have a3 := of_decide_eq_true a3
    have fin : ∀ b : Bool, b = cf (p1, lo1, hi1) (p2, lo2, hi2) → Q (.bl b) H := fun b e => e ▸ q
    refine fin _ ?_
    rw [unf]
    refine decide_eq_decide.mpr ⟨fun a4 => ?_, fun z => ?_⟩
    · split at a1 <;> split at a2 <;> split at a3 <;> split at a4 <;> omega
    · split <;> omega
theorem Dms.erase {H : Hp} {vs : List V} {ds : List (Int × Int × Int)} (h : Dms H vs ds) : ∀ k : Nat, Dms H (vs.eraseIdx k) (ds.eraseIdx k) := by
  induction h with
  | nil => exact fun _ => .nil
  | cons e h ih =>
    intro k
    cases k with
    | zero => exact h
    | succ k => exact .cons e (ih k)
def lenL (r : Addr) (H : Hp) : Nat := match H r with
  | some (.lst xs) => xs.length
  | _ => 0
theorem lenL_of {r : Addr} {H : Hp} {xs : List V} (h : H r = some (.lst xs)) : lenL r H = xs.length := by
  unfold lenL
  rw [h]
theorem seq_nat {k n : Nat} (h : k < n) : seqIndex? (k : Int) n = some k := by
  unfold seqIndex?
  have h1 : ¬ ((k : Int) < 0) := by omega
  have h2 : (k : Int) < n := by omega
  simp only [if_neg h1]
  rw [decide_eq_true h2, decide_eq_true (show (0 : Int) ≤ k by omega)]
  rfl
def sp_law_independent : Sp := fun vs H Q _ => ∃ (d c a : Addr) (n : Int) (zs : List V) (D : List Dem), vs = [.ref d, .ref a] ∧ Dk H d c n ∧ 0 ≤ n ∧ n < 900000 ∧ H a = some (.lst zs) ∧ Dms H zs D ∧ D.length ≤ 900 ∧
  ∀ H' l ws W m, Kp d c H H' → Dk H' d c m → n ≤ m → m ≤ n + D.length → H' l = some (.lst ws) → Off d c l → Dms H' ws W → (∀ x ∈ W, x ∈ D) → Ind W → W.length ≤ D.length → Q (.ref l) H'
theorem ok_law_independent (T : Tx K mg f_is_number f_is_position f_is_tuple_of f_is_interval f_has_position f_is_demand f_conflict f_is_independent f_law_deck f_law_draw f_law_line f_law_interval f_law_intervals f_law_demand f_law_conflict f_law_starts f_law_demands f_law_independent f_law_odd f_law_replaced f_law_is_demand f_law_due f_law_values f_law d_is_number d_is_position d_is_tuple_of d_is_interval d_has_position d_is_demand d_conflict d_is_independent d_law_deck d_law_draw d_law_line d_law_interval d_law_intervals d_law_demand d_law_conflict d_law_starts d_law_demands d_law_independent d_law_odd d_law_replaced d_law_is_demand d_law_due d_law_values d_law t_LAST_POSITION) : FnOk P w K mg base CX0 2 f_law_independent d_law_independent ["_law_deck_here", "_law_demands_here"] sp_law_independent := by
  refine T.F_law_independent.ok sc_law_independent (fun vs H Q E h => ?_) (fun cdv A outer s H vs Q E hr h => ?_)
  · obtain ⟨d, c, a, n, zs, D, rfl, _⟩ := h
    rfl
  · obtain ⟨d, c, a, n, zs, D, rfl, dk, n0, n1, ha, dm, few, q⟩ := h
    refine ⟨_, (pss_cons (ps_set (i := 2) sc_law_independent.nd rfl (Or.inl rfl) (pe_callTy call_list_of (by rfl) T.z_list (by decide +kernel) (pa_cons (pv 1) pa_nil)))
      (pss_cons (ps_set (i := 3) sc_law_independent.nd rfl (Or.inl rfl) (pe_lst pa_nil))
      (pss_cons (ps_while PassesOwn.never (pt_cmpR (op_neL hr.units0) (pv 2) (pe_lst pa_nil) (nomark _))
      (pss_cons (ps_set (i := 4) sc_law_independent.nd rfl (Or.inr rfl) (pe_bm PySem.F.plainAttrs_list PySem.F.slot_list_pop PySem.F.type_list_pop mt_popAt (pv 2) (pa_cons (pe_call (ok_law_draw T) (hr.mono (by decide)) (by rfl) T.g_law_draw T.F_law_draw.kp T.b_law_draw .nil pass0 (pa_cons (pv 0) (pa_cons (pe_callB call_len_seq (by rfl) T.z_len PySem.boot_len (pa_cons (pv 2) pa_nil)) pa_nil))) pa_nil)))
      (pss_one (ps_if (pt_cmpR (op_eqL hr.units0) (pe_lc (own := [("_law_other", 5)]) (g := (gName 5)) (by rfl) sc_law_independent.nd (pi_list (pv 3)) (blkOk_by (own := [("_law_other", 5)]) (N := N_law_independent) (sc := defScope s_law_independent) (by decide +kernel)) (fun _ _ _ _ _ => (pg_name (i := 5) sc_law_independent.nd rfl (Or.inl rfl))) (fun _ _ _ _ _ => pts_one (pt_val (pe_call (ok_law_conflict T) (hr.mono (by decide)) (by rfl) T.g_law_conflict T.F_law_conflict.kp T.b_law_conflict .nil pass0 (pa_cons (pv 5) (pa_cons (pv 4) pa_nil))))) (fun _ _ _ _ _ => (pv 5))) (pe_lst pa_nil) (nomark _))
      (pss_one (ps_expr (pe_bm PySem.F.plainAttrs_list PySem.F.slot_list_append PySem.F.type_list_append mt_append (pv 3) (pa_cons (pv 4) pa_nil))))
      pss_nil))))
      (pss_one (ps_ret (pv 3)))))), ?_⟩
    refine ⟨.ref a, rfl, a, zs, rfl, .inl (SqL.of ha), fun r nr => ?_⟩
    have offr := dk.off nr
    have s1 := same_new (o := .lst zs) nr
    have er := upd_same (H := H) (a := r) (o := .lst zs)
    generalize upd H r (.lst zs) = H1 at *
    refine ⟨by show 0 ≤ sizeLine; decide, fun l nl => ?_⟩
    have offl := (dk.kept s1).off nl
    have nrl : r ≠ l := ne_of_none er nl
    have s2 := same_new (o := .lst []) nl
    have el := upd_same (H := H1) (a := l) (o := .lst [])
    generalize upd H1 l (.lst []) = H2 at *
    have s12 := s1.trans s2
    refine while_by (fun σ H' => ∃ (m : Int) (zs' ws : List V) (R W : List Dem) (y4 y5 : Option V), Kp d c H H' ∧ Dk H' d c m ∧ n ≤ m ∧ m + R.length ≤ n + D.length ∧ H' r = some (.lst zs') ∧ Dms H' zs' R ∧ (∀ x ∈ R, x ∈ D) ∧ H' l = some (.lst ws) ∧ Dms H' ws W ∧ (∀ x ∈ W, x ∈ D) ∧ Ind W ∧ W.length + R.length ≤ D.length ∧ σ = [some (.ref d), some (.ref a), some (.ref r), some (.ref l), y4, y5]) (fun _ H' => lenL r H') ⟨n, zs, [], D, [], _, _, Kp.same s12, dk.kept s12, Int.le_refl _, Int.le_refl _, s2 _ _ er, dm.same s12, (fun x h => h), el, .nil, (fun x h => nomatch h), List.Pairwise.nil, by simp, rfl⟩ ?_ ?_
    · rintro σ H3 ⟨m, zs', ws, R, W, y4, y5, kp, dk3, nm, mm, er3, dmr, subR, el3, dmw, subW, ind, len, rfl⟩
      have lz := dmr.length
      have lws := dmw.length
      refine ⟨.ref r, rfl, by show 0 ≤ sizeLine; decide, fun e ne => ?_⟩
      have s4 := same_new (o := .lst []) ne
      have ee := upd_same (H := H3) (a := e) (o := .lst [])
      generalize upd H3 e (.lst []) = H4 at *
      have k4 := kp.trans (Kp.same s4)
      have dk4 := dk3.kept s4
      have er4 := s4 _ _ er3
      have el4 := s4 _ _ el3
      have dmr4 := dmr.same s4
      have dmw4 := dmw.same s4
      refine ⟨r, e, zs', rfl, rfl, SqL.of er4, SqL.of ee, _, rfl, ?_⟩
      cases zs' with
      | nil => exact iteF ⟨.ref l, rfl, q H4 l ws W m k4 dk4 nm (by omega) el4 offl dmw4 subW ind (by omega)⟩
      | cons z0 zr =>
        refine iteT ?_
        refine ⟨.ref r, rfl, .inl ⟨rfl, _, SqL.of er4⟩, .ref d, rfl, .ref r, rfl, r, _, rfl, .inl (SqL.of er4), d, c, m, ((z0 :: zr).length : Int), rfl, dk4, by omega, by omega, by rw [List.length_cons]; omega, by omega, fun Ha x kpa dka x0 x1 => ?_⟩
        have era := kpa.keep offr er4
        have ela := kpa.keep offl el4
        have dma := dmr4.tps (kpa.tps dk4)
        have dwa := dmw4.tps (kpa.tps dk4)
        obtain ⟨k, rfl⟩ : ∃ k : Nat, x = (k : Int) := ⟨x.toNat, by omega⟩
        have hk : k < (z0 :: zr).length := by omega
        have gk := List.getElem?_eq_getElem hk
        obtain ⟨p, lo, hi, ed, dz⟩ := dma.get gk
        generalize (z0 :: zr)[k] = v at gk dz
        have mD : (p, lo, hi) ∈ D := subR _ (List.mem_of_getElem? ed)
        refine ⟨r, _, k, k, v, rfl, rfl, era, by omega, by omega, seq_nat hk, gk, ?_⟩
        have tb : Tps Ha (upd Ha r (.lst ((z0 :: zr).eraseIdx k))) := Tps.lst era
        have elb : upd Ha r (.lst ((z0 :: zr).eraseIdx k)) l = some (.lst ws) := by rw [upd_ne nrl.symm]; exact ela
        have erb : upd Ha r (.lst ((z0 :: zr).eraseIdx k)) r = some (.lst ((z0 :: zr).eraseIdx k)) := upd_same
        have dkb : Dk (upd Ha r (.lst ((z0 :: zr).eraseIdx k))) d c (m + 1) := dka.upd offr
        have kpb : Kp d c H (upd Ha r (.lst ((z0 :: zr).eraseIdx k))) := fun b o n1 n2 e => by
          rw [upd_ne (ne_of_none e nr)]
          exact kpa b o n1 n2 (k4 b o n1 n2 e)
        have dmb := (dma.erase k).tps tb
        have dwb := dwa.tps tb
        have dzb := dz.tps tb
        have lek : (R.eraseIdx k).length + 1 = R.length := by
          rw [List.length_eraseIdx, if_pos (by omega)]
          omega
        have subb : ∀ x ∈ R.eraseIdx k, x ∈ D := fun x hx => subR x (List.eraseIdx_subset hx)
        have lzk : ((z0 :: zr).eraseIdx k).length + 1 = (z0 :: zr).length := by
          rw [List.length_eraseIdx, if_pos (by omega)]
          omega
        have m0 : lenL r H3 = (z0 :: zr).length := lenL_of er3
        generalize upd Ha r (.lst ((z0 :: zr).eraseIdx k)) = Hb at *
        generalize (z0 :: zr).eraseIdx k = zr' at *
        generalize R.eraseIdx k = R' at *
        refine ⟨.ref l, rfl, l, rfl, ⟨_, SqL.of elb⟩, fun D1 nD1 => ?_⟩
        refine lcL (K := K) (a := l) (xs := ws) (fun j H' ws => Dms H' ws ((W.take j).filter fun z => cf z (p, lo, hi))) nD1 (fun H' s => SqL.of (s _ _ (elb))) (by omega) (fun _ _ _ _ t r => r.tps t) (fun j H' ws r => (by rw [r.length]; exact Nat.le_trans (List.length_filter_le _ _) (List.length_take_le _ _))) (fun _ => .nil) ?_ ?_
        · rintro j w H' N acc hj sj eA sz rr no yes
          obtain ⟨p', lo', hi', ew, dw⟩ := (dwb.same sj).get hj
          refine ⟨rfl, w, rfl, v, rfl, w, v, p', lo', hi', p, lo, hi, rfl, dw, dzb.same sj, _, rfl, ite2 (fun c => ?_) (fun c => ?_)⟩
          · refine ⟨w, rfl, yes H' _ (Same.refl _) ?_⟩
            rw [take_filter ew, if_pos c]
            exact rr.snoc dw
          · refine no H' (Same.refl _) ?_
            rw [take_filter ew, if_neg c, List.append_nil]
            exact rr
        intro Hc wf sc eD1 rr
        rw [lws, List.take_length] at rr
        refine ⟨by show 0 ≤ sizeLine; decide, fun z nz => ?_⟩
        have sd := same_new (o := .lst []) nz
        have ez := upd_same (H := Hc) (a := z) (o := .lst [])
        generalize upd Hc z (.lst []) = Hd at *
        have sbd := sc.trans sd
        refine ⟨D1, z, wf, rfl, rfl, SqL.of (sd _ _ eD1), SqL.of ez, _, rfl, ?_⟩
        rw [rr.isEmpty]
        have eld := sbd _ _ elb
        have erd := sbd _ _ erb
        have kpd := kpb.trans (Kp.same sbd)
        have dkd := dkb.kept sbd
        cases em : (W.filter fun z => cf z (p, lo, hi)).isEmpty with
        | false =>
          refine iteF ⟨⟨m + 1, zr', ws, R', W, _, _, kpd, dkd, by omega, by omega, erd, dmb.same sbd, subb, eld, dwb.same sbd, subW, ind, by omega, rfl⟩, ?_⟩
          rw [lenL_of erd, m0]
          omega
        | true =>
          have free : ∀ z ∈ W, cf z (p, lo, hi) = false := fun z hz => by
            rw [← Bool.not_eq_true]
            intro h
            have : z ∈ W.filter fun z => cf z (p, lo, hi) := List.mem_filter.mpr ⟨hz, h⟩
            rw [List.isEmpty_iff.mp em] at this
            cases this
          refine iteT ⟨.ref l, rfl, .inl ⟨rfl, _, SqL.of eld⟩, v, rfl, l, ws, v, rfl, rfl, eld, small1000 (by omega), ?_⟩
          have te : Tps Hd (upd Hd l (.lst (ws ++ [v]))) := Tps.lst eld
          have ere : upd Hd l (.lst (ws ++ [v])) r = some (.lst zr') := by rw [upd_ne nrl]; exact erd
          refine ⟨⟨m + 1, zr', ws ++ [v], R', W ++ [(p, lo, hi)], _, _, fun b o n1 n2 e => ?_, dkd.upd offl, by omega, by omega, ere, (dmb.same sbd).tps te, subb, upd_same, ((dwb.same sbd).snoc (dzb.same sbd)).tps te, fun x hx => ?_, ?_, by rw [List.length_append]; show W.length + 1 + _ ≤ _; omega, rfl⟩, ?_⟩
          · rw [upd_ne (ne_of_none (s1 _ _ e) nl)]
            exact kpd b o n1 n2 e
          · rcases List.mem_append.mp hx with h | h
            · exact subW x h
            · rw [List.mem_singleton.mp h]
              exact mD
          · exact List.pairwise_append.mpr ⟨ind, List.pairwise_singleton _ _, fun a ha b hb => by rw [List.mem_singleton.mp hb]; exact free a ha⟩
          · rw [lenL_of ere, m0]
            omega
    · rintro σ H1 Q1 Q2 hm ⟨v, e, hz, f⟩
      refine ⟨v, e, hz, fun p np => ?_⟩
      obtain ⟨a, b, xs, e1, e2, e3, e4, k, ek, z⟩ := f p np
      exact ⟨a, b, xs, e1, e2, e3, e4, k, ek, hm _ _ z⟩

theorem iv_shape {d : PyData} (h : ivB d = true) : ∃ x y, d = .tuple [.int x, .int y] := by
  cases d with
  | tuple ds =>
    match ds, h with
    | [], h => exact (Bool.false_ne_true h).elim
    | [_], h => exact (Bool.false_ne_true h).elim
    | _ :: _ :: _ :: _, h => exact (Bool.false_ne_true h).elim
    | [a, b], h =>
      have h' : (inB 0 1000000000000 a && (inB 0 1000000000000 b && leB a b)) = true := h
      have h1 := (Bool.and_eq_true_iff.mp h').1
      have h2 := (Bool.and_eq_true_iff.mp (Bool.and_eq_true_iff.mp h').2).1
      cases a with
      | int x =>
        cases b with
        | int y => exact ⟨x, y, rfl⟩
        | _ => exact (Bool.false_ne_true h2).elim
      | _ => exact (Bool.false_ne_true h1).elim
  | _ => exact (Bool.false_ne_true h).elim
theorem Dv.asPair {K : PySem.W.Frag} {H : Hp} {v : V} {x y : Int} (h : Dv K H v (.tuple [.int x, .int y])) : ∃ b, v = .ref b ∧ H b = some (.tup [.int x, .int y]) := by
  cases h with
  | @tup a xs _ e all =>
    match xs, all with
    | [_, _], .cons h1 (.cons h2 .nil) =>
      cases h1
      cases h2
      exact ⟨a, rfl, e⟩

/-! ### demands among values of any kind -/
def hasB : PyData → PyData → Bool
  | .int p, .tuple [.int x, .int y] => decide (x ≤ p) && decide (p ≤ y)
  | _, _ => false
def demB : PyData → Bool
  | .tuple [a, b] => inB 0 1000000000000 a && (ivB b && hasB a b)
  | _ => false
theorem dem_shape {d : PyData} (h : demB d = true) : ∃ p x y, d = .tuple [.int p, .tuple [.int x, .int y]] ∧ 0 ≤ x ∧ x ≤ p ∧ p ≤ y ∧ y ≤ 1000000000000 := by
  match d, h with
  | .tuple [a, b], h =>
    have h' : (inB 0 1000000000000 a && (ivB b && hasB a b)) = true := h
    have h1 := Bool.and_eq_true_iff.mp h'
    have h2 := Bool.and_eq_true_iff.mp h1.2
    obtain ⟨x, y, rfl⟩ := iv_shape h2.1
    cases a with
    | int p =>
      have h3 := Bool.and_eq_true_iff.mp (show (decide (x ≤ p) && decide (p ≤ y)) = true from h2.2)
      have h4 : (inB 0 1000000000000 (.int x) && (inB 0 1000000000000 (.int y) && leB (.int x) (.int y))) = true := h2.1
      have h5 := Bool.and_eq_true_iff.mp h4
      have h6 := Bool.and_eq_true_iff.mp h5.2
      have h7 := Bool.and_eq_true_iff.mp (show (decide ((0 : Int) ≤ x) && decide (x ≤ 1000000000000)) = true from h5.1)
      have h8 := Bool.and_eq_true_iff.mp (show (decide ((0 : Int) ≤ y) && decide (y ≤ 1000000000000)) = true from h6.1)
      exact ⟨p, x, y, rfl, of_decide_eq_true h7.1, of_decide_eq_true h3.1, of_decide_eq_true h3.2, of_decide_eq_true h8.2⟩
    | _ => exact (Bool.false_ne_true h1.1).elim
theorem dem_int {p x y : Int} : demB (.tuple [.int p, .tuple [.int x, .int y]]) = (decide (0 ≤ x) && (decide (x ≤ p) && (decide (p ≤ y) && decide (y ≤ 1000000000000)))) := by
  show ((decide ((0 : Int) ≤ p) && decide (p ≤ 1000000000000)) && (((decide ((0 : Int) ≤ x) && decide (x ≤ 1000000000000)) && ((decide ((0 : Int) ≤ y) && decide (y ≤ 1000000000000)) && decide (x ≤ y))) && (decide (x ≤ p) && decide (p ≤ y)))) = _
  rw [Bool.eq_iff_iff]
  simp only [Bool.and_eq_true, decide_eq_true_eq]
  omega
theorem dem_two {d : PyData} (h : ¬ tlB 2 d = true) : demB d = false := by
  match d, h with
  | .tuple [a, b], h => exact absurd rfl h
  | .tuple [], _ => rfl
  | .tuple [_], _ => rfl
  | .tuple (_ :: _ :: _ :: l), _ => rfl
  | .none, _ => rfl
  | .bool _, _ => rfl
  | .int _, _ => rfl
  | .str _, _ => rfl
  | .list _, _ => rfl
  | .dict _, _ => rfl
def sp_is_demand (K : PySem.W.Frag) : Sp := fun vs H Q _ => ∃ (v : V) (d : PyData), vs = [v] ∧ Dv K H v d ∧ Q (.bl (demB d)) H
theorem ok_is_demand (T : Tx K mg f_is_number f_is_position f_is_tuple_of f_is_interval f_has_position f_is_demand f_conflict f_is_independent f_law_deck f_law_draw f_law_line f_law_interval f_law_intervals f_law_demand f_law_conflict f_law_starts f_law_demands f_law_independent f_law_odd f_law_replaced f_law_is_demand f_law_due f_law_values f_law d_is_number d_is_position d_is_tuple_of d_is_interval d_has_position d_is_demand d_conflict d_is_independent d_law_deck d_law_draw d_law_line d_law_interval d_law_intervals d_law_demand d_law_conflict d_law_starts d_law_demands d_law_independent d_law_odd d_law_replaced d_law_is_demand d_law_due d_law_values d_law t_LAST_POSITION) : FnOk P w K mg base CX0 4 f_is_demand d_is_demand ["value"] (sp_is_demand K) := by
  refine T.F_is_demand.ok sc_is_demand (fun vs H Q E h => ?_) (fun cdv A outer s H vs Q E hr h => ?_)
  · obtain ⟨v, d, rfl, _⟩ := h
    rfl
  · obtain ⟨v, d, rfl, hd, q⟩ := h
    refine ⟨_, (pss_cons (ps_if (pt_not (pt_val (pe_call (ok_is_tuple_of T) (hr.mono (by decide)) (by rfl) T.g_is_tuple_of T.F_is_tuple_of.kp T.b_is_tuple_of .nil pass0 (pa_cons (pv 0) (pa_cons pe_int pa_nil)))))
      (pss_one (ps_ret pe_bl))
      pss_nil)
      (pss_cons (ps_asg (pv 0) (pg_tup rfl (pgs_cons (pg_name (i := 1) sc_is_demand.nd rfl (Or.inl rfl)) (pgs_cons (pg_name (i := 2) sc_is_demand.nd rfl (Or.inl rfl)) pgs_nil))))
      (pss_one (ps_ret (pe_and (pe_call (ok_is_position T) (hr.mono (by decide)) (by rfl) T.g_is_position T.F_is_position.kp T.b_is_position .nil pass0 (pa_cons (pv 1) pa_nil)) (pe_and (pe_call (ok_is_interval T) (hr.mono (by decide)) (by rfl) T.g_is_interval T.F_is_interval.kp T.b_is_interval .nil pass0 (pa_cons (pv 2) pa_nil)) (pe_one (pe_call (ok_has_position T) (hr.mono (by decide)) (by rfl) T.g_has_position T.F_has_position.kp T.b_has_position .nil pass0 (pa_cons (pv 2) (pa_cons (pv 1) pa_nil)))))))))), ?_⟩
    refine ⟨v, rfl, v, d, 2, rfl, hd, _, rfl, ?_⟩
    by_cases tb : tlB 2 d = true
    · rw [tb]
      refine iteF ?_
      obtain ⟨d1, d2, rfl⟩ := tl_two tb
      cases hd with
      | @tup a xs ds e all =>
        match xs, all, e, q with
          | [v1, v2], .cons h1 (.cons h2 .nil), e, q =>
            have q' : Q (.bl (inB 0 1000000000000 d1 && (ivB d2 && hasB d1 d2))) H := q
            refine ⟨.ref a, rfl, a, _, rfl, SqT.of e, rfl, v1, [v2], rfl, v2, [], rfl, rfl, ?_⟩
            refine ⟨v1, rfl, v1, d1, rfl, h1, _, rfl, ite2 (fun e1 => ?_) (fun e1 => ?_)⟩
            · rw [e1] at q'
              refine ⟨v2, rfl, v2, d2, rfl, h2, _, rfl, ite2 (fun e2 => ?_) (fun e2 => ?_)⟩
              · rw [e2] at q'
                obtain ⟨x, y, rfl⟩ := iv_shape e2
                obtain ⟨b, rfl, hb⟩ := h2.asPair
                cases d1 with
                | int p =>
                  have x1 := h1.asInt
                  subst x1
                  exact ⟨.ref b, rfl, .int p, rfl, b, x, y, p, rfl, hb, q'⟩
                | _ => exact absurd e1 (by simp [inB])
              · rw [Bool.not_eq_true] at e2
                rw [e2] at q'
                exact q'
            · rw [Bool.not_eq_true] at e1
              rw [e1] at q'
              exact q'
    · rw [dem_two tb] at q
      rw [Bool.not_eq_true] at tb
      rw [tb]
      exact iteT q
def toDem : PyData → Dem
  | .tuple [.int p, .tuple [.int x, .int y]] => (p, x, y)
  | _ => (0, 0, 0)
theorem Dv.asDem {K : PySem.W.Frag} {H : Hp} {v : V} {p x y : Int} (h : Dv K H v (.tuple [.int p, .tuple [.int x, .int y]])) : ∃ u t, v = .ref u ∧ H u = some (.tup [.int p, .ref t]) ∧ H t = some (.tup [.int x, .int y]) := by
  cases h with
  | @tup a xs _ e all =>
    match xs, all with
    | [_, _], .cons h1 (.cons h2 .nil) =>
      cases h1
      obtain ⟨b, rfl, hb⟩ := h2.asPair
      exact ⟨a, b, rfl, e, hb⟩
theorem dems_of {K : PySem.W.Frag} {H : Hp} : ∀ {xs : List V} {ds : List PyData}, DvAll K H xs ds → ds.all demB = true → Dms H xs (ds.map toDem)
  | _, _, .nil, _ => .nil
  | _, _, .cons a b, h => by
    rw [List.all_cons] at h
    have h := Bool.and_eq_true_iff.mp h
    obtain ⟨p, x, y, rfl, _, h2, h3, _⟩ := dem_shape h.1
    exact .cons ⟨a.asDem, h2, h3⟩ (dems_of b h.2)
def badAt (W : List Dem) (k : Nat) : Bool := (W.take k).any fun z => cf (W.getD k (0, 0, 0)) z
def indL (W : List Dem) : Bool := !(List.range W.length).any (badAt W)
theorem ind_no {W : List Dem} {k : Nat} (hk : k < W.length) (h : badAt W k = true) : indL W = false := by
  unfold indL
  rw [List.any_eq_true.mpr ⟨k, List.mem_range.mpr hk, h⟩]
  rfl
theorem ind_yes {W : List Dem} (h : ∀ k, k < W.length → badAt W k = false) : indL W = true := by
  unfold indL
  rw [List.any_eq_false.mpr fun k hk => by rw [h k (List.mem_range.mp hk)]; decide]
  rfl
def indB : PyData → Bool
  | .tuple ds => ds.all demB && indL (ds.map toDem)
  | _ => false
theorem ind_tup {d : PyData} (h : tupB d = false) : indB d = false := by
  cases d with
  | tuple ds => cases h
  | _ => rfl
theorem getD_some' {ds : List Dem} {i : Nat} {d : Dem} (h : ds[i]? = some d) : ds.getD i (0, 0, 0) = d := by
  rw [List.getD_eq_getElem?_getD, h]
  rfl
theorem any_take {W : List Dem} {p : Dem → Bool} {j : Nat} {z : Dem} (h : W[j]? = some z) : (W.take (j + 1)).any p = ((W.take j).any p || p z) := by
  rw [List.take_add_one, h, List.any_append]
  show (_ || (p z || false)) = _
  rw [Bool.or_false]
def sp_is_independent (K : PySem.W.Frag) : Sp := fun vs H Q _ => ∃ (v : V) (d : PyData), vs = [v] ∧ Dv K H v d ∧ d.weight ≤ 100000 ∧ ∀ H', Same H H' → Q (.bl (indB d)) H'
theorem ok_is_independent (T : Tx K mg f_is_number f_is_position f_is_tuple_of f_is_interval f_has_position f_is_demand f_conflict f_is_independent f_law_deck f_law_draw f_law_line f_law_interval f_law_intervals f_law_demand f_law_conflict f_law_starts f_law_demands f_law_independent f_law_odd f_law_replaced f_law_is_demand f_law_due f_law_values f_law d_is_number d_is_position d_is_tuple_of d_is_interval d_has_position d_is_demand d_conflict d_is_independent d_law_deck d_law_draw d_law_line d_law_interval d_law_intervals d_law_demand d_law_conflict d_law_starts d_law_demands d_law_independent d_law_odd d_law_replaced d_law_is_demand d_law_due d_law_values d_law t_LAST_POSITION) : FnOk P w K mg base CX0 5 f_is_independent d_is_independent ["value"] (sp_is_independent K) := by
  refine T.F_is_independent.ok sc_is_independent (fun vs H Q E h => ?_) (fun cdv A outer s H vs Q E hr h => ?_)
  · obtain ⟨v, d, rfl, _⟩ := h
    rfl
  · obtain ⟨v, d, rfl, hd, wt, q⟩ := h
    refine ⟨_, (pss_cons (ps_if (PW.pt (pw_or (pt_not (pt_val (pe_callB call_isi (by rfl) T.z_isinstance (by decide +kernel) (pa_cons (pv 0) (pa_cons (pe_bltn (v := .ty "tuple") (u := .type "tuple") (by rfl) T.z_tuple (by decide +kernel) rfl) pa_nil))))) (pw_or1 (pt_not (pt_val (pe_callB (cr_all rfl) (by rfl) T.z_all (by decide +kernel) (pa_cons (pe_lc (own := [("item", 1)]) (g := (gName 1)) (tt := tYes) (by rfl) sc_is_independent.nd (pi_tup (pv 0)) (blkOk_by (own := [("item", 1)]) (N := N_is_independent) (sc := defScope s_is_independent) (by decide +kernel)) (fun _ _ _ _ _ => (pg_name (i := 1) sc_is_independent.nd rfl (Or.inl rfl))) (fun _ _ _ _ _ => pts_nil) (fun _ _ _ _ _ => (pe_call (ok_is_demand T) (hr.mono (by decide)) (by rfl) T.g_is_demand T.F_is_demand.kp T.b_is_demand .nil pass0 (pa_cons (pv 1) pa_nil)))) pa_nil)))))))
      (pss_one (ps_ret pe_bl))
      pss_nil)
      (pss_cons (ps_for PassesOwn.never rfl (pi_enumT (by rfl) T.z_enumerate (pa_cons (pv 0) pa_nil)) (pg_tup rfl (pgs_cons (pg_name (i := 2) sc_is_independent.nd rfl (Or.inl rfl)) (pgs_cons (pg_name (i := 3) sc_is_independent.nd rfl (Or.inr rfl)) pgs_nil)))
      (pss_one (ps_if (pt_val (pe_callB (cr_any rfl) (by rfl) T.z_any (by decide +kernel) (pa_cons (pe_lc (own := [("second", 4)]) (g := (gName 4)) (tt := tYes) (by rfl) sc_is_independent.nd (pi_tup (pe_slice sl_tupA (pv 0) po_none (po_some (pv 2)))) (blkOk_by (own := [("second", 4)]) (N := N_is_independent) (sc := defScope s_is_independent) (by decide +kernel)) (fun _ _ _ _ _ => (pg_name (i := 4) sc_is_independent.nd rfl (Or.inl rfl))) (fun _ _ _ _ _ => pts_nil) (fun _ _ _ _ _ => (pe_call (ok_conflict T) (hr.mono (by decide)) (by rfl) T.g_conflict T.F_conflict.kp T.b_conflict .nil pass0 (pa_cons (pv 3) (pa_cons (pv 4) pa_nil))))) pa_nil)))
      (pss_one (ps_ret pe_bl))
      pss_nil)))
      (pss_one (ps_ret pe_bl)))), ?_⟩
    refine ⟨v, rfl, v, .ty "tuple", _, _, _, rfl, .ty "tuple", hd.ty, kit_tup d, _, rfl, ?_⟩
    cases tb : tupB d with
    | false =>
      rw [ind_tup tb] at q
      exact iteT (iteT (q H (Same.refl _)))
    | true =>
      refine iteF ?_
      cases hd with
      | @tup a xs ds e all =>
        have lx := all.length
        have lw := len_weight ds
        have wt' : PyData.weightAll ds ≤ 100000 := wt
        have q' : ∀ H', Same H H' → Q (.bl (ds.all demB && indL (ds.map toDem))) H' := q
        refine ⟨.ref a, rfl, a, rfl, ⟨_, SqT.of e⟩, fun D nD => ?_⟩
        refine lcTb (K := K) (a := a) (xs := xs) (fun j H' ws => ws = ((ds.take j).map demB).map V.bl) nD (fun H' s => SqT.of (s _ _ (e))) (by omega) (fun _ _ _ _ t r => r) (fun j H' ws r => (by rw [r, List.length_map, List.length_map]; exact List.length_take_le _ _)) (fun _ => rfl) ?_ ?_
        · rintro j z H' N acc hj sm eA sz rr no yes
          obtain ⟨x, ex, hx⟩ := all.get hj
          refine ⟨rfl, z, rfl, z, x, rfl, dv_same sm hx, yes _ _ (Same.refl _) ?_⟩
          rw [rr, List.take_add_one, ex, List.map_append, List.map_append]
          rfl
        intro H1 ws s1 eD rr
        rw [lx, List.take_length] at rr
        subst rr
        refine ⟨D, _, rfl, SqL.of eD, ?_⟩
        have eqall : (ds.map demB).all id = ds.all demB := by rw [List.all_map]; rfl
        rw [eqall]
        cases ea : ds.all demB with
        | false =>
          refine ⟨_, rfl, iteT ?_⟩
          rw [ea] at q'
          exact q' H1 s1
        | true =>
          rw [ea] at q'
          refine ⟨_, rfl, iteF ?_⟩
          have e1 := s1 _ _ e
          have dm : Dms H1 xs (ds.map toDem) := dems_of (dvAll_same s1 all) ea
          generalize ds.map toDem = W at *
          have lW := dm.length
          refine ⟨.ref a, rfl, a, xs, rfl, SqT.of e1, ?_⟩
          refine for_enumT (K := K) (a := a) (xs := xs) (D := ⟨_, _, fun _ _ => True, fun _ _ => True⟩) (fun j σ H' => Same H1 H' ∧ (∀ k, k < j → badAt W k = false) ∧ ∃ y1 y2 y3 y4, σ = [some (.ref a), y1, y2, y3, y4])
            ⟨Same.refl _, (fun k hk => absurd hk (Nat.not_lt_zero k)), _, _, _, _, rfl⟩ (fun j σ H' h => SqT.of (h.1 _ _ e1)) ?_ ?_
          · rintro k z TT σ H3 hz ⟨s3, ok, y1, y2, y3, y4, rfl⟩ nT
            obtain ⟨p, lo, hi, ed, dz⟩ := (dm.same s3).get hz
            have kl := (List.getElem?_eq_some_iff.mp ed).1
            have gk := getD_some' ed
            have sT := same_new (o := .tup [.int (k : Nat), z]) nT
            have eT := upd_same (H := H3) (a := TT) (o := .tup [.int (k : Nat), z])
            generalize upd H3 TT (.tup [.int (k : Nat), z]) = H4 at *
            have s4 := s3.trans sT
            have dz4 := dz.same sT
            refine ⟨TT, _, rfl, SqT.of eT, rfl, .int (k : Nat), [z], rfl, z, [], rfl, rfl, ?_⟩
            refine ⟨.ref a, rfl, .int (k : Nat), rfl, k, rfl, slA_any (s4 _ _ e1) (fun H7 sl s7 esl => ?_)⟩
            rw [cutTo] at esl
            have s07 := s4.trans s7
            refine ⟨sl, rfl, ⟨_, SqT.of esl⟩, fun D3 nD3 => ?_⟩
            refine lcTb (K := K) (a := sl) (xs := (xs.take k)) (fun j H' ws => ∃ bs : List Bool, ws = bs.map V.bl ∧ bs.length ≤ j ∧ bs.any id = ((W.take k).take j).any fun o => cf (p, lo, hi) o) nD3 (fun H' s => SqT.of (s _ _ (esl))) (by rw [List.length_take]; omega) (fun _ _ _ _ t r => r) (fun j H' ws r => (by obtain ⟨bs, r1, r2, _⟩ := r; rw [r1, List.length_map]; exact r2)) (fun _ => ⟨[], rfl, Nat.le_refl _, rfl⟩) ?_ ?_
            · rintro j o H' N acc hj sm eA sz ⟨bs, rfl, rl, ra⟩ no yes
              obtain ⟨p2, lo2, hi2, eo, dzo⟩ := ((dm.same s07).take k).get hj
              refine ⟨rfl, z, rfl, o, rfl, z, o, p, lo, hi, p2, lo2, hi2, rfl, (dz4.same s7).same sm, dzo.same sm, ?_⟩
              refine yes H' _ (Same.refl _) ⟨bs ++ [cf (p, lo, hi) (p2, lo2, hi2)], by rw [List.map_append]; rfl, by rw [List.length_append]; show bs.length + 1 ≤ _; omega, ?_⟩
              rw [List.any_append, ra, any_take eo]
              show (_ || (id _ || false)) = _
              rw [Bool.or_false]
              rfl
            rintro H8 w8 s8 eD3 ⟨bs, rfl, rl, ra⟩
            refine ⟨D3, bs, rfl, SqL.of eD3, ?_⟩
            have lt : ((W.take k).take (xs.take k).length) = W.take k := by
              rw [List.length_take, List.take_of_length_le]
              rw [List.length_take]
              omega
            rw [lt] at ra
            have ba : badAt W k = bs.any id := by
              unfold badAt
              rw [gk, ra]
            cases eb : bs.any id with
            | true =>
              refine ⟨_, rfl, iteT ?_⟩
              rw [ind_no kl (ba.trans eb)] at q'
              exact q' _ (s1.trans (s07.trans s8))
            | false =>
              refine ⟨_, rfl, iteF ⟨s07.trans s8, fun k' hk' => ?_, _, _, _, _, rfl⟩⟩
              rcases Nat.lt_or_ge k' k with h | h
              · exact ok k' h
              · obtain rfl : k' = k := by omega
                exact ba.trans eb
          · rintro σ H3 ⟨s3, ok, y1, y2, y3, y4, rfl⟩
            rw [ind_yes fun k hk => ok k (by omega)] at q'
            exact q' H3 (s1.trans s3)
      | _ => exact (Bool.false_ne_true tb).elim
/-! ### the law's own -/
def sp_law_is_demand (K : PySem.W.Frag) : Sp := fun vs H Q _ => ∃ (v : V) (d : PyData), vs = [v] ∧ Dv K H v d ∧ ∀ H', Same H H' → Q (.bl (demB d)) H'
theorem ok_law_is_demand (T : Tx K mg f_is_number f_is_position f_is_tuple_of f_is_interval f_has_position f_is_demand f_conflict f_is_independent f_law_deck f_law_draw f_law_line f_law_interval f_law_intervals f_law_demand f_law_conflict f_law_starts f_law_demands f_law_independent f_law_odd f_law_replaced f_law_is_demand f_law_due f_law_values f_law d_is_number d_is_position d_is_tuple_of d_is_interval d_has_position d_is_demand d_conflict d_is_independent d_law_deck d_law_draw d_law_line d_law_interval d_law_intervals d_law_demand d_law_conflict d_law_starts d_law_demands d_law_independent d_law_odd d_law_replaced d_law_is_demand d_law_due d_law_values d_law t_LAST_POSITION) : FnOk P w K mg base CX0 1 f_law_is_demand d_law_is_demand ["_law_value"] (sp_law_is_demand K) := by
  refine T.F_law_is_demand.ok sc_law_is_demand (fun vs H Q E h => ?_) (fun cdv A outer s H vs Q E hr h => ?_)
  · obtain ⟨v, d, rfl, _⟩ := h
    rfl
  · obtain ⟨v, d, rfl, hd, q⟩ := h
    refine ⟨_, (pss_cons (ps_if (PW.pt (pw_or (pt_not (pt_val (pe_callB call_isi (by rfl) T.z_isinstance (by decide +kernel) (pa_cons (pv 0) (pa_cons (pe_bltn (v := .ty "tuple") (u := .type "tuple") (by rfl) T.z_tuple (by decide +kernel) rfl) pa_nil))))) (pw_or1 (pt_cmpR op_ne (pe_callB call_len_seq (by rfl) T.z_len PySem.boot_len (pa_cons (pv 0) pa_nil)) pe_int (nomark _)))))
      (pss_one (ps_ret pe_bl))
      pss_nil)
      (pss_cons (ps_if (PW.pt (pw_or (pt_not (pt_val (pe_callB call_isi (by rfl) T.z_isinstance (by decide +kernel) (pa_cons (pe_ix ix_tup (pv 0) pe_int (fun _ _ => rfl)) (pa_cons (pe_bltn (v := .ty "tuple") (u := .type "tuple") (by rfl) T.z_tuple (by decide +kernel) rfl) pa_nil))))) (pw_or1 (pt_cmpR op_ne (pe_callB call_len_seq (by rfl) T.z_len PySem.boot_len (pa_cons (pe_ix ix_tup (pv 0) pe_int (fun _ _ => rfl)) pa_nil)) pe_int (nomark _)))))
      (pss_one (ps_ret pe_bl))
      pss_nil)
      (pss_cons (ps_set (i := 1) sc_law_is_demand.nd rfl (Or.inl rfl) (pe_lst (pa_cons (pe_ix ix_tup (pe_ix ix_tup (pv 0) pe_int (fun _ _ => rfl)) pe_int (fun _ _ => rfl)) (pa_cons (pe_ix ix_tup (pv 0) pe_int (fun _ _ => rfl)) (pa_cons (pe_ix ix_tup (pe_ix ix_tup (pv 0) pe_int (fun _ _ => rfl)) pe_int (fun _ _ => rfl)) pa_nil)))))
      (pss_cons (ps_for PassesOwn.never rfl (pi_list (pv 1)) (pg_name (i := 2) sc_law_is_demand.nd rfl (Or.inl rfl))
      (pss_one (ps_if (PW.pt (pw_or (pt_not (pt_val (pe_callB call_isi (by rfl) T.z_isinstance (by decide +kernel) (pa_cons (pv 2) (pa_cons (pe_bltn (v := .ty "int") (u := .type "int") (by rfl) T.z_int (by decide +kernel) rfl) pa_nil))))) (pw_or1 (pt_val (pe_callB call_isi (by rfl) T.z_isinstance (by decide +kernel) (pa_cons (pv 2) (pa_cons (pe_bltn (v := .ty "bool") (u := .type "bool") (by rfl) T.z_bool (by decide +kernel) rfl) pa_nil)))))))
      (pss_one (ps_ret pe_bl))
      pss_nil)))
      (pss_one (ps_ret (pe_chN pe_int (pch_link op_le (pe_ix ix_list (pv 1) pe_int (fun _ _ => rfl)) (pch_link op_le (pe_ix ix_list (pv 1) pe_int (fun _ _ => rfl)) (pch_link op_le (pe_ix ix_list (pv 1) pe_int (fun _ _ => rfl)) (pch_last op_le (pe_op op_pow pe_int pe_int)))))))))))), ?_⟩
    refine ⟨v, rfl, v, .ty "tuple", _, _, _, rfl, .ty "tuple", hd.ty, kit_tup d, _, rfl, ?_⟩
    cases tb : tupB d with
    | false =>
      have z : demB d = false := dem_two (by rw [tl_not tb]; decide)
      rw [z] at q
      exact iteT (iteT (q H (Same.refl _)))
    | true =>
      refine iteF ?_
      cases hd with
      | @tup a xs ds e all =>
        have lx := all.length
        refine ⟨.ref a, rfl, a, xs, rfl, .inr (SqT.of e), rfl, _, rfl, ?_⟩
        by_cases two : xs.length = 2
        · match xs, ds, two, lx, all, e, q with
          | [v1, v2], [d1, d2], _, _, .cons h1 (.cons h2 .nil), e, q =>
            have q' : ∀ H', Same H H' → Q (.bl (inB 0 1000000000000 d1 && (ivB d2 && hasB d1 d2))) H' := q
            refine iteF ?_
            refine ⟨.ref a, rfl, a, _, 1, v2, rfl, rfl, SqT.of e, rfl, v2, .ty "tuple", _, _, _, rfl, .ty "tuple", h2.ty, kit_tup d2, _, rfl, ?_⟩
            cases tb2 : tupB d2 with
            | false =>
              rw [iv_not tb2, Bool.false_and, Bool.and_false] at q'
              exact iteT (iteT (q' H (Same.refl _)))
            | true =>
              refine iteF ?_
              cases h2 with
              | @tup b ys es e2 all2 =>
                have ly := all2.length
                refine ⟨.ref a, rfl, a, _, 1, .ref b, rfl, rfl, SqT.of e, rfl, b, ys, rfl, .inr (SqT.of e2), rfl, _, rfl, ?_⟩
                by_cases two2 : ys.length = 2
                · match ys, es, two2, ly, all2, e2, q' with
                  | [w1, w2], [f1, f2], _, _, .cons g1 (.cons g2 .nil), e2, q' =>
                    refine iteF ?_
                    refine ⟨.ref a, rfl, a, _, 1, .ref b, rfl, rfl, SqT.of e, rfl, b, _, 0, w1, rfl, rfl, SqT.of e2, rfl, .ref a, rfl, a, _, 0, v1, rfl, rfl, SqT.of e, rfl, .ref a, rfl, a, _, 1, .ref b, rfl, rfl, SqT.of e, rfl, b, _, 1, w2, rfl, rfl, SqT.of e2, rfl, by show 3 ≤ sizeLine; decide, fun L nL => ?_⟩
                    have s1 := same_new (o := .lst [w1, v1, w2]) nL
                    have eL := upd_same (H := H) (a := L) (o := .lst [w1, v1, w2])
                    generalize upd H L (.lst [w1, v1, w2]) = H1 at *
                    have three : DvAll K H [w1, v1, w2] [f1, d1, f2] := .cons g1 (.cons h1 (.cons g2 .nil))
                    have inn : ∀ z, z = f1 ∨ z = d1 ∨ z = f2 → (intB z && !boolB z) = false → (inB 0 1000000000000 d1 && (ivB (.tuple [f1, f2]) && hasB d1 (.tuple [f1, f2]))) = false := by
                      intro z hz hn
                      have n0 := num_no (lo := 0) (hi := 1000000000000) hn
                      have ev : ivB (.tuple [f1, f2]) = (inB 0 1000000000000 f1 && (inB 0 1000000000000 f2 && leB f1 f2)) := rfl
                      rcases hz with rfl | rfl | rfl
                      · rw [ev, n0, Bool.false_and, Bool.false_and, Bool.and_false]
                      · rw [n0, Bool.false_and]
                      · rw [ev, n0, Bool.false_and, Bool.and_false, Bool.false_and, Bool.and_false]
                    refine ⟨.ref L, rfl, L, rfl, ⟨_, SqL.of eL⟩, ?_⟩
                    refine for_list (K := K) (a := L) (xs := [w1, v1, w2]) (D := ⟨_, _, fun _ _ => True, fun _ _ => True⟩) (fun j σ H' => H' = H1 ∧ (∀ i d', i < j → [f1, d1, f2][i]? = some d' → (intB d' && !boolB d') = true) ∧ ∃ y, σ = [some (.ref a), some (.ref L), y]) ⟨rfl, fun i d' h => absurd h (Nat.not_lt_zero i), _, rfl⟩ (fun j σ H' _ h => by rw [h.1]; exact SqL.of eL) ?_ ?_
                    · rintro j x σ H' hj ⟨rfl, before, y, rfl⟩
                      obtain ⟨d3, e3, hd3⟩ := three.get hj
                      have hd3 := dv_same s1 hd3
                      have which : d3 = f1 ∨ d3 = d1 ∨ d3 = f2 := by
                        have := List.mem_of_getElem? e3
                        simp only [List.mem_cons, List.not_mem_nil, or_false] at this
                        exact this
                      refine ⟨x, rfl, x, .ty "int", _, _, _, rfl, .ty "int", hd3.ty, kit_int d3, _, rfl, ?_⟩
                      cases ei : intB d3 with
                      | false =>
                        rw [inn d3 which (by rw [ei]; rfl)] at q'
                        exact iteT (iteT (q' _ s1))
                      | true =>
                        refine iteF ?_
                        refine ⟨x, rfl, x, .ty "bool", _, _, _, rfl, .ty "bool", hd3.ty, kit_bool d3, _, rfl, ?_⟩
                        cases eb : boolB d3 with
                        | true =>
                          rw [inn d3 which (by rw [ei, eb]; rfl)] at q'
                          exact iteT (q' _ s1)
                        | false =>
                          refine iteF ⟨rfl, fun i d' hi hd' => ?_, _, rfl⟩
                          rcases Nat.lt_or_ge i j with h | h
                          · exact before i d' h hd'
                          · obtain rfl : i = j := by omega
                            rw [e3] at hd'
                            cases hd'
                            rw [ei, eb]
                            rfl
                    · rintro σ H' ⟨rfl, before, y, rfl⟩
                      obtain ⟨x, rfl⟩ := num_int (before 0 f1 (by show 0 < 3; decide) rfl)
                      obtain ⟨p, rfl⟩ := num_int (before 1 d1 (by show 1 < 3; decide) rfl)
                      obtain ⟨y', rfl⟩ := num_int (before 2 f2 (by show 2 < 3; decide) rfl)
                      have z1 := g1.asInt
                      have z2 := h1.asInt
                      have z3 := g2.asInt
                      subst z1 z2 z3
                      have q2 : Q (.bl (decide (0 ≤ x) && (decide (x ≤ p) && (decide (p ≤ y') && decide (y' ≤ 1000000000000))))) H' := by
                        rw [← dem_int]
                        exact q' _ s1
                      have p12 : (10 : Int) ^ (12 : Int).toNat = 1000000000000 := by decide
                      refine ⟨.ref L, rfl, L, _, 0, .int x, rfl, rfl, SqL.of eL, rfl, _, _, rfl, rfl, _, rfl, ?_⟩
                      cases c1 : decide ((0 : Int) ≤ x) with
                      | false =>
                        rw [c1] at q2
                        exact iteF q2
                      | true =>
                        rw [c1] at q2
                        refine iteT ⟨.ref L, rfl, L, _, 1, .int p, rfl, rfl, SqL.of eL, rfl, _, _, rfl, rfl, _, rfl, ?_⟩
                        cases c2 : decide (x ≤ p) with
                        | false =>
                          rw [c2] at q2
                          exact iteF q2
                        | true =>
                          rw [c2] at q2
                          refine iteT ⟨.ref L, rfl, L, _, 2, .int y', rfl, rfl, SqL.of eL, rfl, _, _, rfl, rfl, _, rfl, ?_⟩
                          cases c3 : decide (p ≤ y') with
                          | false =>
                            rw [c3] at q2
                            exact iteF q2
                          | true =>
                            rw [c3] at q2
                            refine iteT ⟨10, 12, rfl, rfl, ⟨by decide, by decide, by decide⟩, _, _, rfl, rfl, ?_⟩
                            rw [p12]
                            exact q2
                · have ne : ¬ (V.int (ys.length : Nat) = V.int 2) := fun z => two2 (by
                    have z' := V.int.inj z
                    omega)
                  rw [decide_eq_false ne]
                  have z : ivB (.tuple es) = false := iv_two (by
                    intro h
                    obtain ⟨x, y, h'⟩ := tl_two h
                    cases h'
                    exact two2 ly)
                  rw [z, Bool.false_and, Bool.and_false] at q'
                  exact iteT (q' H (Same.refl _))
              | _ => exact (Bool.false_ne_true tb2).elim
        · have ne : ¬ (V.int (xs.length : Nat) = V.int 2) := fun z => two (by
            have z' := V.int.inj z
            omega)
          rw [decide_eq_false ne]
          have z : demB (.tuple ds) = false := dem_two (by
            intro h
            obtain ⟨x, y, h'⟩ := tl_two h
            cases h'
            exact two lx)
          rw [z] at q
          exact iteT (q H (Same.refl _))
      | _ => exact (Bool.false_ne_true tb).elim

theorem eq_all {ds : List PyData} : ((ds.filter fun x => !demB x).isEmpty) = ds.all demB := by
  rw [Bool.eq_iff_iff, List.isEmpty_iff, List.all_eq_true, List.filter_eq_nil_iff]
  constructor
  · intro h x hx
    have := h x hx
    cases hc : demB x with
    | true => rfl
    | false =>
      rw [hc] at this
      exact absurd rfl this
  · intro h x hx
    rw [h x hx]
    decide
def sp_law_due (K : PySem.W.Frag) : Sp := fun vs H Q _ => ∃ (v : V) (d : PyData), vs = [v] ∧ Dv K H v d ∧ d.weight ≤ 100000 ∧ ∀ H', Same H H' → Q (.bl (indB d)) H'
theorem ok_law_due (T : Tx K mg f_is_number f_is_position f_is_tuple_of f_is_interval f_has_position f_is_demand f_conflict f_is_independent f_law_deck f_law_draw f_law_line f_law_interval f_law_intervals f_law_demand f_law_conflict f_law_starts f_law_demands f_law_independent f_law_odd f_law_replaced f_law_is_demand f_law_due f_law_values f_law d_is_number d_is_position d_is_tuple_of d_is_interval d_has_position d_is_demand d_conflict d_is_independent d_law_deck d_law_draw d_law_line d_law_interval d_law_intervals d_law_demand d_law_conflict d_law_starts d_law_demands d_law_independent d_law_odd d_law_replaced d_law_is_demand d_law_due d_law_values d_law t_LAST_POSITION) : FnOk P w K mg base CX0 2 f_law_due d_law_due ["_law_value"] (sp_law_due K) := by
  refine T.F_law_due.ok sc_law_due (fun vs H Q E h => ?_) (fun cdv A outer s H vs Q E hr h => ?_)
  · obtain ⟨v, d, rfl, _⟩ := h
    rfl
  · obtain ⟨v, d, rfl, hd, wt, q⟩ := h
    refine ⟨_, (pss_cons (ps_if (pt_not (pt_val (pe_callB call_isi (by rfl) T.z_isinstance (by decide +kernel) (pa_cons (pv 0) (pa_cons (pe_bltn (v := .ty "tuple") (u := .type "tuple") (by rfl) T.z_tuple (by decide +kernel) rfl) pa_nil)))))
      (pss_one (ps_ret pe_bl))
      pss_nil)
      (pss_cons (ps_if (pt_cmpR (op_neL hr.units0) (pe_lc (own := [("_law_item", 1)]) (g := (gName 1)) (by rfl) sc_law_due.nd (pi_tup (pv 0)) (blkOk_by (own := [("_law_item", 1)]) (N := N_law_due) (sc := defScope s_law_due) (by decide +kernel)) (fun _ _ _ _ _ => (pg_name (i := 1) sc_law_due.nd rfl (Or.inl rfl))) (fun _ _ _ _ _ => pts_one (pt_not (pt_val (pe_call (ok_law_is_demand T) (hr.mono (by decide)) (by rfl) T.g_law_is_demand T.F_law_is_demand.kp T.b_law_is_demand .nil pass0 (pa_cons (pv 1) pa_nil))))) (fun _ _ _ _ _ => (pv 1))) (pe_lst pa_nil) (nomark _))
      (pss_one (ps_ret pe_bl))
      pss_nil)
      (pss_cons (ps_for PassesOwn.never rfl (pi_enumT (by rfl) T.z_enumerate (pa_cons (pv 0) pa_nil)) (pg_tup rfl (pgs_cons (pg_name (i := 2) sc_law_due.nd rfl (Or.inl rfl)) (pgs_cons (pg_name (i := 3) sc_law_due.nd rfl (Or.inr rfl)) pgs_nil)))
      (pss_one (ps_if (pt_cmpR (op_neL hr.units0) (pe_lc (own := [("_law_other", 4)]) (g := (gName 4)) (by rfl) sc_law_due.nd (pi_tup (pe_slice sl_tupA (pv 0) po_none (po_some (pv 2)))) (blkOk_by (own := [("_law_other", 4)]) (N := N_law_due) (sc := defScope s_law_due) (by decide +kernel)) (fun _ _ _ _ _ => (pg_name (i := 4) sc_law_due.nd rfl (Or.inl rfl))) (fun _ _ _ _ _ => pts_one (pt_val (pe_call (ok_law_conflict T) (hr.mono (by decide)) (by rfl) T.g_law_conflict T.F_law_conflict.kp T.b_law_conflict .nil pass0 (pa_cons (pv 4) (pa_cons (pv 3) pa_nil))))) (fun _ _ _ _ _ => (pv 4))) (pe_lst pa_nil) (nomark _))
      (pss_one (ps_ret pe_bl))
      pss_nil)))
      (pss_one (ps_ret pe_bl))))), ?_⟩
    refine ⟨v, rfl, v, .ty "tuple", _, _, _, rfl, .ty "tuple", hd.ty, kit_tup d, _, rfl, ?_⟩
    cases tb : tupB d with
    | false =>
      rw [ind_tup tb] at q
      exact iteT (q H (Same.refl _))
    | true =>
      refine iteF ?_
      cases hd with
      | @tup a xs ds e all =>
        have lx := all.length
        have lw := len_weight ds
        have wt' : PyData.weightAll ds ≤ 100000 := wt
        have q' : ∀ H', Same H H' → Q (.bl (ds.all demB && indL (ds.map toDem))) H' := q
        refine ⟨.ref a, rfl, a, rfl, ⟨_, SqT.of e⟩, fun D nD => ?_⟩
        refine lcTb (K := K) (a := a) (xs := xs) (fun j H' ws => ws.length = ((ds.take j).filter fun x => !demB x).length) nD (fun H' s => SqT.of (s _ _ (e))) (by omega) (fun _ _ _ _ t r => r) (fun j H' ws r => (by rw [r]; exact Nat.le_trans (List.length_filter_le _ _) (List.length_take_le _ _))) (fun _ => rfl) ?_ ?_
        · rintro j z H' N acc hj sm eA sz rr no yes
          obtain ⟨x, ex, hx⟩ := all.get hj
          refine ⟨rfl, z, rfl, z, x, rfl, dv_same sm hx, fun H'' s'' => ⟨_, rfl, ite2 (fun cc => ?_) (fun cc => ?_)⟩⟩
          · refine ⟨z, rfl, yes _ _ s'' ?_⟩
            rw [take_filter ex, if_pos cc, List.length_append, List.length_append, rr]
            rfl
          · refine no _ s'' ?_
            rw [take_filter ex, if_neg cc, List.append_nil]
            exact rr
        intro H1 ws s1 eD rr
        rw [lx, List.take_length] at rr
        refine ⟨by show 0 ≤ sizeLine; decide, fun z nz => ?_⟩
        have s2 := same_new (o := .lst []) nz
        have ez := upd_same (H := H1) (a := z) (o := .lst [])
        generalize upd H1 z (.lst []) = H2 at *
        have s12 := s1.trans s2
        refine ⟨D, z, ws, rfl, rfl, SqL.of (s2 _ _ eD), SqL.of ez, ?_⟩
        have ee : (!ws.isEmpty) = !ds.all demB := by
          rw [← eq_all, Bool.eq_iff_iff]
          rw [Bool.not_eq_true', Bool.not_eq_true', ← Bool.not_eq_true, ← Bool.not_eq_true, List.isEmpty_iff, List.isEmpty_iff, ← List.length_eq_zero_iff, ← List.length_eq_zero_iff, rr]
        rw [ee]
        cases ea : ds.all demB with
        | false =>
          refine ⟨_, rfl, iteT ?_⟩
          rw [ea] at q'
          exact q' H2 s12
        | true =>
          rw [ea] at q'
          refine ⟨_, rfl, iteF ?_⟩
          have e1 := s12 _ _ e
          have dm : Dms H2 xs (ds.map toDem) := dems_of (dvAll_same s12 all) ea
          generalize ds.map toDem = W at *
          have lW := dm.length
          refine ⟨.ref a, rfl, a, xs, rfl, SqT.of e1, ?_⟩
          refine for_enumT (K := K) (a := a) (xs := xs) (D := ⟨_, _, fun _ _ => True, fun _ _ => True⟩) (fun j σ H' => Same H2 H' ∧ (∀ k, k < j → badAt W k = false) ∧ ∃ y1 y2 y3 y4, σ = [some (.ref a), y1, y2, y3, y4])
            ⟨Same.refl _, (fun k hk => absurd hk (Nat.not_lt_zero k)), _, _, _, _, rfl⟩ (fun j σ H' h => SqT.of (h.1 _ _ e1)) ?_ ?_
          · rintro k z TT σ H3 hz ⟨s3, ok, y1, y2, y3, y4, rfl⟩ nT
            obtain ⟨p, lo, hi, ed, dz⟩ := (dm.same s3).get hz
            have kl := (List.getElem?_eq_some_iff.mp ed).1
            have gk := getD_some' ed
            have sT := same_new (o := .tup [.int (k : Nat), z]) nT
            have eT := upd_same (H := H3) (a := TT) (o := .tup [.int (k : Nat), z])
            generalize upd H3 TT (.tup [.int (k : Nat), z]) = H4 at *
            have s4 := s3.trans sT
            have dz4 := dz.same sT
            refine ⟨TT, _, rfl, SqT.of eT, rfl, .int (k : Nat), [z], rfl, z, [], rfl, rfl, ?_⟩
            refine ⟨.ref a, rfl, .int (k : Nat), rfl, k, rfl, slA_any (s4 _ _ e1) (fun H7 sl s7 esl => ?_)⟩
            rw [cutTo] at esl
            have s07 := s4.trans s7
            refine ⟨sl, rfl, ⟨_, SqT.of esl⟩, fun D3 nD3 => ?_⟩
            refine lcTb (K := K) (a := sl) (xs := (xs.take k)) (fun j H' ws => ws.length ≤ j ∧ (!ws.isEmpty) = ((W.take k).take j).any fun o => cf (p, lo, hi) o) nD3 (fun H' s => SqT.of (s _ _ (esl))) (by rw [List.length_take]; omega) (fun _ _ _ _ t r => r) (fun j H' ws r => r.1) (fun _ => ⟨Nat.le_refl _, rfl⟩) ?_ ?_
            · rintro j o H' N acc hj sm eA sz ⟨rl, ra⟩ no yes
              obtain ⟨p2, lo2, hi2, eo, dzo⟩ := ((dm.same s07).take k).get hj
              refine ⟨rfl, o, rfl, z, rfl, o, z, p2, lo2, hi2, p, lo, hi, rfl, dzo.same sm, (dz4.same s7).same sm, _, rfl, ite2 (fun cc => ?_) (fun cc => ?_)⟩
              · refine ⟨o, rfl, yes H' _ (Same.refl _) ⟨by rw [List.length_append]; show acc.length + 1 ≤ _; omega, ?_⟩⟩
                rw [any_take eo, cf_comm (p, lo, hi), cc, Bool.or_true]
                cases acc <;> rfl
              · refine no H' (Same.refl _) ⟨by omega, ?_⟩
                rw [Bool.not_eq_true] at cc
                rw [any_take eo, cf_comm (p, lo, hi), cc, Bool.or_false]
                exact ra
            rintro H8 w8 s8 eD3 ⟨rl, ra⟩
            have lt : ((W.take k).take (xs.take k).length) = W.take k := by
              rw [List.length_take, List.take_of_length_le]
              rw [List.length_take]
              omega
            rw [lt] at ra
            have ba : badAt W k = !w8.isEmpty := by
              unfold badAt
              rw [gk, ra]
            refine ⟨by show 0 ≤ sizeLine; decide, fun z nz => ?_⟩
            have s9 := same_new (o := .lst []) nz
            have ez9 := upd_same (H := H8) (a := z) (o := .lst [])
            generalize upd H8 z (.lst []) = H9 at *
            refine ⟨D3, z, w8, rfl, rfl, SqL.of (s9 _ _ eD3), SqL.of ez9, ?_⟩
            cases eb : !w8.isEmpty with
            | true =>
              refine ⟨_, rfl, iteT ?_⟩
              rw [ind_no kl (ba.trans eb)] at q'
              exact q' _ (s12.trans (s07.trans (s8.trans s9)))
            | false =>
              refine ⟨_, rfl, iteF ⟨s07.trans (s8.trans s9), fun k' hk' => ?_, _, _, _, _, rfl⟩⟩
              rcases Nat.lt_or_ge k' k with h | h
              · exact ok k' h
              · obtain rfl : k' = k := by omega
                exact ba.trans eb
          · rintro σ H3 ⟨s3, ok, y1, y2, y3, y4, rfl⟩
            rw [ind_yes fun k hk => ok k (by omega)] at q'
            exact q' H3 (s12.trans s3)
      | _ => exact (Bool.false_ne_true tb).elim
/-! ### the values -/
theorem ind_len {cs : List Int} {W : List Dem} (ind : Ind W) (ok : ∀ q ∈ W, q.2.1 ≤ q.1 ∧ q.1 ≤ q.2.2) (sub : ∀ q ∈ W, q.1 ∈ cs) : W.length ≤ cs.length := by
  have nd : (W.map (·.1)).Nodup := by
    refine List.pairwise_map.mpr (ind.imp_of_mem fun {a b} ha hb h e => ?_)
    have oa := ok a ha
    have ob := ok b hb
    have : cf a b = true := cf_iff.mpr ⟨by omega, by omega⟩
    rw [h] at this
    cases this
  have := nodup_le nd (fun x hx => by
    obtain ⟨q, hq, rfl⟩ := List.mem_map.mp hx
    exact sub q hq)
  rw [List.length_map] at this
  exact this
theorem dm_off {d c : Addr} {n : Int} {H : Hp} (dk : Dk H d c n) {v : V} {p lo hi : Int} (h : Dm H v p lo hi) : Dm (OffP d c H) v p lo hi := by
  obtain ⟨⟨u, t, rfl, e1, e2⟩, l, h⟩ := h
  exact ⟨⟨u, t, rfl, offP_get (dk.offT e1) e1, offP_get (dk.offT e2) e2⟩, l, h⟩
theorem dm_gw {K : PySem.W.Frag} {G : Hp} {v : V} {p lo hi : Int} (h : Dm G v p lo hi) (b : 0 ≤ lo ∧ hi ≤ 1000000000000) : Gw K (10 ^ 29 + 1) 406 2 G v := by
  obtain ⟨⟨u, t, rfl, e1, e2⟩, l, h⟩ := h
  have e12 : (10 : Nat) ^ 12 = 1000000000000 := by decide
  have num : ∀ i : Int, 0 ≤ i → i ≤ 1000000000000 → Gw K (10 ^ 29 + 1) 100 0 G (.int i) := fun i h0 h1 => by
    have s := Sm.int (i := i) (Nat.lt_of_le_of_lt (show i.natAbs ≤ 1000000000000 by omega) (by decide))
    exact ⟨_, .int i, Fine.int (Nat.lt_of_le_of_lt (show i.natAbs ≤ 1000000000000 by omega) (by decide)) (by decide), s.small, Nat.le_refl _⟩
  have it := (Rw.cons (num lo b.1 (by omega)) (Rw.one (num hi (by omega) b.2))).tup e2
  exact ((Rw.cons ((num p (by omega) (by omega)).mono (Nat.le_refl _) (Nat.le_refl _) (Nat.zero_le 1)) (Rw.one it)).tup e1).mono (Nat.le_refl _) (by decide) (Nat.le_refl _)
theorem dms_rw {K : PySem.W.Frag} {d c : Addr} {n : Int} {H : Hp} (dk : Dk H d c n) {us : List V} {W : List Dem} (h : Dms H us W) (b : ∀ q ∈ W, 0 ≤ q.2.1 ∧ q.2.2 ≤ 1000000000000) : Rw K (10 ^ 29 + 1) (W.length * 407) 2 (OffP d c H) us := by
  induction h with
  | nil => exact Rw.nil.mono (Nat.le_refl _) (Nat.zero_le _) (Nat.le_refl _)
  | @cons v p lo hi vs ds e _ ih =>
    refine (Rw.cons (dm_gw (dm_off dk e) (b _ List.mem_cons_self)) (ih fun q hq => b q (List.mem_cons_of_mem _ hq))).mono (Nat.le_refl _) ?_ (Nat.le_refl _)
    rw [List.length_cons, Nat.add_mul]
    omega
theorem ok_law_replaced (T : Tx K mg f_is_number f_is_position f_is_tuple_of f_is_interval f_has_position f_is_demand f_conflict f_is_independent f_law_deck f_law_draw f_law_line f_law_interval f_law_intervals f_law_demand f_law_conflict f_law_starts f_law_demands f_law_independent f_law_odd f_law_replaced f_law_is_demand f_law_due f_law_values f_law d_is_number d_is_position d_is_tuple_of d_is_interval d_has_position d_is_demand d_conflict d_is_independent d_law_deck d_law_draw d_law_line d_law_interval d_law_intervals d_law_demand d_law_conflict d_law_starts d_law_demands d_law_independent d_law_odd d_law_replaced d_law_is_demand d_law_due d_law_values d_law t_LAST_POSITION) : FnOk P w K mg base CX0 6 f_law_replaced d_law_replaced ["_law_deck_here", "_law_value", "_law_depth"] (sp_repl K 3) :=
  ok_repl T 3 5 (by decide) (fn_weak (ok_repl T 2 4 (by decide) (fn_weak (ok_repl T 1 3 (by decide) (fn_weak (ok_repl T 0 2 (by decide)
    ⟨fun _ _ _ _ h => (by obtain ⟨D', e, _⟩ := h; omega), fun _ _ _ _ _ _ _ _ _ _ _ _ _ h => (by obtain ⟨D', e, _⟩ := h; omega)⟩)
    (fun vs H Q E h => by obtain ⟨D', e, h⟩ := h; obtain rfl : D' = 0 := by omega
                          exact h)))
    (fun vs H Q E h => by obtain ⟨D', e, h⟩ := h; obtain rfl : D' = 1 := by omega
                          exact h)))
    (fun vs H Q E h => by obtain ⟨D', e, h⟩ := h; obtain rfl : D' = 2 := by omega
                          exact h))
abbrev GV (K : PySem.W.Frag) (d c : Addr) (H : Hp) (v : V) : Prop := Gw K (10 ^ 29 + 1 + 3 * 10 ^ 13) 40000 11 (OffP d c H) v
def sp_law_values (K : PySem.W.Frag) : Sp := fun vs H Q _ => ∃ (d c l : Addr) (n : Int) (ls : List Int), vs = [.ref d, .ref l] ∧ Dk H d c n ∧ 0 ≤ n ∧ n < 800000 ∧ (l ≠ d ∧ l ≠ c) ∧ H l = some (.lst (ls.map V.int)) ∧ 0 < ls.length ∧ ls.length ≤ 9 ∧ Ln ls ∧
  ∀ H' g us m, Kp d c H H' → Dk H' d c m → n ≤ m → m ≤ n + 400 → H' g = some (.lst us) → (∀ v ∈ us, GV K d c H' v) → Q (.ref g) H'
theorem ok_law_values (T : Tx K mg f_is_number f_is_position f_is_tuple_of f_is_interval f_has_position f_is_demand f_conflict f_is_independent f_law_deck f_law_draw f_law_line f_law_interval f_law_intervals f_law_demand f_law_conflict f_law_starts f_law_demands f_law_independent f_law_odd f_law_replaced f_law_is_demand f_law_due f_law_values f_law d_is_number d_is_position d_is_tuple_of d_is_interval d_has_position d_is_demand d_conflict d_is_independent d_law_deck d_law_draw d_law_line d_law_interval d_law_intervals d_law_demand d_law_conflict d_law_starts d_law_demands d_law_independent d_law_odd d_law_replaced d_law_is_demand d_law_due d_law_values d_law t_LAST_POSITION) : FnOk P w K mg base CX0 7 f_law_values d_law_values ["_law_deck_here", "_law_line_here"] (sp_law_values K) := by
  refine T.F_law_values.ok sc_law_values (fun vs H Q E h => ?_) (fun cdv A outer s H vs Q E hr h => ?_)
  · obtain ⟨d, c, l, n, ls, rfl, _⟩ := h
    rfl
  · obtain ⟨d, c, l, n, ls, rfl, dk, n0, n1, off, el, ln0, ln1, ln, q⟩ := h
    refine ⟨_, (pss_cons (ps_set (i := 2) sc_law_values.nd rfl (Or.inl rfl) (pe_call (ok_law_intervals T) (hr.mono (by decide)) (by rfl) T.g_law_intervals T.F_law_intervals.kp T.b_law_intervals .nil pass0 (pa_cons (pv 0) (pa_cons (pv 1) (pa_cons pe_int pa_nil)))))
      (pss_cons (ps_set (i := 3) sc_law_values.nd rfl (Or.inl rfl) (pe_callTy call_tuple_of (by rfl) T.z_tuple (by decide +kernel) (pa_cons (pe_call (ok_law_independent T) (hr.mono (by decide)) (by rfl) T.g_law_independent T.F_law_independent.kp T.b_law_independent .nil pass0 (pa_cons (pv 0) (pa_cons (pe_call (ok_law_demands T) (hr.mono (by decide)) (by rfl) T.g_law_demands T.F_law_demands.kp T.b_law_demands .nil pass0 (pa_cons (pv 2) (pa_cons (pe_call (ok_law_starts T) (hr.mono (by decide)) (by rfl) T.g_law_starts T.F_law_starts.kp T.b_law_starts .nil pass0 (pa_cons (pv 2) pa_nil)) pa_nil))) pa_nil))) pa_nil)))
      (pss_cons (ps_set (i := 4) sc_law_values.nd rfl (Or.inl rfl) (pe_callTy call_tuple_of (by rfl) T.z_tuple (by decide +kernel) (pa_cons (pe_lc (own := [("_law_k", 5)]) (g := (gName 5)) (tt := tYes) (by rfl) sc_law_values.nd (pi_range1 (by rfl) T.z_range (pa_cons (pe_call (ok_law_draw T) (hr.mono (by decide)) (by rfl) T.g_law_draw T.F_law_draw.kp T.b_law_draw .nil pass0 (pa_cons (pv 0) (pa_cons pe_int pa_nil))) pa_nil)) (blkOk_by (own := [("_law_k", 5)]) (N := N_law_values) (sc := defScope s_law_values) (by decide +kernel)) (fun _ _ _ _ _ => (pg_name (i := 5) sc_law_values.nd rfl (Or.inl rfl))) (fun _ _ _ _ _ => pts_nil) (fun _ _ _ _ _ => (pe_call (ok_law_demand T) (hr.mono (by decide)) (by rfl) T.g_law_demand T.F_law_demand.kp T.b_law_demand .nil pass0 (pa_cons (pv 0) (pa_cons (pv 1) pa_nil))))) pa_nil)))
      (pss_cons (ps_set (i := 6) sc_law_values.nd rfl (Or.inl rfl) (pe_lst (pa_cons (pv 3) (pa_cons (pv 4) (pa_cons (pe_op op_catA (pv 3) (pv 4)) (pa_cons (pe_op op_catA (pv 3) (pe_slice sl_tupA (pv 3) po_none (po_some pe_int))) (pa_cons (pe_callTy call_list_of (by rfl) T.z_list (by decide +kernel) (pa_cons (pv 3) pa_nil)) (pa_cons (pe_tup pa_nil) (pa_cons (pe_revT (pv 3)) pa_nil)))))))))
      (pss_cons (ps_for PassesOwn.never rfl (pi_range1 (by rfl) T.z_range (pa_cons pe_int pa_nil)) (pg_name (i := 7) sc_law_values.nd rfl (Or.inl rfl))
      (pss_cons (ps_set (i := 8) sc_law_values.nd rfl (Or.inl rfl) (pe_call (ok_law_replaced T) (hr.mono (by decide)) (by rfl) T.g_law_replaced T.F_law_replaced.kp T.b_law_replaced .nil pass0 (pa_cons (pv 0) (pa_cons (pv 3) (pa_cons pe_int pa_nil)))))
      (pss_one (ps_set (i := 6) sc_law_values.nd rfl (Or.inl rfl) (pe_op op_cat (pv 6) (pe_lst (pa_cons (pv 8) (pa_cons (pe_call (ok_law_replaced T) (hr.mono (by decide)) (by rfl) T.g_law_replaced T.F_law_replaced.kp T.b_law_replaced .nil pass0 (pa_cons (pv 0) (pa_cons (pv 8) (pa_cons pe_int pa_nil)))) pa_nil))))))))
      (pss_one (ps_ret (pe_op op_cat (pv 6) (pe_lst (pa_cons (pe_call (ok_law_odd T) (hr.mono (by decide)) (by rfl) T.g_law_odd T.F_law_odd.kp T.b_law_odd .nil pass0 (pa_cons (pv 0) pa_nil)) (pa_cons (pe_call (ok_law_odd T) (hr.mono (by decide)) (by rfl) T.g_law_odd T.F_law_odd.kp T.b_law_odd .nil pass0 (pa_cons (pv 0) pa_nil)) pa_nil))))))))))), ?_⟩
    have big : sizeLine = 16777216 := by decide
    refine ⟨.ref d, rfl, .ref l, rfl, d, c, l, n, 10, ls, rfl, dk, n0, by omega, off, el, ln0, by omega, ln, by decide, by decide, fun H1 t us ps m1 kp1 dk1 a0 a1 et iv row lps => ?_⟩
    refine ⟨.ref d, rfl, .ref t, rfl, .ref t, rfl, t, us, ps, rfl, et, iv, by omega, fun H2 pc cs s2 epc lcs => ?_⟩
    have et2 := s2 _ _ et
    refine ⟨t, pc, us, ps, cs, rfl, et2, epc, iv.same s2, by omega, by omega, fun H3 pz zs s3 epz dm => ?_⟩
    have lD : (ldm ps cs).length ≤ 200 := Nat.le_trans ldm_len (Nat.mul_le_mul (show ps.length ≤ 10 by omega) lcs)
    have dk3 := dk1.kept (s2.trans s3)
    refine ⟨d, c, pz, m1, zs, ldm ps cs, rfl, dk3, by omega, by omega, epz, dm, by omega, fun H4 lw ws W m4 kp4 dk4 b0 b1 elw offw dmw sub ind _ => ?_⟩
    have okW := dmw.ok
    have lW : W.length ≤ 20 := Nat.le_trans (ind_len (cs := cs) ind okW fun q hq => by
      obtain ⟨t, _, x, hx, _, e⟩ := mem_ldm.mp (sub q hq)
      rw [e]
      exact hx) lcs
    have bdW : ∀ q ∈ W, 0 ≤ q.2.1 ∧ q.2.2 ≤ 1000000000000 := fun q hq => by
      obtain ⟨t, ht, x, hx, _, e⟩ := mem_ldm.mp (sub q hq)
      have z := row.ok t ht
      have z1 := ln.ok _ z.1.1
      have z2 := ln.ok _ z.1.2
      rw [e]
      show 0 ≤ t.1 ∧ t.2 ≤ _
      omega
    have lws := dmw.length
    refine ⟨lw, ws, rfl, .inl ⟨SqL.of elw, fun ch nch => ?_⟩⟩
    have s5 := same_new (o := .tup ws) nch
    have ech := upd_same (H := H4) (a := ch) (o := .tup ws)
    generalize upd H4 ch (.tup ws) = H5 at *
    have kp5 : Kp d c H H5 := kp1.trans ((Kp.same (s2.trans s3)).trans (kp4.trans (Kp.same s5)))
    have dk5 := dk4.kept s5
    have dm5 := dmw.same s5
    -- drawn
    refine ⟨.ref d, rfl, d, c, m4, 4, rfl, dk5, by omega, by omega, by decide, by decide, fun H6 r kp6 dk6 r0 r1 => ?_⟩
    have kpA := kp5.trans kp6
    have el6 := kpA.keep off el
    refine ⟨r, rfl, by omega, by omega, fun D nD => ?_⟩
    refine lcK (d := d) (c := c) (per := 5) (n0 := m4 + 1) (lo := 0) (n := r.toNat) (fun j H' ws => ∃ W, Dms H' ws W ∧ W.length = j ∧ ∀ q ∈ W, 0 ≤ q.2.1 ∧ q.2.2 ≤ 1000000000000) nD dk6 (by omega) (fun _ _ _ _ t ⟨W, h1, h2⟩ => ⟨W, h1.tps t, h2⟩) (fun j H' ws ⟨W, h1, h2, _⟩ => by rw [h1.length, h2]; exact Nat.le_refl _) (fun _ => ⟨[], .nil, rfl, fun q hq => nomatch hq⟩) ?_ ?_
    · rintro j H' N acc hj kp' dk' eD ⟨W', dm', lW', ok'⟩ yes
      refine ⟨rfl, .ref d, rfl, .ref l, rfl, d, c, l, _, ls, rfl, dk', by omega, by omega, off, kp'.keep off el6, by omega, by omega, ln, fun H7 pos lo hi t u kp7 dk7 mlo mhi lp ph nu et eu => ?_⟩
      have b1 := ln.ok _ mlo
      have b2 := ln.ok _ mhi
      refine yes H7 _ kp7 dk7 ⟨W' ++ [(pos, lo, hi)], (dm'.tps (kp7.tps dk')).snoc ⟨⟨u, t, rfl, eu, et⟩, lp, ph⟩, by rw [List.length_append, lW']; rfl, fun q hq => ?_⟩
      rcases List.mem_append.mp hq with hq | hq
      · exact ok' q hq
      · rw [List.mem_singleton.mp hq]
        exact ⟨b1.1, show hi ≤ _ by omega⟩
    rintro H7 ws7 kp7 dk7 eD ⟨W7, dm7, lW7, ok7⟩
    have l7 := dm7.length
    have ech7 := (kp6.trans kp7).tup dk5 ech
    have dmC7 := dm5.tps ((kp6.trans kp7).tps dk5)
    refine ⟨D, ws7, rfl, .inl ⟨SqL.of eD, fun dr ndr => ?_⟩⟩
    have s8 := same_new (o := .tup ws7) ndr
    have edr := upd_same (H := H7) (a := dr) (o := .tup ws7)
    generalize upd H7 dr (.tup ws7) = H8 at *
    have ech8 := s8 _ _ ech7
    refine ⟨.ref ch, rfl, .ref dr, rfl, .ref ch, rfl, .ref dr, rfl, catA_any ech8 edr (by rw [big]; omega) (fun H9 p9 s9 e9 => ?_)⟩
    have ech9 := s9 _ _ ech8
    refine ⟨.ref ch, rfl, .ref ch, rfl, 1, rfl, slA_any ech9 (fun H10 p10 s10 e10 => ?_)⟩
    have c1 : (cutV ws none (some (1 : Int))).length ≤ ws.length := by rw [show (1 : Int) = ((1 : Nat) : Int) from rfl, cutTo]; exact List.length_take_le' _ _
    refine catA_any (s10 _ _ ech9) e10 (by rw [big]; omega) (fun H11 p11 s11 e11 => ?_)
    have ech11 := (s10.trans s11) _ _ ech9
    refine ⟨.ref ch, rfl, ch, ws, rfl, .inr (SqT.of ech11), fun p12 np12 => ?_⟩
    have s12 := same_new (o := .lst ws) np12
    have e12 := upd_same (H := H11) (a := p12) (o := .lst ws)
    generalize upd H11 p12 (.lst ws) = H12 at *
    refine ⟨by show 0 ≤ sizeLine; decide, fun p13 np13 => ?_⟩
    have s13 := same_new (o := .tup []) np13
    have e13 := upd_same (H := H12) (a := p13) (o := .tup [])
    generalize upd H12 p13 (.tup []) = H13 at *
    have ech13 := (s12.trans s13) _ _ ech11
    refine ⟨.ref ch, rfl, ch, ws, rfl, SqT.of ech13, fun p14 np14 => ?_⟩
    have s14 := same_new (o := .tup ws.reverse) np14
    have e14 := upd_same (H := H13) (a := p14) (o := .tup ws.reverse)
    generalize upd H13 p14 (.tup ws.reverse) = H14 at *
    refine ⟨by show 7 ≤ sizeLine; decide, fun g ng => ?_⟩
    have s15 := same_new (o := .lst [.ref ch, .ref dr, .ref p9, .ref p11, .ref p12, .ref p13, .ref p14]) ng
    have eg := upd_same (H := H14) (a := g) (o := .lst [.ref ch, .ref dr, .ref p9, .ref p11, .ref p12, .ref p13, .ref p14])
    generalize upd H14 g (.lst [.ref ch, .ref dr, .ref p9, .ref p11, .ref p12, .ref p13, .ref p14]) = H15 at *
    have s815 : Same H8 H15 := s9.trans (s10.trans (s11.trans (s12.trans (s13.trans (s14.trans s15)))))
    have s715 := s8.trans s815
    have kpB : Kp d c H H15 := kpA.trans (kp7.trans (Kp.same s715))
    have dk15 := dk7.kept s715
    have offg : Off d c g := ((dk7.kept (s8.trans (s9.trans (s10.trans (s11.trans (s12.trans (s13.trans s14))))))).off ng)
    have ech15 := s815 _ _ ech8
    have rwC : Rw K (10 ^ 29 + 1) 8140 2 (OffP d c H15) ws := (dms_rw dk15 (dmC7.same s715) bdW).mono (Nat.le_refl _) (by omega) (Nat.le_refl _)
    have rwD : Rw K (10 ^ 29 + 1) 1221 2 (OffP d c H15) ws7 := (dms_rw dk15 (dm7.same s715) ok7).mono (Nat.le_refl _) (by omega) (Nat.le_refl _)
    have gC : Gw K (10 ^ 29 + 1) 8140 3 (OffP d c H15) (.ref ch) := rwC.tup (offP_get (dk15.offT ech15) ech15)
    have up : ∀ {M dp : Nat} {G : Hp} {v : V}, Gw K (10 ^ 29 + 1) M dp G v → M ≤ 40000 → dp ≤ 11 → Gw K (10 ^ 29 + 1 + 3 * 10 ^ 13) 40000 11 G v := fun h k k2 => h.mono (Nat.le_add_right _ _) k k2
    have tupG : ∀ {x : Addr} {vs : List V} {M : Nat}, H15 x = some (.tup vs) → Rw K (10 ^ 29 + 1) M 2 (OffP d c H15) vs → M ≤ 40000 → GV K d c H15 (.ref x) := fun e rr k => up (rr.tup (offP_get (dk15.offT e) e)) k (by decide)
    have vals : ∀ v ∈ [V.ref ch, .ref dr, .ref p9, .ref p11, .ref p12, .ref p13, .ref p14], GV K d c H15 v := by
      intro v hv
      simp only [List.mem_cons, List.not_mem_nil, or_false] at hv
      have o12 : Off d c p12 := ((dk7.kept (s8.trans (s9.trans (s10.trans s11)))).off np12)
      rcases hv with rfl | rfl | rfl | rfl | rfl | rfl | rfl
      · exact up gC (by decide) (by decide)
      · exact tupG (s815 _ _ edr) rwD (by decide)
      · exact tupG ((s10.trans (s11.trans (s12.trans (s13.trans (s14.trans s15))))) _ _ e9) (rwC.cat rwD) (by decide)
      · exact tupG ((s12.trans (s13.trans (s14.trans s15))) _ _ e11) (rwC.cat (rwC.cut _ _)) (by decide)
      · exact up (rwC.lst (offP_get o12 ((s13.trans (s14.trans s15)) _ _ e12))) (by decide) (by decide)
      · exact tupG ((s14.trans s15) _ _ e13) (Rw.nil) (by decide)
      · exact tupG (s15 _ _ e14) rwC.rev (by decide)
    have lv0 : [V.ref ch, .ref dr, .ref p9, .ref p11, .ref p12, .ref p13, .ref p14].length = 7 := rfl
    generalize [V.ref ch, .ref dr, .ref p9, .ref p11, .ref p12, .ref p13, .ref p14] = v0 at *
    refine ⟨6, rfl, by decide, by decide, for_range (D := ⟨_, _, fun _ _ => True, fun _ _ => True⟩) (n := 6) (fun i σ H' => Kp d c H15 H' ∧ (∃ m, Dk H' d c m ∧ n ≤ m ∧ m ≤ n + 260 + 18 * i) ∧ ∃ g us, H' g = some (.lst us) ∧ Off d c g ∧ us.length ≤ 1000 + 2 * i ∧ (∀ v ∈ us, GV K d c H' v) ∧ ∃ y2 y5 y7 y8, σ = [some (.ref d), some (.ref l), y2, some (.ref ch), some (.ref dr), y5, some (.ref g), y7, y8])
      ⟨Kp.same (Same.refl _), ⟨_, dk15, by omega, by omega⟩, g, v0, eg, offg, by omega, vals, _, _, _, _, rfl⟩ ?_ ?_⟩
    · rintro i σ H16 hi ⟨kp16, ⟨m, dk16, n16, l16⟩, g, us, eg, offg, lus, vals, y2, y5, y7, y8, rfl⟩
      have e13 : (10 : Nat) ^ 13 = 10000000000000 := by decide
      have e30 : (10 : Nat) ^ 30 = 1000000000000000000000000000000 := by decide
      have e29 : (10 : Nat) ^ 29 = 100000000000000000000000000000 := by decide
      refine ⟨.ref d, rfl, .ref ch, rfl, d, c, m, .ref ch, 10 ^ 29 + 1, 8140, 3, rfl, dk16, by omega, by show m + 2 * 3 < _; omega, by omega, by omega, by decide, gC.same (offP_kp kp16), fun H17 v17 m17 kp17 dk17 q0 q1 g17 => ?_⟩
      refine ⟨.ref g, rfl, v17, rfl, .ref d, rfl, v17, rfl, d, c, m17, v17, 10 ^ 29 + 1 + 10 ^ 13, 2 * 8140 + 1001, 3 + 4, rfl, dk17, by omega, by show m17 + 2 * 3 < _; omega, by omega, by omega, by decide, g17, fun H18 v18 m18 kp18 dk18 q2 q3 g18 => ?_⟩
      refine ⟨by show 2 ≤ sizeLine; decide, fun l2 nl2 => ?_⟩
      have s19 := same_new (o := .lst [v17, v18]) nl2
      have el2 := upd_same (H := H18) (a := l2) (o := .lst [v17, v18])
      generalize upd H18 l2 (.lst [v17, v18]) = H19 at *
      have eg19 := s19 _ _ (kp18.keep offg (kp17.keep offg eg))
      refine ⟨g, l2, us, _, rfl, rfl, eg19, el2, by rw [big]; show _ + 2 ≤ _; omega, fun g2 ng2 => ?_⟩
      have off2 := (dk18.kept s19).off ng2
      have s20 := same_new (o := .lst (us ++ [v17, v18])) ng2
      have eg2 := upd_same (H := H19) (a := g2) (o := .lst (us ++ [v17, v18]))
      generalize upd H19 g2 (.lst (us ++ [v17, v18])) = H20 at *
      have s1820 := s19.trans s20
      have kp1620 : Kp d c H16 H20 := kp17.trans (kp18.trans (Kp.same s1820))
      have k3 : (3 : Nat) = ((3 : Nat) : Int) := rfl
      have b3 : m17 ≤ m + 2 * 3 + 3 := q1
      have b4 : m18 ≤ m17 + 2 * 3 + 3 := q3
      refine ⟨kp16.trans kp1620, ⟨m18, dk18.kept s1820, by omega, by omega⟩, g2, _, eg2, off2, by rw [List.length_append]; show us.length + 2 ≤ _; omega, fun v hv => ?_, _, _, _, _, rfl⟩
      rcases List.mem_append.mp hv with hv | hv
      · exact (vals v hv).same (offP_kp kp1620)
      · simp only [List.mem_cons, List.not_mem_nil, or_false] at hv
        rcases hv with rfl | rfl
        · exact (g17.same (offP_kp (kp18.trans (Kp.same s1820)))).mono (by omega) (by decide) (by decide)
        · exact (g18.same (offP_kp (Kp.same s1820))).mono (by omega) (by decide) (by decide)
    · rintro σ H16 ⟨kp16, ⟨m, dk16, n16, l16⟩, g, us, eg, offg, lus, vals, y2, y5, y7, y8, rfl⟩
      have e29 : (10 : Nat) ^ 29 = 100000000000000000000000000000 := by decide
      refine ⟨.ref g, rfl, .ref d, rfl, d, c, m, rfl, dk16, by omega, by omega, fun H17 v17 d17 kp17 dk17 md17 hv17 => ?_⟩
      refine ⟨.ref d, rfl, d, c, m + 1, rfl, dk17, by omega, by omega, fun H18 v18 d18 kp18 dk18 md18 hv18 => ?_⟩
      refine ⟨by show 2 ≤ sizeLine; decide, fun l2 nl2 => ?_⟩
      have s19 := same_new (o := .lst [v17, v18]) nl2
      have el2 := upd_same (H := H18) (a := l2) (o := .lst [v17, v18])
      generalize upd H18 l2 (.lst [v17, v18]) = H19 at *
      have eg19 := s19 _ _ (kp18.keep offg (kp17.keep offg eg))
      refine ⟨g, l2, us, _, rfl, rfl, eg19, el2, by rw [big]; show _ + 2 ≤ _; omega, fun g2 ng2 => ?_⟩
      have s20 := same_new (o := .lst (us ++ [v17, v18])) ng2
      have eg2 := upd_same (H := H19) (a := g2) (o := .lst (us ++ [v17, v18]))
      generalize upd H19 g2 (.lst (us ++ [v17, v18])) = H20 at *
      have s1820 := s19.trans s20
      have kp1620 : Kp d c H16 H20 := kp17.trans (kp18.trans (Kp.same s1820))
      refine q H20 g2 _ (m + 1 + 1) (kpB.trans (kp16.trans kp1620)) (dk18.kept s1820) (by omega) (by omega) eg2 fun v hv => ?_
      rcases List.mem_append.mp hv with hv | hv
      · exact (vals v hv).same (offP_kp kp1620)
      · simp only [List.mem_cons, List.not_mem_nil, or_false] at hv
        rcases hv with rfl | rfl
        · exact ((odd_gw md17 hv17 (by omega)).same (offP_kp (kp18.trans (Kp.same s1820)))).mono (Nat.le_refl _) (by decide) (by decide)
        · exact ((odd_gw md18 hv18 (by omega)).same (offP_kp (Kp.same s1820))).mono (Nat.le_refl _) (by decide) (by decide)
def sp_law (K : PySem.W.Frag) : Sp := fun vs H Q _ => ∃ (a : Addr) (ns : List Int), vs = [.ref a] ∧ SqL K H a (ns.map V.int) ∧ ns.length ≤ 63 ∧ ∀ H', Q (.bl true) H'
theorem ok_law (T : Tx K mg f_is_number f_is_position f_is_tuple_of f_is_interval f_has_position f_is_demand f_conflict f_is_independent f_law_deck f_law_draw f_law_line f_law_interval f_law_intervals f_law_demand f_law_conflict f_law_starts f_law_demands f_law_independent f_law_odd f_law_replaced f_law_is_demand f_law_due f_law_values f_law d_is_number d_is_position d_is_tuple_of d_is_interval d_has_position d_is_demand d_conflict d_is_independent d_law_deck d_law_draw d_law_line d_law_interval d_law_intervals d_law_demand d_law_conflict d_law_starts d_law_demands d_law_independent d_law_odd d_law_replaced d_law_is_demand d_law_due d_law_values d_law t_LAST_POSITION) (hM : ∃ mm, base.Ns sysModules mm) : FnG P w K mg base 8 f_law d_law ["_law_script"] (sp_law K) := by
  refine FnG.of T.F_law sc_law (fun {vs H Q} h => ?_) (fun cdv A outer s H vs Q hr hq h => ?_)
  · obtain ⟨a, ns, rfl, _⟩ := h
    rfl
  · obtain ⟨a, ns, rfl, hS, hlen, q⟩ := h
    refine ⟨_, (pss_cons (ps_set (i := 1) sc_law.nd rfl (Or.inl rfl) (pe_call (ok_law_deck T) (hr.mono (by decide)) (by rfl) T.g_law_deck T.F_law_deck.kp T.b_law_deck .nil pass0 (pa_cons (pv 0) pa_nil)))
      (pss_cons (ps_for PassesOwn.never rfl (pi_range1 (by rfl) T.z_range (pa_cons pe_int pa_nil)) (pg_name (i := 2) sc_law.nd rfl (Or.inl rfl))
      (pss_cons (ps_set (i := 3) sc_law.nd rfl (Or.inl rfl) (pe_call (ok_law_line T) (hr.mono (by decide)) (by rfl) T.g_law_line T.F_law_line.kp T.b_law_line .nil pass0 (pa_cons (pv 1) (pa_cons (pe_op op_add pe_int (pe_call (ok_law_draw T) (hr.mono (by decide)) (by rfl) T.g_law_draw T.F_law_draw.kp T.b_law_draw .nil pass0 (pa_cons (pv 1) (pa_cons pe_int pa_nil)))) pa_nil))))
      (pss_one (ps_for PassesOwn.never rfl (pi_list (pe_call (ok_law_values T) (hr.mono (by decide)) (by rfl) T.g_law_values T.F_law_values.kp T.b_law_values .nil pass0 (pa_cons (pv 1) (pa_cons (pv 3) pa_nil)))) (pg_name (i := 4) sc_law.nd rfl (Or.inl rfl))
      (pss_cons (ps_set (i := 5) sc_law.nd rfl (Or.inl rfl) (pe_callB (call_reprV hM hq hr.units) (by rfl) T.z_repr (by decide +kernel) (pa_cons (pv 4) pa_nil)))
      (pss_one (ps_if (PW.pt (pw_or (pt_cmpR op_ne (pe_callB (call_reprV hM hq hr.units) (by rfl) T.z_repr (by decide +kernel) (pa_cons (pe_call (ok_is_independent T) (hr.mono (by decide)) (by rfl) T.g_is_independent T.F_is_independent.kp T.b_is_independent .nil pass0 (pa_cons (pv 4) pa_nil)) pa_nil)) (pe_callB (call_reprV hM hq hr.units) (by rfl) T.z_repr (by decide +kernel) (pa_cons (pe_call (ok_law_due T) (hr.mono (by decide)) (by rfl) T.g_law_due T.F_law_due.kp T.b_law_due .nil pass0 (pa_cons (pv 4) pa_nil)) pa_nil)) (nomark _)) (pw_or1 (pt_cmpR op_ne (pe_callB (call_reprV hM hq hr.units) (by rfl) T.z_repr (by decide +kernel) (pa_cons (pv 4) pa_nil)) (pv 5) (nomark _)))))
      (pss_one (ps_ret pe_bl))
      pss_nil)))))))
      (pss_one (ps_ret pe_bl)))), ?_⟩
    refine ⟨.ref a, rfl, a, ns, rfl, hS, hlen, fun H1 d c s1 nd nc dk0 => ?_⟩
    refine ⟨5, rfl, by decide, by decide, for_range (D := ⟨_, _, fun _ _ => True, fun _ _ => True⟩) (n := 5) (fun i σ H' => (∃ n : Int, Dk H' d c n ∧ 0 ≤ n ∧ n ≤ 420 * i) ∧ ∃ y2 y3 y4 y5, σ = [some (.ref a), some (.ref d), y2, y3, y4, y5])
      ⟨⟨0, dk0, by decide, by decide⟩, _, _, _, _, rfl⟩ ?_ (fun σ H' _ => q H')⟩
    rintro i σ H2 hi ⟨⟨n, dk2, n0, n1⟩, y2, y3, y4, y5, rfl⟩
    refine ⟨.ref d, rfl, .ref d, rfl, d, c, n, 8, rfl, dk2, n0, by omega, by decide, by decide, fun H3 r kp3 dk3 r0 r1 => ?_⟩
    refine ⟨_, _, rfl, rfl, d, c, n + 1, 1 + r, rfl, dk3, by omega, by omega, by omega, by omega, fun H4 l ls kp4 dk4 nl el ll ln => ?_⟩
    have offl : l ≠ d ∧ l ≠ c := dk3.off nl
    refine ⟨.ref d, rfl, .ref l, rfl, d, c, l, _, ls, rfl, dk4, by omega, by omega, offl, el, by omega, by omega, ln, fun H5 g us m kp5 dk5 m0 m1 eg vals => ?_⟩
    refine ⟨g, rfl, ⟨_, SqL.of eg⟩, ?_⟩
    refine for_list (K := K) (a := g) (xs := us) (fun j σ H' => Same H5 H' ∧ ∃ y2 y3 y4 y5, σ = [some (.ref a), some (.ref d), y2, y3, y4, y5]) ⟨Same.refl _, _, _, _, _, rfl⟩ (fun j σ H' _ h => SqL.of (h.1 _ _ eg)) ?_ ?_
    · rintro j v σ H6 hj ⟨s6, y2, y3, y4, y5, rfl⟩
      obtain ⟨dd, hd, fine, wt, dep⟩ := (vals v (List.mem_of_getElem? hj)).same offP_sub
      have sm : Sm 40000 11 dd := ⟨fine.shows, fine.short, wt, dep⟩
      have hd6 := dv_same s6 hd
      refine ⟨v, rfl, v, dd, _, _, rfl, hd6, sm, by decide, by decide, ?_⟩
      refine ⟨v, rfl, v, dd, rfl, hd6, Nat.le_trans wt (by decide), fun H7 s7 => ?_⟩
      refine ⟨.bl (indB dd), .bool (indB dd), _, _, rfl, .bl _, Sm.bool _, by decide, by decide, ?_⟩
      refine ⟨v, rfl, v, dd, rfl, dv_same s7 hd6, Nat.le_trans wt (by decide), fun H8 s8 => ?_⟩
      have s78 := s7.trans s8
      refine ⟨.bl (indB dd), .bool (indB dd), _, _, rfl, .bl _, Sm.bool _, by decide, by decide, ?_⟩
      refine ⟨rfl, _, rfl, iteNS rfl ?_⟩
      refine ⟨v, rfl, v, dd, _, _, rfl, dv_same s78 hd6, sm, by decide, by decide, .str dd.shown, rfl, rfl, _, rfl, iteNS rfl ?_⟩
      exact ⟨s6.trans s78, _, _, _, _, rfl⟩
    · rintro σ H6 ⟨s6, y2, y3, y4, y5, rfl⟩
      exact ⟨⟨m, dk5.kept s6, by omega, by omega⟩, _, _, _, _, rfl⟩

end
theorem all_mk {l : PySem.W.OpenLaw} {w : World} {K : PySem.W.Frag} {h : Heap} {mg : Str → Option Value} {fa f1 f2 f3 f4 f5 f6 f7 f8 f9 f10 f11 f12 f13 f14 f15 f16 f17 f18 f19 f20 f21 f22 f23 f24 : Addr} (X : K.In h) (G : h.Ns mainGlobals mg) (hfa : mg "law" = some (.ref fa))
    {od1 an1 od2 an2 od3 an3 od4 an4 od5 an5 od6 an6 od7 an7 od8 an8 od9 an9 od10 an10 od11 an11 od12 an12 od13 an13 od14 an14 od15 an15 od16 an16 od17 an17 od18 an18 od19 an19 od20 an20 od21 an21 od22 an22 od23 an23 od24 an24 : Option Addr} {sl1 sl2 sl3 sl4 sl5 sl6 sl7 sl8 sl9 sl10 sl11 sl12 sl13 sl14 sl15 sl16 sl17 sl18 sl19 sl20 sl21 sl22 sl23 sl24 : Array (Option Value)} {oc1 kV1 dc1 pm1 cd1 ct1 oc2 kV2 dc2 pm2 cd2 ct2 oc3 kV3 dc3 pm3 cd3 ct3 oc4 kV4 dc4 pm4 cd4 ct4 oc5 kV5 dc5 pm5 cd5 ct5 oc6 kV6 dc6 pm6 cd6 ct6 oc7 kV7 dc7 pm7 cd7 ct7 oc8 kV8 dc8 pm8 cd8 ct8 oc9 kV9 dc9 pm9 cd9 ct9 oc10 kV10 dc10 pm10 cd10 ct10 oc11 kV11 dc11 pm11 cd11 ct11 oc12 kV12 dc12 pm12 cd12 ct12 oc13 kV13 dc13 pm13 cd13 ct13 oc14 kV14 dc14 pm14 cd14 ct14 oc15 kV15 dc15 pm15 cd15 ct15 oc16 kV16 dc16 pm16 cd16 ct16 oc17 kV17 dc17 pm17 cd17 ct17 oc18 kV18 dc18 pm18 cd18 ct18 oc19 kV19 dc19 pm19 cd19 ct19 oc20 kV20 dc20 pm20 cd20 ct20 oc21 kV21 dc21 pm21 cd21 ct21 oc22 kV22 dc22 pm22 cd22 ct22 oc23 kV23 dc23 pm23 cd23 ct23 oc24 kV24 dc24 pm24 cd24 ct24 : Value} {tk0 : Tok}
    (a1 : PySem.W.nsIn K mainGlobals "is_number" = some (some (.ref f1))) (l1 : K.lookup f1 = some ⟨oc1, od1, .func (PySem.W.fnOf "is_number" "is_number" (defArgs s_is_number) (defBody s_is_number) (defScope s_is_number) .none kV1 dc1 pm1 an1 cd1 ct1), sl1⟩) (c1 : PySem.W.codeIn K cd1 "is_number" = true) (k1 : PySem.W.keepIn K (.ref f1) = true)
    (a2 : PySem.W.nsIn K mainGlobals "is_position" = some (some (.ref f2))) (l2 : K.lookup f2 = some ⟨oc2, od2, .func (PySem.W.fnOf "is_position" "is_position" (defArgs s_is_position) (defBody s_is_position) (defScope s_is_position) .none kV2 dc2 pm2 an2 cd2 ct2), sl2⟩) (c2 : PySem.W.codeIn K cd2 "is_position" = true) (k2 : PySem.W.keepIn K (.ref f2) = true)
    (a3 : PySem.W.nsIn K mainGlobals "is_tuple_of" = some (some (.ref f3))) (l3 : K.lookup f3 = some ⟨oc3, od3, .func (PySem.W.fnOf "is_tuple_of" "is_tuple_of" (defArgs s_is_tuple_of) (defBody s_is_tuple_of) (defScope s_is_tuple_of) .none kV3 dc3 pm3 an3 cd3 ct3), sl3⟩) (c3 : PySem.W.codeIn K cd3 "is_tuple_of" = true) (k3 : PySem.W.keepIn K (.ref f3) = true)
    (a4 : PySem.W.nsIn K mainGlobals "is_interval" = some (some (.ref f4))) (l4 : K.lookup f4 = some ⟨oc4, od4, .func (PySem.W.fnOf "is_interval" "is_interval" (defArgs s_is_interval) (defBody s_is_interval) (defScope s_is_interval) .none kV4 dc4 pm4 an4 cd4 ct4), sl4⟩) (c4 : PySem.W.codeIn K cd4 "is_interval" = true) (k4 : PySem.W.keepIn K (.ref f4) = true)
    (a5 : PySem.W.nsIn K mainGlobals "has_position" = some (some (.ref f5))) (l5 : K.lookup f5 = some ⟨oc5, od5, .func (PySem.W.fnOf "has_position" "has_position" (defArgs s_has_position) (defBody s_has_position) (defScope s_has_position) .none kV5 dc5 pm5 an5 cd5 ct5), sl5⟩) (c5 : PySem.W.codeIn K cd5 "has_position" = true) (k5 : PySem.W.keepIn K (.ref f5) = true)
    (a6 : PySem.W.nsIn K mainGlobals "is_demand" = some (some (.ref f6))) (l6 : K.lookup f6 = some ⟨oc6, od6, .func (PySem.W.fnOf "is_demand" "is_demand" (defArgs s_is_demand) (defBody s_is_demand) (defScope s_is_demand) .none kV6 dc6 pm6 an6 cd6 ct6), sl6⟩) (c6 : PySem.W.codeIn K cd6 "is_demand" = true) (k6 : PySem.W.keepIn K (.ref f6) = true)
    (a7 : PySem.W.nsIn K mainGlobals "conflict" = some (some (.ref f7))) (l7 : K.lookup f7 = some ⟨oc7, od7, .func (PySem.W.fnOf "conflict" "conflict" (defArgs s_conflict) (defBody s_conflict) (defScope s_conflict) .none kV7 dc7 pm7 an7 cd7 ct7), sl7⟩) (c7 : PySem.W.codeIn K cd7 "conflict" = true) (k7 : PySem.W.keepIn K (.ref f7) = true)
    (a8 : PySem.W.nsIn K mainGlobals "is_independent" = some (some (.ref f8))) (l8 : K.lookup f8 = some ⟨oc8, od8, .func (PySem.W.fnOf "is_independent" "is_independent" (defArgs s_is_independent) (defBody s_is_independent) (defScope s_is_independent) .none kV8 dc8 pm8 an8 cd8 ct8), sl8⟩) (c8 : PySem.W.codeIn K cd8 "is_independent" = true) (k8 : PySem.W.keepIn K (.ref f8) = true)
    (a9 : PySem.W.nsIn K mainGlobals "_law_deck" = some (some (.ref f9))) (l9 : K.lookup f9 = some ⟨oc9, od9, .func (PySem.W.fnOf "_law_deck" "_law_deck" (defArgs s_law_deck) (defBody s_law_deck) (defScope s_law_deck) .none kV9 dc9 pm9 an9 cd9 ct9), sl9⟩) (c9 : PySem.W.codeIn K cd9 "_law_deck" = true) (k9 : PySem.W.keepIn K (.ref f9) = true)
    (a10 : PySem.W.nsIn K mainGlobals "_law_draw" = some (some (.ref f10))) (l10 : K.lookup f10 = some ⟨oc10, od10, .func (PySem.W.fnOf "_law_draw" "_law_draw" (defArgs s_law_draw) (defBody s_law_draw) (defScope s_law_draw) .none kV10 dc10 pm10 an10 cd10 ct10), sl10⟩) (c10 : PySem.W.codeIn K cd10 "_law_draw" = true) (k10 : PySem.W.keepIn K (.ref f10) = true)
    (a11 : PySem.W.nsIn K mainGlobals "_law_line" = some (some (.ref f11))) (l11 : K.lookup f11 = some ⟨oc11, od11, .func (PySem.W.fnOf "_law_line" "_law_line" (defArgs s_law_line) (defBody s_law_line) (defScope s_law_line) .none kV11 dc11 pm11 an11 cd11 ct11), sl11⟩) (c11 : PySem.W.codeIn K cd11 "_law_line" = true) (k11 : PySem.W.keepIn K (.ref f11) = true)
    (a12 : PySem.W.nsIn K mainGlobals "_law_interval" = some (some (.ref f12))) (l12 : K.lookup f12 = some ⟨oc12, od12, .func (PySem.W.fnOf "_law_interval" "_law_interval" (defArgs s_law_interval) (defBody s_law_interval) (defScope s_law_interval) .none kV12 dc12 pm12 an12 cd12 ct12), sl12⟩) (c12 : PySem.W.codeIn K cd12 "_law_interval" = true) (k12 : PySem.W.keepIn K (.ref f12) = true)
    (a13 : PySem.W.nsIn K mainGlobals "_law_intervals" = some (some (.ref f13))) (l13 : K.lookup f13 = some ⟨oc13, od13, .func (PySem.W.fnOf "_law_intervals" "_law_intervals" (defArgs s_law_intervals) (defBody s_law_intervals) (defScope s_law_intervals) .none kV13 dc13 pm13 an13 cd13 ct13), sl13⟩) (c13 : PySem.W.codeIn K cd13 "_law_intervals" = true) (k13 : PySem.W.keepIn K (.ref f13) = true)
    (a14 : PySem.W.nsIn K mainGlobals "_law_demand" = some (some (.ref f14))) (l14 : K.lookup f14 = some ⟨oc14, od14, .func (PySem.W.fnOf "_law_demand" "_law_demand" (defArgs s_law_demand) (defBody s_law_demand) (defScope s_law_demand) .none kV14 dc14 pm14 an14 cd14 ct14), sl14⟩) (c14 : PySem.W.codeIn K cd14 "_law_demand" = true) (k14 : PySem.W.keepIn K (.ref f14) = true)
    (a15 : PySem.W.nsIn K mainGlobals "_law_conflict" = some (some (.ref f15))) (l15 : K.lookup f15 = some ⟨oc15, od15, .func (PySem.W.fnOf "_law_conflict" "_law_conflict" (defArgs s_law_conflict) (defBody s_law_conflict) (defScope s_law_conflict) .none kV15 dc15 pm15 an15 cd15 ct15), sl15⟩) (c15 : PySem.W.codeIn K cd15 "_law_conflict" = true) (k15 : PySem.W.keepIn K (.ref f15) = true)
    (a16 : PySem.W.nsIn K mainGlobals "_law_starts" = some (some (.ref f16))) (l16 : K.lookup f16 = some ⟨oc16, od16, .func (PySem.W.fnOf "_law_starts" "_law_starts" (defArgs s_law_starts) (defBody s_law_starts) (defScope s_law_starts) .none kV16 dc16 pm16 an16 cd16 ct16), sl16⟩) (c16 : PySem.W.codeIn K cd16 "_law_starts" = true) (k16 : PySem.W.keepIn K (.ref f16) = true)
    (a17 : PySem.W.nsIn K mainGlobals "_law_demands" = some (some (.ref f17))) (l17 : K.lookup f17 = some ⟨oc17, od17, .func (PySem.W.fnOf "_law_demands" "_law_demands" (defArgs s_law_demands) (defBody s_law_demands) (defScope s_law_demands) .none kV17 dc17 pm17 an17 cd17 ct17), sl17⟩) (c17 : PySem.W.codeIn K cd17 "_law_demands" = true) (k17 : PySem.W.keepIn K (.ref f17) = true)
    (a18 : PySem.W.nsIn K mainGlobals "_law_independent" = some (some (.ref f18))) (l18 : K.lookup f18 = some ⟨oc18, od18, .func (PySem.W.fnOf "_law_independent" "_law_independent" (defArgs s_law_independent) (defBody s_law_independent) (defScope s_law_independent) .none kV18 dc18 pm18 an18 cd18 ct18), sl18⟩) (c18 : PySem.W.codeIn K cd18 "_law_independent" = true) (k18 : PySem.W.keepIn K (.ref f18) = true)
    (a19 : PySem.W.nsIn K mainGlobals "_law_odd" = some (some (.ref f19))) (l19 : K.lookup f19 = some ⟨oc19, od19, .func (PySem.W.fnOf "_law_odd" "_law_odd" (defArgs s_law_odd) (defBody s_law_odd) (defScope s_law_odd) .none kV19 dc19 pm19 an19 cd19 ct19), sl19⟩) (c19 : PySem.W.codeIn K cd19 "_law_odd" = true) (k19 : PySem.W.keepIn K (.ref f19) = true)
    (a20 : PySem.W.nsIn K mainGlobals "_law_replaced" = some (some (.ref f20))) (l20 : K.lookup f20 = some ⟨oc20, od20, .func (PySem.W.fnOf "_law_replaced" "_law_replaced" (defArgs s_law_replaced) (defBody s_law_replaced) (defScope s_law_replaced) .none kV20 dc20 pm20 an20 cd20 ct20), sl20⟩) (c20 : PySem.W.codeIn K cd20 "_law_replaced" = true) (k20 : PySem.W.keepIn K (.ref f20) = true)
    (a21 : PySem.W.nsIn K mainGlobals "_law_is_demand" = some (some (.ref f21))) (l21 : K.lookup f21 = some ⟨oc21, od21, .func (PySem.W.fnOf "_law_is_demand" "_law_is_demand" (defArgs s_law_is_demand) (defBody s_law_is_demand) (defScope s_law_is_demand) .none kV21 dc21 pm21 an21 cd21 ct21), sl21⟩) (c21 : PySem.W.codeIn K cd21 "_law_is_demand" = true) (k21 : PySem.W.keepIn K (.ref f21) = true)
    (a22 : PySem.W.nsIn K mainGlobals "_law_due" = some (some (.ref f22))) (l22 : K.lookup f22 = some ⟨oc22, od22, .func (PySem.W.fnOf "_law_due" "_law_due" (defArgs s_law_due) (defBody s_law_due) (defScope s_law_due) .none kV22 dc22 pm22 an22 cd22 ct22), sl22⟩) (c22 : PySem.W.codeIn K cd22 "_law_due" = true) (k22 : PySem.W.keepIn K (.ref f22) = true)
    (a23 : PySem.W.nsIn K mainGlobals "_law_values" = some (some (.ref f23))) (l23 : K.lookup f23 = some ⟨oc23, od23, .func (PySem.W.fnOf "_law_values" "_law_values" (defArgs s_law_values) (defBody s_law_values) (defScope s_law_values) .none kV23 dc23 pm23 an23 cd23 ct23), sl23⟩) (c23 : PySem.W.codeIn K cd23 "_law_values" = true) (k23 : PySem.W.keepIn K (.ref f23) = true)
    (a24 : PySem.W.nsIn K mainGlobals "law" = some (some (.ref f24))) (l24 : K.lookup f24 = some ⟨oc24, od24, .func (PySem.W.fnOf "law" "law" (defArgs s_law) (defBody s_law) (defScope s_law) .none kV24 dc24 pm24 an24 cd24 ct24), sl24⟩) (c24 : PySem.W.codeIn K cd24 "law" = true) (k24 : PySem.W.keepIn K (.ref f24) = true)
    (y0 : PySem.W.nsIn K mainGlobals "LAST_POSITION" = some (some (.int 1000000000000 tk0))) (z0 : PySem.W.nsIn K mainGlobals "abs" = some none) (z1 : PySem.W.nsIn K mainGlobals "all" = some none) (z2 : PySem.W.nsIn K mainGlobals "any" = some none) (z3 : PySem.W.nsIn K mainGlobals "bool" = some none) (z4 : PySem.W.nsIn K mainGlobals "enumerate" = some none) (z5 : PySem.W.nsIn K mainGlobals "int" = some none) (z6 : PySem.W.nsIn K mainGlobals "isinstance" = some none) (z7 : PySem.W.nsIn K mainGlobals "len" = some none) (z8 : PySem.W.nsIn K mainGlobals "list" = some none) (z9 : PySem.W.nsIn K mainGlobals "max" = some none) (z10 : PySem.W.nsIn K mainGlobals "min" = some none) (z11 : PySem.W.nsIn K mainGlobals "range" = some none) (z12 : PySem.W.nsIn K mainGlobals "repr" = some none) (z13 : PySem.W.nsIn K mainGlobals "set" = some none) (z14 : PySem.W.nsIn K mainGlobals "sorted" = some none) (z15 : PySem.W.nsIn K mainGlobals "tuple" = some none) :
    ∃ fd : FuncData, (∀ (s : Shared) (v : Value), BindsTo s fd ⟨[v], []⟩ [("_law_script", v)]) ∧ ∀ base : Heap, K.In base → base.Ns mainGlobals mg → (∃ mm, base.Ns sysModules mm) → FnG l.prog w K mg base 8 fa fd ["_law_script"] (sp_law K) := by
  have e := hfa.symm.trans (PySem.W.mg_of X G a24)
  cases e
  have F1 := fun_mk (st := s_is_number) l1 c1 k1
  have b1 := F1.binds (ps := ["value"]) fun _ _ _ _ _ _ us hl => match us, hl with | [_], _ => rfl
  have F2 := fun_mk (st := s_is_position) l2 c2 k2
  have b2 := F2.binds (ps := ["value"]) fun _ _ _ _ _ _ us hl => match us, hl with | [_], _ => rfl
  have F3 := fun_mk (st := s_is_tuple_of) l3 c3 k3
  have b3 := F3.binds (ps := ["value", "length"]) fun _ _ _ _ _ _ us hl => match us, hl with | [_, _], _ => rfl
  have F4 := fun_mk (st := s_is_interval) l4 c4 k4
  have b4 := F4.binds (ps := ["value"]) fun _ _ _ _ _ _ us hl => match us, hl with | [_], _ => rfl
  have F5 := fun_mk (st := s_has_position) l5 c5 k5
  have b5 := F5.binds (ps := ["interval", "position"]) fun _ _ _ _ _ _ us hl => match us, hl with | [_, _], _ => rfl
  have F6 := fun_mk (st := s_is_demand) l6 c6 k6
  have b6 := F6.binds (ps := ["value"]) fun _ _ _ _ _ _ us hl => match us, hl with | [_], _ => rfl
  have F7 := fun_mk (st := s_conflict) l7 c7 k7
  have b7 := F7.binds (ps := ["first", "second"]) fun _ _ _ _ _ _ us hl => match us, hl with | [_, _], _ => rfl
  have F8 := fun_mk (st := s_is_independent) l8 c8 k8
  have b8 := F8.binds (ps := ["value"]) fun _ _ _ _ _ _ us hl => match us, hl with | [_], _ => rfl
  have F9 := fun_mk (st := s_law_deck) l9 c9 k9
  have b9 := F9.binds (ps := ["_law_script"]) fun _ _ _ _ _ _ us hl => match us, hl with | [_], _ => rfl
  have F10 := fun_mk (st := s_law_draw) l10 c10 k10
  have b10 := F10.binds (ps := ["_law_deck_here", "_law_bound"]) fun _ _ _ _ _ _ us hl => match us, hl with | [_, _], _ => rfl
  have F11 := fun_mk (st := s_law_line) l11 c11 k11
  have b11 := F11.binds (ps := ["_law_deck_here", "_law_count"]) fun _ _ _ _ _ _ us hl => match us, hl with | [_, _], _ => rfl
  have F12 := fun_mk (st := s_law_interval) l12 c12 k12
  have b12 := F12.binds (ps := ["_law_deck_here", "_law_line_here"]) fun _ _ _ _ _ _ us hl => match us, hl with | [_, _], _ => rfl
  have F13 := fun_mk (st := s_law_intervals) l13 c13 k13
  have b13 := F13.binds (ps := ["_law_deck_here", "_law_line_here", "_law_most"]) fun _ _ _ _ _ _ us hl => match us, hl with | [_, _, _], _ => rfl
  have F14 := fun_mk (st := s_law_demand) l14 c14 k14
  have b14 := F14.binds (ps := ["_law_deck_here", "_law_line_here"]) fun _ _ _ _ _ _ us hl => match us, hl with | [_, _], _ => rfl
  have F15 := fun_mk (st := s_law_conflict) l15 c15 k15
  have b15 := F15.binds (ps := ["_law_first", "_law_second"]) fun _ _ _ _ _ _ us hl => match us, hl with | [_, _], _ => rfl
  have F16 := fun_mk (st := s_law_starts) l16 c16 k16
  have b16 := F16.binds (ps := ["_law_intervals_here"]) fun _ _ _ _ _ _ us hl => match us, hl with | [_], _ => rfl
  have F17 := fun_mk (st := s_law_demands) l17 c17 k17
  have b17 := F17.binds (ps := ["_law_targets", "_law_positions"]) fun _ _ _ _ _ _ us hl => match us, hl with | [_, _], _ => rfl
  have F18 := fun_mk (st := s_law_independent) l18 c18 k18
  have b18 := F18.binds (ps := ["_law_deck_here", "_law_demands_here"]) fun _ _ _ _ _ _ us hl => match us, hl with | [_, _], _ => rfl
  have F19 := fun_mk (st := s_law_odd) l19 c19 k19
  have b19 := F19.binds (ps := ["_law_deck_here"]) fun _ _ _ _ _ _ us hl => match us, hl with | [_], _ => rfl
  have F20 := fun_mk (st := s_law_replaced) l20 c20 k20
  have b20 := F20.binds (ps := ["_law_deck_here", "_law_value", "_law_depth"]) fun _ _ _ _ _ _ us hl => match us, hl with | [_, _, _], _ => rfl
  have F21 := fun_mk (st := s_law_is_demand) l21 c21 k21
  have b21 := F21.binds (ps := ["_law_value"]) fun _ _ _ _ _ _ us hl => match us, hl with | [_], _ => rfl
  have F22 := fun_mk (st := s_law_due) l22 c22 k22
  have b22 := F22.binds (ps := ["_law_value"]) fun _ _ _ _ _ _ us hl => match us, hl with | [_], _ => rfl
  have F23 := fun_mk (st := s_law_values) l23 c23 k23
  have b23 := F23.binds (ps := ["_law_deck_here", "_law_line_here"]) fun _ _ _ _ _ _ us hl => match us, hl with | [_, _], _ => rfl
  have F24 := fun_mk (st := s_law) l24 c24 k24
  have b24 := F24.binds (ps := ["_law_script"]) fun _ _ _ _ _ _ us hl => match us, hl with | [_], _ => rfl
  have T : Tx K mg _ _ _ _ _ _ _ _ _ _ _ _ _ _ _ _ _ _ _ _ _ _ _ _  _ _ _ _ _ _ _ _ _ _ _ _ _ _ _ _ _ _ _ _ _ _ _ _ tk0 := ⟨F1, b1, PySem.W.mg_of X G a1, F2, b2, PySem.W.mg_of X G a2, F3, b3, PySem.W.mg_of X G a3, F4, b4, PySem.W.mg_of X G a4, F5, b5, PySem.W.mg_of X G a5, F6, b6, PySem.W.mg_of X G a6, F7, b7, PySem.W.mg_of X G a7, F8, b8, PySem.W.mg_of X G a8, F9, b9, PySem.W.mg_of X G a9, F10, b10, PySem.W.mg_of X G a10, F11, b11, PySem.W.mg_of X G a11, F12, b12, PySem.W.mg_of X G a12, F13, b13, PySem.W.mg_of X G a13, F14, b14, PySem.W.mg_of X G a14, F15, b15, PySem.W.mg_of X G a15, F16, b16, PySem.W.mg_of X G a16, F17, b17, PySem.W.mg_of X G a17, F18, b18, PySem.W.mg_of X G a18, F19, b19, PySem.W.mg_of X G a19, F20, b20, PySem.W.mg_of X G a20, F21, b21, PySem.W.mg_of X G a21, F22, b22, PySem.W.mg_of X G a22, F23, b23, PySem.W.mg_of X G a23, F24, b24, PySem.W.mg_of X G a24, PySem.W.mg_of X G y0, PySem.W.mg_none_of X G z0, PySem.W.mg_none_of X G z1, PySem.W.mg_none_of X G z2, PySem.W.mg_none_of X G z3, PySem.W.mg_none_of X G z4, PySem.W.mg_none_of X G z5, PySem.W.mg_none_of X G z6, PySem.W.mg_none_of X G z7, PySem.W.mg_none_of X G z8, PySem.W.mg_none_of X G z9, PySem.W.mg_none_of X G z10, PySem.W.mg_none_of X G z11, PySem.W.mg_none_of X G z12, PySem.W.mg_none_of X G z13, PySem.W.mg_none_of X G z14, PySem.W.mg_none_of X G z15⟩
  exact ⟨_, fun s v => .of_eq rfl, fun base _ _ hM => ok_law T hM⟩
end L9
open PySem PySem.W PyProof.Rows
set_option maxHeartbeats 0 in
theorem PySem.Challenge.cw_fewspans_k10_independent_judged_holds : PySem.Challenge.rw_fewspans_k10_independent_judged.Holds := by
  w_on; o_law; k_head; (case hw => w_witness2)
  k_fill
  refine L9.quiet_walk (l := PySem.Challenge.rw_fewspans_k10_independent_judged) (n := 63) (k := 8) (x := "_law_script") (sp := fun w => L9.sp_law _) (by decide +kernel) rfl (by decide) rfl ⟨rfl, by decide, by decide⟩ (fun w h Y => PySem.W.kIn_of Y) ?F (fun _ _ a ns hl _ hS => ⟨a, ns, rfl, hS, hl, fun _ => rfl⟩)
  case F =>
    intro w mg fa h KX G hmg
    refine' L9.all_mk KX G hmg ?a1 ?l1 ?c1 ?k1 ?a2 ?l2 ?c2 ?k2 ?a3 ?l3 ?c3 ?k3 ?a4 ?l4 ?c4 ?k4 ?a5 ?l5 ?c5 ?k5 ?a6 ?l6 ?c6 ?k6 ?a7 ?l7 ?c7 ?k7 ?a8 ?l8 ?c8 ?k8 ?a9 ?l9 ?c9 ?k9 ?a10 ?l10 ?c10 ?k10 ?a11 ?l11 ?c11 ?k11 ?a12 ?l12 ?c12 ?k12 ?a13 ?l13 ?c13 ?k13 ?a14 ?l14 ?c14 ?k14 ?a15 ?l15 ?c15 ?k15 ?a16 ?l16 ?c16 ?k16 ?a17 ?l17 ?c17 ?k17 ?a18 ?l18 ?c18 ?k18 ?a19 ?l19 ?c19 ?k19 ?a20 ?l20 ?c20 ?k20 ?a21 ?l21 ?c21 ?k21 ?a22 ?l22 ?c22 ?k22 ?a23 ?l23 ?c23 ?k23 ?a24 ?l24 ?c24 ?k24 ?y0 ?z0 ?z1 ?z2 ?z3 ?z4 ?z5 ?z6 ?z7 ?z8 ?z9 ?z10 ?z11 ?z12 ?z13 ?z14 ?z15
    (case a1 => k_is)
    (case l1 => k_is)
    (case c1 => k_is)
    (case k1 => k_is)
    (case a2 => k_is)
    (case l2 => k_is)
    (case c2 => k_is)
    (case k2 => k_is)
    (case a3 => k_is)
    (case l3 => k_is)
    (case c3 => k_is)
    (case k3 => k_is)
    (case a4 => k_is)
    (case l4 => k_is)
    (case c4 => k_is)
    (case k4 => k_is)
    (case a5 => k_is)
    (case l5 => k_is)
    (case c5 => k_is)
    (case k5 => k_is)
    (case a6 => k_is)
    (case l6 => k_is)
    (case c6 => k_is)
    (case k6 => k_is)
    (case a7 => k_is)
    (case l7 => k_is)
    (case c7 => k_is)
    (case k7 => k_is)
    (case a8 => k_is)
    (case l8 => k_is)
    (case c8 => k_is)
    (case k8 => k_is)
    (case a9 => k_is)
    (case l9 => k_is)
    (case c9 => k_is)
    (case k9 => k_is)
    (case a10 => k_is)
    (case l10 => k_is)
    (case c10 => k_is)
    (case k10 => k_is)
    (case a11 => k_is)
    (case l11 => k_is)
    (case c11 => k_is)
    (case k11 => k_is)
    (case a12 => k_is)
    (case l12 => k_is)
    (case c12 => k_is)
    (case k12 => k_is)
    (case a13 => k_is)
    (case l13 => k_is)
    (case c13 => k_is)
    (case k13 => k_is)
    (case a14 => k_is)
    (case l14 => k_is)
    (case c14 => k_is)
    (case k14 => k_is)
    (case a15 => k_is)
    (case l15 => k_is)
    (case c15 => k_is)
    (case k15 => k_is)
    (case a16 => k_is)
    (case l16 => k_is)
    (case c16 => k_is)
    (case k16 => k_is)
    (case a17 => k_is)
    (case l17 => k_is)
    (case c17 => k_is)
    (case k17 => k_is)
    (case a18 => k_is)
    (case l18 => k_is)
    (case c18 => k_is)
    (case k18 => k_is)
    (case a19 => k_is)
    (case l19 => k_is)
    (case c19 => k_is)
    (case k19 => k_is)
    (case a20 => k_is)
    (case l20 => k_is)
    (case c20 => k_is)
    (case k20 => k_is)
    (case a21 => k_is)
    (case l21 => k_is)
    (case c21 => k_is)
    (case k21 => k_is)
    (case a22 => k_is)
    (case l22 => k_is)
    (case c22 => k_is)
    (case k22 => k_is)
    (case a23 => k_is)
    (case l23 => k_is)
    (case c23 => k_is)
    (case k23 => k_is)
    (case a24 => k_is)
    (case l24 => k_is)
    (case c24 => k_is)
    (case k24 => k_is)
    (case y0 => k_is)
    (case z0 => k_is)
    (case z1 => k_is)
    (case z2 => k_is)
    (case z3 => k_is)
    (case z4 => k_is)
    (case z5 => k_is)
    (case z6 => k_is)
    (case z7 => k_is)
    (case z8 => k_is)
    (case z9 => k_is)
    (case z10 => k_is)
    (case z11 => k_is)
    (case z12 => k_is)
    (case z13 => k_is)
    (case z14 => k_is)
    (case z15 => k_is)
