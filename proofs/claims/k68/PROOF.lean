import PyProof.Rows.All
import Wide.All
import OpenK.AllK
import Wide.FinOn
import PySem.Challenge.RW_fewspans_k68_plans_created
import HandS.ForMost
import HandS.Wide
import HandS.IsInst
import HandS.Conv
import HandS.TupLe
import HandS.Strs
import HandS.SetFor
import HandS.Style
import HandS.TupSets
import HandS.Keys
import HandS.Sort
import HandS.SortOrd
import HandS.SortRule
import HandS.SortKw
import HandS.SetBool
import HandS.TupAny
import HandS.Zip
import HandS.NoneIn
import HandS.Deep
import KE.GoesEnum
import KE.GoesMore
import HandS.Lambda
import HandS.CallLocal
import KE.DataCmp
import HandS.EndTab
import KE.KMinBuiltin
import HandS.TupMul
import PyProof.NeKinds
import HandS.Defaults
import HandS.MakeKwOnly
import HandS.OwnEq
import HandS.FStr
import KE.KCallOwn
import HandS.ExcIs
import HandS.ExcOwn
import HandS.CallSlots
import HandS.WordsExc
import HandS.TryMany
import HandS.Codes
import HandS.ExcInit
import KE.KExcIs
import KE.KExcInit
import KE.KExcLine
import HandS.ExcField
set_option Elab.async false
set_option linter.all false
set_option maxRecDepth 100000
set_option maxHeartbeats 4000000
namespace L9
open PySem PySem.Spec PyProof.Rows L2

/-! ### set(xs), xs a list of ints: the library has it of tuples; the walk is a list's here -/
section
variable {P : Program} {w : World} {A : Around} {E : Value → Shared → Prop} {s : Shared}
abbrev noSet (w : World) : Obj := { cls := .type "set", dict := none, data := .set #[] 0 (.fresh 0 0 (!w.params.followText "set-order")) }
theorem setL_ints {l : Addr} {its : Array Value} (ns : List Int) {Q : Value → Shared → Prop} (quiet : A.handled = none) (isL : s.heap.IsList l its) (allI : IntsAre its.toList ns) (few : ns.length + 1 < scanBound)
    (fin : ∀ (h2 : Heap) (tk n : Nat), SetR w h2 s.heap.objs.size (fun j => decide (j ∈ ns)) n → n ≤ ns.length → (∀ b o, s.heap.get? b = some o → h2.get? b = some o) → Q (.ref s.heap.objs.size) { s with heap := h2, toks := tk }) :
    wpAny (model P w) A (call (.type "set") [.ref l]) Q E s := by
  have size : its.size = ns.length := by
    rw [← Array.length_toList]
    exact allI.length
  obtain ⟨cA, tA, mA⟩ := F.called_set.mro
  have f1 := F.called_set.made
  have f2 := F.called_set.sub
  refine wpAny_call (codeAny_of_tree (?_ : wpAny _ _ (callAny (.type "set") _) _ _ _))
  refine wpAny_pure (And.intro (Code.quiet_builtin _ (by decide +kernel)) (codeAny_builtin F.entry_type_call ?_))
  rw [Around.under_plain (weight_type_call_type "set" [Value.ref l] []) rfl]
  have f3 := F.called_set.notType
  have f4 := F.called_set.canCreate
  have f5 := F.typeCall_set_1 (Value.ref l)
  repeat any_goals first | assumption | wp_step
  refine codeAny_mono (code_set_led1 (.ref l) (E := E) (Q₁ := fun v s1 => v = .ref s.heap.objs.size ∧ s1 = { s with heap := s.heap.push (noSet w) }) (And.intro rfl rfl)) fun r s1 h1 => ?_
  match r, h1 with
  | .error e, h1 => exact h1
  | .ok (.ret v), h1 =>
    obtain ⟨rfl, rfl⟩ := h1
    have at0 : (s.heap.push (noSet w)).get? s.heap.objs.size = some (noSet w) := Heap.get?_push_size _ rfl
    have ty0 : Shared.TypeIs { s with heap := s.heap.push (noSet w) } (.ref s.heap.objs.size) "set" := Exists.intro _ (And.intro at0 rfl)
    have f6 := F.called_set.init.lookup
    have f7 := F.called_set.init.bind (Value.ref s.heap.objs.size)
    repeat any_goals first | assumption | wp_step
    let Z : Value → Shared → Prop := fun v s2 => v = .none ∧ ∃ h2 tk n, s2 = { s with heap := h2, toks := tk } ∧ SetR w h2 s.heap.objs.size (fun j => decide (j ∈ ns)) n ∧ n ≤ ns.length ∧ ∀ b o, s.heap.get? b = some o → h2.get? b = some o
    refine codeAny_mono (codeAny_call_builtin (R := wants Z E) F.called_set.init.plain F.entry_set_init (check_set_init_1 ty0 ?_)) fun r2 s2 h2 => ?_
    · obtain ⟨o, eo, ec, k, ed⟩ := isL
      obtain ⟨oc, od, oD, oS⟩ := o
      simp only at ec ed
      subst ec ed
      have lt : l < s.heap.objs.size := Heap.lt_size eo
      have eo1 : (s.heap.push (noSet w)).get? l = some { cls := .type "list", dict := od, data := .seq its k, slots := oS } := Heap.get?_push_of_some _ eo
      have g1 := F.sub_list_set
      have g2 := F.sub_list_frozenset
      have g3 : (Value.type "list" == Value.type "dict") = false := by decide
      have isL1 : (s.heap.push (noSet w)).IsList l its := Exists.intro _ (And.intro eo1 (And.intro rfl (Exists.intro k rfl)))
      unfold Builtin.«set.__init__» Builtin.Frozenset.updateFrom noKeywords
      generalize keep : pyIter = itr
      wp_walk
      subst keep
      refine wpAny_pyIter_list isL1 (wpAny_bind (wpAny_runValue ?_))
      have quiet3 : A.in1.in1.in1.handled = none := by simp [quiet]
      have sz : (s.heap.push (noSet w)).objs.size = s.heap.objs.size + 1 := Heap.size_push ..
      have lI : l ≠ (s.heap.push (noSet w)).objs.size := by
        rw [sz]
        exact Nat.ne_of_lt (Nat.lt_succ_of_lt lt)
      have out : s.heap.objs.size ∉ [(s.heap.push (noSet w)).objs.size, l] := by
        rw [sz]
        intro z
        rcases List.mem_cons.mp z with z | z
        · exact absurd z (Nat.ne_of_lt (Nat.lt_succ_self _))
        · exact absurd (List.mem_singleton.mp z) (Nat.ne_of_gt lt)
      have vals : ∀ (i : Nat) (v : Value), its[i]? = some v → ∃ j t, ns[i]? = some j ∧ v = .int j t := fun i v hv => by
        have lti : i < ns.length := by
          rw [← size]
          exact (Array.getElem?_eq_some_iff.mp hv).1
        obtain ⟨t, e⟩ := allI.int_at i v (by rw [Array.getElem?_toList]; exact hv)
        have en := List.getElem?_eq_getElem lti
        refine ⟨_, t, en, e.trans ?_⟩
        rw [List.getD_eq_getElem?_getD, en]
        rfl
      refine set_update_ints (Walks.list quiet3 _ l lI its).toS s.heap.objs.size out ns size few vals (its.size - 0) 0 _ rfl (Nat.zero_le _) (And.intro (Exists.intro _ (And.intro (Heap.get?_push_size _ rfl) (And.intro rfl rfl))) (isL1.push _)) ?start ?last
      case start =>
        exact ⟨0, Nat.le_refl _, setR_new_at (Heap.get?_push_of_some _ at0)⟩
      case last =>
        intro s3 n mv le R
        obtain ⟨h3, g3', d3, tk3, o3⟩ := s3
        have m1 : g3' = s.gens := mv.gens
        have m2 : d3 = s.drawn := mv.drawn
        have m3 : o3 = s.os := mv.os
        subst m1 m2 m3
        refine wpAny_pure (?_ : wpAny _ _ (ret Value.none) _ _ _)
        rw [size] at le
        refine wpAny_pure (And.intro rfl ⟨h3, tk3, n, rfl, R, le, fun b o e => ?_⟩)
        have lb := Heap.lt_size e
        refine mv.heap b o (fun z => ?_) (Heap.get?_push_of_some _ (Heap.get?_push_of_some _ e))
        rcases List.mem_cons.mp z with z | z
        · exact absurd z (Nat.ne_of_lt lb)
        · have z1 := List.mem_singleton.mp z
          rw [sz] at z1
          exact absurd z1 (Nat.ne_of_lt (Nat.lt_succ_of_lt lb))
    · match r2, h2 with
      | .error e, h2 => exact h2
      | .ok (.ret v), h2 =>
        obtain ⟨rfl, h', tk, n, rfl, R, le, kp⟩ := h2
        repeat any_goals first | assumption | wp_step
        exact fin h' tk n R le kp
      | .ok .next, h2 => exact h2
      | .ok .brk, h2 => exact h2
      | .ok .cont, h2 => exact h2
  | .ok .next, h1 => exact h1
  | .ok .brk, h1 => exact h1
  | .ok .cont, h1 => exact h1
end
section
variable {X : Cx}
def rSetOfI (K : PySem.W.Frag) (w : World) : List V → Hp → VK → Prop := fun xs H Q => ∃ (l : Addr) (ns : List Int), xs = [V.ref l] ∧ SqL K H l (ns.map V.int) ∧ ns.length < 60 ∧
  ∀ (H' : Hp) a n, Same H H' → H a = none → H' a = some (SetO w a (fun j => decide (j ∈ ns)) n) → n ≤ ns.length → Q (.ref a) H'
theorem cr_setOfI (calm : X.calm = true) : CallR X (.type "set") (rSetOfI X.K X.w) := by
  intro pins s σ H xs us Q I r h
  obtain ⟨l, ns, rfl, hl, few, q⟩ := h
  rw [Vals.ref1 r]
  obtain ⟨its, rv, pl, _⟩ := I.list hl
  refine setL_ints (P := X.prog) (w := X.w) ns (I.ok.hd calm) pl.isList (ints_of_vals rv) (by unfold scanBound; omega) fun h2 tk n R le kp => ?_
  exact ⟨.ref s.heap.objs.size, _, I.laid (t' := tk) kp (Nat.le_refl _) (setO_new R), rfl, q _ _ n (fun b x e => by rw [upd_ne (ne_of_none e (I.hok.fresh (Nat.le_refl _)))]; exact e) (I.hok.fresh (Nat.le_refl _)) upd_same le⟩
end

/-! ### set(t), t a tuple of tuples of ints: the library has it of lists; the walk is a tuple's here -/
section
variable {P : Program} {w : World} {A : Around} {E : Value → Shared → Prop} {s : Shared}
abbrev noSetT (w : World) : Obj := { cls := .type "set", dict := none, data := .set #[] 0 (.fresh 0 0 (!w.params.followText "set-order")) }
theorem setT_tups {l : Addr} {its : Array Value} (ks : List (Addr × List Int)) {Q : Value → Shared → Prop} (quiet : A.handled = none) (isT : s.heap.IsTuple l its) (refs : its.toList = ks.map fun p => Value.ref p.1)
    (tk : ∀ p ∈ ks, IsT P w s.heap p.2 p.1) (few : ks.length < 64) (un : A.units + 3 < cLine)
    (fin : ∀ (h2 : Heap) (tk : Nat) L es ep t, SetTR P w h2 s.heap.objs.size L es ep t → Got ks ks.length L → (∀ b o, s.heap.get? b = some o → h2.get? b = some o) → Q (.ref s.heap.objs.size) { s with heap := h2, toks := tk }) :
    wpAny (model P w) A (call (.type "set") [.ref l]) Q E s := by
  have size : its.size = ks.length := by
    rw [← Array.length_toList, refs, List.length_map]
  obtain ⟨cA, tA, mA⟩ := F.called_set.mro
  have f1 := F.called_set.made
  have f2 := F.called_set.sub
  refine wpAny_call (codeAny_of_tree (?_ : wpAny _ _ (callAny (.type "set") _) _ _ _))
  refine wpAny_pure (And.intro (Code.quiet_builtin _ (by decide +kernel)) (codeAny_builtin F.entry_type_call ?_))
  rw [Around.under_plain (weight_type_call_type "set" [Value.ref l] []) rfl]
  have f3 := F.called_set.notType
  have f4 := F.called_set.canCreate
  have f5 := F.typeCall_set_1 (Value.ref l)
  repeat any_goals first | assumption | wp_step
  refine codeAny_mono (code_set_led1 (.ref l) (E := E) (Q₁ := fun v s1 => v = .ref s.heap.objs.size ∧ s1 = { s with heap := s.heap.push (noSetT w) }) (And.intro rfl rfl)) fun r s1 h1 => ?_
  match r, h1 with
  | .error e, h1 => exact h1
  | .ok (.ret v), h1 =>
    obtain ⟨rfl, rfl⟩ := h1
    have at0 : (s.heap.push (noSetT w)).get? s.heap.objs.size = some (noSetT w) := Heap.get?_push_size _ rfl
    have ty0 : Shared.TypeIs { s with heap := s.heap.push (noSetT w) } (.ref s.heap.objs.size) "set" := Exists.intro _ (And.intro at0 rfl)
    have f6 := F.called_set.init.lookup
    have f7 := F.called_set.init.bind (Value.ref s.heap.objs.size)
    repeat any_goals first | assumption | wp_step
    let Z : Value → Shared → Prop := fun v s2 => v = .none ∧ ∃ h2 tk L es ep t, s2 = { s with heap := h2, toks := tk } ∧ SetTR P w h2 s.heap.objs.size L es ep t ∧ Got ks ks.length L ∧ ∀ b o, s.heap.get? b = some o → h2.get? b = some o
    refine codeAny_mono (codeAny_call_builtin (R := wants Z E) F.called_set.init.plain F.entry_set_init (check_set_init_1 ty0 ?_)) fun r2 s2 h2 => ?_
    · obtain ⟨o, eo, ec, k, ed⟩ := isT
      obtain ⟨oc, od, oD, oS⟩ := o
      simp only at ec ed
      subst ec ed
      have lt : l < s.heap.objs.size := Heap.lt_size eo
      have eo1 : (s.heap.push (noSetT w)).get? l = some { cls := .type "tuple", dict := od, data := .seq its k, slots := oS } := Heap.get?_push_of_some _ eo
      have g1 := F.sub_tuple_set
      have g2 := F.sub_tuple_frozenset
      have g3 : (Value.type "tuple" == Value.type "dict") = false := by decide
      have isT1 : (s.heap.push (noSetT w)).IsTuple l its := Exists.intro _ (And.intro eo1 (And.intro rfl (Exists.intro k rfl)))
      unfold Builtin.«set.__init__» Builtin.Frozenset.updateFrom noKeywords
      generalize keep : pyIter = itr
      wp_walk
      subst keep
      refine wpAny_pyIter_tuple isT1 (wpAny_bind (wpAny_runValue ?_))
      have quiet3 : A.in1.in1.in1.handled = none := by simp [quiet]
      have sz : (s.heap.push (noSetT w)).objs.size = s.heap.objs.size + 1 := Heap.size_push ..
      have lI : l ≠ (s.heap.push (noSetT w)).objs.size := by
        rw [sz]
        exact Nat.ne_of_lt (Nat.lt_succ_of_lt lt)
      have out : s.heap.objs.size ∉ [(s.heap.push (noSetT w)).objs.size, l] := by
        rw [sz]
        intro z
        rcases List.mem_cons.mp z with z | z
        · exact absurd z (Nat.ne_of_lt (Nat.lt_succ_self _))
        · exact absurd (List.mem_singleton.mp z) (Nat.ne_of_gt lt)
      have vals : ∀ (i : Nat) (v : Value), its[i]? = some v → ∃ p, ks[i]? = some p ∧ v = .ref p.1 := fun i v hv => by
        have z : its.toList[i]? = some v := by
          rw [Array.getElem?_toList]
          exact hv
        rw [refs, List.getElem?_map] at z
        obtain ⟨p, e1, e2⟩ := Option.map_eq_some_iff.mp z
        exact Exists.intro p (And.intro e1 e2.symm)
      have beyond : ∀ b, s.heap.objs.size ≤ b → s.heap.get? b = none := fun b hb => by
        cases z : s.heap.get? b with
        | none => rfl
        | some o => exact (Nat.lt_irrefl _ (Nat.lt_of_lt_of_le (Heap.lt_size z) hb)).elim
      refine set_update_tups (Walks.tuple quiet3 _ l lI its).toS s.heap.objs.size out ks size few vals s.heap tk (beyond _ (Nat.le_refl _)) (fun b hb => beyond b ?_) un (its.size - 0) 0 _ rfl (Nat.zero_le _) (And.intro (Exists.intro _ (And.intro (Heap.get?_push_size _ rfl) (And.intro rfl rfl))) (isT1.push _)) (fun b o e => Heap.get?_push_of_some _ (Heap.get?_push_of_some _ e)) ?start ?last
      · rw [List.mem_singleton.mp hb, sz]
        exact Nat.le_succ _
      case start =>
        exact ⟨[], #[], 0, _, setTR_fresh (Heap.get?_push_of_some _ at0), Got.zero ks⟩
      case last =>
        intro s3 L es ep t mv R got kp
        obtain ⟨h3, g3', d3, tk3, o3⟩ := s3
        have m1 : g3' = s.gens := mv.gens
        have m2 : d3 = s.drawn := mv.drawn
        have m3 : o3 = s.os := mv.os
        subst m1 m2 m3
        refine wpAny_pure (?_ : wpAny _ _ (ret Value.none) _ _ _)
        rw [size] at got
        exact wpAny_pure (And.intro rfl ⟨h3, tk3, L, es, ep, t, rfl, R, got, kp⟩)
    · match r2, h2 with
      | .error e, h2 => exact h2
      | .ok (.ret v), h2 =>
        obtain ⟨rfl, h', tk, L, es, ep, t, rfl, R, got, kp⟩ := h2
        repeat any_goals first | assumption | wp_step
        exact fin h' tk L es ep t R got kp
      | .ok .next, h2 => exact h2
      | .ok .brk, h2 => exact h2
      | .ok .cont, h2 => exact h2
  | .ok .next, h1 => exact h1
  | .ok .brk, h1 => exact h1
  | .ok .cont, h1 => exact h1
end
section
variable {X : Cx}
def rSetOfTT (K : PySem.W.Frag) (P : Program) (w : World) : List V → Hp → VK → Prop := fun xs H Q => ∃ (l : Addr) (ks : List (Addr × List Int)), xs = [V.ref l] ∧ SqT K H l (ks.map fun p => V.ref p.1) ∧ (∀ p ∈ ks, SqT K H p.1 (p.2.map V.int)) ∧ ks.length < 64 ∧
  ∀ a L, H a = none → (∀ p ∈ L, p ∈ ks) → (∀ p ∈ ks, p.2 ∈ L.map (·.2)) → Q (.ref a) (upd H a (SetTO P w a L))
theorem cr_setOfTT (calm : X.calm = true) (units : X.A.units + 64 < cLine) : CallR X (.type "set") (rSetOfTT X.K X.prog X.w) := by
  intro pins s σ H xs us Q I r h
  obtain ⟨l, ks, rfl, hl, hk, few, q⟩ := h
  rw [Vals.ref1 r]
  obtain ⟨its, rv, pl, _⟩ := I.tuple hl
  have nn : H s.heap.objs.size = none := I.hok.fresh (Nat.le_refl _)
  refine setT_tups (P := X.prog) (w := X.w) (its := its.toArray) ks (I.ok.hd calm) pl (by simpa using refs_of_vals rv) (fun p hp => I.isT (hk p hp)) few (by omega) fun h2 tk L es ep t R got kp => ?_
  exact ⟨.ref s.heap.objs.size, _, I.laid (t' := tk) kp (Nat.le_refl _) (setTO_new R.t0), rfl, q _ L nn (fun p hp => List.mem_of_mem_take (got.sub p hp)) (fun p hp => got.all p (by rw [List.take_length]; exact hp))⟩
end

/-! ### defs that are run where no text-making of the machine is under way (repr, str of nested data ask for it) -/
abbrev Quiet (A : Around) : Prop := A.guards = some []
structure FnG (P : Program) (w : World) (K : PySem.W.Frag) (mg : Str → Option Value) (base : Heap) (k : Nat) (f : Addr) (fd : FuncData) (ps : List Str) (sp : Sp) : Prop where
  size : ∀ {vs H Q}, sp vs H Q E0 → vs.length = ps.length
  go : ∀ {A outer s H us vs Q}, Room k A → Quiet A → Env0 P w K mg base A outer s H → BindsTo s fd ⟨us, []⟩ (ps.zip us) → Vals vs us → sp vs H Q E0 →
    codeAny (model P w) A (.call (.ref f) ⟨us, []⟩) (CR CX0 outer P w H s Q E0) s
section
variable {P : Program} {w : World} {K : PySem.W.Frag} {mg : Str → Option Value} {base : Heap}
theorem FnG.of {x qual : Str} {st : Stmt} {f : Addr} {fd : FuncData} {N ps : List Str} {k : Nat} {sp : Sp} (F : Fun K x qual st f fd) (S : FnScope N ps (defScope st))
    (size : ∀ {vs H Q}, sp vs H Q E0 → vs.length = ps.length)
    (body : ∀ cdv A outer s H vs Q, Room k (A.deeper (envOfC qual (defScope st) s.heap.objs.size f cdv)) → Quiet (A.deeper (envOfC qual (defScope st) s.heap.objs.size f cdv)) → sp vs H Q E0 →
      ∃ t, PSs (cxOf CX0 P w K mg base N qual (defScope st) f cdv A outer s H E0).nox (defBody st) t ∧ t { nx := fun _ H' => Q .non H', rt := Q } (start N vs) H) :
    FnG P w K mg base (k + 1) f fd ps sp := by
  obtain ⟨oc, od, kV, doc, pm, an, cdv, ct, osl, rfl, look, code⟩ := F.ex
  constructor
  · exact size
  intro A outer s H us vs Q room quiet e0 bind rel want
  have inH : K.In s.heap := e0.mod.kin.keeps fun b o q => (e0.bs b o q).1
  have lim := e0.mod.nolimit.keeps (fun b o q => (e0.bs b o q).1)
  have kinds : ∀ y ∈ ps.zip us, (defScope st).names.lookup y.1 = some .local ∨ ((defScope st).names.lookup y.1 = some .cell ∧ ((cellsFrom (s.heap.objs.size + 1) (defScope st).names []).lookup y.1).isSome = true) := by
    rintro ⟨n, v⟩ hy
    have hn := (List.of_mem_zip hy).1
    cases S.par n hn with
    | inl q => exact Or.inl q
    | inr q => exact Or.inr ⟨q, PySem.W.cellsFrom_some _ _ _ (Or.inl q)⟩
  apply codeAny_call_function room.depth (inH _ _ look) rfl S.co S.gen rfl (PySem.W.codeRec_of inH code)
  apply bind
  apply wpAny_newFunctionEnv_cells S.kind kinds
  intro env he s1 x
  subst he
  refine And.intro (lim.keeps x.toInCall.keep) (codeAny_func ?_)
  obtain ⟨t, ht, hq⟩ := body cdv A outer s H vs Q (room.deeper _) quiet want
  have I := inv_start (CX := CX0) (E := E0) S room.hd e0 (size want) rel x
  apply wpAny_mono (ht.nox.run [] s1 (start N vs) H _ I hq)
  · intro fl s' hs
    cases fl with
    | ret u =>
      obtain ⟨v, σ', H', J, rv, q⟩ := hs
      exact Exists.intro v ⟨H', J.os, J.bare, J.base, J.hok, rv, q⟩
    | next =>
      obtain ⟨σ', H', J, q⟩ := hs
      exact Exists.intro V.non ⟨H', J.os, J.bare, J.base, J.hok, rfl, q⟩
    | brk => exact hs.elim fun _ h => h.elim fun _ h => h.2.elim
    | cont => exact hs.elim fun _ h => h.elim fun _ h => h.2.elim
  · intro e s' hs
    exact hs
end
section
variable {X : Cx} {k : Nat} {f : Addr} {fd : FuncData} {ps : List Str} {sp : Sp} {x : Str} {p pos : Pos} {e : Expr} {es : List Expr} {t : TA}
theorem pe_callG (F : FnG X.prog X.w X.K X.mg X.base k f fd ps sp) (room : Room k X.A) (quiet : Quiet X.A) (hg : Gl X x) (hm : X.mg x = some (.ref f)) (keep : PySem.W.keepIn X.K (.ref f) = true) (bind : Binds X.K fd ps [])
    (args : PA X (e :: es) t) (hdb : (x == ("__debug__" : Str)) = false := by decide) (star : starEach (e :: es) X.env = (false, eval e X.env) :: starEach es X.env := by rfl) (plain : (backTo pos (starEach es X.env)).any (·.1) = false := by rfl) :
    PE X (.Call (.Name x p) (e :: es) [] pos) (tCall sp [] E0 t) := by
  constructor
  intro pins s σ H Q I h
  apply wpAny_Call_Name_kw
  apply ld_glob I hg hm _ hdb
  apply PySem.W.callWith_K (h₀ := X.base) I.ok.mod.kin keep _ star plain
  apply thn (args.run pos pins s σ H _ I h)
  rintro us s1 ⟨vs, H1, I1, rel, q⟩
  refine And.intro I1.kIn ?_
  have q' : sp vs H1 Q E0 := by
    have z := q
    rw [List.append_nil] at z
    exact z
  have same : us.length = ps.length := rel.length.symm.trans (F.size q')
  have b := bind s1 us I1.kIn (by rw [List.append_nil]; exact same)
  rw [List.append_nil] at b
  apply wpAny_call
  apply codeAny_mono (F.go room quiet I1.env0 b rel q')
  intro r s' hr
  match r, hr with
  | .error _, hr => exact hr.elim
  | .ok (.ret u), hr => exact I1.after hr
  | .ok .next, hr => exact False.elim hr
  | .ok .brk, hr => exact False.elim hr
  | .ok .cont, hr => exact False.elim hr
end
/-! ### repr of data at any depth -/
structure Sm (n dp : Nat) (d : PyData) : Prop where
  shows : d.showable = true
  short : d.leavesShort 40 = true
  small : d.weight ≤ n
  flat : d.depth ≤ dp
theorem Sm.mono {n m dp dq : Nat} {d : PyData} (h : Sm n dp d) (h1 : n ≤ m) (h2 : dp ≤ dq) : Sm m dq d := ⟨h.shows, h.short, Nat.le_trans h.small h1, Nat.le_trans h.flat h2⟩
theorem Sm.none : Sm 0 0 .none := ⟨rfl, rfl, Nat.le_refl _, Nat.le_refl _⟩
theorem Sm.bool (b : Bool) : Sm 0 0 (.bool b) := ⟨rfl, rfl, Nat.le_refl _, Nat.le_refl _⟩
theorem log2_small {i : Int} (h : i.natAbs < 10 ^ 30) : i.natAbs.log2 < 100 := PySem.Flt.log2_lt_of (by decide) (Nat.lt_trans h (by decide))
theorem Sm.int {i : Int} (h : i.natAbs < 10 ^ 30) : Sm 100 0 (.int i) := by
  have l := log2_small h
  refine ⟨decide_eq_true (Nat.lt_trans l (by decide)), decide_eq_true ?_, ?_, Nat.le_refl _⟩
  · have q := int_text_length_le10 (a := i) (k := 30) (by decide) h
    show (Str.ofString (toString i)).length ≤ 40
    rw [PySem.ofString_length]
    exact Nat.le_trans q (by decide)
  · show (if i == 0 then 0 else i.natAbs.log2 + 1) ≤ 100
    split <;> omega
theorem smAll {n dp : Nat} : ∀ {ds : List PyData}, (∀ d ∈ ds, Sm n dp d) → PyData.showableAll ds = true ∧ PyData.leavesShortAll 40 ds = true ∧ PyData.weightAll ds ≤ ds.length * (n + 1) ∧ PyData.depthAll ds ≤ dp
  | [], _ => ⟨rfl, rfl, Nat.zero_le _, Nat.zero_le _⟩
  | d :: ds, h => by
    obtain ⟨a, b, c, e⟩ := smAll (ds := ds) fun x hx => h x (List.mem_cons_of_mem _ hx)
    have z := h d List.mem_cons_self
    refine ⟨?_, ?_, ?_, ?_⟩
    · show (d.showable && PyData.showableAll ds) = true
      rw [z.shows, a]
      rfl
    · show (d.leavesShort 40 && PyData.leavesShortAll 40 ds) = true
      rw [z.short, b]
      rfl
    · show d.weight + 1 + PyData.weightAll ds ≤ (ds.length + 1) * (n + 1)
      have := z.small
      rw [Nat.add_mul]
      omega
    · show max d.depth (PyData.depthAll ds) ≤ dp
      exact Nat.max_le.mpr ⟨z.flat, e⟩
theorem Sm.tup {n dp : Nat} {ds : List PyData} (h : ∀ d ∈ ds, Sm n dp d) : Sm (ds.length * (n + 1)) (dp + 1) (.tuple ds) :=
  let ⟨a, b, c, e⟩ := smAll h
  ⟨a, b, c, Nat.succ_le_succ e⟩
theorem Sm.lst {n dp : Nat} {ds : List PyData} (h : ∀ d ∈ ds, Sm n dp d) : Sm (ds.length * (n + 1)) (dp + 1) (.list ds) :=
  let ⟨a, b, c, e⟩ := smAll h
  ⟨a, b, c, Nat.succ_le_succ e⟩
theorem Sm.fits {n dp : Nat} {d : PyData} (h : Sm n dp d) (hn : n ≤ 300000) : d.shown.length ≤ sizeLine := by
  have q := PyData.shown_le 40 (by decide) d h.short
  have := h.small
  have e : sizeLine = 16777216 := by decide
  rw [e]
  omega
/-- data with dicts in it; its lists stand in the heap by themselves -/
def keyD : Key → PyData
  | .inl i => .int i
  | .inr x => .str x
mutual
inductive Dv (K : PySem.W.Frag) (H : Hp) : V → PyData → Prop
  | non : Dv K H .non .none
  | bl (b : Bool) : Dv K H (.bl b) (.bool b)
  | int (i : Int) : Dv K H (.int i) (.int i)
  | str (x : Str) : Dv K H (.str x) (.str x)
  | lst {a : Addr} {xs : List V} {ds : List PyData} : H a = some (.lst xs) → DvAll K H xs ds → Dv K H (.ref a) (.list ds)
  | tup {a : Addr} {xs : List V} {ds : List PyData} : H a = some (.tup xs) → DvAll K H xs ds → Dv K H (.ref a) (.tuple ds)
  | dic {a : Addr} {kvs : List (Key × V)} {ds : List PyData} : H a = some (.dK kvs) → DvAll K H (kvs.map (·.2)) ds → Dv K H (.ref a) (.dict ((kvs.map fun p => keyD p.1).zip ds))
inductive DvAll (K : PySem.W.Frag) (H : Hp) : List V → List PyData → Prop
  | nil : DvAll K H [] []
  | cons {v : V} {vs : List V} {d : PyData} {ds : List PyData} : Dv K H v d → DvAll K H vs ds → DvAll K H (v :: vs) (d :: ds)
end
theorem DvAll.length {K : PySem.W.Frag} {H : Hp} : ∀ {vs : List V} {ds : List PyData}, DvAll K H vs ds → vs.length = ds.length
  | _, _, .nil => rfl
  | _, _, .cons _ h => by rw [List.length_cons, List.length_cons, h.length]
theorem keys_read {P : Program} {w : World} {h : Heap} : ∀ {es : List DictEntry} {vs : List (Key × Value)}, Pairs (mixKind P w) es vs → ReadsAll h (es.map (·.key)) (vs.map fun p => keyD p.1) []
  | _, _, .nil => .nil
  | _, _, .cons (e := e) (kv := kv) hk _ r => by
    have one : Reads h e.key (keyD kv.1) [] := by
      rcases keyIs_shape hk with ⟨i, t, e1, e2⟩ | ⟨x, t, e1, e2⟩
      · rw [e1, e2]
        exact .int i t
      · rw [e1, e2]
        exact .str x t
    exact ReadsAll.cons one (keys_read r)
theorem vals_read {P : Program} {w : World} : ∀ {es : List DictEntry} {vs : List (Key × Value)}, Pairs (mixKind P w) es vs → es.map (·.val) = vs.map (·.2)
  | _, _, .nil => rfl
  | _, _, .cons _ hv r => by rw [List.map_cons, List.map_cons, hv, vals_read r]
theorem kv_vals : ∀ {kvs : List (Key × V)} {vs : List (Key × Value)}, KV kvs vs → Vals (kvs.map (·.2)) (vs.map (·.2)) ∧ (vs.map fun p => keyD p.1) = kvs.map fun p => keyD p.1
  | _, _, .nil => ⟨.nil, rfl⟩
  | _, _, .cons h r => by
    obtain ⟨a, b⟩ := kv_vals r
    refine ⟨.cons h.2 a, ?_⟩
    rw [List.map_cons, List.map_cons, b, h.1]
section
variable {X : Cx} {pins : List (Addr × Obj)} {σ : L2.St} {H : Hp} {s : Shared}
theorem Dv.reads (I : Inv X pins σ H s) (mods : ∃ mm, X.base.Ns sysModules mm) {v : V} {d : PyData} (h : Dv X.K H v d) : ∀ u : Value, RelV v u → ∃ as, Reads s.heap u d as ∧ sysModules ∉ as := by
  have free : H sysModules = none := by
    obtain ⟨mm, o, es, ep, e, _⟩ := mods
    exact (I.bs _ o e).2
  refine Dv.rec (K := X.K) (H := H) (motive_1 := fun v d _ => ∀ u : Value, RelV v u → ∃ as, Reads s.heap u d as ∧ sysModules ∉ as) (motive_2 := fun vs ds _ => ∀ us : List Value, Vals vs us → ∃ as, ReadsAll s.heap us ds as ∧ sysModules ∉ as) ?_ ?_ ?_ ?_ ?_ ?_ ?_ ?_ ?_ h
  · intro u r
    cases r
    exact ⟨_, .none, fun z => nomatch z⟩
  · intro b u r
    cases r
    exact ⟨_, .bool b, fun z => nomatch z⟩
  · intro i u r
    obtain ⟨t, rfl⟩ := r
    exact ⟨_, .int i t, fun z => nomatch z⟩
  · intro x u r
    obtain ⟨t, rfl⟩ := r
    exact ⟨_, .str x t, fun z => nomatch z⟩
  · intro a xs ds e _ ih u r
    cases r
    obtain ⟨_, its, n, rv, q⟩ := I.hok a _ e
    obtain ⟨as, ra, na⟩ := ih _ rv
    refine ⟨a :: as, .list q rfl rfl (by simpa using ra), fun z => ?_⟩
    rcases List.mem_cons.mp z with z | z
    · rw [← z, free] at e
      cases e
    · exact na z
  · intro a xs ds e _ ih u r
    cases r
    obtain ⟨_, its, rv, o, ho, hc, n, hd⟩ := I.hok a _ e
    obtain ⟨as, ra, na⟩ := ih _ rv
    exact ⟨as, .tuple ho hc hd (by simpa using ra), na⟩
  · intro a kvs ds e hall ih u r
    cases r
    obtain ⟨_, hne, vs, kv, o, es, ep, ho, ex, hd, _, prs, _⟩ := I.hok a _ e
    obtain ⟨rv, ek⟩ := kv_vals kv
    obtain ⟨as, ra, na⟩ := ih _ rv
    have len : (kvs.map fun p => keyD p.1).length = ds.length := by
      have z := hall.length
      rw [List.length_map] at z
      rw [List.length_map, z]
    refine ⟨_, .dict ho ex.1 hd (as := []) (bs := as) ?_ ?_, fun z => ?_⟩
    · rw [List.map_fst_zip (by omega), ← ek]
      exact keys_read prs
    · rw [List.map_snd_zip (by omega), vals_read prs]
      exact ra
    · rcases List.mem_cons.mp z with z | z
      · rw [← z] at hne
        exact absurd hne (by decide)
      · exact na z
  · intro us r
    cases r
    exact ⟨_, .nil, fun z => nomatch z⟩
  · intro v vs d ds _ _ ih1 ih2 us r
    cases r with
    | cons r1 r2 =>
      obtain ⟨as, ra, na⟩ := ih1 _ r1
      obtain ⟨bs, rb, nb⟩ := ih2 _ r2
      refine ⟨_, .cons ra rb, fun z => ?_⟩
      rcases List.mem_append.mp z with z | z
      · exact na z
      · exact nb z
theorem call_reprV (mods : ∃ mm, X.base.Ns sysModules mm) (quiet : Quiet X.A) (units : X.A.units + 64 < cLine) : CallR X (.builtin "repr")
    (fun xs H Q => ∃ v d n dp, xs = [v] ∧ Dv X.K H v d ∧ Sm n dp d ∧ n ≤ 300000 ∧ dp ≤ 60 ∧ Q (.str d.shown) H) := by
  intro pins s σ H xs us Q I r h
  obtain ⟨v, d, n, dp, rfl, hd, sm, hn, hdp, q⟩ := h
  obtain ⟨u, rfl, ru⟩ := vals1 r
  have fits := sm.fits hn
  have flat := sm.flat
  obtain ⟨as, rd, off⟩ := Dv.reads I mods hd _ ru
  cases hd with
  | non =>
    cases ru
    exact PySem.P.repr_of_none ⟨.str _, H, I.tok _, ⟨_, rfl⟩, q⟩
  | bl b =>
    cases ru
    exact PySem.P.repr_of_bool ⟨.str _, H, I.tok _, ⟨_, rfl⟩, q⟩
  | int i =>
    obtain ⟨t, rfl⟩ := ru
    exact PySem.P.repr_of_int (of_decide_eq_true sm.shows) ⟨.str _, H, I.tok _, ⟨_, rfl⟩, q⟩
  | str x =>
    obtain ⟨t, rfl⟩ := ru
    exact PySem.P.repr_of_str ⟨.str _, H, I.tok _, ⟨_, rfl⟩, q⟩ fits
  | _ =>
    cases ru
    exact repr_of_reads' rd sm.shows (fun _ => off) quiet (by omega) (fun _ _ e => e) (fun h' t tk more => ⟨.str _, H, I.kept more, ⟨_, rfl⟩, q⟩) fits
end
theorem Dp.noDict {K : PySem.W.Frag} {H : Hp} {v : V} {d : PyData} (h : Dp K H v d) : d.hasDict = false := by
  refine Dp.rec (K := K) (H := H) (motive_1 := fun v d _ => d.hasDict = false) (motive_2 := fun vs ds _ => PyData.hasDictAll ds = false) ?_ ?_ ?_ ?_ ?_ ?_ ?_ ?_ h
  all_goals intros
  all_goals simp_all [PyData.hasDict, PyData.hasDictAll]
section
variable {X : Cx}
theorem call_reprD (quiet : Quiet X.A) (units : X.A.units + 64 < cLine) : CallR X (.builtin "repr")
    (fun xs H Q => ∃ v d n dp, xs = [v] ∧ Dp X.K H v d ∧ Sm n dp d ∧ n ≤ 300000 ∧ dp ≤ 60 ∧ Q (.str d.shown) H) := by
  intro pins s σ H xs us Q I r h
  obtain ⟨v, d, n, dp, rfl, hd, sm, hn, hdp, q⟩ := h
  obtain ⟨u, rfl, ru⟩ := vals1 r
  have fits := sm.fits hn
  have flat := sm.flat
  obtain ⟨as, rd⟩ := Dp.reads I d v u hd ru
  cases hd with
  | non =>
    cases ru
    exact PySem.P.repr_of_none ⟨.str _, H, I.tok _, ⟨_, rfl⟩, q⟩
  | bl b =>
    cases ru
    exact PySem.P.repr_of_bool ⟨.str _, H, I.tok _, ⟨_, rfl⟩, q⟩
  | int i =>
    obtain ⟨t, rfl⟩ := ru
    exact PySem.P.repr_of_int (of_decide_eq_true sm.shows) ⟨.str _, H, I.tok _, ⟨_, rfl⟩, q⟩
  | str x =>
    obtain ⟨t, rfl⟩ := ru
    exact PySem.P.repr_of_str ⟨.str _, H, I.tok _, ⟨_, rfl⟩, q⟩ fits
  | lst h1 h2 =>
    cases ru
    exact repr_of_reads' rd sm.shows (PyData.noDict_hsm (Dp.noDict (Dp.lst h1 h2))) quiet (by omega) (fun _ _ e => e) (fun h' t tk more => ⟨.str _, H, I.kept more, ⟨_, rfl⟩, q⟩) fits
  | tup h1 h2 =>
    cases ru
    exact repr_of_reads' rd sm.shows (PyData.noDict_hsm (Dp.noDict (Dp.tup h1 h2))) quiet (by omega) (fun _ _ e => e) (fun h' t tk more => ⟨.str _, H, I.kept more, ⟨_, rfl⟩, q⟩) fits
end
/-! ### the end of a law row whose def is of the quiet kind -/
theorem quiet_law {P : Program} {w : World} {K : PySem.W.Frag} {mg mb : Str → Option Value} {k : Nat} {fa a : Addr} {fd : FuncData} {x : Str} {sp : Sp} {s₁ : Shared} {vs : List Value} {ns : List Int}
    (inK : K.In s₁.heap) (glob : s₁.heap.Ns mainGlobals mg) (blt : s₁.heap.Ns builtinsNs mb) (bltIs : ∀ y : Str, y ≠ "__name__" → mb y = bootBuiltins y) (lim : s₁.heap.NoLimit) (gens : s₁.gens = #[]) (mods : ∃ mm, s₁.heap.Ns sysModules mm)
    (here : s₁.heap.get? a = some { cls := .type "list", data := .seq vs.toArray }) (whole : IntsAre vs ns) (few : ns.length ≤ sizeLine) (room : Room k callerA)
    (F : ∀ base : Heap, K.In base → base.Ns mainGlobals mg → (∃ mm, base.Ns sysModules mm) → FnG P w K mg base k fa fd [x] sp) (bind : ∀ (s : Shared) (u : Value), BindsTo s fd ⟨[u], []⟩ [(x, u)])
    (want : ∀ H : Hp, Only H → SqL K H a (ns.map V.int) → sp [.ref a] H (fun v _ => v = .bl true) E0) :
    codeAny (model P w) callerA (.call (.ref fa) ⟨[.ref a], []⟩) (fun r s' => r = .ok (.ret (.bool true)) ∧ OldK s₁.heap s'.heap ∧ s'.os = s₁.os ∧ AllBare s'.gens) s₁ := by
  have rel := vals_ints whole
  -- H: the script alone, or nothing
  have main : ∀ H : Hp, Only H → SqL K H a (ns.map V.int) → HOk P w H s₁.heap → (∀ b u, H b = some u → b = a ∧ K.lookup b = none) →
      codeAny (model P w) callerA (.call (.ref fa) ⟨[.ref a], []⟩) (fun r s' => r = .ok (.ret (.bool true)) ∧ OldK s₁.heap s'.heap ∧ s'.os = s₁.os ∧ AllBare s'.gens) s₁ := by
    intro H only sq ok apart
    have untold : ∀ {b o}, s₁.heap.get? b = some o → (b = a → False) → H b = none := by
      intro b o e ne
      cases q : H b with
      | none => rfl
      | some u => exact (ne (apart b u q).1).elim
    have ns1 : ∀ {b m}, s₁.heap.Ns b m → (hidT s₁.heap H).Ns b m := by
      rintro b m ⟨o, es, ep, e, d, r⟩
      refine ⟨o, es, ep, hidT_get e (untold e fun z => ?_), d, r⟩
      subst z
      rw [here] at e
      cases e
      cases d
    have kIn : K.In (hidT s₁.heap H) := by
      intro b o e
      apply hidT_get (inK b o e)
      cases q : H b with
      | none => rfl
      | some u =>
        have z := (apart b u q).2
        rw [e] at z
        cases z
    have lim1 : (hidT s₁.heap H).NoLimit := by
      obtain ⟨mc, h1, h2⟩ := lim
      exact ⟨mc, ns1 h1, h2⟩
    have e0 : Env0 P w K mg (hidT s₁.heap H) callerA [] s₁ H := {
      frames := rfl, mod := ⟨kIn, ns1 glob, ⟨mb, ns1 blt, bltIs⟩, lim1⟩, bs := fun _ _ e => of_hidT e, bsz := Nat.le_of_eq (hidT_size _ _), funs := True.intro, frf := (fun _ hb => nomatch hb), hok := ok, bare := .of_eq gens }
    apply codeAny_mono ((F _ kIn (ns1 glob) (mods.elim fun mm h => ⟨mm, ns1 h⟩)).go (us := [.ref a]) (vs := [.ref a]) room rfl e0 (bind s₁ _) (.cons rfl .nil) (want H only sq))
    intro r s' hr
    match r, hr with
    | .error _, hr => exact hr.elim
    | .ok .next, hr => exact False.elim hr
    | .ok .brk, hr => exact False.elim hr
    | .ok .cont, hr => exact False.elim hr
    | .ok (.ret u), hr =>
      obtain ⟨v, H', os, bare, un, ok', rv, q⟩ := hr
      cases (show v = V.bl true from q)
      cases (show u = Value.bool true from rv)
      refine ⟨rfl, OldK.of_keep ?_, os, bare⟩
      intro b o e
      cases only b with
      | inl n => exact un.keep b o e n (fun z => nomatch z) (fun z => nomatch z)
      | inr n =>
        obtain ⟨ob, xs, z⟩ := n
        have e1 := (ok b _ z).1
        have e2 := (ok' b _ (un.frzs b ob _ z)).1
        rw [e] at e1
        cases e1
        exact e2
  have small : (ns.map V.int).length ≤ sizeLine := by rw [List.length_map]; exact few
  cases known : K.lookup a with
  | some o =>
    have e := inK a o known
    rw [here] at e
    cases e
    have sz : vs.length ≤ sizeLine := by rw [← rel.length]; exact small
    exact main (fun _ => none) (fun _ => .inl rfl) (.inr ⟨_, vs.toArray, _, known, rfl, rfl, rfl, by simpa using sz, by simpa using rel⟩) (fun _ _ z => nomatch z) (fun _ _ z => nomatch z)
  | none =>
    have at1 : ∀ {b u}, (if b = a then some (HO.frz { cls := .type "list", data := .seq vs.toArray } (.lst (ns.map V.int))) else none) = some u → b = a := by
      intro b u z
      by_cases hb : b = a
      · exact hb
      · rw [if_neg hb] at z
        cases z
    refine main (fun b => if b = a then some (.frz { cls := .type "list", data := .seq vs.toArray } (.lst (ns.map V.int))) else none) (fun b => ?_) (.inl (.inr ⟨{ cls := .type "list", data := .seq vs.toArray }, if_pos rfl⟩)) (fun b u z => ?_) (fun b u z => ?_)
    · by_cases hb : b = a
      · exact .inr ⟨_, _, if_pos hb⟩
      · exact .inl (if_neg hb)
    · have hb := at1 z
      subst hb
      have z2 := (if_pos rfl).symm.trans z
      cases z2
      exact ⟨here, small, vs, _, rel, here⟩
    · have hb := at1 z
      subst hb
      exact ⟨rfl, known⟩
theorem quiet_walk {l : PySem.W.OpenLaw} {n k : Nat} {q : Program} {loose : List Str} {XP : (Str → Option Value) → Heap → Prop} {YP : World → Heap → Prop} {d : DefRec} {K : Params → PySem.W.Frag} {sp : World → Sp} {x : Str}
    (noImport : importsNone q = true) (most : l.most = some n) (n2 : n ≤ sizeLine) (defaults : d.params.defaults = []) (room : Room k callerA) (hY : ∀ (w : World) (h : Heap), YP w h → (K w.params).In h)
    (F : ∀ (w : World) (mg : Str → Option Value) (fa : Addr) (h : Heap), (K w.params).In h → h.Ns mainGlobals mg → mg d.name = some (.ref fa) →
      ∃ fd : FuncData, (∀ (s : Shared) (u : Value), BindsTo s fd ⟨[u], []⟩ [(x, u)]) ∧ ∀ base : Heap, (K w.params).In base → base.Ns mainGlobals mg → (∃ mm, base.Ns sysModules mm) → FnG l.prog w (K w.params) mg base k fa fd [x] (sp w))
    (want : ∀ (w : World) (H : Hp) (a : Addr) (ns : List Int), ns.length ≤ n → Only H → SqL (K w.params) H a (ns.map V.int) → sp w [.ref a] H (fun v _ => v = .bl true) E0) :
    PySem.W.WalkO q loose XP YP l.row.toRowW d [] (fun f vs => PySem.call f vs) := by
  apply Att.attach_call most defaults
  intro w s₀ s₁ mg mb fa o pm cd doc a vs ns G Y ho hd hcd hmg hobj hints hlen hg
  obtain ⟨fd, hb, hF⟩ := F w mg fa _ (hY w _ Y) G.T.g hmg
  exact quiet_law (hY w _ Y) G.T.g G.T.b G.T.builtins G.T.nolimit hg ((G.T.seer noImport).mods.elim fun mm h => ⟨mm, h.1⟩) hobj hints (Nat.le_trans hlen n2) room hF hb fun H o1 s1 => want w H a ns hlen o1 s1

/-! ### a op1 b op2 c op3 .. : chains of any length -/
section
variable {X : Cx}
structure PCh (X : Cx) (ops : List CmpOp) (es : List Expr) (t : V → TE) : Prop where
  run : ∀ (pos : Pos) (pins : List (Addr × Obj)) (s : Shared) (σ : L2.St) (H : Hp) (Q : VK) (x : V) (v : Value), Inv X pins σ H s → RelV x v → t x σ H Q → wpAny (model X.prog X.w) X.A (compareChain pos v ops (evalEach es X.env)) (EP X pins σ Q) X.xe s
structure PChT (X : Cx) (ops : List CmpOp) (es : List Expr) (t : V → TE) : Prop where
  run : ∀ (pos : Pos) (pins : List (Addr × Obj)) (s : Shared) (σ : L2.St) (H : Hp) (Q : Bool → Hp → Prop) (x : V) (v : Value), Inv X pins σ H s → RelV x v → (t x σ H fun y H' => ∃ k, y = .bl k ∧ Q k H') → wpAny (model X.prog X.w) X.A (testChain pos v ops (evalEach es X.env)) (TP X pins σ Q) X.xe s
def tLast (r : R2) (tb : TE) : V → TE := fun x σ H Q => tb σ H fun y H2 => r x y H2 Q
def tLink (r : R2) (tb : TE) (rest : V → TE) : V → TE := fun x σ H Q => tb σ H fun y H2 => r x y H2 fun z H3 => ∃ k, z = .bl k ∧ (if k = true then rest y σ H3 Q else Q (.bl false) H3)
def tCh (ta : TE) (rest : V → TE) : TE := fun σ H Q => ta σ H fun x H1 => rest x σ H1 Q
theorem pch_last {op : CmpOp} {r : R2} {b : Expr} {tb : TE} (ho : OpR X (compareOp op) r) (hb : PE X b tb) : PCh X [op] [b] (tLast r tb) :=
  ⟨fun pos pins s σ H Q x v I rx h => chain_last (thn (hb.run pins s σ H _ I h) fun u s2 ⟨y, H2, I2, r2, q2⟩ => ho pins s2 σ H2 x y v u Q I2 rx r2 q2)⟩
theorem pch_link {op op' : CmpOp} {ops : List CmpOp} {r : R2} {b b' : Expr} {bs : List Expr} {tb : TE} {rest : V → TE} (ho : OpR X (compareOp op) r) (hb : PE X b tb) (hr : PCh X (op' :: ops) (b' :: bs) rest) : PCh X (op :: op' :: ops) (b :: b' :: bs) (tLink r tb rest) := by
  refine ⟨fun pos pins s σ H Q x v I rx h => ?_⟩
  refine chain_link (thn (hb.run pins s σ H _ I h) fun u s2 ⟨y, H2, I2, r2, q2⟩ => thn (ho pins s2 σ H2 x y v u _ I2 rx r2 q2) fun d s3 ⟨z, H3, I3, r3, k, e, q3⟩ => ?_)
  subst e
  cases r3
  refine wpAny_truthy_bool ?_
  cases k with
  | false => exact ite_ff ⟨.bl false, H3, I3, rfl, q3⟩
  | true => exact ite_tt (hr.run pos pins s3 σ H3 Q y u I3 r2 q3)
theorem pe_chN {op op' : CmpOp} {ops : List CmpOp} {a b b' : Expr} {bs : List Expr} {pos : Pos} {ta : TE} {rest : V → TE} (ha : PE X a ta) (hr : PCh X (op :: op' :: ops) (b :: b' :: bs) rest)
    (hm : lastMarks (op :: op' :: ops) (b :: b' :: bs) = false := by with_unfolding_all rfl) : PE X (.Compare a (op :: op' :: ops) (b :: b' :: bs) pos) (tCh ta rest) :=
  ⟨fun pins s σ H Q I h => Compare_chain (thn (ha.run pins s σ H _ I h) fun v s1 ⟨x, H1, I1, r1, q1⟩ => hr.run pos pins s1 σ H1 Q x v I1 r1 q1) hm⟩
theorem pchT_last {op : CmpOp} {r : R2} {b : Expr} {tb : TE} (ho : OpR X (compareOp op) r) (hb : PE X b tb) : PChT X [op] [b] (tLast r tb) := by
  refine ⟨fun pos pins s σ H Q x v I rx h => ?_⟩
  refine test_last (thn (hb.run pins s σ H _ I h) fun u s2 ⟨y, H2, I2, r2, q2⟩ => thn (ho pins s2 σ H2 x y v u _ I2 rx r2 q2) fun d s3 ⟨z, H3, I3, r3, k, e, q3⟩ => ?_)
  subst e
  cases r3
  exact wpAny_truthy_bool ⟨H3, I3, q3⟩
theorem pchT_link {op op' : CmpOp} {ops : List CmpOp} {r : R2} {b b' : Expr} {bs : List Expr} {tb : TE} {rest : V → TE} (ho : OpR X (compareOp op) r) (hb : PE X b tb) (hr : PChT X (op' :: ops) (b' :: bs) rest) : PChT X (op :: op' :: ops) (b :: b' :: bs) (tLink r tb rest) := by
  refine ⟨fun pos pins s σ H Q x v I rx h => ?_⟩
  refine test_link (thn (hb.run pins s σ H _ I h) fun u s2 ⟨y, H2, I2, r2, q2⟩ => thn (ho pins s2 σ H2 x y v u _ I2 rx r2 q2) fun d s3 ⟨z, H3, I3, r3, k, e, q3⟩ => ?_)
  subst e
  cases r3
  refine wpAny_truthy_bool ?_
  cases k with
  | false =>
    obtain ⟨k', e', q'⟩ := q3
    cases e'
    exact ite_ff ⟨H3, I3, q'⟩
  | true => exact ite_tt (hr.run pos pins s3 σ H3 Q y u I3 r2 q3)
theorem pt_chN {op op' : CmpOp} {ops : List CmpOp} {a b b' : Expr} {bs : List Expr} {pos : Pos} {ta : TE} {rest : V → TE} (ha : PE X a ta) (hr : PChT X (op :: op' :: ops) (b :: b' :: bs) rest)
    (hm : lastMarks (op :: op' :: ops) (b :: b' :: bs) = false := by with_unfolding_all rfl) : PT X (.Compare a (op :: op' :: ops) (b :: b' :: bs) pos) (tTest (tCh ta rest)) :=
  ⟨fun pins s σ H Q I h => isTrue_chain (thn (ha.run pins s σ H _ I h) fun v s1 ⟨x, H1, I1, r1, q1⟩ => hr.run pos pins s1 σ H1 Q x v I1 r1 q1) hm⟩
end

theorem pi_listK {X : Cx} {K : PySem.W.Frag} {tg l : Expr} {tl : TE} (hK : X.K = K) (hl : PE X l tl) : PI X tg l (iList K tl) := hK ▸ pi_list hl
theorem pi_tupK {X : Cx} {K : PySem.W.Frag} {tg l : Expr} {tl : TE} (hK : X.K = K) (hl : PE X l tl) : PI X tg l (iTup K tl) := hK ▸ pi_tup hl

/-! ### enumerate of a tuple -/
section
open Sem (wp)
set_option maxHeartbeats 4000000 in
theorem enum_of_tuple (t : Addr) (items : Array Value) : Meets (Builtin.«enumerate.__new__» ⟨[.type "enumerate", .ref t], []⟩) (fun _ R s => s.heap.IsTuple t items ∧
    R (.ok (.ret (.ref (s.heap.push { cls := .type "tuple_iterator", data := .fields #[.ref t, .int 0 0] }).objs.size)))
      { s with heap := (s.heap.push { cls := .type "tuple_iterator", data := .fields #[.ref t, .int 0 0] }).push { cls := .type "enumerate", data := .fields #[.none, .bool false, .ref s.heap.objs.size, rawInt 0, .none, .none] } }) := by
  refine .of_wp fun prog w A R s h => ?_
  obtain ⟨hp, g, d, tk, os⟩ := s
  obtain ⟨isT, h⟩ := h
  have sub := sub_enumerate
  have start : ∀ {A' : Around} {E : Value → Shared → Prop} {Q : Value → Shared → Prop}, Q (.ref hp.objs.size) ⟨hp.push { cls := .type "tuple_iterator", data := .fields #[.ref t, .int 0 0] }, g, d, tk, os⟩ → wpAny (model prog w) A' (pyIter (.ref t)) Q E ⟨hp, g, d, tk, os⟩ := by
    intro A' E Q q
    exact (begins_tuple t items).iter prog w A' E ⟨hp, g, d, tk, os⟩ Q isT q
  wp_walk using start
  refine wpAny_stack_any fun st => wpAny_pure ?_
  split
  · rename_i cc _ _ _ _ _
    cases (cc == Value.type "enumerate") <;> (wp_walk using start; exact Exists.intro _ ⟨rfl, h⟩)
  · wp_walk using start
    exact Exists.intro _ ⟨rfl, h⟩
end
theorem call_enumT {prog : Program} {w : World} {A : Around} {E : Value → Shared → Prop} {s : Shared} {t : Addr} {items : Array Value} {Q : Value → Shared → Prop} (isT : s.heap.IsTuple t items)
    (h : ∀ h', IsEnum h' (s.heap.objs.size + 1) s.heap.objs.size 0 .none → h'.IsTupleIter s.heap.objs.size t 0 → (∀ b o, s.heap.get? b = some o → h'.get? b = some o) → Q (.ref (s.heap.objs.size + 1)) { s with heap := h' }) :
    wpAny (model prog w) A (call (.type "enumerate") [.ref t]) Q E s := by
  refine callType_new F.called_enumerate (by decide) (F.typeCall_enumerate_1 _) (F.newCall_enumerate_1 _) (fun obj => F.args_object_init_2 obj _) F.entry_enumerate_new (enum_of_tuple t items) (And.intro isT ?_)
  have size : (s.heap.push { cls := .type "tuple_iterator", data := .fields #[.ref t, .int 0 0] }).objs.size = s.heap.objs.size + 1 := Heap.size_push ..
  show _ ∧ _
  rw [size]
  have made := Heap.get?_push_size (s.heap.push { cls := .type "tuple_iterator", data := .fields #[.ref t, .int 0 0] }) (o := { cls := .type "enumerate", data := .fields #[.none, .bool false, .ref s.heap.objs.size, rawInt 0, .none, .none] }) rfl
  rw [size] at made
  refine ⟨⟨_, made, rfl⟩, h _ made ⟨_, Heap.get?_push_of_some _ (Heap.get?_push_size _ rfl), rfl, rfl⟩ ?_⟩
  intro b o e
  exact Heap.get?_push_of_some _ (Heap.get?_push_of_some _ e)
/-- the tuple at a, each item in a new pair with its place -/
def IteT (K : PySem.W.Frag) (a : Addr) (N : Nat) : It where
  go := fun i H => ∃ (xs : List V) (x : V), SqT K H a xs ∧ xs[i]? = some x ∧ xs.length = N
  yld := fun i H v H' => ∃ t x, v = .ref t ∧ H t = none ∧ H' = upd H t (.tup [.int (i : Nat), x]) ∧ ∀ xs, SqT K H a xs → xs[i]? = some x
  stop := fun i H => ∃ xs : List V, SqT K H a xs ∧ xs.length = N ∧ N ≤ i
theorem turn_enumT {P : Program} {w : World} {K : PySem.W.Frag} {elts : List Expr} {kk : Nat} {tpos : Pos} (a e it : Addr) (N : Nat) :
    Turn P w K (.Tuple elts kk tpos) (IteT K a N) [e, it] e (fun i h => (∃ old, IsEnum h e it ((i : Nat) : Int) old) ∧ h.IsTupleIter it a i ∧ e ≠ it ∧ i ≤ N) := by
  have two : ∀ {b : Addr}, b ∈ [e, it] → b = e ∨ b = it := fun hb => by simpa using hb
  constructor
  · simp
  · rintro i h ⟨⟨old, he⟩, ⟨o, ho, hc, hd⟩, _, _⟩ b hb
    rcases two hb with rfl | rfl
    · exact ⟨_, he, fun v q => nomatch q⟩
    · refine ⟨o, ho, fun v q => ?_⟩
      rw [hd] at q
      cases q
  · rintro i h h' ⟨⟨old, he⟩, hi, hne, hN⟩ k
    exact ⟨⟨old, k e (by simp) _ he⟩, hi.at fun o q => k it (by simp) o q, hne, hN⟩
  · intro X hP hw hK hc i pins s σ H E I hf st hg
    subst hP hw hK
    obtain ⟨⟨old, he⟩, hit, hne, hN⟩ := st
    obtain ⟨xs, x, hq, hx, hxN⟩ := hg
    have inside := (List.getElem?_eq_some_iff.mp hx).1
    obtain ⟨its, rv, p, _⟩ := I.tuple hq
    obtain ⟨u, hu, ru⟩ := rv.get hx
    have isT : s.heap.IsTuple a its.toArray := p
    have apart : a ≠ it := by
      rintro rfl
      obtain ⟨o1, q1, c1, _⟩ := hit
      obtain ⟨o2, q2, c2, _⟩ := isT
      rw [q1] at q2
      cases q2
      rw [c1] at c2
      exact absurd (Value.type.inj c2) (by decide)
    have hea : e ≠ a := by
      rintro rfl
      obtain ⟨o2, q2, c2, _⟩ := isT
      rw [he] at q2
      cases q2
      exact absurd (Value.type.inj c2) (by decide)
    have lte : e < s.heap.objs.size := Heap.lt_size he
    have lti : it < s.heap.objs.size := hit.elim fun _ q => Heap.lt_size q.1
    have less : i < its.toArray.size := by
      have z := (List.getElem?_eq_some_iff.mp hu).1
      rw [List.size_toArray]
      exact z
    apply wpAny_pyNext_enum_itemD (Draws.tuple (A := X.A.in1) (I.ok.hd hc) it a apart its.toArray) he ⟨hit, isT⟩ less hne (by simp [hne, hea])
    intro y h' tk hy ho st' hT hsz hk
    have ey : y = u := by
      have z : its[i]? = some y := by simpa using hy
      rw [hu] at z
      exact (Option.some.inj z).symm
    subst ey
    refine ⟨_, rfl, wpAny_letOwnedTupleGo_enum (s := { s with heap := h', toks := tk + 1 }) ho fun h2 he2 sb => ?_⟩
    have kept : ∀ b o, b ∉ [e, it] → s.heap.get? b = some o → h2.get? b = some o := by
      intro b o nb q
      have n1 : b ≠ e := fun z => nb (by simp [z])
      have n2 : b ≠ it := fun z => nb (by simp [z])
      exact (sb.2 b n1).trans (hk b o n1 n2 q)
    have hT2 : h2.get? s.heap.objs.size = some { cls := .type "tuple", data := .seq #[.int i tk, y] } := (sb.2 _ (Nat.ne_of_gt lte)).trans hT
    have I1 : Inv X pins σ (upd H s.heap.objs.size (.tup [.int (i : Nat), x])) { s with heap := h2, toks := tk + 1 } := by
      refine I.turnedNew (ch := [e, it]) kept hf (Nat.le_refl _) ⟨by show 2 ≤ sizeLine; decide, [.int i tk, y], .cons ⟨_, rfl⟩ (.cons ru .nil), ?_⟩
      exact ⟨_, hT2, rfl, _, rfl⟩
    refine ⟨.ref s.heap.objs.size, _, I1, rfl, ⟨_, x, rfl, I.hok.fresh (Nat.le_refl _), rfl, fun ys hys => ?_⟩, ⟨⟨y, ?_⟩, ?_, hne, by omega⟩, fun b hb => ?_⟩
    · rw [I.tuple_inj hys hq]
      exact hx
    · have cast : ((i + 1 : Nat) : Int) = (i : Int) + 1 := by omega
      rw [cast]
      exact he2
    · exact st'.1.at fun o q => (sb.2 it hne.symm).trans q
    · have lt : b < s.heap.objs.size := by
        rcases two hb with rfl | rfl
        · exact lte
        · exact lti
      rw [upd_ne (Nat.ne_of_lt lt)]
      exact (hf b hb).1
  · intro X hP hw hK hc i pins s σ H E I hf st hg
    subst hP hw hK
    obtain ⟨⟨old, he⟩, hit, hne, hN⟩ := st
    obtain ⟨xs, hq, hxN, hx⟩ := hg
    obtain ⟨its, rv, p, _⟩ := I.tuple hq
    have isT : s.heap.IsTuple a its.toArray := p
    have apart : a ≠ it := by
      rintro rfl
      obtain ⟨o1, q1, c1, _⟩ := hit
      obtain ⟨o2, q2, c2, _⟩ := isT
      rw [q1] at q2
      cases q2
      rw [c1] at c2
      exact absurd (Value.type.inj c2) (by decide)
    obtain ⟨f0, f1, f2, f3, f4, f5⟩ := hf it (by simp)
    have len := rv.length
    have at1 : i = its.toArray.size := by
      rw [List.size_toArray]
      omega
    subst at1
    apply wpAny_pyNext_enum_endD (Draws.tuple (A := X.A.in1) (I.ok.hd hc) it a apart its.toArray) he ⟨hit, isT⟩
    intro h' eb
    exact And.intro rfl (I.turned (t' := s.toks) (fun b o hb q => eb b o hb q) f0 f1 f3 f4 f5)
  · rintro A i s Q E ⟨⟨_, he⟩, _⟩ h
    exact wpAny_pyIter_enum he h
def iEnumT (K : PySem.W.Frag) (ta : TA) : TI := fun σ H R => ta σ H fun vs H1 => ∃ a xs, vs = [.ref a] ∧ SqT K H1 a xs ∧ R (IteT K a xs.length) H1
theorem pi_enumT {X : Cx} {e : Expr} {ta : TA} {p pos tpos : Pos} {elts : List Expr} {kk : Nat} (hg : Gl X "enumerate") (hm : X.mg "enumerate" = none) (args : PA X [e] ta) (star : starEach [e] X.env = [(false, eval e X.env)] := by rfl) :
    PI X (.Tuple elts kk tpos) (.Call (.Name "enumerate" p) [e] [] pos) (iEnumT X.K ta) := by
  constructor
  intro pins s σ H R I h
  refine Call_ (ld_blt I hg hm boot_enumerate ?_)
  refine PyProof.Rows.callWith_type1 (thn (args.run pos pins s σ H _ I h) ?_) star rfl
  rintro us s1 ⟨vs, H1, I1, rel, a, xs, rfl, sq, q⟩
  obtain ⟨u, rfl, ru⟩ := vals1 rel
  cases ru
  obtain ⟨its, rv, isT, _⟩ := I1.tuple sq
  refine call_enumT (items := its.toArray) isT fun h' he hit hk => wpAny_pyIter_enum he ?_
  have fresh : ∀ b ∈ [s1.heap.objs.size + 1, s1.heap.objs.size], s1.heap.objs.size ≤ b := by
    intro b hb
    have z : b = s1.heap.objs.size + 1 ∨ b = s1.heap.objs.size := by simpa using hb
    rcases z with rfl | rfl
    · exact Nat.le_add_right _ _
    · exact Nat.le_refl _
  exact ⟨_, _, _, _, H1, rfl, I1.kept hk, turn_enumT a (s1.heap.objs.size + 1) s1.heap.objs.size xs.length, ⟨⟨.none, he⟩, hit, Nat.succ_ne_self _, Nat.zero_le _⟩, fun b hb => I1.fpOk (fresh b hb) (I1.hok.fresh (fresh b hb)), q⟩

/-! ### t[::-1] of a tuple; xs == [], xs != [] of a list that may hold anything -/
section
open HT
variable {prog : Program} {w : World} {A : Around} {E : Value → Shared → Prop} {s : Shared}
theorem adjust_rev (n : Nat) : Builtin.Slice.sliceAdjust none none (-1) (n : Int) = ((n : Int) - 1, -1) := by
  unfold Builtin.Slice.sliceAdjust
  have h1 : (-1 : Int) < 0 := by decide
  simp only [h1, if_true]
theorem places_rev (n : Nat) : Builtin.Slice.slicePlaces ((n : Int) - 1) (-1) (-1) = n := by
  unfold Builtin.Slice.slicePlaces
  have h1 : ¬ ((-1 : Int) > 0) := by decide
  simp only [h1, if_false]
  have h2 : (-(-1) : Int) = 1 := by decide
  rw [h2, Int.ediv_one]
  split <;> omega
theorem sliceApplied_rev {sl : Addr} {vl vu vs : Value} {n : Nat} {Q : Int × Int × Nat → Shared → Prop} (hs : s.heap.IsSliceOf sl vl vu vs) (pl : IsPart vl none) (pu : IsPart vu none) (pt : IsPart vs (some (-1)))
    (h : Q ((n : Int) - 1, -1, n) s) : wpAny (model prog w) A (Builtin.Slice.sliceApplied (.ref sl) (pure (n : Int))) Q E s := by
  obtain ⟨os, hos, hcs, hds⟩ := id hs
  unfold Builtin.Slice.sliceApplied Builtin.Slice.sliceFields
  refine wpAny_bind (wpAny_bind (wpAny_field hos hds (x := vl) rfl (wpAny_bind (wpAny_field hos hds (x := vu) rfl (wpAny_bind (wpAny_field hos hds (x := vs) rfl (wpAny_pure ?_)))))))
  refine wpAny_bind (slicePart_ pt ?_)
  show wpAny _ _ (if ((-1 : Int) == 0) = true then _ else _) _ _ s
  rw [if_neg (by decide)]
  refine wpAny_bind (slicePart_ pl (wpAny_bind (slicePart_ pu (wpAny_bind (wpAny_pure ?_)))))
  show wpAny _ _ (match Builtin.Slice.sliceAdjust none none (-1) (n : Int) with | (lo, hi) => pure (lo, (-1 : Int), Builtin.Slice.slicePlaces lo hi (-1))) _ _ s
  rw [adjust_rev]
  show wpAny _ _ (pure ((n : Int) - 1, (-1 : Int), Builtin.Slice.slicePlaces ((n : Int) - 1) (-1) (-1))) _ _ s
  rw [places_rev]
  exact wpAny_pure h
theorem pick_rev (xs : Array Value) : ((List.range xs.size).filterMap fun (k : Nat) => xs[((xs.size : Int) - 1 + (k : Int) * (-1)).toNat]?) = xs.toList.reverse := by
  have e : ∀ m : Nat, m ≤ xs.size → ((List.range m).filterMap fun (k : Nat) => xs[((xs.size : Int) - 1 + (k : Int) * (-1)).toNat]?) = xs.toList.reverse.take m := by
    intro m
    induction m with
    | zero => intro _; rfl
    | succ m ih =>
      intro hm
      rw [List.range_succ, List.filterMap_append, ih (by omega), List.take_add_one]
      congr 1
      have e1 : ((xs.size : Int) - 1 + (m : Int) * (-1)).toNat = xs.size - 1 - m := by omega
      have e2 : xs.toList.reverse[m]? = xs[xs.size - 1 - m]? := by
        rw [List.getElem?_reverse (by rw [Array.length_toList]; omega), Array.length_toList, Array.getElem?_toList]
      rw [e2]
      have lt : xs.size - 1 - m < xs.size := by omega
      simp only [List.filterMap_cons, List.filterMap_nil, e1]
      rw [Array.getElem?_eq_getElem lt]
      rfl
  rw [e _ (Nat.le_refl _), List.take_of_length_le (by rw [List.length_reverse, Array.length_toList]; exact Nat.le_refl _)]
theorem getItem_tuple_rev {t sl : Addr} {items : Array Value} {vl vu vs : Value} {Q : Value → Shared → Prop} (ht : IsTup s.heap t items) (hs : s.heap.IsSliceOf sl vl vu vs) (pl : IsPart vl none) (pu : IsPart vu none) (pt : IsPart vs (some (-1)))
    (h : Q (.ref s.heap.objs.size) { s with heap := s.heap.push { cls := .type "tuple", data := .seq items.toList.reverse.toArray } })
    (hsz : items.size ≤ sizeLine) : wpAny (model prog w) A (getItem (.ref t) (.ref sl)) Q E s := by
  have htake : sizeOk (.seq items.toList.reverse.toArray) := by
    show items.toList.reverse.toArray.size ≤ sizeLine
    rw [List.size_toArray, List.length_reverse, Array.length_toList]
    omega
  obtain ⟨os, hos, hcs, hds⟩ := id hs
  have hTs : s.TypeIs (.ref sl) "slice" := ⟨os, hos, hcs⟩
  unfold getItem
  try with_reducible refine wpAny_holding ?_
  first | refine wpAny_bind (wpAny_pure ?_) | skip
  refine wpAny_bind (wpAny_sequenceKey ht.typeIs (by decide) ?_)
  refine wpAny_bind (wpAny_callSpecial?_slot (name := Str.ofString "__getitem__") ht.typeIs PyProof.Rows.slot_tuple_getitem
    (wpAny_call_entry PyProof.Rows.slot_tuple_getitem ht.typeIs entry_tuple_getitem ?_ (args_tuple_getitem _ _)))
  show wpAny _ _ (Builtin.Tuple.tupleItemsOf (.ref t) >>= _) _ _ s
  refine wpAny_bind (tupleItemsOf_ ht ?_)
  refine wpAny_bind (wpAny_typeOf hTs ?_)
  rw [if_pos (by decide)]
  refine wpAny_bind (sliceApplied_rev hs pl pu pt ?_)
  have hno : ¬ ((((items.size : Int) - 1) == 0 && (-1 : Int) == 1 && items.size == items.size) = true) := by
    intro q
    rw [Bool.and_eq_true, Bool.and_eq_true] at q
    exact absurd q.1.2 (by decide)
  show wpAny _ _ (if (((items.size : Int) - 1) == 0 && (-1 : Int) == 1 && items.size == items.size) = true then _ else _) _ _ s
  rw [if_neg hno, pick_rev]
  first
    | exact wpAny_bind (m := Builtin.Tuple.tupleExact _) (wpAny_newObj_type (wpAny_pure ⟨_, rfl, wpAny_pure h⟩) htake)
    | exact wpAny_bind (m := Builtin.Tuple.tupleExact _) (wpAny_newObj_type (wpAny_bind (wpAny_pure (wpAny_pure ⟨_, rfl, wpAny_pure h⟩))) htake)
    | exact wpAny_bind (wpAny_bind (m := Builtin.Tuple.tupleExact _) (wpAny_newObj_type (wpAny_pure (wpAny_pure ⟨_, rfl, wpAny_pure h⟩)) htake))
    | exact wpAny_bind (wpAny_bind (m := Builtin.Tuple.tupleExact _) (wpAny_newObj_type (wpAny_pure ⟨_, rfl, wpAny_pure h⟩) htake))
end
section
variable {X : Cx}
def tRevT (K : PySem.W.Frag) (te : TE) : TE := fun σ H Q => te σ H fun x H1 => ∃ a xs, x = .ref a ∧ SqT K H1 a xs ∧ ∀ p, H1 p = none → Q (.ref p) (upd H1 p (.tup xs.reverse))
theorem pe_revT {e : Expr} {te : TE} {k : Nat} {p1 p2 p3 pos : Pos} (he : PE X e te) : PE X (.Subscript e (.Slice none none (some (.UnaryOp .USub (.Constant (.int 1) k p1) p2)) p3) pos) (tRevT X.K te) := by
  refine ⟨fun pins s σ H Q I h => ?_⟩
  refine Subscript_ (thn (he.run pins s σ H _ I h) fun v s1 ⟨x, H1, I1, r1, q1⟩ => ?_)
  obtain ⟨a, xs, ex, hx, q⟩ := q1
  subst ex
  cases r1
  have hst : PO X (some (.UnaryOp .USub (.Constant (.int 1) k p1) p2)) (tPart (tUn (rU fun i => .int (-i)) (tC (.int 1)))) := po_some (pe_un un_neg pe_int)
  refine wpAny_Slice (thn (po_none.run pins s1 σ H1 (fun o H2 => o = none ∧ H2 = H1) I1 ⟨rfl, rfl⟩) fun vl s2 ⟨l, H2, I2, pl, el, e2⟩ => ?_)
  subst el e2
  refine thn (po_none.run pins s2 σ H2 (fun o H3 => o = none ∧ H3 = H2) I2 ⟨rfl, rfl⟩) fun vu s3 ⟨u, H3, I3, pu, eu, e3⟩ => ?_
  subst eu e3
  refine thn (hst.run pins s3 σ H3 (fun o H4 => o = some (-1) ∧ H4 = H3) I3 ⟨1, rfl, -1, rfl, rfl, rfl⟩) fun vs s4 ⟨o, H4, I4, ps, eo, e4⟩ => ?_
  subst eo e4
  have I5 : Inv X pins σ H4 { s4 with heap := s4.heap.push { cls := .type "slice", data := .fields #[vl, vu, vs] } } := I4.kept (t' := s4.toks) fun b ob q => Heap.get?_push_of_some _ q
  obtain ⟨its, r, ht, hz⟩ := I5.tuple hx
  have hlen := r.length
  show wpAny (model X.prog X.w) X.A (subscriptTail e (.Slice none none (some (.UnaryOp .USub (.Constant (.int 1) k p1) p2)) p3) (.ref a) (.ref s4.heap.objs.size)) (EP X pins σ Q) X.xe { s4 with heap := s4.heap.push { cls := .type "slice", data := .fields #[vl, vu, vs] } }
  refine tail_any (ops := [.ref a, .ref s4.heap.objs.size]) ht.typeIs (PyProof.Rows.slot_tuple_getitem.lookup) ?_ (by with_unfolding_all rfl)
  refine getItem_tuple_rev ht (Heap.IsSliceOf.new _ vl vu vs) pl pu ps ?_ (by rw [List.size_toArray]; omega)
  refine ⟨.ref _, _, I5.laid (t' := s4.toks) (o := .tup xs.reverse) (fun b ob q => Heap.get?_push_of_some _ q) (Nat.le_refl _) ?_, rfl, q _ (I5.hok.fresh (Nat.le_refl _))⟩
  exact ⟨by rw [List.length_reverse]; exact hz, _, r.reverse, IsTup.new _ _⟩
def rEqL (K : PySem.W.Frag) : R2 := fun x y H Q => ∃ (a b : Addr) (xs : List V), x = .ref a ∧ y = .ref b ∧ SqL K H a xs ∧ SqL K H b [] ∧ Q (.bl xs.isEmpty) H
def rNeL (K : PySem.W.Frag) : R2 := fun x y H Q => ∃ (a b : Addr) (xs : List V), x = .ref a ∧ y = .ref b ∧ SqL K H a xs ∧ SqL K H b [] ∧ Q (.bl (!xs.isEmpty)) H
theorem op_eqL (units : X.A.units < cLine) : OpR X (compareOp .Eq) (rEqL X.K) := by
  intro pins s σ H x y v u Q I rx ry h
  obtain ⟨a, b, xs, rfl, rfl, ha, hb, q⟩ := h
  cases rx
  cases ry
  obtain ⟨its, r1, p1, _⟩ := I.list ha
  obtain ⟨its2, r2, p2, _⟩ := I.list hb
  cases r2
  cases r1 with
  | nil =>
    exact SeqAt.eq_listAt (e := fun _ => true) p1.isList p2.isList rfl units (fun j h1 h2 => absurd h2 (Nat.not_lt_zero j)) ⟨.bl true, H, I, rfl, q⟩
  | cons r t =>
    exact SeqAt.eq_list_lengthsAt p1.isList p2.isList (by simp) units ⟨.bl false, H, I, rfl, q⟩
theorem op_neL (units : X.A.units < cLine) : OpR X (compareOp .NotEq) (rNeL X.K) := by
  intro pins s σ H x y v u Q I rx ry h
  obtain ⟨a, b, xs, rfl, rfl, ha, hb, q⟩ := h
  cases rx
  cases ry
  obtain ⟨its, r1, p1, _⟩ := I.list ha
  obtain ⟨its2, r2, p2, _⟩ := I.list hb
  cases r2
  cases r1 with
  | nil =>
    exact SeqAt.RcNeAt.lists (e := fun _ => true) p1.isList p2.isList rfl units (fun j h1 h2 => absurd h2 (Nat.not_lt_zero j)) X.prog X.w X.xe (EP X pins σ Q) ⟨.bl false, H, I, rfl, q⟩
  | cons r t =>
    exact SeqAt.RcNeAt.lists_lengths p1.isList p2.isList (by simp) units X.prog X.w X.xe (EP X pins σ Q) ⟨.bl true, H, I, rfl, q⟩
end

/-! ### x in t, x not in t, for a tuple of data -/
theorem units65 {k : Nat} {A : Around} (r : Room k A) : A.units + 65 < cLine := by
  have := r.un
  omega
section
variable {X : Cx}
def rInT (K : PySem.W.Frag) : R2 := fun x y H Q => ∃ d ds, Dp K H x d ∧ Dp K H y (.tuple ds) ∧ SeqAt.shaped d = true ∧ SeqAt.shaped (.tuple ds) = true ∧ Q (.bl (ds.any fun z => PyData.eqv z d)) H
def rNotInT (K : PySem.W.Frag) : R2 := fun x y H Q => ∃ d ds, Dp K H x d ∧ Dp K H y (.tuple ds) ∧ SeqAt.shaped d = true ∧ SeqAt.shaped (.tuple ds) = true ∧ Q (.bl (!ds.any fun z => PyData.eqv z d)) H
theorem op_inT (units : X.A.units + 65 < cLine) : OpR X (compareOp .In) (rInT X.K) := by
  intro pins s σ H x y v u Q I rx ry ⟨d, ds, dx, dy, sx, sy, q⟩
  obtain ⟨_, r1⟩ := Dp.reads I d x v dx rx
  obtain ⟨_, r2⟩ := Dp.reads I (.tuple ds) y u dy ry
  have l2 : PyData.canLayAll0 ds = true := SeqAt.canLay_of_shaped sy
  exact SeqAt.in_tuple_reads r2 r1 l2 (SeqAt.canLay_of_shaped sx) (room_in_shaped sx units) (Exists.intro (V.bl _) ⟨H, I, rfl, q⟩)
theorem op_notInT (units : X.A.units + 65 < cLine) : OpR X (compareOp .NotIn) (rNotInT X.K) := by
  intro pins s σ H x y v u Q I rx ry ⟨d, ds, dx, dy, sx, sy, q⟩
  obtain ⟨_, r1⟩ := Dp.reads I d x v dx rx
  obtain ⟨_, r2⟩ := Dp.reads I (.tuple ds) y u dy ry
  have l2 : PyData.canLayAll0 ds = true := SeqAt.canLay_of_shaped sy
  exact SeqAt.notIn_tuple_reads r2 r1 l2 (SeqAt.canLay_of_shaped sx) (room_in_shaped sx units) (Exists.intro (V.bl _) ⟨H, I, rfl, q⟩)
end
theorem for_zipU {K : PySem.W.Frag} {a b : Addr} {xs ys : List V} {g : TG} {tb : TS} {D : Ends} {σ : L2.St} {H : Hp} (Pv : Nat → L2.St → Hp → Prop) (h0 : Pv 0 σ H) (hq : ∀ i σ H, Pv i σ H → SqT K H a xs ∧ SqT K H b ys)
    (hs : ∀ (i : Nat) (x y : V) (T : Addr) (σ : L2.St) (H : Hp), xs[i]? = some x → ys[i]? = some y → Pv i σ H → H T = none → g (.ref T) σ (upd H T (.tup [x, y])) fun σ2 H2 => tb { D with nx := Pv (i + 1), ct := Pv (i + 1), bk := D.nx } σ2 H2) (hd : ∀ i σ H, i ≤ xs.length → Pv i σ H → D.nx σ H) :
    ∃ W : Nat → Nat → L2.St → Hp → Prop, (∃ m, W 0 m σ H) ∧ ∀ i m σ H, W i m σ H →
      ((RZ.ItzT K a b).stop i H ∧ D.nx σ H) ∨ ((RZ.ItzT K a b).go i H ∧ ∃ N : L2.St → Hp → Prop, (∀ σ' H', N σ' H' → ∃ m', m' < m ∧ W (i + 1) m' σ' H') ∧ ∀ v H', (RZ.ItzT K a b).yld i H v H' → g v σ H' fun σ2 H2 => tb { D with nx := N, ct := N, bk := D.nx } σ2 H2) := by
  refine ⟨fun i m σ H => m = xs.length - i ∧ i ≤ xs.length ∧ Pv i σ H, ⟨_, rfl, Nat.zero_le _, h0⟩, ?_⟩
  rintro i m σ H ⟨rfl, hi, p⟩
  obtain ⟨q1, q2⟩ := hq i σ H p
  by_cases c : i < xs.length ∧ i < ys.length
  · refine .inr ⟨⟨xs, ys, xs[i]'c.1, ys[i]'c.2, q1, q2, List.getElem?_eq_getElem c.1, List.getElem?_eq_getElem c.2⟩, Pv (i + 1), fun σ' H' p' => ⟨xs.length - (i + 1), by omega, rfl, by omega, p'⟩, fun v H' hy => ?_⟩
    obtain ⟨T, x, y, rfl, nT, rfl, f1, f2⟩ := hy
    exact hs i x y T σ H (f1 xs q1) (f2 ys q2) p nT
  · exact .inl ⟨⟨xs, ys, q1, q2, by omega⟩, hd i σ H hi p⟩

/-- a statement that is never come to -/
theorem ps_never {X : Cx} {st : Stmt} : PS X st (fun _ _ _ => False) := ⟨fun _ _ _ _ _ _ h => h.elim⟩

/-! ### a walk over a tuple, whatever its body is (comprehensions with two for) -/
theorem walkT {K : PySem.W.Frag} {a : Addr} {xs : List V} {B : V → Hp → (Hp → Prop) → Prop} {H0 : Hp} {Qd : Hp → Prop} (Pv : Nat → Hp → Prop) (h0 : Pv 0 H0) (hl : ∀ i H, i ≤ xs.length → Pv i H → SqT K H a xs)
    (hs : ∀ i x H, xs[i]? = some x → Pv i H → B x H (Pv (i + 1))) (hd : ∀ H, Pv xs.length H → Qd H) :
    ∃ W : Nat → Nat → Hp → Prop, (∃ m, W 0 m H0) ∧ ∀ i m H, W i m H →
      ((Itt K a).stop i H ∧ Qd H) ∨ ((Itt K a).go i H ∧ ∃ Nx : Hp → Prop, (∀ H', Nx H' → ∃ m', m' < m ∧ W (i + 1) m' H') ∧ ∀ x H', (Itt K a).yld i H x H' → B x H' Nx) := by
  refine ⟨fun i m H => m = xs.length - i ∧ i ≤ xs.length ∧ Pv i H, ⟨xs.length, by simp, Nat.zero_le _, h0⟩, ?_⟩
  rintro i m H ⟨rfl, hi, p⟩
  have q := hl i H hi p
  by_cases hlt : i < xs.length
  · refine .inr ⟨⟨xs, xs[i], q, by simp [hlt]⟩, Pv (i + 1), fun H' p' => ⟨xs.length - (i + 1), by omega, rfl, hlt, p'⟩, fun x H' y => ?_⟩
    obtain ⟨e, y⟩ := y
    subst e
    exact hs i x _ (y xs q) p
  · have e : i = xs.length := by omega
    subst e
    exact .inl ⟨⟨xs, q, by omega⟩, hd H p⟩

/-! ### max(xs, key=f), f a built-in that makes an int of an item and changes nothing -/
section
variable {prog : Program} {w : World} {A : Around} {E : Value → Shared → Prop} {s : Shared} {l : Addr} {kid : String} {vs : List Value} {Q : Value → Shared → Prop}
/-- all objects stay -/
abbrev Stay (h h' : Heap) : Prop := ∀ b o, h.get? b = some o → h'.get? b = some o
theorem isL_stay {h h' : Heap} {a : Addr} {xs : Array Value} (k : Stay h h') (x : h.IsList a xs) : h'.IsList a xs := let ⟨o, e, r⟩ := x; ⟨o, k _ _ e, r⟩
theorem isT_stay {h h' : Heap} {a : Addr} {xs : Array Value} (k : Stay h h') (x : IsTup h a xs) : IsTup h' a xs := let ⟨o, e, r⟩ := x; ⟨o, k _ _ e, r⟩
def KeyAt (prog : Program) (w : World) (A : Around) (s : Shared) (f : Value) (vs : List Value) (kf : Nat → Int) : Prop :=
  ∀ (i : Nat) (v : Value), vs[i]? = some v → ∀ (h : Heap) (tk : Nat), Stay s.heap h →
    wpAny (model prog w) A (call f [v]) (fun x s' => ∃ h' tk' t, s' = { s with heap := h', toks := tk' } ∧ x = .int (kf i) t ∧ Stay h h') (fun _ _ => False) { s with heap := h, toks := tk }
/-- the first of the greatest keys -/
def Topmost (kf : Nat → Int) (n i : Nat) : Prop := ∀ j, j < n → kf j ≤ kf i ∧ (j < i → kf j < kf i)
theorem maxKey_loop {I S : Addr} {R : Result → Shared → Prop} (kf : Nat → Int) (hh : A.handled = none) (isL : s.heap.IsList l vs.toArray) (lI : l ≠ I) (SI : S ≠ I) (nI : s.heap.get? I = none) (nS : s.heap.get? S = none) (key : KeyAt prog w A.in1 s (.builtin kid) vs kf)
    (fin : ∀ i v h' tk', vs[i]? = some v → Topmost kf vs.length i → Stay s.heap h' → R (.ok (.ret v)) { s with heap := h', toks := tk' }) :
    ∀ (r j i : Nat) (h : Heap) (tk : Nat) (vb : Value) (tb : Tok) (c : Nat), vs.length - (j + 1) = r → j + 1 ≤ vs.length → Stay s.heap h →
      h.get? S = some (seqObj "list" #[vb, .int (kf i) tb] c) → h.IsListIter I l (j + 1) → vs[i]? = some vb → i ≤ j → Topmost kf (j + 1) i →
      codeAny (model prog w) A (.builtin "max.loop" ⟨[.ref I, .builtin kid, .ref S], []⟩) R { s with heap := h, toks := tk } := by
  have nm : (toString "max" ++ toString ".loop" : String) = "max.loop" := by decide
  have wk := Walks.list (prog := prog) (w := w) (A := A.in1) hh I l lI vs.toArray
  have sz : vs.toArray.size = vs.length := List.size_toArray ..
  have off : ∀ {h h' : Heap} {x : Addr}, s.heap.get? x = none → Stay s.heap h → (∀ b o, b ≠ x → h.get? b = some o → h'.get? b = some o) → Stay s.heap h' := fun nx st k b o e => k b o (fun z => by rw [z, nx] at e; cases e) (st b o e)
  intro r
  induction r with
  | zero =>
    intro j i h tk vb tb c er jl st gS it ev ij top
    have last : j + 1 = vs.length := by omega
    refine codeAny_builtin (b := _) PySem.F.entry_max_loop ?_
    rw [Around.under_plainId (PySem.F.plain_max_loop) _]
    show wpAny _ A.in1 (seqItems? (Value.ref S) >>= _) _ _ _
    refine wpAny_bind (wpAny_seqItems (gS) rfl ?_)
    show wpAny _ A.in1 (tryCatch (pyNext (Value.ref I)) _ >>= _) _ _ _
    refine wpAny_bind (wpAny_tryCatch (wk.done _ _ _ ⟨by rw [sz, ← last]; exact it, isL_stay st isL⟩ fun h1 tk1 k1 => ?_))
    have st1 := off nI st (fun b o nb e => k1 b o (fun z => nb (List.mem_singleton.mp z)) e)
    have gS1 := k1 S _ (fun z => SI (List.mem_singleton.mp z)) gS
    have u1 := Heap.SameBut.update h1 S (Obj.mapSeq (fun _ => (#[] : Array Value)))
    show wpAny _ A.in1 (updateSeq S (fun _ => #[]) >>= fun _ => _) _ _ _
    refine wpAny_bind (wpAny_updateSeq gS1 rfl (wpAny_bind (wpAny_letGo (wpAny_pure ?_))))
    exact fin i vb _ _ ev (by rw [← last]; exact top) (off nS st1 fun b o nb e => (u1.2 b nb).trans e)
  | succ r ih =>
    intro j i h tk vb tb c er jl st gS it ev ij top
    have more : j + 1 < vs.length := by omega
    refine codeAny_builtin (b := _) PySem.F.entry_max_loop ?_
    rw [Around.under_plainId (PySem.F.plain_max_loop) _]
    show wpAny _ A.in1 (seqItems? (Value.ref S) >>= _) _ _ _
    refine wpAny_bind (wpAny_seqItems (gS) rfl ?_)
    show wpAny _ A.in1 (tryCatch (pyNext (Value.ref I)) _ >>= _) _ _ _
    refine wpAny_bind (wpAny_tryCatch (wk.item (j + 1) _ _ _ (by rw [sz]; exact more) ⟨it, isL_stay st isL⟩ fun v h1 tk1 pv it1 k1 => ?_))
    have ev1 : vs[j + 1]? = some v := by simpa using pv
    obtain ⟨oI, gI, cI, dI⟩ := it1.1
    have st1 := off nI st (fun b o nb e => k1 b o (fun z => nb (List.mem_singleton.mp z)) e)
    have gS1 := k1 S _ (fun z => SI (List.mem_singleton.mp z)) gS
    show wpAny _ A.in1 (tryCatch (holding [v] (call (Value.builtin kid) [v])) _ >>= _) _ _ _
    refine wpAny_bind (wpAny_tryCatch (wpAny_holding (wpAny_mono (key (j + 1) v ev1 h1 tk1 st1) (fun x s2 hx => ?_) (fun _ _ no => no.elim))))
    obtain ⟨h2, tk2, t2, rfl, rfl, k2⟩ := hx
    have st2 : Stay s.heap h2 := fun b o e => k2 b o (st1 b o e)
    have gS2 := k2 _ _ gS1
    have gI2 := k2 _ _ gI
    show wpAny _ A.in1 (tryCatch (holding [v, Value.int (kf (j + 1)) t2] (richCompare .Gt (.int (kf (j + 1)) t2) (.int (kf i) tb) >>= _)) _ >>= _) _ _ _
    refine wpAny_bind (wpAny_tryCatch (wpAny_holding (wpAny_bind (CmpOf.ints_gt (prog := prog) (w := w) (A := A.in1) (P := fun n u => ∃ t, u = .int (kf n) t) kf (fun n u z => z) (j + 1) i _ _ _ _ _ ⟨t2, rfl⟩ ⟨tb, rfl⟩ ?_))))
    refine wpAny_bind (wpAny_holding (wpAny_truthy_bool (wpAny_bind (wpAny_letGo (wpAny_pure ?_)))))
    by_cases up : kf (j + 1) > kf i
    · have u1 := Heap.SameBut.update h2 S (Obj.mapSeq (fun _ => #[v, .int (kf (j + 1)) t2]))
      obtain ⟨c2, gS3⟩ : ∃ c2, (h2.update S (Obj.mapSeq fun _ => #[v, .int (kf (j + 1)) t2])).get? S = some (seqObj "list" #[v, .int (kf (j + 1)) t2] c2) := ⟨_, get?_update_seq gS2 fun _ => _⟩
      simp only [up, decide_true, if_true]
      refine wpAny_bind (wpAny_updateSeq gS2 rfl (wpAny_bind (wpAny_letGo ?_)))
      rw [nm]
      refine wpAny_pure ⟨plainId_quiet (PySem.F.plain_max_loop) _, ih (j + 1) (j + 1) _ _ v t2 c2 (by omega) more (off nS st2 fun b o nb e => (u1.2 b nb).trans e) gS3 ⟨oI, (u1.2 I SI.symm).trans gI2, cI, dI⟩ ev1 (Nat.le_refl _) fun n hn => ?_⟩
      by_cases e : n = j + 1
      · subst e
        exact ⟨Int.le_refl _, fun z => absurd z (Nat.lt_irrefl _)⟩
      · have := (top n (by omega)).1
        exact ⟨by omega, fun _ => by omega⟩
    · simp only [up, decide_false, Bool.false_eq_true, if_false]
      refine wpAny_bind (wpAny_letGo ?_)
      rw [nm]
      refine wpAny_pure ⟨plainId_quiet (PySem.F.plain_max_loop) _, ih (j + 1) i _ _ vb tb c (by omega) more st2 gS2 ⟨oI, gI2, cI, dI⟩ ev (by omega) fun n hn => ?_⟩
      by_cases e : n = j + 1
      · subst e
        exact ⟨by omega, fun z => absurd z (by omega)⟩
      · exact top n (by omega)
theorem maxKey (kf : Nat → Int) (hh : A.handled = none) (isL : s.heap.IsList l vs.toArray) (some1 : 0 < vs.length) (key : KeyAt prog w A.in1 s (.builtin kid) vs kf)
    (fin : ∀ i v h' tk', vs[i]? = some v → Topmost kf vs.length i → Stay s.heap h' → Q v { s with heap := h', toks := tk' }) :
    wpAny (model prog w) A (call (.builtin "max") [.ref l] [(Str.ofString "key", .builtin kid)]) Q E s := by
  have nm : (toString "max" ++ toString ".loop" : String) = "max.loop" := by decide
  have isL0 := isL
  obtain ⟨ol, gl, _⟩ := isL0
  have ll : l < s.heap.objs.size := Heap.lt_size gl
  refine kmb_tree PySem.F.kind_max PySem.F.plain_max PySem.F.entry_max (kmb_max_key _ _) ?_
  show wpAny _ A.in1 (Builtin.Builtins.bindParams "max" ["key", "default"] 0 ⟨[], [(Str.ofString "key", Value.builtin kid)]⟩ >>= _) _ _ s
  refine wpAny_bind (wpAny_of_eq (show Builtin.Builtins.bindParams "max" ["key", "default"] 0 ⟨[], [(Str.ofString "key", Value.builtin kid)]⟩ = pure [some (.builtin kid), none] from rfl) ?_)
  refine wpAny_bind (wpAny_pure (wpAny_bind (wpAny_pyIter_list isL (wpAny_bind (wpAny_newList ?_ (Nat.zero_le _))))))
  rw [nm]
  have it0 := Heap.get?_push_size s.heap (o := { cls := .type "list_iterator", data := .fields #[.ref l, .int 0 0] }) rfl
  have z1 : (s.heap.push { cls := .type "list_iterator", data := .fields #[.ref l, .int 0 0] }).objs.size = s.heap.objs.size + 1 := Heap.size_push ..
  have k1 : Stay s.heap (s.heap.push { cls := .type "list_iterator", data := .fields #[.ref l, .int 0 0] }) := fun b o e => Heap.get?_push_of_some _ e
  generalize s.heap.push { cls := .type "list_iterator", data := .fields #[.ref l, .int 0 0] } = g1 at *
  have gS := Heap.get?_push_size g1 (o := seqObj "list" #[] 0) rfl
  have k2 : Stay g1 (g1.push (seqObj "list" #[] 0)) := fun b o e => Heap.get?_push_of_some _ e
  have gI := k2 _ _ it0
  generalize g1.push (seqObj "list" #[] 0) = g2 at *
  rw [z1] at gS ⊢
  have st2 : Stay s.heap g2 := fun b o e => k2 b o (k1 b o e)
  have nI : s.heap.get? s.heap.objs.size = none := Heap.get?_none_of_le (Nat.le_refl _)
  have nS : s.heap.get? (s.heap.objs.size + 1) = none := Heap.get?_none_of_le (Nat.le_succ _)
  have SI : s.heap.objs.size + 1 ≠ s.heap.objs.size := Nat.succ_ne_self _
  have lI : l ≠ s.heap.objs.size := Nat.ne_of_lt ll
  have wk := Walks.list (prog := prog) (w := w) (A := A.in1) hh s.heap.objs.size l lI vs.toArray
  have sz : vs.toArray.size = vs.length := List.size_toArray ..
  have off : ∀ {h h' : Heap} {x : Addr}, s.heap.get? x = none → Stay s.heap h → (∀ b o, b ≠ x → h.get? b = some o → h'.get? b = some o) → Stay s.heap h' := fun nx st k b o e => k b o (fun z => by rw [z, nx] at e; cases e) (st b o e)
  refine wpAny_pure ⟨plainId_quiet (PySem.F.plain_max_loop) _, codeAny_builtin (b := _) PySem.F.entry_max_loop ?_⟩
  rw [Around.under_plainId (PySem.F.plain_max_loop) _]
  show wpAny _ A.in1 (seqItems? (Value.ref _) >>= _) _ _ _
  refine wpAny_bind (wpAny_seqItems (gS) rfl ?_)
  show wpAny _ A.in1 (tryCatch (pyNext (Value.ref s.heap.objs.size)) _ >>= _) _ _ _
  refine wpAny_bind (wpAny_tryCatch (wk.item 0 _ _ _ (by rw [sz]; exact some1) ⟨⟨_, gI, rfl, rfl⟩, isL_stay st2 isL⟩ fun v h1 tk1 pv it1 kk => ?_))
  have ev1 : vs[0]? = some v := by simpa using pv
  obtain ⟨oI, gI1, cI, dI⟩ := it1.1
  have st1 := off nI st2 (fun b o nb e => kk b o (fun z => nb (List.mem_singleton.mp z)) e)
  have gS1 := kk _ _ (fun z => SI (List.mem_singleton.mp z)) gS
  show wpAny _ A.in1 (tryCatch (holding [v] (call (Value.builtin kid) [v])) _ >>= _) _ _ _
  refine wpAny_bind (wpAny_tryCatch (wpAny_holding (wpAny_mono (key 0 v ev1 h1 tk1 st1) (fun x s2 hx => ?_) (fun _ _ no => no.elim))))
  obtain ⟨h2, tk2, t2, rfl, rfl, k3⟩ := hx
  have gS2 := k3 _ _ gS1
  have u1 := Heap.SameBut.update h2 (s.heap.objs.size + 1) (Obj.mapSeq (fun _ => #[v, .int (kf 0) t2]))
  obtain ⟨c2, gS3⟩ : ∃ c2, (h2.update (s.heap.objs.size + 1) (Obj.mapSeq fun _ => #[v, .int (kf 0) t2])).get? (s.heap.objs.size + 1) = some (seqObj "list" #[v, .int (kf 0) t2] c2) := ⟨_, get?_update_seq gS2 fun _ => _⟩
  show wpAny _ A.in1 (updateSeq (s.heap.objs.size + 1) (fun _ => #[v, .int (kf 0) t2]) >>= _) _ _ _
  refine wpAny_bind (wpAny_updateSeq gS2 rfl ?_)
  rw [nm]
  refine wpAny_pure ⟨plainId_quiet (PySem.F.plain_max_loop) _, maxKey_loop kf hh isL lI SI nI nS key fin _ 0 0 _ _ v t2 c2 rfl some1 (off nS (fun b o e => k3 b o (st1 b o e)) fun b o nb e => (u1.2 b nb).trans e) gS3 ⟨oI, (u1.2 _ SI.symm).trans (k3 _ _ gI1), cI, dI⟩ ev1 (Nat.le_refl _) fun n hn => ?_⟩
  have e : n = 0 := by omega
  subst e
  exact ⟨Int.le_refl _, fun z => absurd z (Nat.lt_irrefl _)⟩
end
/-- max([x, y], key=len), x and y tuples -/
def rMaxLen (K : PySem.W.Frag) : List V → Hp → VK → Prop := fun vs H Q => ∃ (a b c : Addr) (xs ys : List V), vs = [.ref a] ∧ SqL K H a [.ref b, .ref c] ∧ SqT K H b xs ∧ SqT K H c ys ∧ Q (.ref (if xs.length < ys.length then c else b)) H
theorem pe_maxLen {X : Cx} {e : Expr} {p q kp pos : Pos} {t : TA} (hc : X.calm = true) (hg : Gl X "max") (hm : X.mg "max" = none) (hg2 : Gl X "len") (hm2 : X.mg "len" = none) (ha : PA X [e] t)
    (he : backTo pos (starEach [e] X.env) = (false, eval e X.env) :: backTo pos (starEach [] X.env) := by rfl) (hpl : (backTo pos (starEach [e] X.env)).any (·.1) = false := by rfl) :
    PE X (.Call (.Name "max" p) [e] [⟨some "key", .Name "len" q, kp⟩] pos) (tCB (rMaxLen X.K) t) := by
  refine ⟨fun pins s σ H Q I h => ?_⟩
  refine wpAny_Call_Name_kw (ld_blt (u := .builtin "max") I hg hm (by decide +kernel) ?_)
  refine PyProof.Rows.callWith_kw (thn (ha.run pos pins s σ H _ I h) fun us s1 ⟨vs, H1, I1, r1, q1⟩ => ?_) he hpl (by rfl) (by rfl)
  show wpAny _ _ (evalAll [(do let v ← eval (.Name "len" q) X.env; standAt pos; pure v)]) _ _ s1
  refine wpAny_evalAll_cons (wpAny_bind (ld_blt (u := .builtin "len") I1 hg2 hm2 (by decide +kernel) (wpAny_bind (wpAny_standAt (wpAny_pure (wpAny_evalAll_nil ?_))))))
  obtain ⟨a, b, c, xs, ys, rfl, hl, hb, hc2, qq⟩ := q1
  rw [Vals.ref1 r1]
  obtain ⟨its, rv, isL, _⟩ := I1.list hl
  obtain ⟨u, u', rfl, ru, ru'⟩ := vals2 rv
  obtain rfl : u = Value.ref b := ru
  obtain rfl : u' = Value.ref c := ru'
  obtain ⟨i1, v1, t1, z1⟩ := I1.tuple hb
  obtain ⟨i2, v2, t2, z2⟩ := I1.tuple hc2
  have l1 := v1.length
  have l2 := v2.length
  have fit : ∀ {n : Nat}, n ≤ sizeLine → ((n : Nat) : Int) < 2 ^ 63 := fun {n} z => by
    rw [show sizeLine = 16777216 by decide] at z
    omega
  refine maxKey (vs := [Value.ref b, Value.ref c]) (fun i => if i = 0 then (i1.length : Int) else i2.length) (I1.ok.hd hc) isL.isList (Nat.zero_lt_succ _) (fun i v hv h' tk st => ?_) (fun i v h' tk' hv top st => ?_)
  · match i, hv with
    | 0, hv =>
      cases hv
      refine PyProof.Rows.len_tuple (isT_stay st t1) (fit (by rw [List.size_toArray, ← l1]; exact z1)) ⟨_, _, _, rfl, by rw [List.size_toArray]; rfl, fun _ _ e => e⟩
    | 1, hv =>
      cases hv
      refine PyProof.Rows.len_tuple (isT_stay st t2) (fit (by rw [List.size_toArray, ← l2]; exact z2)) ⟨_, _, _, rfl, by rw [List.size_toArray]; rfl, fun _ _ e => e⟩
  · match i, hv with
    | 0, hv =>
      cases hv
      have := (top 1 (Nat.lt_succ_self 1)).1
      replace this : (i2.length : Int) ≤ i1.length := this
      rw [if_neg (by omega)] at qq
      exact ⟨V.ref _, H1, I1.kept st, rfl, qq⟩
    | 1, hv =>
      cases hv
      have := (top 0 (Nat.zero_lt_succ _)).2 (by decide)
      replace this : (i1.length : Int) < i2.length := this
      rw [if_pos (by omega)] at qq
      exact ⟨V.ref _, H1, I1.kept st, rfl, qq⟩

/-! ### a min-max theorem: demands are rectangles, intervals are points -/
abbrev Dem := Int × Int × Int
def sv (z : Int × Int) (d : Dem) : Bool := decide (d.2.1 ≤ z.1 ∧ z.1 ≤ d.1 ∧ d.1 ≤ z.2 ∧ z.2 ≤ d.2.2)
def cf (d e : Dem) : Bool := decide ((e.2.1 ≤ d.1 ∧ d.1 ≤ e.2.2) ∧ d.2.1 ≤ e.1 ∧ e.1 ≤ d.2.2)
def Vd (d : Dem) : Prop := d.2.1 ≤ d.1 ∧ d.1 ≤ d.2.2
theorem sv_iff' {z : Int × Int} {d : Dem} : sv z d = true ↔ d.2.1 ≤ z.1 ∧ z.1 ≤ d.1 ∧ d.1 ≤ z.2 ∧ z.2 ≤ d.2.2 := decide_eq_true_iff
theorem cf_iff {d e : Dem} : cf d e = true ↔ (e.2.1 ≤ d.1 ∧ d.1 ≤ e.2.2) ∧ d.2.1 ≤ e.1 ∧ e.1 ≤ d.2.2 := decide_eq_true_iff
theorem cf_comm (d e : Dem) : cf d e = cf e d := by
  rw [Bool.eq_iff_iff, cf_iff, cf_iff]
  exact ⟨fun h => ⟨h.2, h.1⟩, fun h => ⟨h.2, h.1⟩⟩
theorem cf_of_sv {z : Int × Int} {d e : Dem} (h1 : sv z d = true) (h2 : sv z e = true) : cf d e = true := by
  rw [sv_iff'] at h1 h2
  rw [cf_iff]
  omega
theorem cf_self {d : Dem} (h : Vd d) : cf d d = true := by
  rw [cf_iff]
  exact ⟨h, h⟩
/-- how many of the demands the point serves -/
def cov (L : List Dem) (z : Int × Int) : Nat := L.countP (sv z)
theorem cov_nil (z : Int × Int) : cov [] z = 0 := rfl
theorem cov_cons (d : Dem) (L : List Dem) (z : Int × Int) : cov (d :: L) z = cov L z + (if sv z d = true then 1 else 0) := List.countP_cons
theorem cov_app (L M : List Dem) (z : Int × Int) : cov (L ++ M) z = cov L z + cov M z := List.countP_append
theorem cov_perm {L M : List Dem} (h : L.Perm M) (z : Int × Int) : cov L z = cov M z := h.countP_eq _
/-- no two of them conflict -/
def Ind (L : List Dem) : Prop := L.Pairwise fun d e => cf d e = false
theorem Ind.cov_le {L : List Dem} (h : Ind L) (z : Int × Int) : cov L z ≤ 1 := by
  induction L with
  | nil => exact Nat.zero_le _
  | cons d L ih =>
    have p := List.pairwise_cons.mp h
    rw [cov_cons]
    split
    · next s =>
      have e : cov L z = 0 := List.countP_eq_zero.mpr fun e he c => by
        have := p.1 e he
        rw [cf_of_sv s c] at this
        cases this
      omega
    · have := ih p.2
      omega
structure Fam (F : List Dem) : Prop where
  ok : ∀ d ∈ F, 0 ≤ d.2.1 ∧ Vd d
  ex : ∀ d ∈ F, ∀ e ∈ F, d.1 < e.1 → d.2.1 < e.2.1 → d.2.2 < e.2.2 → cf d e = true → (d.1, e.2) ∈ F ∧ (e.1, d.2) ∈ F
  cross : ∀ d ∈ F, ∀ e ∈ F, cf d e = true → d.2 = e.2 ∨ (d.2.1 < e.2.1 ∧ d.2.2 < e.2.2) ∨ (e.2.1 < d.2.1 ∧ e.2.2 < d.2.2)
theorem sv_exch {z : Int × Int} {d e : Dem} (h1 : d.1 < e.1) (h2 : d.2.1 < e.2.1) (h3 : d.2.2 < e.2.2) (c : cf d e = true) :
    (if sv z (d.1, e.2) = true then 1 else 0) + (if sv z (e.1, d.2) = true then 1 else 0) ≤ (if sv z d = true then 1 else 0) + (if sv z e = true then 1 else 0) := by
  have c := cf_iff.mp c
  simp only [sv_iff']
  split <;> split <;> split <;> split <;> omega
def pot (L : List Dem) : Int := (L.map fun d => d.1 * (d.2.1 + d.2.2)).sum
theorem pot_cons (d : Dem) (L : List Dem) : pot (d :: L) = d.1 * (d.2.1 + d.2.2) + pot L := by
  unfold pot
  rw [List.map_cons, List.sum_cons]
theorem pot_nonneg {L : List Dem} (h : ∀ d ∈ L, 0 ≤ d.2.1 ∧ Vd d) : 0 ≤ pot L := by
  induction L with
  | nil => exact Int.le_refl _
  | cons d L ih =>
    rw [pot_cons]
    have := ih fun e he => h e (List.mem_cons_of_mem _ he)
    have q := h d List.mem_cons_self
    unfold Vd at q
    have : 0 ≤ d.1 * (d.2.1 + d.2.2) := Int.mul_nonneg (by omega) (by omega)
    omega
theorem pot_perm {L M : List Dem} (h : L.Perm M) : pot L = pot M := by
  induction h with
  | nil => rfl
  | cons x _ ih => rw [pot_cons, pot_cons, ih]
  | swap x y l =>
    rw [pot_cons, pot_cons, pot_cons, pot_cons]
    omega
  | trans _ _ i1 i2 => rw [i1, i2]
def Corner (d e : Dem) : Prop := cf d e = true ∧ d.1 < e.1 ∧ d.2.1 < e.2.1 ∧ d.2.2 < e.2.2
theorem pull2 {L : List Dem} {d e : Dem} (hd : d ∈ L) (he : e ∈ L) (ne : d ≠ e) : ∃ R, L.Perm (d :: e :: R) := by
  have p1 := List.perm_cons_erase hd
  have he' : e ∈ L.erase d := (List.mem_erase_of_ne (Ne.symm ne)).mpr he
  exact ⟨(L.erase d).erase e, p1.trans ((List.perm_cons_erase he').cons d)⟩
theorem uncross {F : List Dem} (fam : Fam F) : ∀ (n : Nat) (L : List Dem), (∀ d ∈ L, d ∈ F) → (pot L).toNat < n → ∃ M : List Dem, (∀ d ∈ M, d ∈ F) ∧ M.length = L.length ∧ (∀ z, cov M z ≤ cov L z) ∧ ∀ d ∈ M, ∀ e ∈ M, ¬ Corner d e := by
  intro n
  induction n with
  | zero => exact fun _ _ h => absurd h (Nat.not_lt_zero _)
  | succ n ih =>
    intro L hL hn
    by_cases c : ∀ d ∈ L, ∀ e ∈ L, ¬ Corner d e
    · exact ⟨L, hL, rfl, fun _ => Nat.le_refl _, c⟩
    · have ⟨d, hd, e, he, k⟩ : ∃ d ∈ L, ∃ e ∈ L, Corner d e := by
        refine Classical.byContradiction fun z => c fun d hd e he k => z ⟨d, hd, e, he, k⟩
      obtain ⟨k1, k2, k3, k4⟩ := k
      have ne : d ≠ e := fun z => by
        subst z
        exact absurd k2 (Int.lt_irrefl _)
      obtain ⟨R, pm⟩ := pull2 hd he ne
      have x := fam.ex d (hL d hd) e (hL e he) k2 k3 k4 k1
      have hR : ∀ f ∈ R, f ∈ F := fun f hf => hL f (pm.mem_iff.mpr (List.mem_cons_of_mem _ (List.mem_cons_of_mem _ hf)))
      have hN : ∀ f ∈ (d.1, e.2) :: (e.1, d.2) :: R, f ∈ F := fun f hf => by
        rcases List.mem_cons.mp hf with rfl | hf
        · exact x.1
        rcases List.mem_cons.mp hf with rfl | hf
        · exact x.2
        · exact hR f hf
      have less : pot ((d.1, e.2) :: (e.1, d.2) :: R) < pot L := by
        rw [pot_perm pm, pot_cons, pot_cons, pot_cons, pot_cons]
        show d.1 * (e.2.1 + e.2.2) + (e.1 * (d.2.1 + d.2.2) + pot R) < d.1 * (d.2.1 + d.2.2) + (e.1 * (e.2.1 + e.2.2) + pot R)
        have : 0 < (e.1 - d.1) * ((e.2.1 + e.2.2) - (d.2.1 + d.2.2)) := Int.mul_pos (by omega) (by omega)
        rw [Int.sub_mul, Int.mul_sub, Int.mul_sub] at this
        omega
      have nn := pot_nonneg fun f hf => fam.ok f (hN f hf)
      obtain ⟨M, m1, m2, m3, m4⟩ := ih _ hN (by omega)
      refine ⟨M, m1, by rw [m2, pm.length_eq]; rfl, fun z => Nat.le_trans (m3 z) ?_, m4⟩
      rw [cov_perm pm, cov_cons, cov_cons, cov_cons, cov_cons]
      have := sv_exch (z := z) k2 k3 k4 k1
      omega
/-- e lies across d -/
def Und (e d : Dem) : Prop := d.2.1 ≤ e.2.1 ∧ e.1 ≤ d.1 ∧ d.2.2 ≤ e.2.2
theorem und_of {F : List Dem} (fam : Fam F) {d e : Dem} (hd : d ∈ F) (he : e ∈ F) (c : cf d e = true) (n1 : ¬ Corner d e) (n2 : ¬ Corner e d) : Und d e ∨ Und e d := by
  unfold Und
  rcases fam.cross d hd e he c with h | h | h
  · rw [h]
    omega
  · have : ¬ d.1 < e.1 := fun z => n1 ⟨c, z, h.1, h.2⟩
    omega
  · have : ¬ e.1 < d.1 := fun z => n2 ⟨by rw [cf_comm]; exact c, z, h.1, h.2⟩
    omega
def leD (d e : Dem) : Bool := decide (d.1 - d.2.1 < e.1 - e.2.1 ∨ (d.1 - d.2.1 = e.1 - e.2.1 ∧ e.2.2 ≤ d.2.2))
theorem leD_total (a b : Dem) : (leD a b || leD b a) = true := by
  unfold leD
  rw [Bool.or_eq_true, decide_eq_true_eq, decide_eq_true_eq]
  omega
theorem leD_trans (a b c : Dem) : leD a b = true → leD b c = true → leD a c = true := by
  unfold leD
  rw [decide_eq_true_eq, decide_eq_true_eq, decide_eq_true_eq]
  omega
theorem und_le {F : List Dem} (fam : Fam F) {f e : Dem} (hf : f ∈ F) (he : e ∈ F) (c : cf f e = true) (n1 : ¬ Corner f e) (n2 : ¬ Corner e f) (le : leD f e = true) : Und f e := by
  have le := of_decide_eq_true le
  rcases und_of fam hf he c n1 n2 with h | h
  · exact h
  · unfold Und at *
    omega
def gre : Nat → List Dem → List Dem
  | 0, _ => []
  | _, [] => []
  | n + 1, d :: R => d :: gre n (R.filter fun e => !cf d e)
def lef : Nat → List Dem → List Dem
  | 0, L => L
  | _, [] => []
  | n + 1, d :: R => (R.filter fun e => cf d e) ++ lef n (R.filter fun e => !cf d e)
theorem gre_lef : ∀ (n : Nat) (L : List Dem), L.Perm (gre n L ++ lef n L)
  | 0, L => List.Perm.refl _
  | n + 1, [] => List.Perm.refl _
  | n + 1, d :: R => by
    have ih := gre_lef n (R.filter fun e => !cf d e)
    show (d :: R).Perm (d :: (gre n (R.filter fun e => !cf d e) ++ ((R.filter fun e => cf d e) ++ lef n (R.filter fun e => !cf d e))))
    refine List.Perm.cons d ?_
    have p1 := (List.filter_append_perm (fun e => cf d e) R).symm
    refine p1.trans ?_
    refine ((List.Perm.refl (R.filter fun e => cf d e)).append ih).trans ?_
    rw [← List.append_assoc, ← List.append_assoc]
    exact List.perm_append_comm.append_right _
theorem gre_sub (n : Nat) (L : List Dem) : ∀ d ∈ gre n L, d ∈ L := fun d hd => (gre_lef n L).mem_iff.mpr (List.mem_append_left _ hd)
theorem lef_sub (n : Nat) (L : List Dem) : ∀ d ∈ lef n L, d ∈ L := fun d hd => (gre_lef n L).mem_iff.mpr (List.mem_append_right _ hd)
theorem gre_ind : ∀ (n : Nat) (L : List Dem), Ind (gre n L)
  | 0, _ => List.Pairwise.nil
  | n + 1, [] => List.Pairwise.nil
  | n + 1, d :: R => by
    refine List.pairwise_cons.mpr ⟨fun e he => ?_, gre_ind n _⟩
    have := (List.mem_filter.mp (gre_sub n _ e he)).2
    rw [Bool.not_eq_true'] at this
    exact this
theorem gre_in : ∀ (n : Nat) (A B : List Dem) (e : Dem), A.length < n → e ∈ gre n (A ++ e :: B) ∨ ∃ f ∈ A, cf f e = true
  | 0, _, _, _, h => absurd h (Nat.not_lt_zero _)
  | n + 1, [], B, e, _ => .inl List.mem_cons_self
  | n + 1, d :: A, B, e, h => by
    by_cases c : cf d e = true
    · exact .inr ⟨d, List.mem_cons_self, c⟩
    · have eq : (A ++ e :: B).filter (fun x => !cf d x) = A.filter (fun x => !cf d x) ++ e :: B.filter (fun x => !cf d x) := by
        rw [List.filter_append, List.filter_cons_of_pos (by rw [Bool.not_eq_true] at c; rw [c]; rfl)]
      have l : (A.filter fun x => !cf d x).length < n := Nat.lt_of_le_of_lt (List.length_filter_le _ _) (Nat.lt_of_succ_lt_succ h)
      rcases gre_in n (A.filter fun x => !cf d x) (B.filter fun x => !cf d x) e l with g | ⟨f, hf, k⟩
      · refine .inl (List.mem_cons_of_mem _ ?_)
        show e ∈ gre n ((A ++ e :: B).filter fun x => !cf d x)
        rw [eq]
        exact g
      · exact .inr ⟨f, List.mem_cons_of_mem _ (List.mem_filter.mp hf).1, k⟩
theorem cov_lt {z w : Int × Int} {f : Dem} : ∀ {L : List Dem}, f ∈ L → (∀ c ∈ L, sv z c = true → sv w c = true) → sv z f = false → sv w f = true → cov L z < cov L w
  | [], hf, _, _, _ => nomatch hf
  | d :: L, hf, h, n, y => by
    rw [cov_cons, cov_cons]
    have le : cov L z ≤ cov L w := List.countP_mono_left fun c hc => h c (List.mem_cons_of_mem _ hc)
    have h1 := h d List.mem_cons_self
    rcases List.mem_cons.mp hf with rfl | hf
    · rw [n, y]
      simp
      omega
    · have ih := cov_lt hf (fun c hc => h c (List.mem_cons_of_mem _ hc)) n y
      split
      · next s => rw [if_pos (h1 s)]; omega
      · split <;> omega
theorem first_of {p : Dem → Bool} : ∀ {L : List Dem}, (∃ d ∈ L, p d = true) → ∃ A e B, L = A ++ e :: B ∧ p e = true ∧ ∀ f ∈ A, p f = false
  | [], h => by
    obtain ⟨d, hd, _⟩ := h
    cases hd
  | d :: L, h => by
    by_cases c : p d = true
    · exact ⟨[], d, L, rfl, c, fun f hf => nomatch hf⟩
    · obtain ⟨x, hx, px⟩ := h
      rcases List.mem_cons.mp hx with rfl | hx
      · exact absurd px c
      · obtain ⟨A, e, B, r1, r2, r3⟩ := first_of ⟨x, hx, px⟩
        refine ⟨d :: A, e, B, by rw [r1]; rfl, r2, fun f hf => ?_⟩
        rcases List.mem_cons.mp hf with rfl | hf
        · exact Bool.not_eq_true _ ▸ c
        · exact r3 f hf
theorem lef_cov {F : List Dem} (fam : Fam F) {L : List Dem} (hL : ∀ d ∈ L, d ∈ F) (nc : ∀ d ∈ L, ∀ e ∈ L, ¬ Corner d e) (srt : L.Pairwise fun d e => leD d e = true) {m : Nat} (hm : ∀ z, cov L z ≤ m + 1) (z : Int × Int) : cov (lef L.length L) z ≤ m := by
  have sum := cov_perm (gre_lef L.length L) z
  rw [cov_app] at sum
  have top := hm z
  by_cases g : ∃ d ∈ gre L.length L, sv z d = true
  · have : 0 < cov (gre L.length L) z := List.countP_pos_iff.mpr g
    omega
  · by_cases s : ∃ d ∈ L, sv z d = true
    · obtain ⟨A, e, B, rfl, se, nA⟩ := first_of s
      have la : A.length < (A ++ e :: B).length := by
        rw [List.length_append, List.length_cons]
        omega
      rcases gre_in _ A B e la with q | ⟨f, hf, k⟩
      · exact absurd ⟨e, q, se⟩ g
      · have mf : f ∈ A ++ e :: B := List.mem_append_left _ hf
        have me : e ∈ A ++ e :: B := List.mem_append_right _ List.mem_cons_self
        have pw := List.pairwise_append.mp srt
        have u1 := und_le fam (hL f mf) (hL e me) k (nc f mf e me) (nc e me f mf) (pw.2.2 f hf e List.mem_cons_self)
        have w : cov (A ++ e :: B) z < cov (A ++ e :: B) (f.1, z.2) := by
          have vf := (fam.ok f (hL f mf)).2
          have ve := sv_iff'.mp se
          refine cov_lt mf (fun c hc sc => ?_) (nA f hf) ?_
          · have u2 : Und e c := by
              rcases List.mem_append.mp hc with h | h
              · rw [nA c h] at sc
                cases sc
              · rcases List.mem_cons.mp h with rfl | h
                · exact ⟨Int.le_refl _, Int.le_refl _, Int.le_refl _⟩
                · exact und_le fam (hL e me) (hL c hc) (cf_of_sv se sc) (nc e me c hc) (nc c hc e me) ((List.pairwise_cons.mp pw.2.1).1 c h)
            have sc := sv_iff'.mp sc
            rw [sv_iff']
            unfold Und Vd at *
            show c.2.1 ≤ f.1 ∧ f.1 ≤ c.1 ∧ c.1 ≤ z.2 ∧ z.2 ≤ c.2.2
            omega
          · rw [sv_iff']
            unfold Und Vd at *
            show f.2.1 ≤ f.1 ∧ f.1 ≤ f.1 ∧ f.1 ≤ z.2 ∧ z.2 ≤ f.2.2
            omega
        have := hm (f.1, z.2)
        omega
    · have : cov L z = 0 := List.countP_eq_zero.mpr fun d hd c => s ⟨d, hd, c⟩
      omega
theorem len_le {F : List Dem} (fam : Fam F) {k : Nat} (hk : ∀ I, Ind I → (∀ d ∈ I, d ∈ F) → I.length ≤ k) : ∀ (m : Nat) (L : List Dem), (∀ d ∈ L, d ∈ F) → (∀ d ∈ L, ∀ e ∈ L, ¬ Corner d e) → (∀ z, cov L z ≤ m) → L.length ≤ m * k
  | 0, L, hL, _, hm => by
    cases L with
    | nil => exact Nat.zero_le _
    | cons d L =>
      have v := (fam.ok d (hL d List.mem_cons_self)).2
      have := hm (d.1, d.1)
      rw [cov_cons, if_pos (sv_iff'.mpr (by unfold Vd at v; exact ⟨v.1, Int.le_refl _, Int.le_refl _, v.2⟩))] at this
      omega
  | m + 1, L, hL, nc, hm => by
    have pm := List.mergeSort_perm L leD
    have srt := List.pairwise_mergeSort leD_trans leD_total L
    generalize L.mergeSort leD = S at *
    have hS : ∀ d ∈ S, d ∈ L := fun d hd => pm.mem_iff.mp hd
    have hl := lef_cov fam (fun d hd => hL d (hS d hd)) (fun d hd e he => nc d (hS d hd) e (hS e he)) srt (m := m) (fun z => by rw [cov_perm pm]; exact hm z)
    have sub := lef_sub S.length S
    have ih := len_le fam hk m (lef S.length S) (fun d hd => hL d (hS d (sub d hd))) (fun d hd e he => nc d (hS d (sub d hd)) e (hS e (sub e he))) hl
    have g := hk _ (gre_ind S.length S) fun d hd => hL d (hS d (gre_sub _ _ d hd))
    have e := (gre_lef S.length S).length_eq
    have e2 := pm.length_eq
    rw [List.length_append] at e
    rw [Nat.add_mul]
    omega
theorem sum_lt {α : Type} {f : α → Nat} : ∀ {Z : List α} {w : α}, w ∈ Z → (∀ x ∈ Z, f x ≤ 1) → f w = 0 → (Z.map f).sum + 1 ≤ Z.length
  | [], _, h, _, _ => nomatch h
  | x :: Z, w, h, h1, h0 => by
    have le : ∀ Y : List α, (∀ x ∈ Y, f x ≤ 1) → (Y.map f).sum ≤ Y.length := by
      intro Y
      induction Y with
      | nil => exact fun _ => Nat.le_refl _
      | cons y Y ih =>
        intro hy
        have := ih fun x hx => hy x (List.mem_cons_of_mem _ hx)
        have := hy y List.mem_cons_self
        rw [List.map_cons, List.sum_cons, List.length_cons]
        omega
    have r := le Z fun x hx => h1 x (List.mem_cons_of_mem _ hx)
    have hx := h1 x List.mem_cons_self
    rw [List.map_cons, List.sum_cons, List.length_cons]
    rcases List.mem_cons.mp h with rfl | h
    · omega
    · have := sum_lt h (fun x hx => h1 x (List.mem_cons_of_mem _ hx)) h0
      omega
theorem cov_flat {α : Type} (I : α → List Dem) (z : Int × Int) : ∀ Z : List α, cov (Z.flatMap I) z = (Z.map fun w => cov (I w) z).sum
  | [] => rfl
  | x :: Z => by
    rw [List.flatMap_cons, cov_app, cov_flat I z Z, List.map_cons, List.sum_cons]
theorem len_flat {α β : Type} (I : α → List β) {k : Nat} : ∀ Z : List α, (∀ w ∈ Z, (I w).length = k) → (Z.flatMap I).length = Z.length * k
  | [], _ => by simp
  | x :: Z, h => by
    rw [List.flatMap_cons, List.length_append, len_flat I Z fun w hw => h w (List.mem_cons_of_mem _ hw), h x List.mem_cons_self, List.length_cons, Nat.add_mul]
    omega
theorem top_of (F : List Dem) : ∃ M : Nat, ∀ d ∈ F, d.2.2 ≤ M := by
  induction F with
  | nil => exact ⟨0, fun d hd => nomatch hd⟩
  | cons d F ih =>
    obtain ⟨M, h⟩ := ih
    refine ⟨M + d.2.2.toNat, fun e he => ?_⟩
    rcases List.mem_cons.mp he with rfl | he
    · omega
    · have := h e he
      omega
def box (M : Nat) : List (Int × Int) := (List.range (M + 1)).flatMap fun (x : Nat) => (List.range (M + 1)).map fun (y : Nat) => ((x : Int), (y : Int))
theorem mem_box {M : Nat} {z : Int × Int} (h : 0 ≤ z.1 ∧ z.1 ≤ M) (h2 : 0 ≤ z.2 ∧ z.2 ≤ M) : z ∈ box M := by
  unfold box
  refine List.mem_flatMap.mpr ⟨z.1.toNat, List.mem_range.mpr (by omega), List.mem_map.mpr ⟨z.2.toNat, List.mem_range.mpr (by omega), ?_⟩⟩
  exact Prod.ext (by show ((z.1.toNat : Nat) : Int) = z.1; omega) (by show ((z.2.toNat : Nat) : Int) = z.2; omega)
/-- a point that every largest selection has to pay for -/
theorem hits {F : List Dem} (fam : Fam F) {k : Nat} (hk : ∀ I, Ind I → (∀ d ∈ I, d ∈ F) → I.length ≤ k + 1) : ∃ z, ∀ I, Ind I → (∀ d ∈ I, d ∈ F) → I.length = k + 1 → ∃ d ∈ I, sv z d = true := by
  refine Classical.byContradiction fun no => ?_
  have miss : ∀ z, ∃ I, Ind I ∧ (∀ d ∈ I, d ∈ F) ∧ I.length = k + 1 ∧ ∀ d ∈ I, sv z d = false := fun z => by
    refine Classical.byContradiction fun h => no ⟨z, fun I i1 i2 i3 => Classical.byContradiction fun n => h ⟨I, i1, i2, i3, fun d hd => ?_⟩⟩
    rw [← Bool.not_eq_true]
    exact fun s => n ⟨d, hd, s⟩
  obtain ⟨I, hI⟩ := Classical.axiomOfChoice miss
  obtain ⟨M, hM⟩ := top_of F
  have hsub : ∀ d ∈ (box M).flatMap I, d ∈ F := fun d hd => by
    obtain ⟨w, _, h⟩ := List.mem_flatMap.mp hd
    exact (hI w).2.1 d h
  have hlen := len_flat I (k := k + 1) (box M) fun w _ => (hI w).2.2.1
  have pos : 0 < (box M).length := List.length_pos_of_mem (mem_box (M := M) (z := (0, 0)) ⟨by decide, by show (0 : Int) ≤ M; omega⟩ ⟨by decide, by show (0 : Int) ≤ M; omega⟩)
  have hc : ∀ z, cov ((box M).flatMap I) z ≤ (box M).length - 1 := fun z => by
    by_cases b : (0 ≤ z.1 ∧ z.1 ≤ M) ∧ 0 ≤ z.2 ∧ z.2 ≤ M
    · have s := sum_lt (f := fun w => cov (I w) z) (mem_box b.1 b.2) (fun x _ => (hI x).1.cov_le z) (List.countP_eq_zero.mpr fun d hd c => by
        rw [(hI z).2.2.2 d hd] at c
        cases c)
      rw [cov_flat]
      omega
    · have : cov ((box M).flatMap I) z = 0 := List.countP_eq_zero.mpr fun d hd c => b (by
        have c := sv_iff'.mp c
        have o := fam.ok d (hsub d hd)
        have t := hM d (hsub d hd)
        unfold Vd at o
        omega)
      omega
  obtain ⟨N, n1, n2, n3, n4⟩ := uncross fam _ _ hsub (Nat.lt_succ_self _)
  have := len_le fam hk ((box M).length - 1) N n1 n4 fun z => Nat.le_trans (n3 z) (hc z)
  rw [n2, hlen] at this
  obtain ⟨b, eb⟩ : ∃ b, (box M).length = b + 1 := ⟨(box M).length - 1, by omega⟩
  rw [eb, Nat.add_sub_cancel, Nat.add_mul, Nat.one_mul] at this
  omega
theorem Fam.rest {F : List Dem} (fam : Fam F) (z : Int × Int) : Fam (F.filter fun d => !sv z d) := by
  have hs : ∀ d, d ∈ F.filter (fun d => !sv z d) → d ∈ F ∧ sv z d = false := fun d hd => by
    have := List.mem_filter.mp hd
    exact ⟨this.1, by rw [← Bool.not_eq_true']; exact this.2⟩
  refine ⟨fun d hd => fam.ok d (hs d hd).1, fun d hd e he h1 h2 h3 c => ?_, fun d hd e he c => fam.cross d (hs d hd).1 e (hs e he).1 c⟩
  have x := fam.ex d (hs d hd).1 e (hs e he).1 h1 h2 h3 c
  have y := sv_exch (z := z) h1 h2 h3 c
  rw [(hs d hd).2, (hs e he).2] at y
  simp at y
  exact ⟨List.mem_filter.mpr ⟨x.1, by rw [y.1]; rfl⟩, List.mem_filter.mpr ⟨x.2, by rw [y.2]; rfl⟩⟩
/-- as many points as the largest selection has serve all -/
theorem min_max : ∀ (k : Nat) {F : List Dem}, Fam F → (∀ I, Ind I → (∀ d ∈ I, d ∈ F) → I.length ≤ k) → ∃ S : List (Int × Int), S.length ≤ k ∧ ∀ d ∈ F, ∃ z ∈ S, sv z d = true
  | 0, F, fam, hk => ⟨[], Nat.le_refl _, fun d hd => by
    have := hk [d] (List.pairwise_singleton _ _) fun e he => by
      rw [List.mem_singleton.mp he]
      exact hd
    exact absurd this (by simp)⟩
  | k + 1, F, fam, hk => by
    obtain ⟨z, hz⟩ := hits fam hk
    obtain ⟨S, s1, s2⟩ := min_max k (fam.rest z) fun I i1 i2 => by
      have sub : ∀ d ∈ I, d ∈ F ∧ sv z d = false := fun d hd => by
        have := List.mem_filter.mp (i2 d hd)
        exact ⟨this.1, by rw [← Bool.not_eq_true']; exact this.2⟩
      have le := hk I i1 fun d hd => (sub d hd).1
      by_cases e : I.length = k + 1
      · obtain ⟨d, hd, s⟩ := hz I i1 (fun d hd => (sub d hd).1) e
        rw [(sub d hd).2] at s
        cases s
      · omega
    refine ⟨z :: S, by rw [List.length_cons]; omega, fun d hd => ?_⟩
    by_cases s : sv z d = true
    · exact ⟨z, List.mem_cons_self, s⟩
    · obtain ⟨w, hw, q⟩ := s2 d (List.mem_filter.mpr ⟨hd, by rw [Bool.not_eq_true] at s; rw [s]; rfl⟩)
      exact ⟨w, List.mem_cons_of_mem _ hw, q⟩

/-! ### instances: len(o), str(o) by own defs; t += u; o.m(k = v) -/
section
variable {prog : Program} {w : World} {A : Around} {E : Value → Shared → Prop} {s : Shared}
theorem iconcat_meets {T id : String} {B : Builtin} {a b : Value} {S : PySem.Spec} {Q : Value → Shared → Prop} (ha : s.TypeIs a T) (hb : s.TypeIs b T) (hno : typeLookup (.type T) (dunderI "add") = pure none)
    (hfill : fillsNumberSlot (.type T) "add" = pure false) (hseq : seqSlot? (.type T) "__add__" = pure (some (.builtin id))) (slot : Slot T "__add__" id)
    (entry : entryFor table id = some B) (args : argsOk id ⟨[a, b], []⟩) (g : Meets (B ⟨[a, b], []⟩) S) (h : S A (wants Q E) s) : wpAny (model prog w) A (inplaceOp .Add a b) Q E s :=
  wpAny_inplaceOp_concat ha hb hno hfill hseq (call_meets slot ha entry args g h)
theorem noI_tuple_add : typeLookup (.type "tuple") (dunderI "add") = pure none := by rw [typeLookup_type, builtinLookup_eq_fast]; kernel_rfl
theorem icat_tup0 {t b : Addr} {ws : List Value} {Q : Value → Shared → Prop} (ht : IsTup s.heap t ([] : List Value).toArray) (hb : IsTup s.heap b ws.toArray) (h : Q (.ref b) s) : wpAny (model prog w) A (inplaceOp .Add (.ref t) (.ref b)) Q E s := by
  obtain ⟨⟨cls, dd, data, sl⟩, ho, hc, n, hd⟩ := id ht
  obtain ⟨⟨cls2, dd2, data2, sl2⟩, ho2, hc2, n2, hd2⟩ := id hb
  simp only at hc hd hc2 hd2
  subst hc hd hc2 hd2
  exact iconcat_meets ⟨_, ho, rfl⟩ ⟨_, ho2, rfl⟩ noI_tuple_add noFill_tuple_add seq_tuple_add PySem.F.slot_tuple_add PySem.F.entry_tuple_add (PySem.F.args_tuple_add_2 _ _)
    (tuple_addW0 t b ([] : List Value).toArray ws.toArray n n2 dd dd2 sl sl2 (by simp)) ⟨ho, ho2, h⟩
theorem icat_tup {t b : Addr} {vs ws : List Value} {Q : Value → Shared → Prop} (ht : IsTup s.heap t vs.toArray) (hb : IsTup s.heap b ws.toArray) (hv : vs ≠ [])
    (h1 : ws = [] → Q (.ref t) s) (h2 : ws ≠ [] → Q (.ref s.heap.objs.size) { s with heap := s.heap.push { cls := .type "tuple", data := .seq (vs ++ ws).toArray } })
    (hsz : vs.length + ws.length ≤ sizeLine) : wpAny (model prog w) A (inplaceOp .Add (.ref t) (.ref b)) Q E s := by
  obtain ⟨⟨cls, dd, data, sl⟩, ho, hc, n, hd⟩ := id ht
  obtain ⟨⟨cls2, dd2, data2, sl2⟩, ho2, hc2, n2, hd2⟩ := id hb
  simp only at hc hd hc2 hd2
  subst hc hd hc2 hd2
  have e : vs.toArray ++ ws.toArray = (vs ++ ws).toArray := by simp
  by_cases hw : ws = []
  · exact iconcat_meets ⟨_, ho, rfl⟩ ⟨_, ho2, rfl⟩ noI_tuple_add noFill_tuple_add seq_tuple_add PySem.F.slot_tuple_add PySem.F.entry_tuple_add (PySem.F.args_tuple_add_2 _ _)
      (tuple_addW1 t b vs.toArray ws.toArray n n2 dd dd2 sl sl2 (by simpa using hv) (by simp [hw])) ⟨ho, ho2, h1 hw⟩
  · refine iconcat_meets ⟨_, ho, rfl⟩ ⟨_, ho2, rfl⟩ noI_tuple_add noFill_tuple_add seq_tuple_add PySem.F.slot_tuple_add PySem.F.entry_tuple_add (PySem.F.args_tuple_add_2 _ _)
      (tuple_addW2 t b vs.toArray ws.toArray n n2 dd dd2 sl sl2 (by simpa using hv) (by simpa using hw) (by rw [List.size_toArray, List.size_toArray]; exact hsz)) ⟨ho, ho2, ?_⟩
    rw [e]
    exact h2 hw
end
section
variable {X : Cx}
/-- t += u (tuples) -/
theorem in_catA : InOp X .Add (rCatA X.K) := by
  intro pins s σ H x y v u Q I rx ry h
  obtain ⟨a, b, xs, ys, rfl, rfl, ha, hb, hz, q0, q1, q2⟩ := h
  by_cases hx : xs = []
  · subst hx
    cases rx
    cases ry
    obtain ⟨its, r1, p1, _⟩ := I.tuple ha
    obtain ⟨its2, r2, p2, _⟩ := I.tuple hb
    cases r1
    exact icat_tup0 p1 p2 ⟨.ref b, H, I, rfl, q0 rfl⟩
  · cases rx
    cases ry
    obtain ⟨its, r1, p1, _⟩ := I.tuple ha
    obtain ⟨its2, r2, p2, _⟩ := I.tuple hb
    refine icat_tup p1 p2 (fun z => hx (r1.nil_iff.mp z)) (fun z => ⟨.ref a, H, I, rfl, q1 hx (r2.nil_iff.mp z)⟩) (fun z => ?_) (by rw [← r1.length, ← r2.length]; exact hz)
    refine ⟨.ref s.heap.objs.size, _, I.laid (t' := s.toks) (o := .tup (xs ++ ys)) (fun b ob q => Heap.get?_push_of_some _ q) (Nat.le_refl _) ?_, rfl, q2 hx (fun w => z (r2.nil_iff.mpr w)) _ (I.hok.fresh (Nat.le_refl _))⟩
    exact ⟨by rw [List.length_append]; exact hz, _, r1.append r2, IsTup.new _ _⟩
/-- an own def called from within a builtin -/
theorem run_own {A : Around} {CX : CXT} {k : Nat} {f : Addr} {fd : FuncData} {ps : List Str} {sp : Sp} {E : XK} {pins : List (Addr × Obj)} {σ : L2.St} {H : Hp} {s : Shared} {Q : VK} {us : List Value} {vs : List V}
    (F : FnOk X.prog X.w X.K X.mg X.base CX k f fd ps sp) (hb : Binds X.K fd ps []) (hx : Passes CX X E) (hA : Room k A) (fr : A.frames = X.A.frames) (I : Inv X pins σ H s) (r : Vals vs us) (h : sp vs H Q E) :
    wpAny (model X.prog X.w) A (call (.ref f) us) (EP X pins σ Q) X.xe s := by
  have e0 : Env0 X.prog X.w X.K X.mg X.base A X.stack s H := by
    have e := I.env0
    exact ⟨by rw [fr]; exact e.frames, e.mod, e.bs, e.bsz, e.funs, e.frf, e.hok, e.bare⟩
  have hl := F.len _ _ _ _ h
  refine wpAny_call (codeAny_mono (F.run A X.stack s H ⟨us, []⟩ us vs Q E hA e0 (by
    have := hb s us I.kIn (by simpa using r.length.symm.trans hl)
    simpa using this) r h) fun r s' hq => ?_)
  cases r with
  | error e => exact hx pins σ H s e s' I hq
  | ok fl =>
    cases fl with
    | ret w => exact I.after hq
    | next => exact False.elim hq
    | brk => exact False.elim hq
    | cont => exact False.elim hq
theorem ins_inst {pins : List (Addr × Obj)} {σ : L2.St} {H : Hp} {s : Shared} {a C dx : Addr} {fs : List (Str × V)} (I : Inv X pins σ H s) (ha : H a = some (.ins C dx fs)) : ∃ ox od, PySem.W.InstAt s.heap a ox C od := by
  obtain ⟨mA, J, _⟩ := ins_get I.hok ha
  obtain ⟨od, J, _⟩ := J.look
  exact ⟨_, _, J⟩
/-- len(o), o's class with an own __len__ -/
def rLenOwn (C : Addr) (sp : Sp) (E : XK) : List V → Hp → VK → Prop := fun xs H Q => ∃ a dx fs, xs = [V.ref a] ∧ H a = some (.ins C dx fs) ∧ sp [.ref a] H (fun v H' => ∃ n : Int, v = .int n ∧ (0 ≤ n ∧ n < 2 ^ 63) ∧ Q (.int n) H') E
theorem cr_lenOwn {CX : CXT} {k : Nat} {C f : Addr} {fd : FuncData} {ps : List Str} {sp : Sp} {E : XK} (F : FnOk X.prog X.w X.K X.mg X.base CX k f fd ps sp) (hs : PySem.W.findIn X.K (.ref C) "__len__" = some (some (.ref f))) (hf : PySem.W.isFn X.K (.ref f) = true)
    (hb : Binds X.K fd ps []) (hx : Passes CX X E) (hr : Room (k + 1) X.A) : CallR X (.builtin "len") (rLenOwn C sp E) := by
  intro pins s σ H xs us Q I r h
  obtain ⟨a, dx, fs, rfl, ha, hsp⟩ := h
  rw [Vals.ref1 r]
  obtain ⟨ox, od, J⟩ := ins_inst I ha
  obtain ⟨m, hF⟩ := I.fr
  refine PySem.W.len_K hF I.ok.mod.kin J hs hf (wpAny_mono (run_own F hb hx hr.in1 rfl I (us := [.ref a]) (vs := [.ref a]) (.cons rfl .nil) hsp) (fun v s' z => ?_) fun _ _ x => x)
  obtain ⟨v', H', I', rv, n, rfl, hn, q⟩ := z
  obtain ⟨t, rfl⟩ := (show ∃ t, v = Value.int n t from rv)
  exact ⟨hn, .int n, H', I'.tok _, ⟨_, rfl⟩, q⟩
/-- str(o), o's class with an own __str__ -/
def rStrOwn (C : Addr) (sp : Sp) (E : XK) : List V → Hp → VK → Prop := fun xs H Q => ∃ a dx fs, xs = [V.ref a] ∧ H a = some (.ins C dx fs) ∧ sp [.ref a] H (fun v H' => ∃ n : Str, v = .str n ∧ Q (.str n) H') E
theorem cr_strOwn {CX : CXT} {k : Nat} {C f : Addr} {fd : FuncData} {ps : List Str} {sp : Sp} {E : XK} (F : FnOk X.prog X.w X.K X.mg X.base CX k f fd ps sp) (hs : PySem.W.findIn X.K (.ref C) "__str__" = some (some (.ref f))) (hf : PySem.W.isFn X.K (.ref f) = true)
    (hb : Binds X.K fd ps []) (hx : Passes CX X E) (hr : Room (k + 2) X.A) : CallR X (.type "str") (rStrOwn C sp E) := by
  intro pins s σ H xs us Q I r h
  obtain ⟨a, dx, fs, rfl, ha, hsp⟩ := h
  rw [Vals.ref1 r]
  obtain ⟨ox, od, J⟩ := ins_inst I ha
  have h2 : Room k X.A.in1.in1 := hr.in1.in1
  refine PySem.W.kso_call (h2.units0) I.kIn J hs hf (wpAny_mono (run_own F hb hx h2 rfl I (us := [.ref a]) (vs := [.ref a]) (.cons rfl .nil) hsp) (fun v s' z => ?_) fun _ _ x => x)
  obtain ⟨v', H', I', rv, n, rfl, q⟩ := z
  obtain ⟨t, rfl⟩ := (show ∃ t, v = Value.str n t from rv)
  exact ⟨.str n, H', I', ⟨_, rfl⟩, q⟩
/-- o.m(k = v, ..) -/
def tMethK (C : Addr) (m : Str) (n : Nat) (sp : Sp) (gV : List V → List V → List V) (E : XK) (ta : TE) (tk : TA) : TE := fun σ H Q => ta σ H fun x H1 => ∃ a dx fs, x = .ref a ∧ H1 a = some (.ins C dx fs) ∧ fs.lookup m = none ∧
  tk σ H1 fun zs H2 => zs.length = n ∧ sp (gV [.ref a] zs) H2 Q E
theorem pe_methK0 {CX : CXT} {k : Nat} {f C : Addr} {fd : FuncData} {ps ks : List Str} {sp : Sp} {E : XK} {m : Str} {pos apos : Pos} {o : Expr} {kws : List Keyword} {ta : TE} {tk : TA} {g : List Value → List Value → List Value} {gV : List V → List V → List V} {pl : Sem Bool}
    (he : PE X o ta) (c : Cls X.K C) (hm : Meth X.K C m f) (F : FnOk X.prog X.w X.K X.mg X.base CX k f fd ps sp) (hr : Room k X.A) (hb : KBn X.K fd ps 1 ks g gV) (hx : Passes CX X E) (hkw : PK X kws tk)
    (hall : (backToKw pos (keywordEach kws X.env)).all (·.1.isSome) = true := by rfl) (hks : (backToKw pos (keywordEach kws X.env)).filterMap (·.1) = ks := by rfl)
    (hpl : ((backTo pos (starEach [] X.env)).any (·.1) || (backToKw pos (keywordEach kws X.env)).any (·.1.isNone)) = false := by rfl)
    (ht : eval (.Call (.Attribute o m apos) [] kws pos) X.env = (do
      let ov ← eval o X.env
      standAt apos.atName
      let (f, first) ← holding [ov] (getMethod ov m pl)
      callWith pos f first (backTo pos (starEach [] X.env)) (backToKw pos (keywordEach kws X.env))) := by rfl) :
    PE X (.Call (.Attribute o m apos) [] kws pos) (tMethK C m ks.length sp gV E ta tk) := by
  refine ⟨fun pins s σ H Q I h => ?_⟩
  refine PySem.W.methodCall_KW (pl := pl) (thn (he.run pins s σ H _ I h) fun u s1 ⟨x, H1, I1, rx, a, dx, fs, ex, ea, l, q⟩ => ?_) ht
  subst ex
  obtain rfl : u = Value.ref a := rx
  refine getmeth_ok I1 ea c hm l ?_
  refine PySem.W.callWith_KW0 (first := [.ref a]) (h₀ := X.base) I.ok.mod.kin hm.kp hall (thn (hkw.run pos pins s1 σ H1 _ I1 q) fun ws s2 ⟨zs, H2, I2, rz, l2, q2⟩ => ⟨I2.kIn, ?_⟩) hpl
  rw [hks]
  exact run_fnN (us := [.ref a]) (vs := [.ref a]) F hr hb hx I2 (.cons rfl .nil) rz rfl l2 q2
end

/-! ### more of tuples: t == (), t >= u -/
section
variable {X : Cx}
def rEqE (K : PySem.W.Frag) : R2 := fun x y H Q => ∃ (a b : Addr) (xs : List V), x = .ref a ∧ y = .ref b ∧ SqT K H a xs ∧ SqT K H b [] ∧ Q (.bl xs.isEmpty) H
theorem op_eqE (units : X.A.units < cLine) : OpR X (compareOp .Eq) (rEqE X.K) := by
  intro pins s σ H x y v u Q I rx ry h
  obtain ⟨a, b, xs, rfl, rfl, ha, hb, q⟩ := h
  cases rx
  cases ry
  obtain ⟨its, r1, p1, _⟩ := I.tuple ha
  obtain ⟨its2, r2, p2, _⟩ := I.tuple hb
  cases r2
  apply SeqAt.eq_tupleAt (e := fun _ => true) (show s.heap.IsTuple a its.toArray from p1) (show s.heap.IsTuple b ([] : List Value).toArray from p2) units
  · intro j h1 h2
    exact absurd h2 (Nat.not_lt_zero j)
  · refine ⟨.bl xs.isEmpty, H, I, ?_, q⟩
    cases r1 with
    | nil => rfl
    | cons r t => rfl
def rGeT (K : PySem.W.Frag) : R2 := fun x y H Q => ∃ (a b : Addr) (ns ms : List Int), x = .ref a ∧ y = .ref b ∧ SqT K H a (ns.map V.int) ∧ SqT K H b (ms.map V.int) ∧
  Q (.bl (Ob.lexAt (fun j => decide (ns.getD j 0 = ms.getD j 0)) (fun j => decide (ms.getD j 0 ≤ ns.getD j 0)) (decide (ns.length ≥ ms.length)) 0 (min ns.length ms.length))) H
theorem op_geT (units : X.A.units < cLine) : OpR X (compareOp .GtE) (rGeT X.K) := by
  intro pins s σ H x y v u Q I rx ry h
  obtain ⟨a, b, ns, ms, rfl, rfl, ha, hb, q⟩ := h
  cases rx
  cases ry
  obtain ⟨us, r1, p1, _⟩ := I.tuple ha
  obtain ⟨ws, r2, p2, _⟩ := I.tuple hb
  have w1 : IntsAre us ns := Vals.ints r1
  have w2 : IntsAre ws ms := Vals.ints r2
  have l1 : us.toArray.size = ns.length := List.size_toArray.trans w1.length
  have l2 : ws.toArray.size = ms.length := List.size_toArray.trans w2.length
  have g1 : ∀ j (hj : j < us.toArray.size), ∃ t, us.toArray[j] = .int (ns.getD j 0) t := by
    intro j hj
    apply PyProof.Rows.IntsAre.int_at w1
    simp at hj
    simp [hj]
  have g2 : ∀ j (hj : j < ws.toArray.size), ∃ t, ws.toArray[j] = .int (ms.getD j 0) t := by
    intro j hj
    apply PyProof.Rows.IntsAre.int_at w2
    simp at hj
    simp [hj]
  have eqs : ∀ (i j : Int) (t u : Tok), SeqAt.EqAt X.A.in1 s (.int i t) (.int j u) (decide (i = j)) := by
    intro i j t u
    have z : (i == j) = decide (i = j) := by
      by_cases e : i = j
      · rw [decide_eq_true e]
        exact beq_iff_eq.mpr e
      · rw [decide_eq_false e]
        exact beq_eq_false_iff_ne.mpr e
    rw [← z]
    exact SeqAt.EqAt.int_int _ _ _ _
  have R := Ob.RcOp.tuples_ge (A := X.A) (s := s) (e := fun j => decide (ns.getD j 0 = ms.getD j 0)) (r := fun j => decide (ms.getD j 0 ≤ ns.getD j 0)) p1 p2 units
    (by
      intro j h1 h2
      obtain ⟨t, et⟩ := g1 j h1
      obtain ⟨t', et'⟩ := g2 j h2
      rw [et, et']
      exact eqs _ _ _ _)
    (by
      intro j h1 h2 _
      obtain ⟨t, et⟩ := g1 j h1
      obtain ⟨t', et'⟩ := g2 j h2
      rw [et, et']
      exact Ob.RcOp.ge_int _ _ _ _)
  rw [l1, l2] at R
  exact R X.prog X.w X.xe (EP X pins σ Q) ⟨.bl _, H, I, rfl, q⟩
end

/-! ### own errors without own __init__: raised without arguments, out of a method; isinstance of a caught one -/
abbrev bmVE : List Value := [.type "ValueError", .type "Exception", .type "BaseException", .type "object"]
/-- a class that a clause or isinstance names -/
structure XcN (K : PySem.W.Frag) (mg : Str → Option Value) (x : Str) (C : Addr) : Prop where
  g : mg x = some (.ref C)
  ic : PySem.W.isClsIn K C = true
  ty : PySem.W.typeIn K (.ref C) = some (.type "type")
  ba : PySem.W.subIn K (.ref C) (.type "BaseException") = some true
/-- a class that is raised -/
structure XcR (K : PySem.W.Frag) (C : Addr) : Prop where
  xP : PySem.W.excIn K C bmVE "ValueError.__new__" = true
  kP : PySem.W.keepIn K (.ref C) = true
  ex : ExcC K C
section
variable {K : PySem.W.Frag} {mg : Str → Option Value}
theorem XcN.exm {x : Str} {D C : Addr} {b : Bool} (N : XcN K mg x C) (s : PySem.W.subIn K (.ref D) (.ref C) = some b) : PySem.W.exmOne K (.ref D) (.ref C) = some b := by
  have e1 : (PySem.W.subIn K (.ref C) (.type "BaseException") == some true) = true := by rw [N.ba] <;> rfl
  have e2 : ((PySem.W.clsIn K C).isSome && PySem.W.typeIn K (.ref C) == some (.type "type")) = true := by
    have h : (PySem.W.clsIn K C).isSome = true := N.ic
    rw [h, N.ty] <;> rfl
  show (if (PySem.W.subIn K (.ref C) (.type "BaseException") == some true) = true then (if ((PySem.W.clsIn K C).isSome && PySem.W.typeIn K (.ref C) == some (.type "type")) = true then PySem.W.subIn K (.ref D) (.ref C) else none) else none) = some b
  rw [if_pos e1, if_pos e2]
  exact s
theorem XcN.kit {x : Str} {D C : Addr} {b : Bool} (N : XcN K mg x C) (s : PySem.W.subIn K (.ref D) (.ref C) = some b) (ne : D ≠ C) : PySem.W.kitOne K (.ref D) (.ref C) = some b := by
  have e2 : ((PySem.W.clsIn K C).isSome && PySem.W.typeIn K (.ref C) == some (.type "type")) = true := by
    have h : (PySem.W.clsIn K C).isSome = true := N.ic
    rw [h, N.ty] <;> rfl
  have e0 : ¬ ((Value.ref D == Value.ref C) = true) := fun h => ne (Value.ref.inj (beq_iff_eq.mp h))
  show (if (Value.ref D == Value.ref C) = true then some true else (if ((PySem.W.clsIn K C).isSome && PySem.W.typeIn K (.ref C) == some (.type "type")) = true then PySem.W.subIn K (.ref D) (.ref C) else none)) = some b
  rw [if_neg e0, if_pos e2]
  exact s
theorem kit_self {D : Addr} : PySem.W.kitOne K (.ref D) (.ref D) = some true := by
  show (if (Value.ref D == Value.ref D) = true then some true else _) = some true
  rw [if_pos (beq_self_eq_true _)]
theorem kit_bltn {D : Addr} {T : String} {b : Bool} (m : PySem.W.kitMeta T = true) (s : PySem.W.subIn K (.ref D) (.type T) = some b) : PySem.W.kitOne K (.ref D) (.type T) = some b := by
  have e0 : ¬ ((Value.ref D == Value.type T) = true) := fun h => nomatch beq_iff_eq.mp h
  show (if (Value.ref D == Value.type T) = true then some true else (if PySem.W.kitMeta T = true then PySem.W.subIn K (.ref D) (.type T) else none)) = some b
  rw [if_neg e0, if_pos m]
  exact s
theorem exc_self {C : Addr} {bmB : List Value} {n : String} (q : PySem.W.excIn K C bmB n = true) : PySem.W.subIn K (.ref C) (.ref C) = some true := by
  unfold PySem.W.excIn at q
  split at q
  · rename_i dd cd sl ho
    split at q
    · rename_i C' bm k0 k1 k2 k3 n' k5 hm hs
      simp only [Bool.and_eq_true, beq_iff_eq] at q
      obtain ⟨⟨⟨⟨⟨rfl, _⟩, _⟩, _⟩, _⟩, _⟩ := q
      have hc : PySem.W.clsIn K C' = some cd := by
        unfold PySem.W.clsIn
        rw [ho] <;> rfl
      show PySem.W.mroIn K C' (.ref C') = some true
      unfold PySem.W.mroIn
      rw [hc]
      show (if cd.mro.isEmpty = true then none else some (cd.mro.contains (.ref C'))) = some true
      rw [hm, List.contains_cons, beq_self_eq_true]
      rfl
    · cases q
  · cases q
theorem XcR.ne {C D : Addr} (R : XcR K D) (h : PySem.W.subIn K (.ref D) (.ref C) = some false) : D ≠ C := fun e => by
  have z := exc_self R.xP
  rw [e] at z h
  rw [z] at h
  cases h
/-- no instance of any of these -/
theorem kit_none {D : Addr} (R : XcR K D) : ∀ {l : List (Str × Addr)}, (∀ p ∈ l, XcN K mg p.1 p.2 ∧ PySem.W.subIn K (.ref D) (.ref p.2) = some false) → PySem.W.kitAny K (.ref D) (l.map fun p => Value.ref p.2) = some false
  | [], _ => rfl
  | p :: l, h => kitAny_cons ((h p List.mem_cons_self).1.kit (h p List.mem_cons_self).2 (R.ne (h p List.mem_cons_self).2)) (fun _ => kit_none R fun q hq => h q (List.mem_cons_of_mem _ hq)) (fun z => nomatch z)
end
section
variable {X : Cx}
theorem pmk_own0 {C : Addr} {bmB : List Value} {B newId initId : String} {x : Str} {p pos : Pos} (F : ExcBaseFacts B newId initId bmB) (q : PySem.W.excIn X.K C bmB newId = true) (gC : X.mg x = some (.ref C)) (kC : PySem.W.keepIn X.K (.ref C) = true) (r : Raises X (.ref C)) (hg : Gl X x)
    (hdb : (x == ("__debug__" : Str)) = false := by decide) : PMk X (.Call (.Name x p) [] [] pos) (fun _ H Q => Q (.ref C) none H) := by
  intro pins s σ H Q I h
  refine wpAny_Call_Name_kw (ld_glob I hg gC ?_ hdb)
  refine PySem.W.callWith_K0 (first := []) I.kIn kC ?_
  show wpAny _ _ (call (.ref C) []) _ _ _
  obtain ⟨bm, N, nm, qn, bs, hdct, sn, sub, ab, col, dd, k0, k1, k2, k3, k5, mN, hC, hN, hni, T⟩ := exc_obj I.kIn q
  refine wpAny_call_exc_subT F T hC hN hni (fun h' e hm => ?_) (by show 0 ≤ sizeLine; decide)
  exact mk_of I hm r h (I.hok.gone hm.new)
/-- raise C() -/
theorem ps_raise0 {W : WX} {C : Addr} {x : Str} {p pos pos2 : Pos} (hc : X.calm = true) (tk : Takes X W) (N : XcN X.K X.mg x C) (R : XcR X.K C) (hg : Gl X x) (hdb : (x == ("__debug__" : Str)) = false := by decide) :
    PS X (.Raise (some (.Call (.Name x p) [] [] pos)) none pos2) (fun _ σ H => W (.ref C) none σ H) :=
  ps_raise hc tk (pmk_own0 PySem.F.excBase_ValueError R.xP N.g R.kP (raises_own N.ba N.ty) hg hdb)
variable {CX : CXT} {k : Nat} {f C : Addr} {fd : FuncData} {ps : List Str} {sp : Sp} {E : L2.St → XK} {x m : Str} {p pos apos : Pos} {e o : Expr} {es : List Expr} {ta : TE} {t : TA}
def tMethL (C : Addr) (m : Str) (sp : Sp) (E : L2.St → XK) (ta : TE) (t : TA) : TE := fun σ H Q => ta σ H fun x H1 => ∃ a dx fs, x = .ref a ∧ H1 a = some (.ins C dx fs) ∧ fs.lookup m = none ∧ t σ H1 fun vs H2 => sp (.ref a :: vs) H2 Q (E σ)
/-- o.m(), which may raise -/
theorem pe_methL0 {pl : Sem Bool} (he : PE X o ta) (c : Cls X.K C) (hm : Meth X.K C m f) (F : FnOk X.prog X.w X.K X.mg X.base CX k f fd ps sp) (hr : Room k X.A) (hb : Binds X.K fd ps []) (hx : ∀ σ, PassesAt CX X σ (E σ))
    (ht : eval (.Call (.Attribute o m apos) [] [] pos) X.env = (do
      let ov ← eval o X.env
      standAt apos.atName
      let (f, first) ← holding [ov] (getMethod ov m pl)
      callWith pos f first (backTo pos (starEach [] X.env)) (backToKw pos (keywordEach [] X.env))) := by rfl) :
    PE X (.Call (.Attribute o m apos) [] [] pos) (tMethL C m sp E ta tNil) := by
  refine ⟨fun pins s σ H Q I h => ?_⟩
  refine PySem.W.methodCall_KW (pl := pl) (thn (he.run pins s σ H _ I h) fun u s1 ⟨x, H1, I1, rx, a, dx, fs, ex, ea, l, q⟩ => ?_) ht
  subst ex
  obtain rfl : u = Value.ref a := rx
  refine getmeth_ok I1 ea c hm l ?_
  exact PySem.W.callWith_K0 (first := [.ref a]) I1.kIn hm.kp (run_fnS (us := [.ref a]) (vs := [.ref a]) F hr hb (hx σ) I1 (.cons rfl .nil) q)
/-- o.m(e, ..), which may raise -/
theorem pe_methL {pl : Sem Bool} (he : PE X o ta) (c : Cls X.K C) (hm : Meth X.K C m f) (F : FnOk X.prog X.w X.K X.mg X.base CX k f fd ps sp) (hr : Room k X.A) (hb : Binds X.K fd ps []) (hx : ∀ σ, PassesAt CX X σ (E σ)) (ha : PA X (e :: es) t)
    (hst : starEach (e :: es) X.env = (false, eval e X.env) :: starEach es X.env := by rfl) (hpl : (backTo pos (starEach es X.env)).any (·.1) = false := by rfl)
    (ht : eval (.Call (.Attribute o m apos) (e :: es) [] pos) X.env = (do
      let ov ← eval o X.env
      standAt apos.atName
      let (f, first) ← holding [ov] (getMethod ov m pl)
      callWith pos f first (backTo pos (starEach (e :: es) X.env)) (backToKw pos (keywordEach [] X.env))) := by rfl) :
    PE X (.Call (.Attribute o m apos) (e :: es) [] pos) (tMethL C m sp E ta t) := by
  refine ⟨fun pins s σ H Q I h => ?_⟩
  refine PySem.W.methodCall_KW (pl := pl) (thn (he.run pins s σ H _ I h) fun u s1 ⟨x, H1, I1, rx, a, dx, fs, ex, ea, l, q⟩ => ?_) ht
  subst ex
  obtain rfl : u = Value.ref a := rx
  refine getmeth_ok I1 ea c hm l ?_
  refine PySem.W.callWith_K (first := [.ref a]) (h₀ := X.base) I.ok.mod.kin hm.kp (thn (ha.run pos pins s1 σ H1 _ I1 q) fun us s2 ⟨vs, H2, I2, r, q2⟩ => ⟨I2.kIn, ?_⟩) hst hpl
  exact run_fnS (us := .ref a :: us) (vs := .ref a :: vs) F hr hb (hx σ) I2 (.cons rfl r) q2
/-- isinstance(e, c), e the exception (without a dict) that the suite holds -/
def rIsX (K : PySem.W.Frag) (a : Addr) (cls : Value) (d : Option Addr) : List V → Hp → VK → Prop := fun xs H Q => ∃ (D : Addr) (c : V) (cv : Value) (b : Bool), xs = [.ref a, c] ∧ cls = .ref D ∧ d = none ∧ ExcC K D ∧ ClsV c cv ∧ PySem.W.kitOne K (.ref D) cv = some b ∧ Q (.bl b) H
/-- isinstance(e, (c1, c2, ..)) -/
def rIsXT (K : PySem.W.Frag) (a : Addr) (cls : Value) (d : Option Addr) : List V → Hp → VK → Prop := fun xs H Q => ∃ (D tp : Addr) (cs : List V) (us : List Value) (b : Bool), xs = [.ref a, .ref tp] ∧ cls = .ref D ∧ d = none ∧ ExcC K D ∧ H tp = some (.tup cs) ∧ Paired ClsV cs us ∧ PySem.W.kitAny K (.ref D) us = some b ∧ Q (.bl b) H
theorem held_inst {a D : Addr} {oe : Obj} {pn pins : List (Addr × Obj)} {σ : L2.St} {H : Hp} {s : Shared} (I : Inv (X.suite a ((a, oe) :: pn)) pins σ H s) (hz : Zc (.ref D) none oe) (hf : ∃ vs, oe.data = .fields vs) : PySem.W.InstAt s.heap a oe D none := by
  obtain ⟨hget, _⟩ := I.pin (a, oe) (List.mem_append.mpr (.inl List.mem_cons_self))
  obtain ⟨vs, hv⟩ := hf
  obtain ⟨oc, od, oda, osl⟩ := oe
  obtain ⟨h1, h2⟩ := hz
  dsimp only at h1 h2 hv
  subst h1 h2 hv
  exact ⟨hget, rfl, rfl, trivial⟩
theorem call_isX {a : Addr} {cls : Value} {d : Option Addr} {oe : Obj} {pn : List (Addr × Obj)} (hz : Zc cls d oe) (hf : ∃ vs, oe.data = .fields vs) : CallR (X.suite a ((a, oe) :: pn)) (.builtin "isinstance") (rIsX X.K a cls d) := by
  intro pins s σ H xs us Q I r h
  obtain ⟨D, c, cv, b, rfl, rfl, rfl, C, hcv, e, q⟩ := h
  cases r with
  | cons rx rr =>
    cases rr with
    | cons rt rr =>
      cases rr
      cases rx
      have ec := hcv.eq rt
      subst ec
      exact PySem.W.kia_one (PySem.W.handS_kitx_exc C.hg C.hk C.hs C.hd C.ha C.hn C.ht C.hm) I.kIn (held_inst I hz hf) e (fun z => nomatch z) fun tk => ⟨.bl b, H, I.kept (t' := tk) fun _ _ z => z, rfl, q⟩
theorem call_isXT {a : Addr} {cls : Value} {d : Option Addr} {oe : Obj} {pn : List (Addr × Obj)} (hz : Zc cls d oe) (hf : ∃ vs, oe.data = .fields vs) : CallR (X.suite a ((a, oe) :: pn)) (.builtin "isinstance") (rIsXT X.K a cls d) := by
  intro pins s σ H xs us Q I r h
  obtain ⟨D, tp, cs, ws, b, rfl, rfl, rfl, C, hT, k, e, q⟩ := h
  cases r with
  | cons rx rr =>
    cases rr with
    | cons rt rr =>
      cases rr
      cases rx
      cases rt
      obtain ⟨_, its, rv, o, h1, h2, n, h3⟩ := (show ObjOk X.prog X.w H s.heap tp (.tup cs) from I.hok tp _ hT)
      have e3 := ClsV.all k rv
      subst e3
      obtain ⟨oc, od, dt, sl⟩ := o
      simp only at h2 h3
      subst h2 h3
      exact PySem.W.kia_tup (PySem.W.handS_kitx_exc C.hg C.hk C.hs C.hd C.ha C.hn C.ht C.hm) I.kIn (held_inst I hz hf) h1 e (fun z => nomatch z) fun tk => ⟨.bl b, H, I.tok tk, rfl, q⟩
end

/-! ### own errors with an own __init__ of one field: raised, asked for their class, their field read -/
section
open PySem.W
variable {prog : Program} {w : World} {A : Around} {E : Value → Shared → Prop} {K : Frag} {D x : Addr} {ox : Obj} {od : Option Obj} {s : Shared}
/-- e.__class__ of an error that has a dict (the library has it of one without) -/
theorem cls_of_dict {Q : Option Value → Shared → Prop} (C : ExcC K D) (X : K.In s.heap) (I : InstAt s.heap x ox D od) (h : Q (some (.ref D)) { s with toks := s.toks + 1 }) : wpAny (model prog w) A (getAttr? (.ref x) "__class__") Q E s := by
  have some_cls : (clsIn K D).isSome = true := by
    obtain ⟨cd, hc, _⟩ := any_some C.hd
    rw [hc]
    rfl
  have found := looks_find (M := model prog w) X I (findObj_dataE (od := od) some_cls C.ha C.hn C.ht)
  obtain ⟨hp, g, d, t, os⟩ := s
  have own := I.type (M := model prog w)
  have isE : Looks (model prog w) hp (isInstance (.ref x) (.type "BaseException")) true := own.andThen (looks_subIn X C.hs)
  have notObj : (Value.builtin "BaseException.__getattribute__" == Value.builtin "object.__getattribute__") = false := by decide +kernel
  unfold getAttr? getAttrBy? getAttrBy
  refine wpAny_bind (wpAny_mkText (wpAny_bind (wpAny_attempt (wpAny_holding (wpAny_bind (own.at (wpAny_bind ((looks_findIn X C.hg).at ?_))))))))
  show wpAny _ _ (if (onTheHeap (Value.ref D) && Value.builtin "BaseException.__getattribute__" == Value.builtin "object.__getattribute__") = true then _ else _) _ _ _
  rw [show (onTheHeap (Value.ref D) && Value.builtin "BaseException.__getattribute__" == Value.builtin "object.__getattribute__") = false by rw [notObj]; rfl, if_neg Bool.false_ne_true]
  unfold getAttrByItsOwn hookBefore
  refine wpAny_bind ?_
  rw [if_pos (show onTheHeap (Value.ref D) = true from rfl)]
  refine (looks_findIn X C.hk).at (wpAny_bind (wpAny_attempt (wpAny_holding ?_)))
  unfold callGetattribute
  rw [show (false && onTheHeap (Value.builtin "BaseException.__getattribute__")) = false from rfl, if_neg Bool.false_ne_true]
  unfold boundAndCalled
  rw [PySem.F.excAttr_ValueError.ga.bind (.ref x)]
  refine wpAny_bind (wpAny_pure ?_)
  show wpAny _ _ (call (.builtin "BaseException.__getattribute__") [.ref x, .str "__class__" t]) _ _ _
  refine wpAny_call (codeAny_call_builtin PySem.F.excAttr_ValueError.ga.plain PySem.F.entry_bexc_ga ?_)
  refine @check_slot (model prog w) _ _ ⟨hp, g, d, t + 1, os⟩ "BaseException.__getattribute__" "BaseException" "__getattribute__" (.ref x) [.str "__class__" t] [] _ (by decide +kernel) (by decide +kernel) isE (PySem.F.args_bexc_ga (.ref x) (.str "__class__" t)) ?_
  unfold Builtin.«object.__getattribute__»
  refine wpAny_bind (wpAny_of_eq (a := ((Value.ref x : Value), [Value.str "__class__" t])) (by first | rfl | (simp only [slotArgs]; rfl)) ?_)
  refine wpAny_bind (wpAny_pure (wpAny_bind (own.at (wpAny_bind (found.at ?_)))))
  show wpAny _ _ (holding [Value.builtin "object.__class__"] (call (.builtin "getset_descriptor.__get__") [.builtin "object.__class__", .ref x, .ref D]) >>= ret) _ _ _
  refine wpAny_bind (wpAny_holding (wpAny_call (class_get (s := ⟨hp, g, d, t + 1, os⟩) X I C.hm (wpAny_pure ?_))))
  show wpAny _ _ (handedOut (.ref D)) _ _ _
  rw [handedOut_of (v := .ref D) rfl]
  first
    | exact wpAny_pure (wpAny_pure h)
    | exact wpAny_pure h
    | exact wpAny_pure (wpAny_bind (wpAny_pure (wpAny_pure h)))
theorem kitx_dict (C : ExcC K D) : KitX K (.ref x) (.ref D) (fun h => InstAt h x ox D od) where
  ty := fun _ _ _ I => I.type
  it := fun _ _ X _ => by
    obtain ⟨cd, hc, _⟩ := any_some C.hd
    unfold clsIn at hc
    split at hc
    · rename_i ho
      intro A' Q' E' s' k q
      unfold isType loadHead
      exact wpAny_bind (wpAny_loadPart (k _ _ (X _ _ ho)) (wpAny_pure q))
    · cases hc
  ne := fun h tp dd its n sl X htp => by
    obtain ⟨cd, hc, _⟩ := any_some C.hd
    refine Bool.eq_false_iff.mpr fun q => ?_
    obtain rfl : D = tp := Value.ref.inj (beq_iff_eq.mp q)
    unfold clsIn at hc
    split at hc
    · rename_i ho
      have z := (X _ _ ho).symm.trans htp
      cases z
    · cases hc
  ca := fun X I k => cls_of_dict C X I k
end
/-- an error's dict, if it has one -/
def ExD (H : Hp) (d : Option Addr) : Prop := d = none ∨ ∃ dd fs, d = some dd ∧ H dd = some (.xd fs)
/-- what the written part says of a class with an own __init__ that sets the field f -/
structure XcI (K : PySem.W.Frag) (C fI : Addr) (f : Str) : Prop where
  ox : OexC K C
  iC : PySem.W.findIn K (.ref C) "__init__" = some (some (.ref fI))
  tI : PySem.W.typeIn K (.ref fI) = some (.type "function")
  no : PySem.W.findIn K (.ref C) f = some none
  ex : ExcC K C
theorem XcI.xf {K : PySem.W.Frag} {C fI : Addr} {f : Str} (I : XcI K C fI f) : XfC K C := ⟨I.ex.hg, I.ex.hk, I.ex.hs, I.ex.hd⟩
theorem oex_self {K : PySem.W.Frag} {C : Addr} (O : OexC K C) : PySem.W.subIn K (.ref C) (.ref C) = some true := by
  obtain ⟨nm, q, N, bs, bm, sn, sub, ab, col, dd, k0, k1, k2, k3, k5, h, _⟩ := O.cls
  show PySem.W.mroIn K C (.ref C) = some true
  unfold PySem.W.mroIn PySem.W.clsIn
  rw [h]
  show (if (Value.ref C :: bm).isEmpty = true then none else some ((Value.ref C :: bm).contains (.ref C))) = some true
  rw [List.contains_cons, beq_self_eq_true]
  rfl
theorem XcI.ne {K : PySem.W.Frag} {C D fI : Addr} {f : Str} (R : XcI K D fI f) (h : PySem.W.subIn K (.ref D) (.ref C) = some false) : D ≠ C := fun e => by
  have z := oex_self R.ox
  rw [e] at z h
  rw [z] at h
  cases h
theorem kit_noneI {K : PySem.W.Frag} {mg : Str → Option Value} {D fI : Addr} {f : Str} (R : XcI K D fI f) : ∀ {l : List (Str × Addr)}, (∀ p ∈ l, XcN K mg p.1 p.2 ∧ PySem.W.subIn K (.ref D) (.ref p.2) = some false) → PySem.W.kitAny K (.ref D) (l.map fun p => Value.ref p.2) = some false
  | [], _ => rfl
  | p :: l, h => kitAny_cons ((h p List.mem_cons_self).1.kit (h p List.mem_cons_self).2 (R.ne (h p List.mem_cons_self).2)) (fun _ => kit_noneI R fun q hq => h q (List.mem_cons_of_mem _ hq)) (fun z => nomatch z)
def sp_exc_init (K : PySem.W.Frag) (C : Addr) (f : Str) : Sp := fun vs H Q _ => ∃ (a : Addr) (v : V), vs = [.ref a, v] ∧ H a = some (exo a C none) ∧ ∀ dx, H dx = none → dx ≠ a → Q .non (upd (upd H dx (exd dx [(f, v)])) a (exo a C (some dx)))
section
variable {X : Cx}
/-- the args, with more said of them than is asked -/
def tMono (ta : TA) : TA := fun σ H R => ∃ S, ta σ H S ∧ ∀ vs H1, S vs H1 → R vs H1
theorem pa_mono {es : List Expr} {ta : TA} (h : PA X es ta) : PA X es (tMono ta) := ⟨fun pos pins s σ H Q I q => by
  obtain ⟨S, h1, h2⟩ := q
  refine thn (h.run pos pins s σ H S I h1) fun us s1 hh => ?_
  obtain ⟨vs, H1, I1, r, z⟩ := hh
  exact ⟨vs, H1, I1, r, h2 _ _ z⟩⟩
def tMk1 (C : Addr) (f : Str) (ta : TA) : L2.St → Hp → XK → Prop := fun σ H Q => ta σ H fun vs H1 => ∃ v, vs = [v] ∧ ∀ d, H1 d = none → Q (.ref C) (some d) (upd H1 d (.xd [(f, v)]))
theorem pmk_1 {x f : Str} {C fI : Addr} {k : Nat} {fd : FuncData} {ps : List Str} {p pos : Pos} {e : Expr} {ta : TA} (N : XcN X.K X.mg x C) (I : XcI X.K C fI f) (F1 : FnOk X.prog X.w X.K X.mg X.base CX0 k fI fd ps (sp_exc_init X.K C f)) (hr : Room (k + 1) X.A) (hb : Binds X.K fd ps [])
    (hg : Gl X x) (ha : PA X [e] ta) (hdb : (x == ("__debug__" : Str)) = false := by decide) (he : starEach (e :: []) X.env = (false, eval e X.env) :: starEach [] X.env := by rfl) (hpl : (backTo pos (starEach [] X.env)).any (·.1) = false := by rfl) :
    PMk X (.Call (.Name x p) [e] [] pos) (tMk1 C f ta) := by
  intro pins s σ H Q J h
  refine pmk_oex (dvs := []) I.ox I.iC I.tI F1 hr hb .nil (fun _ _ _ _ _ _ _ h => h.elim) hg N.g (pa_mono ha) hdb he hpl pins s σ H Q J ⟨_, h, fun vs H1 h1 => ?_⟩
  obtain ⟨v, rfl, q⟩ := h1
  refine ⟨by show 1 ≤ 1000; decide, fun a na => ⟨a, v, rfl, upd_same, fun dx nd ne => ⟨rfl, dx, [(f, v)], upd_same, ?_, ?_, ?_⟩⟩⟩
  · rw [upd_ne ne]
    exact upd_same
  · rw [upd_ne ne] at nd
    exact nd
  · have nd1 : H1 dx = none := by
      rw [upd_ne ne] at nd
      exact nd
    have z := q dx nd1
    have e2 : upd H1 dx (.xd [(f, v)]) = upd (del (upd (upd (upd H1 a (exo a C none)) dx (exd dx [(f, v)])) a (exo a C (some dx))) a) dx (.xd [(f, v)]) := by
      funext b
      by_cases hb : b = dx
      · rw [hb, upd_same, upd_same]
      · rw [upd_ne hb, upd_ne hb]
        by_cases ha : b = a
        · rw [ha, del_same, na]
        · rw [del_ne ha, upd_ne ha, upd_ne hb, upd_ne ha]
    rw [← e2]
    exact z
/-- raise C(e) -/
theorem ps_raise1 {W : WX} {x f : Str} {C fI : Addr} {k : Nat} {fd : FuncData} {ps : List Str} {p pos pos2 : Pos} {e : Expr} {ta : TA} (hc : X.calm = true) (tk : Takes X W) (N : XcN X.K X.mg x C) (I : XcI X.K C fI f) (F1 : FnOk X.prog X.w X.K X.mg X.base CX0 k fI fd ps (sp_exc_init X.K C f)) (hr : Room (k + 1) X.A) (hb : Binds X.K fd ps [])
    (hg : Gl X x) (ha : PA X [e] ta) (hdb : (x == ("__debug__" : Str)) = false := by decide) (he : starEach (e :: []) X.env = (false, eval e X.env) :: starEach [] X.env := by rfl) (hpl : (backTo pos (starEach [] X.env)).any (·.1) = false := by rfl) :
    PS X (.Raise (some (.Call (.Name x p) [e] [] pos)) none pos2) (fun _ σ H => tMk1 C f ta σ H fun cls d H' => W cls d σ H') := ps_raise hc tk (pmk_1 N I F1 hr hb hg ha hdb he hpl)
/-- isinstance(e, c), e the error that the suite holds, with a dict or without -/
def rIsY (K : PySem.W.Frag) (a : Addr) (cls : Value) (d : Option Addr) : List V → Hp → VK → Prop := fun xs H Q => ∃ (D : Addr) (c : V) (cv : Value) (b : Bool), xs = [.ref a, c] ∧ cls = .ref D ∧ ExD H d ∧ ExcC K D ∧ ClsV c cv ∧ PySem.W.kitOne K (.ref D) cv = some b ∧ Q (.bl b) H
def rIsYT (K : PySem.W.Frag) (a : Addr) (cls : Value) (d : Option Addr) : List V → Hp → VK → Prop := fun xs H Q => ∃ (D tp : Addr) (cs : List V) (us : List Value) (b : Bool), xs = [.ref a, .ref tp] ∧ cls = .ref D ∧ ExD H d ∧ ExcC K D ∧ H tp = some (.tup cs) ∧ Paired ClsV cs us ∧ PySem.W.kitAny K (.ref D) us = some b ∧ Q (.bl b) H
theorem held_instD {a D : Addr} {oe : Obj} {d : Option Addr} {pn pins : List (Addr × Obj)} {σ : L2.St} {H : Hp} {s : Shared} (I : Inv (X.suite a ((a, oe) :: pn)) pins σ H s) (hz : Zc (.ref D) d oe) (hf : ∃ vs, oe.data = .fields vs) (hd : ExD H d) : ∃ od, PySem.W.InstAt s.heap a oe D od := by
  rcases hd with rfl | ⟨dd, fs, rfl, e⟩
  · exact ⟨none, held_inst I hz hf⟩
  · obtain ⟨hget, _⟩ := I.pin (a, oe) (List.mem_append.mpr (.inl List.mem_cons_self))
    obtain ⟨vs, hv⟩ := hf
    obtain ⟨mA, hns, _⟩ := (show ObjOk X.prog X.w H s.heap dd (.xd fs) from I.hok dd _ e)
    obtain ⟨od, ho, _⟩ := lookIn_ns hns
    exact ⟨some od, hget, hz.1, by unfold PySem.W.notCls; rw [hv] <;> rfl, by rw [hz.2]; exact ho⟩
theorem call_isY {a : Addr} {cls : Value} {d : Option Addr} {oe : Obj} {pn : List (Addr × Obj)} (hz : Zc cls d oe) (hf : ∃ vs, oe.data = .fields vs) : CallR (X.suite a ((a, oe) :: pn)) (.builtin "isinstance") (rIsY X.K a cls d) := by
  intro pins s σ H xs us Q I r h
  obtain ⟨D, c, cv, b, rfl, rfl, hd, C, hcv, e, q⟩ := h
  obtain ⟨od, J⟩ := held_instD I hz hf hd
  cases r with
  | cons rx rr =>
    cases rr with
    | cons rt rr =>
      cases rr
      cases rx
      have ec := hcv.eq rt
      subst ec
      exact PySem.W.kia_one (kitx_dict C) I.kIn J e (fun z => nomatch z) fun tk => ⟨.bl b, H, I.kept (t' := tk) fun _ _ z => z, rfl, q⟩
theorem call_isYT {a : Addr} {cls : Value} {d : Option Addr} {oe : Obj} {pn : List (Addr × Obj)} (hz : Zc cls d oe) (hf : ∃ vs, oe.data = .fields vs) : CallR (X.suite a ((a, oe) :: pn)) (.builtin "isinstance") (rIsYT X.K a cls d) := by
  intro pins s σ H xs us Q I r h
  obtain ⟨D, tp, cs, ws, b, rfl, rfl, hd, C, hT, k, e, q⟩ := h
  obtain ⟨od, J⟩ := held_instD I hz hf hd
  cases r with
  | cons rx rr =>
    cases rr with
    | cons rt rr =>
      cases rr
      cases rx
      cases rt
      obtain ⟨_, its, rv, o, h1, h2, n, h3⟩ := (show ObjOk X.prog X.w H s.heap tp (.tup cs) from I.hok tp _ hT)
      have e3 := ClsV.all k rv
      subst e3
      obtain ⟨oc, oD, dt, sl⟩ := o
      simp only at h2 h3
      subst h2 h3
      exact PySem.W.kia_tup (kitx_dict C) I.kIn J h1 e (fun z => nomatch z) fun tk => ⟨.bl b, H, I.tok tk, rfl, q⟩
end

/-! ### two promises of one def; a class of the program whose __init__ may raise -/
section
variable {P : Program} {w : World} {K : PySem.W.Frag} {mg : Str → Option Value} {base : Heap} {k : Nat} {f : Addr} {fd : FuncData} {ps : List Str} {sp0 sp1 : Sp}
/-- what a def does where all is well (no error leaves it), and what it raises elsewhere, shown apart -/
theorem fn_or (F0 : FnOk P w K mg base CX0 k f fd ps sp0) (F1 : FnOk P w K mg base (L2.CX P w) k f fd ps sp1) : FnOk P w K mg base (L2.CX P w) k f fd ps (fun vs H Q E => sp0 vs H Q E ∨ sp1 vs H Q E) where
  len := fun vs H Q E h => h.elim (F0.len vs H Q E) (F1.len vs H Q E)
  run := fun A outer s H args us vs Q E hr he hb hv h => by
    rcases h with h | h
    · refine codeAny_mono (F0.run A outer s H args us vs Q E hr he hb hv h) fun r s' q => ?_
      cases r with
      | error e => exact False.elim q
      | ok fl => cases fl <;> exact q
    · exact F1.run A outer s H args us vs Q E hr he hb hv h
end
section
variable {X : Cx} {CX : CXT} {k : Nat} {f C : Addr} {fd : FuncData} {ps : List Str} {sp : Sp} {E : L2.St → XK} {x : Str} {p pos : Pos} {e : Expr} {es : List Expr} {t : TA} {dvs : List V} {ds : List Value}
def tMakeL (C : Addr) (sp : Sp) (dvs : List V) (E : L2.St → XK) (t : TA) : TE := fun σ H Q => t σ H fun vs H1 => ∀ x dx, H1 x = none → H1 dx = none → dx ≠ x → sp (.ref x :: (vs ++ dvs)) (upd (upd H1 dx (.own x)) x (.ins C dx [])) (fun v H2 => v = .non ∧ Q (.ref x) H2) (E σ)
theorem run_makeL {pins : List (Addr × Obj)} {σ : L2.St} {H : Hp} {s : Shared} {Q : VK} {us : List Value} {vs : List V} (M : Mk X.K C f) (F : FnOk X.prog X.w X.K X.mg X.base CX k f fd ps sp) (hr : Room (k + 1) X.A) (hb : Binds X.K fd ps ds) (hd : Vals dvs ds) (hx : PassesAt CX X σ (E σ))
    (I : Inv X pins σ H s) (r : Vals vs us) (h : ∀ x dx, H x = none → H dx = none → dx ≠ x → sp (.ref x :: (vs ++ dvs)) (upd (upd H dx (.own x)) x (.ins C dx [])) (fun v H2 => v = .non ∧ Q (.ref x) H2) (E σ)) :
    wpAny (model X.prog X.w) X.A (call (.ref C) us) (EP X pins σ Q) X.xe s := by
  have hq := h (s.heap.objs.size + 1) s.heap.objs.size (I.hok.fresh (Nat.le_succ _)) (I.hok.fresh (Nat.le_refl _)) (Nat.ne_of_lt (Nat.lt_succ_self _))
  have I2 := Inv.made (C := C) I
  have r2 : Vals (V.ref (s.heap.objs.size + 1) :: (vs ++ dvs)) (Value.ref (s.heap.objs.size + 1) :: (us ++ ds)) := .cons rfl (r.append hd)
  have hl : (Value.ref (s.heap.objs.size + 1) :: us ++ ds).length = ps.length := by
    have e := r2.length
    rw [F.len _ _ _ _ hq] at e
    exact e.symm
  refine wpAny_call (make_map (f := f) I.kIn M.makes M.init (beq_iff_eq.mp M.fn) (codeAny_mono (F.run _ X.stack _ _ ⟨Value.ref (s.heap.objs.size + 1) :: us, []⟩ (Value.ref (s.heap.objs.size + 1) :: (us ++ ds)) _ _ (E σ) (hr.make C us [])
    (I2.env0.make C us []) (hb _ (Value.ref (s.heap.objs.size + 1) :: us) I2.kIn hl) r2 hq) fun r s' hq' => ?_))
  cases r with
  | error e => exact hx pins _ _ e s' I2 hq'
  | ok fl =>
    cases fl with
    | ret u =>
      obtain ⟨v, H', I3, rv, ev, q3⟩ := I2.after hq'
      subst ev
      exact ⟨rv, ⟨V.ref (s.heap.objs.size + 1), H', I3, rfl, q3⟩⟩
    | next => exact False.elim hq'
    | brk => exact False.elim hq'
    | cont => exact False.elim hq'
/-- C(e, ..), whose __init__ may raise -/
theorem pe_makeL (M : Mk X.K C f) (F : FnOk X.prog X.w X.K X.mg X.base CX k f fd ps sp) (hr : Room (k + 1) X.A) (hg : Gl X x) (hm : X.mg x = some (.ref C)) (hb : Binds X.K fd ps ds) (hd : Vals dvs ds) (hx : ∀ σ, PassesAt CX X σ (E σ))
    (ha : PA X (e :: es) t) (hdb : (x == ("__debug__" : Str)) = false := by decide) (he : starEach (e :: es) X.env = (false, eval e X.env) :: starEach es X.env := by rfl) (hpl : (backTo pos (starEach es X.env)).any (·.1) = false := by rfl) :
    PE X (.Call (.Name x p) (e :: es) [] pos) (tMakeL C sp dvs E t) := by
  refine ⟨fun pins s σ H Q I h => ?_⟩
  refine wpAny_Call_Name_kw (ld_glob I hg hm ?_ hdb)
  refine PySem.W.callWith_K (h₀ := X.base) I.ok.mod.kin M.kp (thn (ha.run pos pins s σ H _ I h) fun us s1 ⟨vs, H1, I1, r, q⟩ => ⟨I1.kIn, ?_⟩) he hpl
  exact run_makeL M F hr hb hd (hx σ) I1 r q
end

def topS (i : Nat) : Stmt := PySem.Challenge.pw_fewspans_k68_plans_created.main.body.getD i (.Pass ⟨0, 0, 0, 0⟩)
abbrev s_is_number : Stmt := topS 12
abbrev N_is_number : List Str := ["value"]
theorem sc_is_number : FnScope N_is_number ["value"] (defScope s_is_number) := ⟨rfl, rfl, rfl, by decide +kernel, rfl, by decide +kernel, by decide +kernel⟩
abbrev s_is_position : Stmt := topS 13
abbrev N_is_position : List Str := ["value"]
theorem sc_is_position : FnScope N_is_position ["value"] (defScope s_is_position) := ⟨rfl, rfl, rfl, by decide +kernel, rfl, by decide +kernel, by decide +kernel⟩
abbrev s_is_tuple_of : Stmt := topS 14
abbrev N_is_tuple_of : List Str := ["value", "length"]
theorem sc_is_tuple_of : FnScope N_is_tuple_of ["value", "length"] (defScope s_is_tuple_of) := ⟨rfl, rfl, rfl, by decide +kernel, rfl, by decide +kernel, by decide +kernel⟩
abbrev s_is_interval : Stmt := topS 15
abbrev N_is_interval : List Str := ["value", "low", "high"]
theorem sc_is_interval : FnScope N_is_interval ["value"] (defScope s_is_interval) := ⟨rfl, rfl, rfl, by decide +kernel, rfl, by decide +kernel, by decide +kernel⟩
abbrev s_ascending_error : Stmt := topS 16
abbrev N_ascending_error : List Str := ["value", "most", "index", "item"]
theorem sc_ascending_error : FnScope N_ascending_error ["value", "most"] (defScope s_ascending_error) := ⟨rfl, rfl, rfl, by decide +kernel, rfl, by decide +kernel, by decide +kernel⟩
abbrev s_targets_error : Stmt := topS 17
abbrev N_targets_error : List Str := ["value"]
theorem sc_targets_error : FnScope N_targets_error ["value"] (defScope s_targets_error) := ⟨rfl, rfl, rfl, by decide +kernel, rfl, by decide +kernel, by decide +kernel⟩
abbrev s_is_pieces : Stmt := topS 18
abbrev N_is_pieces : List Str := ["value"]
theorem sc_is_pieces : FnScope N_is_pieces ["value"] (defScope s_is_pieces) := ⟨rfl, rfl, rfl, by decide +kernel, rfl, by decide +kernel, by decide +kernel⟩
abbrev s_law_deck : Stmt := topS 22
abbrev N_law_deck : List Str := ["_law_script", "_law_cell"]
theorem sc_law_deck : FnScope N_law_deck ["_law_script"] (defScope s_law_deck) := ⟨rfl, rfl, rfl, by decide +kernel, rfl, by decide +kernel, by decide +kernel⟩
abbrev s_law_draw : Stmt := topS 23
abbrev N_law_draw : List Str := ["_law_deck_here", "_law_many", "_law_cell", "_law_place"]
theorem sc_law_draw : FnScope N_law_draw ["_law_deck_here", "_law_many"] (defScope s_law_draw) := ⟨rfl, rfl, rfl, by decide +kernel, rfl, by decide +kernel, by decide +kernel⟩
abbrev s_law_line : Stmt := topS 24
abbrev N_law_line : List Str := ["_law_deck_here", "_law_most", "_law_low", "_law_found", "_law_k", "_law_size"]
theorem sc_law_line : FnScope N_law_line ["_law_deck_here", "_law_most"] (defScope s_law_line) := ⟨rfl, rfl, rfl, by decide +kernel, rfl, by decide +kernel, by decide +kernel⟩
abbrev s_law_interval : Stmt := topS 25
abbrev N_law_interval : List Str := ["_law_deck_here", "_law_line_here", "_law_first", "_law_last"]
theorem sc_law_interval : FnScope N_law_interval ["_law_deck_here", "_law_line_here"] (defScope s_law_interval) := ⟨rfl, rfl, rfl, by decide +kernel, rfl, by decide +kernel, by decide +kernel⟩
abbrev s_law_intervals : Stmt := topS 26
abbrev N_law_intervals : List Str := ["_law_deck_here", "_law_line_here", "_law_most", "_law_found", "_law_k"]
theorem sc_law_intervals : FnScope N_law_intervals ["_law_deck_here", "_law_line_here", "_law_most"] (defScope s_law_intervals) := ⟨rfl, rfl, rfl, by decide +kernel, rfl, by decide +kernel, by decide +kernel⟩
abbrev s_law_right : Stmt := topS 27
abbrev N_law_right : List Str := ["_law_plan", "_law_state", "_law_edits", "_law_words"]
theorem sc_law_right : FnScope N_law_right ["_law_plan", "_law_state", "_law_edits"] (defScope s_law_right) := ⟨rfl, rfl, rfl, by decide +kernel, rfl, by decide +kernel, by decide +kernel⟩
abbrev s_law_is_interval : Stmt := topS 28
abbrev N_law_is_interval : List Str := ["_law_value", "_law_one"]
theorem sc_law_is_interval : FnScope N_law_is_interval ["_law_value"] (defScope s_law_is_interval) := ⟨rfl, rfl, rfl, by decide +kernel, rfl, by decide +kernel, by decide +kernel⟩
abbrev s_law_error : Stmt := topS 29
abbrev N_law_error : List Str := ["_law_value", "_law_most", "_law_index", "_law_one"]
theorem sc_law_error : FnScope N_law_error ["_law_value", "_law_most"] (defScope s_law_error) := ⟨rfl, rfl, rfl, by decide +kernel, rfl, by decide +kernel, by decide +kernel⟩
abbrev s_law_changed : Stmt := topS 30
abbrev N_law_changed : List Str := ["_law_deck_here", "_law_intervals_here", "_law_odd", "_law_item", "_law_place", "_law_wide", "_law_k", "_law_some"]
theorem sc_law_changed : FnScope N_law_changed ["_law_deck_here", "_law_intervals_here"] (defScope s_law_changed) := ⟨rfl, rfl, rfl, by decide +kernel, rfl, by decide +kernel, by decide +kernel⟩
abbrev s_law_made : Stmt := topS 31
abbrev N_law_made : List Str := ["_law_targets", "_law_pieces", "e"]
theorem sc_law_made : FnScope N_law_made ["_law_targets", "_law_pieces"] (defScope s_law_made) := ⟨rfl, rfl, rfl, by decide +kernel, rfl, by decide +kernel, by decide +kernel⟩
abbrev s_law : Stmt := topS 32
abbrev N_law : List Str := ["_law_script", "_law_deck_here", "_law_turn", "_law_line_here", "_law_targets", "_law_pieces", "_law_held", "_law_made_here", "_law_first", "_law_second", "_law_due"]
theorem sc_law : FnScope N_law ["_law_script"] (defScope s_law) := ⟨rfl, rfl, rfl, by decide +kernel, rfl, by decide +kernel, by decide +kernel⟩
abbrev s_Plan_init : Stmt := inClass (topS 20) 0
abbrev N_Plan_init : List Str := ["self", "targets", "pieces", "error"]
theorem sc_Plan_init : FnScope N_Plan_init ["self", "targets", "pieces"] (defScope s_Plan_init) := ⟨rfl, rfl, rfl, by decide +kernel, rfl, by decide +kernel, by decide +kernel⟩
abbrev s_Plan_targets : Stmt := inClass (topS 20) 7
abbrev N_Plan_targets : List Str := ["self", "version"]
theorem sc_Plan_targets : FnScope N_Plan_targets ["self", "version"] (defScope s_Plan_targets) := ⟨rfl, rfl, rfl, by decide +kernel, rfl, by decide +kernel, by decide +kernel⟩
abbrev s_Plan_pieces : Stmt := inClass (topS 20) 8
abbrev N_Plan_pieces : List Str := ["self", "version"]
theorem sc_Plan_pieces : FnScope N_Plan_pieces ["self", "version"] (defScope s_Plan_pieces) := ⟨rfl, rfl, rfl, by decide +kernel, rfl, by decide +kernel, by decide +kernel⟩
abbrev s_Plan_edits : Stmt := inClass (topS 20) 12
abbrev N_Plan_edits : List Str := ["self"]
theorem sc_Plan_edits : FnScope N_Plan_edits ["self"] (defScope s_Plan_edits) := ⟨rfl, rfl, rfl, by decide +kernel, rfl, by decide +kernel, by decide +kernel⟩
abbrev s_Plan_state_at : Stmt := inClass (topS 20) 19
abbrev N_Plan_state_at : List Str := ["self", "version"]
theorem sc_Plan_state_at : FnScope N_Plan_state_at ["self", "version"] (defScope s_Plan_state_at) := ⟨rfl, rfl, rfl, by decide +kernel, rfl, by decide +kernel, by decide +kernel⟩
abbrev s_Plan_len : Stmt := inClass (topS 20) 20
abbrev N_Plan_len : List Str := ["self"]
theorem sc_Plan_len : FnScope N_Plan_len ["self"] (defScope s_Plan_len) := ⟨rfl, rfl, rfl, by decide +kernel, rfl, by decide +kernel, by decide +kernel⟩
abbrev s_Plan_str : Stmt := inClass (topS 20) 21
abbrev N_Plan_str : List Str := ["self"]
theorem sc_Plan_str : FnScope N_Plan_str ["self"] (defScope s_Plan_str) := ⟨rfl, rfl, rfl, by decide +kernel, rfl, by decide +kernel, by decide +kernel⟩
abbrev s_BadTargets_init : Stmt := inClass (topS 6) 0
abbrev N_BadTargets_init : List Str := ["self", "error"]
theorem sc_BadTargets_init : FnScope N_BadTargets_init ["self", "error"] (defScope s_BadTargets_init) := ⟨rfl, rfl, rfl, by decide +kernel, rfl, by decide +kernel, by decide +kernel⟩
/-! ### the deck and its draws -/
structure Dk (H : Hp) (d c : Addr) (n : Int) : Prop where
  top : H d = some (.lst [.ref c, .int n])
  cells : ∃ xs : List Int, H c = some (.lst (xs.map V.int)) ∧ xs.length ≤ 63 ∧ ∀ x ∈ xs, 0 ≤ x
theorem Dk.ne {H : Hp} {d c : Addr} {n : Int} (h : Dk H d c n) : c ≠ d := by
  obtain ⟨xs, e, _⟩ := h.cells
  intro z
  subst z
  have q := e.symm.trans h.top
  cases xs with
  | nil => cases q
  | cons x r => cases q
/-- nothing but the deck has changed -/
def Kp (d c : Addr) (H H' : Hp) : Prop := ∀ b o, b ≠ d → b ≠ c → H b = some o → H' b = some o
theorem Kp.trans {d c : Addr} {H H1 H2 : Hp} (h1 : Kp d c H H1) (h2 : Kp d c H1 H2) : Kp d c H H2 := fun b o n1 n2 e => h2 b o n1 n2 (h1 b o n1 n2 e)
theorem Kp.same {d c : Addr} {H H1 : Hp} (h : Same H H1) : Kp d c H H1 := fun b o _ _ e => h b o e
theorem Kp.none {d c : Addr} {H H' : Hp} (k : Kp d c H H') {n m : Int} (h : Dk H d c n) (h' : Dk H' d c m) {t : Addr} (e : H' t = none) : H t = none := by
  by_cases e1 : t = d
  · rw [e1, h'.top] at e
    cases e
  · by_cases e2 : t = c
    · obtain ⟨xs, z, _⟩ := h'.cells
      rw [e2, z] at e
      cases e
    · cases q : H t with
      | none => rfl
      | some o =>
        rw [k t o e1 e2 q] at e
        cases e
theorem Dk.kept {H H' : Hp} {d c : Addr} {n : Int} (h : Dk H d c n) (s : Same H H') : Dk H' d c n :=
  let ⟨xs, e, a⟩ := h.cells
  ⟨s _ _ h.top, xs, s _ _ e, a⟩
theorem Dk.eq {H : Hp} {d c : Addr} {n m : Int} (h : Dk H d c n) (e : n = m) : Dk H d c m := e ▸ h
def sp_law_deck (K : PySem.W.Frag) : Sp := fun vs H Q _ => ∃ (a : Addr) (ns : List Int), vs = [.ref a] ∧ SqL K H a (ns.map V.int) ∧ ns.length ≤ 63 ∧
  ∀ H' d c, Same H H' → H d = none → H c = none → Dk H' d c 0 → Q (.ref d) H'
def sp_law_draw : Sp := fun vs H Q _ => ∃ (d c : Addr) (n lim : Int), vs = [.ref d, .int lim] ∧ Dk H d c n ∧ 0 ≤ n ∧ n < 1000000 ∧ 0 < lim ∧ lim < 2 ^ 63 ∧
  ∀ H' r, Kp d c H H' → Dk H' d c (n + 1) → 0 ≤ r → r < lim → Q (.int r) H'
theorem same_new {H : Hp} {p : Addr} {o : HO} (h : H p = none) : Same H (upd H p o) := fun b x e => by
  rw [upd_ne (ne_of_none e h)]
  exact e
theorem cutTo (xs : List V) (j : Nat) : cutV xs none (some (j : Int)) = xs.take j := by
  unfold cutV
  rw [HT.sIx_none, show HT.sIx xs.length xs.length (some (j : Int)) = min j xs.length from HT.sIx_nat xs.length xs.length j]
  rw [Nat.sub_zero, List.drop_zero]
  rcases Nat.le_total j xs.length with h | h
  · rw [Nat.min_eq_left h]
  · rw [Nat.min_eq_right h, List.take_length, List.take_of_length_le h]
section
structure Tx (K : PySem.W.Frag) (mg : Str → Option Value) (f_is_number f_is_position f_is_tuple_of f_is_interval f_ascending_error f_targets_error f_is_pieces f_law_deck f_law_draw f_law_line f_law_interval f_law_intervals f_law_right f_law_is_interval f_law_error f_law_changed f_law_made f_law f_Plan_init f_Plan_targets f_Plan_pieces f_Plan_edits f_Plan_state_at f_Plan_len f_Plan_str f_BadTargets_init C_Plan X_BadTargets X_SpanError X_BadPieces X_BadInterval X_BadEdits : Addr) (d_is_number d_is_position d_is_tuple_of d_is_interval d_ascending_error d_targets_error d_is_pieces d_law_deck d_law_draw d_law_line d_law_interval d_law_intervals d_law_right d_law_is_interval d_law_error d_law_changed d_law_made d_law d_Plan_init d_Plan_targets d_Plan_pieces d_Plan_edits d_Plan_state_at d_Plan_len d_Plan_str d_BadTargets_init : FuncData) (t_LAST_POSITION t_MAX_TARGETS t_MAX_PIECES : Tok) : Prop where
  F_is_number : Fun K "is_number" "is_number" s_is_number f_is_number d_is_number
  b_is_number : Binds K d_is_number ["value"] []
  g_is_number : mg "is_number" = some (.ref f_is_number)
  F_is_position : Fun K "is_position" "is_position" s_is_position f_is_position d_is_position
  b_is_position : Binds K d_is_position ["value"] []
  g_is_position : mg "is_position" = some (.ref f_is_position)
  F_is_tuple_of : Fun K "is_tuple_of" "is_tuple_of" s_is_tuple_of f_is_tuple_of d_is_tuple_of
  b_is_tuple_of : Binds K d_is_tuple_of ["value", "length"] []
  g_is_tuple_of : mg "is_tuple_of" = some (.ref f_is_tuple_of)
  F_is_interval : Fun K "is_interval" "is_interval" s_is_interval f_is_interval d_is_interval
  b_is_interval : Binds K d_is_interval ["value"] []
  g_is_interval : mg "is_interval" = some (.ref f_is_interval)
  F_ascending_error : Fun K "ascending_error" "ascending_error" s_ascending_error f_ascending_error d_ascending_error
  b_ascending_error : Binds K d_ascending_error ["value", "most"] []
  g_ascending_error : mg "ascending_error" = some (.ref f_ascending_error)
  F_targets_error : Fun K "targets_error" "targets_error" s_targets_error f_targets_error d_targets_error
  b_targets_error : Binds K d_targets_error ["value"] []
  g_targets_error : mg "targets_error" = some (.ref f_targets_error)
  F_is_pieces : Fun K "is_pieces" "is_pieces" s_is_pieces f_is_pieces d_is_pieces
  b_is_pieces : Binds K d_is_pieces ["value"] []
  g_is_pieces : mg "is_pieces" = some (.ref f_is_pieces)
  F_law_deck : Fun K "_law_deck" "_law_deck" s_law_deck f_law_deck d_law_deck
  b_law_deck : Binds K d_law_deck ["_law_script"] []
  g_law_deck : mg "_law_deck" = some (.ref f_law_deck)
  F_law_draw : Fun K "_law_draw" "_law_draw" s_law_draw f_law_draw d_law_draw
  b_law_draw : Binds K d_law_draw ["_law_deck_here", "_law_many"] []
  g_law_draw : mg "_law_draw" = some (.ref f_law_draw)
  F_law_line : Fun K "_law_line" "_law_line" s_law_line f_law_line d_law_line
  b_law_line : Binds K d_law_line ["_law_deck_here", "_law_most"] []
  g_law_line : mg "_law_line" = some (.ref f_law_line)
  F_law_interval : Fun K "_law_interval" "_law_interval" s_law_interval f_law_interval d_law_interval
  b_law_interval : Binds K d_law_interval ["_law_deck_here", "_law_line_here"] []
  g_law_interval : mg "_law_interval" = some (.ref f_law_interval)
  F_law_intervals : Fun K "_law_intervals" "_law_intervals" s_law_intervals f_law_intervals d_law_intervals
  b_law_intervals : Binds K d_law_intervals ["_law_deck_here", "_law_line_here", "_law_most"] []
  g_law_intervals : mg "_law_intervals" = some (.ref f_law_intervals)
  F_law_right : Fun K "_law_right" "_law_right" s_law_right f_law_right d_law_right
  b_law_right : Binds K d_law_right ["_law_plan", "_law_state", "_law_edits"] []
  g_law_right : mg "_law_right" = some (.ref f_law_right)
  F_law_is_interval : Fun K "_law_is_interval" "_law_is_interval" s_law_is_interval f_law_is_interval d_law_is_interval
  b_law_is_interval : Binds K d_law_is_interval ["_law_value"] []
  g_law_is_interval : mg "_law_is_interval" = some (.ref f_law_is_interval)
  F_law_error : Fun K "_law_error" "_law_error" s_law_error f_law_error d_law_error
  b_law_error : Binds K d_law_error ["_law_value", "_law_most"] []
  g_law_error : mg "_law_error" = some (.ref f_law_error)
  F_law_changed : Fun K "_law_changed" "_law_changed" s_law_changed f_law_changed d_law_changed
  b_law_changed : Binds K d_law_changed ["_law_deck_here", "_law_intervals_here"] []
  g_law_changed : mg "_law_changed" = some (.ref f_law_changed)
  F_law_made : Fun K "_law_made" "_law_made" s_law_made f_law_made d_law_made
  b_law_made : Binds K d_law_made ["_law_targets", "_law_pieces"] []
  g_law_made : mg "_law_made" = some (.ref f_law_made)
  F_law : Fun K "law" "law" s_law f_law d_law
  b_law : Binds K d_law ["_law_script"] []
  g_law : mg "law" = some (.ref f_law)
  F_Plan_init : Fun K "__init__" "Plan.__init__" s_Plan_init f_Plan_init d_Plan_init
  b_Plan_init : Binds K d_Plan_init ["self", "targets", "pieces"] []
  m_Plan_init : Meth K C_Plan "__init__" f_Plan_init
  F_Plan_targets : FunD K "targets" "Plan.targets" (defArgs s_Plan_targets) (defBody s_Plan_targets) (defScope s_Plan_targets) [] [("version", V.non)] f_Plan_targets d_Plan_targets
  b_Plan_targets : ∃ ds, Vals [V.non] ds ∧ Binds K d_Plan_targets ["self", "version"] ds
  k_Plan_targets : KBn K d_Plan_targets ["self", "version"] 1 ["version"] (fun us ws => us ++ ws) (fun vs zs => vs ++ zs)
  m_Plan_targets : Meth K C_Plan "targets" f_Plan_targets
  F_Plan_pieces : FunD K "pieces" "Plan.pieces" (defArgs s_Plan_pieces) (defBody s_Plan_pieces) (defScope s_Plan_pieces) [] [("version", V.non)] f_Plan_pieces d_Plan_pieces
  b_Plan_pieces : ∃ ds, Vals [V.non] ds ∧ Binds K d_Plan_pieces ["self", "version"] ds
  k_Plan_pieces : KBn K d_Plan_pieces ["self", "version"] 1 ["version"] (fun us ws => us ++ ws) (fun vs zs => vs ++ zs)
  m_Plan_pieces : Meth K C_Plan "pieces" f_Plan_pieces
  F_Plan_edits : Fun K "edits" "Plan.edits" s_Plan_edits f_Plan_edits d_Plan_edits
  b_Plan_edits : Binds K d_Plan_edits ["self"] []
  m_Plan_edits : Meth K C_Plan "edits" f_Plan_edits
  F_Plan_state_at : Fun K "state_at" "Plan.state_at" s_Plan_state_at f_Plan_state_at d_Plan_state_at
  b_Plan_state_at : Binds K d_Plan_state_at ["self", "version"] []
  m_Plan_state_at : Meth K C_Plan "state_at" f_Plan_state_at
  F_Plan_len : Fun K "__len__" "Plan.__len__" s_Plan_len f_Plan_len d_Plan_len
  b_Plan_len : Binds K d_Plan_len ["self"] []
  m_Plan_len : Meth K C_Plan "__len__" f_Plan_len
  F_Plan_str : Fun K "__str__" "Plan.__str__" s_Plan_str f_Plan_str d_Plan_str
  b_Plan_str : Binds K d_Plan_str ["self"] []
  m_Plan_str : Meth K C_Plan "__str__" f_Plan_str
  F_BadTargets_init : Fun K "__init__" "BadTargets.__init__" s_BadTargets_init f_BadTargets_init d_BadTargets_init
  b_BadTargets_init : Binds K d_BadTargets_init ["self", "error"] []
  c_LAST_POSITION : mg "LAST_POSITION" = some (.int 1000000000000 t_LAST_POSITION)
  c_MAX_TARGETS : mg "MAX_TARGETS" = some (.int 24 t_MAX_TARGETS)
  c_MAX_PIECES : mg "MAX_PIECES" = some (.int 30 t_MAX_PIECES)
  z_abs : mg "abs" = none
  z_bool : mg "bool" = none
  z_enumerate : mg "enumerate" = none
  z_int : mg "int" = none
  z_isinstance : mg "isinstance" = none
  z_len : mg "len" = none
  z_list : mg "list" = none
  z_range : mg "range" = none
  z_repr : mg "repr" = none
  z_set : mg "set" = none
  z_sorted : mg "sorted" = none
  z_str : mg "str" = none
  z_tuple : mg "tuple" = none
  cl_Plan : Cls K C_Plan
  g_Plan : mg "Plan" = some (.ref C_Plan)
  mk_Plan : Mk K C_Plan f_Plan_init
  n_Plan_states : NoAttr K C_Plan "states"
  n_Plan_done : NoAttr K C_Plan "done"
  n_Plan_busy : NoAttr K C_Plan "busy"
  is_Plan : PySem.W.findIn K (.ref C_Plan) "__class__" = some (some (.builtin "object.__class__")) ∧ PySem.W.specialIn K (.builtin "object.__class__") "__get__" = some (some (.builtin "getset_descriptor.__get__")) ∧ PySem.W.takesIn K (.builtin "object.__class__") = some true ∧ PySem.W.mroIn K C_Plan (.type "object") = some true
  nl_Plan : PySem.W.subIn K (.ref C_Plan) (.type "list") = some false
  xn_BadTargets : XcN K mg "BadTargets" X_BadTargets
  xn_SpanError : XcN K mg "SpanError" X_SpanError
  xn_BadPieces : XcN K mg "BadPieces" X_BadPieces
  xn_BadInterval : XcN K mg "BadInterval" X_BadInterval
  xn_BadEdits : XcN K mg "BadEdits" X_BadEdits
  xi_BadTargets : XcI K X_BadTargets f_BadTargets_init "error"
  xv_BadTargets : PySem.W.subIn K (.ref X_BadTargets) (.type "ValueError") = some true
  xl_BadTargets : PySem.W.subIn K (.ref X_BadTargets) (.type "LookupError") = some false
  xs_BadTargets_SpanError : PySem.W.subIn K (.ref X_BadTargets) (.ref X_SpanError) = some true
  xs_BadTargets_BadPieces : PySem.W.subIn K (.ref X_BadTargets) (.ref X_BadPieces) = some false
  xs_BadTargets_BadInterval : PySem.W.subIn K (.ref X_BadTargets) (.ref X_BadInterval) = some false
  xs_BadTargets_BadEdits : PySem.W.subIn K (.ref X_BadTargets) (.ref X_BadEdits) = some false
  xr_BadPieces : XcR K X_BadPieces
  xv_BadPieces : PySem.W.subIn K (.ref X_BadPieces) (.type "ValueError") = some true
  xs_BadPieces_SpanError : PySem.W.subIn K (.ref X_BadPieces) (.ref X_SpanError) = some true
  xs_BadPieces_BadTargets : PySem.W.subIn K (.ref X_BadPieces) (.ref X_BadTargets) = some false
  xs_BadPieces_BadInterval : PySem.W.subIn K (.ref X_BadPieces) (.ref X_BadInterval) = some false
  xs_BadPieces_BadEdits : PySem.W.subIn K (.ref X_BadPieces) (.ref X_BadEdits) = some false
variable {P : Program} {w : World} {K : PySem.W.Frag} {mg : Str → Option Value} {base : Heap} {f_is_number f_is_position f_is_tuple_of f_is_interval f_ascending_error f_targets_error f_is_pieces f_law_deck f_law_draw f_law_line f_law_interval f_law_intervals f_law_right f_law_is_interval f_law_error f_law_changed f_law_made f_law f_Plan_init f_Plan_targets f_Plan_pieces f_Plan_edits f_Plan_state_at f_Plan_len f_Plan_str f_BadTargets_init C_Plan X_BadTargets X_SpanError X_BadPieces X_BadInterval X_BadEdits : Addr} {d_is_number d_is_position d_is_tuple_of d_is_interval d_ascending_error d_targets_error d_is_pieces d_law_deck d_law_draw d_law_line d_law_interval d_law_intervals d_law_right d_law_is_interval d_law_error d_law_changed d_law_made d_law d_Plan_init d_Plan_targets d_Plan_pieces d_Plan_edits d_Plan_state_at d_Plan_len d_Plan_str d_BadTargets_init : FuncData} {t_LAST_POSITION t_MAX_TARGETS t_MAX_PIECES : Tok}
abbrev TxA (K : PySem.W.Frag) (mg : Str → Option Value) (f_is_number f_is_position f_is_tuple_of f_is_interval f_ascending_error f_targets_error f_is_pieces f_law_deck f_law_draw f_law_line f_law_interval f_law_intervals f_law_right f_law_is_interval f_law_error f_law_changed f_law_made f_law f_Plan_init f_Plan_targets f_Plan_pieces f_Plan_edits f_Plan_state_at f_Plan_len f_Plan_str f_BadTargets_init C_Plan X_BadTargets X_SpanError X_BadPieces X_BadInterval X_BadEdits : Addr) (d_is_number d_is_position d_is_tuple_of d_is_interval d_ascending_error d_targets_error d_is_pieces d_law_deck d_law_draw d_law_line d_law_interval d_law_intervals d_law_right d_law_is_interval d_law_error d_law_changed d_law_made d_law d_Plan_init d_Plan_targets d_Plan_pieces d_Plan_edits d_Plan_state_at d_Plan_len d_Plan_str d_BadTargets_init : FuncData) (t_LAST_POSITION t_MAX_TARGETS t_MAX_PIECES : Tok) := Tx K mg f_is_number f_is_position f_is_tuple_of f_is_interval f_ascending_error f_targets_error f_is_pieces f_law_deck f_law_draw f_law_line f_law_interval f_law_intervals f_law_right f_law_is_interval f_law_error f_law_changed f_law_made f_law f_Plan_init f_Plan_targets f_Plan_pieces f_Plan_edits f_Plan_state_at f_Plan_len f_Plan_str f_BadTargets_init C_Plan X_BadTargets X_SpanError X_BadPieces X_BadInterval X_BadEdits d_is_number d_is_position d_is_tuple_of d_is_interval d_ascending_error d_targets_error d_is_pieces d_law_deck d_law_draw d_law_line d_law_interval d_law_intervals d_law_right d_law_is_interval d_law_error d_law_changed d_law_made d_law d_Plan_init d_Plan_targets d_Plan_pieces d_Plan_edits d_Plan_state_at d_Plan_len d_Plan_str d_BadTargets_init t_LAST_POSITION t_MAX_TARGETS t_MAX_PIECES
theorem ok_law_deck (T : Tx K mg f_is_number f_is_position f_is_tuple_of f_is_interval f_ascending_error f_targets_error f_is_pieces f_law_deck f_law_draw f_law_line f_law_interval f_law_intervals f_law_right f_law_is_interval f_law_error f_law_changed f_law_made f_law f_Plan_init f_Plan_targets f_Plan_pieces f_Plan_edits f_Plan_state_at f_Plan_len f_Plan_str f_BadTargets_init C_Plan X_BadTargets X_SpanError X_BadPieces X_BadInterval X_BadEdits d_is_number d_is_position d_is_tuple_of d_is_interval d_ascending_error d_targets_error d_is_pieces d_law_deck d_law_draw d_law_line d_law_interval d_law_intervals d_law_right d_law_is_interval d_law_error d_law_changed d_law_made d_law d_Plan_init d_Plan_targets d_Plan_pieces d_Plan_edits d_Plan_state_at d_Plan_len d_Plan_str d_BadTargets_init t_LAST_POSITION t_MAX_TARGETS t_MAX_PIECES) : FnOk P w K mg base CX0 1 f_law_deck d_law_deck ["_law_script"] (sp_law_deck K) := by
  refine T.F_law_deck.ok sc_law_deck (fun vs H Q E h => ?_) (fun cdv A outer s H vs Q E hr h => ?_)
  · obtain ⟨a, ns, rfl, _⟩ := h
    rfl
  · obtain ⟨a, ns0, rfl, hS, hlen, q⟩ := h
    refine ⟨_, (pss_one (ps_ret (pe_lst (pa_cons (pe_lc (own := [("_law_cell", 1)]) (g := (gName 1)) (tt := tYes) (by rfl) sc_law_deck.nd (pi_list (pe_slice sl_list (pv 0) po_none (po_some pe_int))) (blkOk_by (own := [("_law_cell", 1)]) (N := N_law_deck) (sc := defScope s_law_deck) (by decide +kernel)) (fun _ _ _ _ _ => (pg_name (i := 1) sc_law_deck.nd rfl (Or.inl rfl))) (fun _ _ _ _ _ => pts_nil) (fun _ _ _ _ _ => (pe_callB call_abs (by rfl) T.z_abs (by decide +kernel) (pa_cons (pv 1) pa_nil)))) (pa_cons pe_int pa_nil))))), ?_⟩
    refine ⟨.ref a, rfl, 63, rfl, a, ns0.map V.int, rfl, hS, fun p np => ?_⟩
    rw [show cutV (ns0.map V.int) none (some 63) = (ns0.take 63).map V.int by rw [List.map_take]; exact cutTo _ 63]
    have hlen : (ns0.take 63).length ≤ 63 := Nat.le_trans (List.length_take_le' _ _) hlen
    generalize ns0.take 63 = ns at *
    have s1 : Same H (upd H p (.lst (ns.map V.int))) := same_new np
    refine ⟨p, rfl, ⟨_, SqL.of upd_same⟩, fun D nD => ?_⟩
    have nDp : D ≠ p := fun e => by
      rw [e, upd_same] at nD
      cases nD
    have nD0 : H D = none := by
      rw [upd_ne nDp] at nD
      exact nD
    refine lc_list (K := K) (a := p) (xs := ns.map V.int) (fun i H' => Same (upd H p (.lst (ns.map V.int))) H' ∧ H' D = some (.lst (((ns.take i).map fun (x : Int) => if x < 0 then -x else x).map V.int))) ⟨same_new nD, upd_same⟩ (fun i H' _ h => h.1.seq (SqL.of upd_same)) ?_ ?_
    · rintro i x H' hi ⟨sm, eD⟩
      rw [List.getElem?_map] at hi
      obtain ⟨n, en, rfl⟩ := Option.map_eq_some_iff.mp hi
      refine ⟨rfl, .int n, rfl, n, rfl, _, eD, ?_, ?_, ?_⟩
      · have : (List.take i ns).length ≤ ns.length := List.length_take_le' i ns
        simp only [List.length_map]
        exact small1000 (by omega)
      · intro b o e
        have nb : b ≠ D := ne_of_none e nD
        rw [upd_ne nb]
        exact sm b o e
      · rw [upd_same, List.take_add_one, en]
        simp
    · rintro H' ⟨sm, eD⟩
      rw [List.length_map, List.take_length] at eD
      refine ⟨by show 2 ≤ sizeLine; decide, fun d nd => ?_⟩
      have nDd : D ≠ d := ne_of_none eD nd
      have nd0 : H d = none := s1.free (sm.free nd)
      refine q _ d D (s1.trans (sm.trans (same_new nd))) nd0 nD0 ⟨upd_same, _, by rw [upd_ne nDd]; exact eD, by rw [List.length_map]; exact hlen, fun x hx => ?_⟩
      obtain ⟨y, _, rfl⟩ := List.mem_map.mp hx
      split <;> omega
theorem ok_law_draw (T : Tx K mg f_is_number f_is_position f_is_tuple_of f_is_interval f_ascending_error f_targets_error f_is_pieces f_law_deck f_law_draw f_law_line f_law_interval f_law_intervals f_law_right f_law_is_interval f_law_error f_law_changed f_law_made f_law f_Plan_init f_Plan_targets f_Plan_pieces f_Plan_edits f_Plan_state_at f_Plan_len f_Plan_str f_BadTargets_init C_Plan X_BadTargets X_SpanError X_BadPieces X_BadInterval X_BadEdits d_is_number d_is_position d_is_tuple_of d_is_interval d_ascending_error d_targets_error d_is_pieces d_law_deck d_law_draw d_law_line d_law_interval d_law_intervals d_law_right d_law_is_interval d_law_error d_law_changed d_law_made d_law d_Plan_init d_Plan_targets d_Plan_pieces d_Plan_edits d_Plan_state_at d_Plan_len d_Plan_str d_BadTargets_init t_LAST_POSITION t_MAX_TARGETS t_MAX_PIECES) : FnOk P w K mg base CX0 1 f_law_draw d_law_draw ["_law_deck_here", "_law_many"] sp_law_draw := by
  refine T.F_law_draw.ok sc_law_draw (fun vs H Q E h => ?_) (fun cdv A outer s H vs Q E hr h => ?_)
  · obtain ⟨d, c, n, lim, rfl, _⟩ := h
    rfl
  · obtain ⟨d, c, n, lim, rfl, dk, n0, n1, l0, l1, q⟩ := h
    obtain ⟨xs, ec, xl, xp⟩ := dk.cells
    have ncd := dk.ne
    have ed := dk.top
    have l64 : lim.natAbs < 2 ^ 64 := by omega
    have n64 : (n + 1).natAbs < 2 ^ 64 := by omega
    refine ⟨_, (pss_cons (ps_asg (pe_op op_add (pe_ix ix_list (pv 0) pe_int (fun _ _ => rfl)) pe_int) (pg_sub (pv 0) pe_int set_list))
      (pss_cons (ps_set (i := 2) sc_law_draw.nd rfl (Or.inl rfl) pe_int)
      (pss_cons (ps_set (i := 3) sc_law_draw.nd rfl (Or.inl rfl) (pe_un un_neg pe_int))
      (pss_cons (ps_if (pt_cmpR op_gt (pe_callB call_len_seq (by rfl) T.z_len PySem.boot_len (pa_cons (pe_ix ix_list (pv 0) pe_int (fun _ _ => rfl)) pa_nil)) pe_int (nomark _))
      (pss_cons (ps_set (i := 3) sc_law_draw.nd rfl (Or.inl rfl) (pe_op op_mod (pe_ix ix_list (pv 0) pe_int (fun _ _ => rfl)) (pe_callB call_len_seq (by rfl) T.z_len PySem.boot_len (pa_cons (pe_ix ix_list (pv 0) pe_int (fun _ _ => rfl)) pa_nil))))
      (pss_one (ps_set (i := 2) sc_law_draw.nd rfl (Or.inl rfl) (pe_ix ix_list (pe_ix ix_list (pv 0) pe_int (fun _ _ => rfl)) (pv 3) (fun _ _ => rfl)))))
      pss_nil)
      (pss_cons (ps_if (pt_cmpR op_ge (pv 2) (pe_op op_pow pe_int pe_int) (nomark _))
      (pss_cons (ps_asg (pe_op op_fdivW (pv 2) (pv 1)) (pg_sub (pe_ix ix_list (pv 0) pe_int (fun _ _ => rfl)) (pv 3) set_list))
      (pss_one (ps_ret (pe_op op_mod (pv 2) (pv 1)))))
      pss_nil)
      (pss_one (ps_ret (pe_op op_mod (pe_op op_mod (pe_op op_pow (pe_op op_add (pe_op op_add (pe_op op_mod (pv 2) pe_int) (pe_op op_mulW pe_int (pe_ix ix_list (pv 0) pe_int (fun _ _ => rfl)))) pe_int) pe_int) pe_int) (pv 1))))))))), ?_⟩
    refine ⟨.ref d, rfl, d, _, 1, .int n, rfl, rfl, SqL.of ed, rfl, n, 1, rfl, rfl, .ref d, rfl, d, _, 1, 1, rfl, rfl, ed, rfl, ?_⟩
    generalize eH : upd H d (.lst ([V.ref c, V.int n].set 1 (.int (n + 1)))) = H1
    have ed1 : H1 d = some (.lst [.ref c, .int (n + 1)]) := by
      rw [← eH, upd_same]
      rfl
    have ec1 : H1 c = some (.lst (xs.map V.int)) := by
      rw [← eH, upd_ne ncd]
      exact ec
    have kp1 : Kp d c H H1 := fun b o nb _ e => by
      rw [← eH, upd_ne nb]
      exact e
    have dk1 : Dk H1 d c (n + 1) := ⟨ed1, xs, ec1, xl, xp⟩
    refine ⟨1, rfl, ?_⟩
    refine ⟨.ref d, rfl, d, _, 0, .ref c, rfl, rfl, SqL.of ed1, rfl, c, _, rfl, .inl (SqL.of ec1), _, _, rfl, rfl, _, rfl, ite2 (fun e => ?_) (fun e => ?_)⟩
    · have e1 := of_decide_eq_true e
      rw [List.length_map] at e1
      have lp : (0 : Int) < (xs.map V.int).length := by rw [List.length_map]; exact e1
      have rem0 : 0 ≤ (n + 1) % ((xs.map V.int).length : Int) := Int.emod_nonneg _ (by omega)
      have rem1 : (n + 1) % ((xs.map V.int).length : Int) < (xs.map V.int).length := Int.emod_lt_of_pos _ lp
      obtain ⟨j, ej⟩ : ∃ j : Nat, (n + 1) % ((xs.map V.int).length : Int) = j := ⟨_, (Int.toNat_of_nonneg rem0).symm⟩
      have hj : j < xs.length := by
        rw [ej, List.length_map] at rem1
        omega
      have gj : (xs.map V.int)[j]? = some (.int xs[j]) := by
        rw [List.getElem?_map, List.getElem?_eq_getElem hj]
        rfl
      have x0 : 0 ≤ xs[j] := xp _ (List.getElem_mem hj)
      refine ⟨.ref d, rfl, d, _, 1, .int (n + 1), rfl, rfl, SqL.of ed1, rfl, .ref d, rfl, d, _, 0, .ref c, rfl, rfl, SqL.of ed1, rfl, c, _, rfl, .inl (SqL.of ec1), _, _, rfl, rfl, lp, ?_⟩
      refine ⟨.ref d, rfl, d, _, 0, .ref c, rfl, rfl, SqL.of ed1, rfl, .int _, rfl, c, _, _, .int xs[j], rfl, rfl, SqL.of ec1, (by rw [ej]; exact atI_nat gj), ?_⟩
      refine ⟨.int xs[j], rfl, 10, 18, rfl, rfl, ⟨by decide, by decide, by decide⟩, _, _, rfl, rfl, _, rfl, ite2 (fun e2 => ?_) (fun e2 => ?_)⟩
      · refine ⟨.int xs[j], rfl, .int lim, rfl, _, _, rfl, rfl, wide_div l0 l64 (by decide) (by decide), .ref d, rfl, d, _, 0, .ref c, rfl, rfl, SqL.of ed1, rfl, .int _, rfl, c, _, _, j, rfl, rfl, ec1, ?_, ?_⟩
        · rw [ej]
          unfold ixN
          rw [if_pos (by omega), if_pos (by rw [List.length_map]; omega)]
          rfl
        · refine ⟨.int xs[j], rfl, .int lim, rfl, _, _, rfl, rfl, l0, ?_⟩
          refine q _ _ ?_ ⟨?_, xs.set j (xs[j] / lim), ?_, ?_, ?_⟩ (Int.emod_nonneg _ (by omega)) (Int.emod_lt_of_pos _ l0)
          · intro b o nb nc e
            rw [upd_ne nc]
            exact kp1 b o nb nc e
          · rw [upd_ne ncd.symm]
            exact ed1
          · rw [upd_same, List.map_set]
          · rw [List.length_set]
            exact xl
          · intro x hx
            rcases List.mem_or_eq_of_mem_set hx with hm | he
            · exact xp x hm
            · rw [he]
              exact Int.ediv_nonneg x0 (by omega)
      · refine ⟨.int xs[j], rfl, _, _, rfl, rfl, (by show (0 : Int) < 2147483587; decide), .ref d, rfl, d, _, 1, .int (n + 1), rfl, rfl, SqL.of ed1, rfl, _, _, rfl, rfl, wide_mul (a := 13) (b := 64) (by decide) n64 (by decide) (by decide) (by decide), _, _, rfl, rfl, _, _, rfl, rfl, _, _, rfl, rfl, ⟨by decide, by decide, ?_⟩, _, _, rfl, rfl, (by show (0 : Int) < 2147483647; decide), .int lim, rfl, _, _, rfl, rfl, l0, ?_⟩
        · have a0 := Int.emod_nonneg xs[j] (show (2147483587 : Int) ≠ 0 by decide)
          have a1 := Int.emod_lt_of_pos xs[j] (show (0 : Int) < 2147483587 by decide)
          omega
        · exact q _ _ kp1 dk1 (Int.emod_nonneg _ (by omega)) (Int.emod_lt_of_pos _ l0)
    · refine ⟨.int 0, rfl, 10, 18, rfl, rfl, ⟨by decide, by decide, by decide⟩, _, _, rfl, rfl, _, rfl, ite2 (fun e2 => ?_) (fun e2 => ?_)⟩
      · exact absurd e2 (by decide)
      · refine ⟨.int 0, rfl, _, _, rfl, rfl, (by show (0 : Int) < 2147483587; decide), .ref d, rfl, d, _, 1, .int (n + 1), rfl, rfl, SqL.of ed1, rfl, _, _, rfl, rfl, wide_mul (a := 13) (b := 64) (by decide) n64 (by decide) (by decide) (by decide), _, _, rfl, rfl, _, _, rfl, rfl, _, _, rfl, rfl, ⟨by decide, by decide, ?_⟩, _, _, rfl, rfl, (by show (0 : Int) < 2147483647; decide), .int lim, rfl, _, _, rfl, rfl, l0, ?_⟩
        · have a0 := Int.emod_nonneg 0 (show (2147483587 : Int) ≠ 0 by decide)
          have a1 := Int.emod_lt_of_pos 0 (show (0 : Int) < 2147483587 by decide)
          omega
        · exact q _ _ kp1 dk1 (Int.emod_nonneg _ (by omega)) (Int.emod_lt_of_pos _ l0)
theorem Kp.keep {d c : Addr} {H H' : Hp} (k : Kp d c H H') {a : Addr} {o : HO} (n1 : a ≠ d ∧ a ≠ c) (h : H a = some o) : H' a = some o := k a o n1.1 n1.2 h
theorem Kp.tup {d c : Addr} {n : Int} {H H' : Hp} (k : Kp d c H H') (dk : Dk H d c n) {a : Addr} {xs : List V} (h : H a = some (.tup xs)) : H' a = some (.tup xs) := by
  obtain ⟨ys, e, _⟩ := dk.cells
  exact k a _ (ne_of h dk.top (fun z => by cases z)) (ne_of h e (fun z => by cases z)) h
theorem Dk.off {H : Hp} {d c : Addr} {n : Int} (h : Dk H d c n) {p : Addr} (e : H p = none) : p ≠ d ∧ p ≠ c := by
  obtain ⟨ys, z, _⟩ := h.cells
  exact ⟨(ne_of_none h.top e).symm, (ne_of_none z e).symm⟩
theorem Dk.upd {H : Hp} {d c : Addr} {n : Int} (h : Dk H d c n) {p : Addr} {o : HO} (off : p ≠ d ∧ p ≠ c) : Dk (upd H p o) d c n := by
  obtain ⟨ys, z, w⟩ := h.cells
  exact ⟨by rw [upd_ne off.1.symm]; exact h.top, ys, by rw [upd_ne off.2.symm]; exact z, w⟩

abbrev Off (d c p : Addr) : Prop := p ≠ d ∧ p ≠ c
/-! ### what stays when the heap grows, or the deck is drawn from -/
theorem rd_same {H H' : Hp} (s : Same H H') {a : Addr} {u : HO} (h : Rd H a u) : Rd H' a u := by
  rcases h with h | ⟨o, h⟩
  · exact .inl (s _ _ h)
  · exact .inr ⟨o, s _ _ h⟩
theorem sqT_same {K : PySem.W.Frag} {H H' : Hp} (s : Same H H') {a : Addr} {xs : List V} (h : SqT K H a xs) : SqT K H' a xs := by
  rcases h with h | h
  · exact .inl (rd_same s h)
  · exact .inr h
theorem dp_same {K : PySem.W.Frag} {H H' : Hp} (s : Same H H') {v : V} {d : PyData} (h : Dp K H v d) : Dp K H' v d := by
  refine Dp.rec (K := K) (H := H) (motive_1 := fun v d _ => Dp K H' v d) (motive_2 := fun vs ds _ => DpAll K H' vs ds) .non (fun b => .bl b) (fun i => .int i) (fun x => .str x) (fun hs _ q => .lst (s.seq hs) q) (fun hs _ q => .tup (sqT_same s hs) q) .nil (fun _ _ a b => .cons a b) h
theorem dp2 {K : PySem.W.Frag} {H : Hp} {t : Addr} {x y : Int} (h : H t = some (.tup [.int x, .int y])) : Dp K H (.ref t) (.tuple [.int x, .int y]) := .tup (SqT.of h) (.cons (.int x) (.cons (.int y) .nil))
theorem sm2 {x y : Int} (h1 : x.natAbs < 10 ^ 30) (h2 : y.natAbs < 10 ^ 30) : Sm 202 1 (.tuple [.int x, .int y]) := by
  have h := Sm.tup (n := 100) (dp := 0) (ds := [.int x, .int y]) (fun d hd => by
    rcases List.mem_cons.mp hd with rfl | hd
    · exact Sm.int h1
    · rcases List.mem_cons.mp hd with rfl | hd
      · exact Sm.int h2
      · cases hd)
  exact h
/-- an interval, or None -/
def optD : Option (Int × Int) → PyData
  | none => .none
  | some (x, y) => .tuple [.int x, .int y]
def OV (H : Hp) (v : V) : Option (Int × Int) → Prop
  | none => v = .non
  | some (x, y) => ∃ t, v = .ref t ∧ H t = some (.tup [.int x, .int y])
theorem OV.same {H H' : Hp} (s : Same H H') {v : V} {o : Option (Int × Int)} (h : OV H v o) : OV H' v o := by
  match o, h with
  | none, h => exact h
  | some (x, y), h =>
    obtain ⟨t, e, z⟩ := h
    exact ⟨t, e, s _ _ z⟩
theorem OV.kp {d c : Addr} {n : Int} {H H' : Hp} (k : Kp d c H H') (dk : Dk H d c n) {v : V} {o : Option (Int × Int)} (h : OV H v o) : OV H' v o := by
  match o, h with
  | none, h => exact h
  | some (x, y), h =>
    obtain ⟨t, e, z⟩ := h
    exact ⟨t, e, k.tup dk z⟩
theorem OV.dp {K : PySem.W.Frag} {H : Hp} {v : V} {o : Option (Int × Int)} (h : OV H v o) : Dp K H v (optD o) := by
  match o, h with
  | none, h =>
    cases h
    exact .non
  | some (x, y), h =>
    obtain ⟨t, e, z⟩ := h
    subst e
    exact dp2 z

/-! ### rows of intervals -/
inductive Ivs (H : Hp) : List V → List (Int × Int) → Prop
  | nil : Ivs H [] []
  | cons {a : Addr} {x y : Int} {vs : List V} {ps : List (Int × Int)} : H a = some (.tup [.int x, .int y]) → Ivs H vs ps → Ivs H (.ref a :: vs) ((x, y) :: ps)
theorem Ivs.length {H : Hp} {vs : List V} {ps : List (Int × Int)} (h : Ivs H vs ps) : vs.length = ps.length := by
  induction h with
  | nil => rfl
  | cons _ _ ih => rw [List.length_cons, List.length_cons, ih]
theorem Ivs.same {H H' : Hp} (s : Same H H') {vs : List V} {ps : List (Int × Int)} (h : Ivs H vs ps) : Ivs H' vs ps := by
  induction h with
  | nil => exact .nil
  | cons e _ ih => exact .cons (s _ _ e) ih
theorem Ivs.kp {d c : Addr} {n : Int} {H H' : Hp} (k : Kp d c H H') (dk : Dk H d c n) {vs : List V} {ps : List (Int × Int)} (h : Ivs H vs ps) : Ivs H' vs ps := by
  induction h with
  | nil => exact .nil
  | cons e _ ih => exact .cons (k.tup dk e) ih
theorem Ivs.get {H : Hp} {vs : List V} {ps : List (Int × Int)} (h : Ivs H vs ps) : ∀ {i : Nat} {v : V}, vs[i]? = some v → ∃ a x y, v = .ref a ∧ ps[i]? = some (x, y) ∧ H a = some (.tup [.int x, .int y]) := by
  induction h with
  | nil =>
    intro i v e
    simp at e
  | cons e _ ih =>
    intro i v q
    cases i with
    | zero =>
      cases q
      exact ⟨_, _, _, rfl, rfl, e⟩
    | succ i => exact ih q
theorem Ivs.snoc {H : Hp} {vs : List V} {ps : List (Int × Int)} {a : Addr} {x y : Int} (h : Ivs H vs ps) (e : H a = some (.tup [.int x, .int y])) : Ivs H (vs ++ [.ref a]) (ps ++ [(x, y)]) := by
  induction h with
  | nil => exact .cons e .nil
  | cons z _ ih => exact .cons z ih
def pairD (p : Int × Int) : PyData := .tuple [.int p.1, .int p.2]
theorem Ivs.dp {K : PySem.W.Frag} {H : Hp} {vs : List V} {ps : List (Int × Int)} (h : Ivs H vs ps) : DpAll K H vs (ps.map pairD) := by
  induction h with
  | nil => exact .nil
  | cons e _ ih => exact .cons (dp2 e) ih

/-! ### comprehensions that change nothing but make new objects -/
/-- the tuples stay -/
def Tps (H H' : Hp) : Prop := ∀ b xs, H b = some (.tup xs) → H' b = some (.tup xs)
theorem Tps.refl (H : Hp) : Tps H H := fun _ _ e => e
theorem Tps.trans {H H1 H2 : Hp} (h : Tps H H1) (h2 : Tps H1 H2) : Tps H H2 := fun b xs e => h2 b xs (h b xs e)
theorem Tps.same {H H1 : Hp} (h : Same H H1) : Tps H H1 := fun b xs e => h b _ e
theorem Kp.tps {d c : Addr} {n : Int} {H H' : Hp} (k : Kp d c H H') (dk : Dk H d c n) : Tps H H' := fun _ _ e => k.tup dk e
theorem Tps.lst {H : Hp} {D : Addr} {ws vs : List V} (e : H D = some (.lst ws)) : Tps H (upd H D (.lst vs)) := fun b xs h => by
  rw [upd_ne (ne_of h e (fun z => by cases z))]
  exact h
theorem same_off {H0 H : Hp} {D : Addr} {o : HO} (n : H0 D = none) (s : Same H0 H) : Same H0 (upd H D o) := fun b u e => by
  rw [upd_ne (ne_of_none e n)]
  exact s b u e
theorem few_line {n : Nat} (h : n < 1000) : n < sizeLine := by
  rw [show sizeLine = 16777216 by decide]
  omega
theorem lcL {K : PySem.W.Frag} {a : Addr} {xs : List V} {g : TG} {tt : TT} {te : TE} {vs : List Nat} {σ : L2.St} {H1 : Hp} {D : Addr} {Qd : Hp → Prop} (R : Nat → Hp → List V → Prop) (nD : H1 D = none) (hl : ∀ H', Same H1 H' → SqL K H' a xs) (few : xs.length < 1000)
    (mono : ∀ i H' H'' ws, Tps H' H'' → R i H' ws → R i H'' ws) (len : ∀ i H' ws, R i H' ws → ws.length ≤ i) (r0 : ∀ H', R 0 H' [])
    (hs : ∀ i x H' (N : Hp → Prop) acc, xs[i]? = some x → Same H1 H' → H' D = some (.lst acc) → acc.length < sizeLine → R i H' acc → (∀ H'', Same H' H'' → R (i + 1) H'' acc → N H'') → (∀ H'' y, Same H' H'' → R (i + 1) H'' (acc ++ [y]) → ∃ acc', H'' D = some (.lst acc') ∧ acc'.length < sizeLine ∧ N (upd H'' D (.lst (acc' ++ [y])))) →
      g x (wipe σ vs) H' fun σ2 H2 => wipe σ2 vs = wipe σ vs ∧ tt σ2 H2 fun b H3 => if b = true then te σ2 H3 fun y H4 => ∃ acc, H4 D = some (.lst acc) ∧ acc.length < sizeLine ∧ N (upd H4 D (.lst (acc ++ [y]))) else N H3)
    (hd : ∀ H' ws, Same H1 H' → H' D = some (.lst ws) → R xs.length H' ws → Qd H') :
    ∃ W : Nat → Nat → Hp → Prop, (∃ m, W 0 m (upd H1 D (.lst []))) ∧ ∀ i m H, W i m H →
      ((Itl K a).stop i H ∧ Qd H) ∨ ((Itl K a).go i H ∧ ∃ Nx : Hp → Prop, (∀ H', Nx H' → ∃ m', m' < m ∧ W (i + 1) m' H') ∧ ∀ x H', (Itl K a).yld i H x H' → g x (wipe σ vs) H' fun σ2 H2 => wipe σ2 vs = wipe σ vs ∧ tt σ2 H2 fun b H3 =>
        if b = true then te σ2 H3 fun y H4 => ∃ acc, H4 D = some (.lst acc) ∧ acc.length < sizeLine ∧ Nx (upd H4 D (.lst (acc ++ [y]))) else Nx H3) := by
  refine lc_list (K := K) (a := a) (xs := xs) (fun i H' => Same H1 H' ∧ ∃ ws, H' D = some (.lst ws) ∧ R i H' ws) ⟨same_new nD, [], upd_same, r0 _⟩ (fun i H' _ h => hl H' h.1) ?_ ?_
  · rintro i x H' hi ⟨sm, ws, eD, r⟩
    have lt := (List.getElem?_eq_some_iff.mp hi).1
    have lw := len i H' ws r
    have sz : ws.length < sizeLine := few_line (by omega)
    refine hs i x H' _ ws hi sm eD sz r (fun H'' s r2 => ⟨sm.trans s, ws, s _ _ eD, r2⟩) (fun H'' y s r2 => ?_)
    exact ⟨ws, s _ _ eD, sz, same_off nD (sm.trans s), _, upd_same, mono _ _ _ _ (Tps.lst (s _ _ eD)) r2⟩
  · rintro H' ⟨sm, ws, eD, r⟩
    exact hd H' ws sm eD r
theorem lcT {K : PySem.W.Frag} {a : Addr} {xs : List V} {g : TG} {tt : TT} {te : TE} {vs : List Nat} {σ : L2.St} {H1 : Hp} {D : Addr} {Qd : Hp → Prop} (R : Nat → Hp → List V → Prop) (nD : H1 D = none) (hl : ∀ H', Same H1 H' → SqT K H' a xs) (few : xs.length < 1000)
    (mono : ∀ i H' H'' ws, Tps H' H'' → R i H' ws → R i H'' ws) (len : ∀ i H' ws, R i H' ws → ws.length ≤ i) (r0 : ∀ H', R 0 H' [])
    (hs : ∀ i x H' (N : Hp → Prop) acc, xs[i]? = some x → Same H1 H' → H' D = some (.lst acc) → acc.length < sizeLine → R i H' acc → (∀ H'', Same H' H'' → R (i + 1) H'' acc → N H'') → (∀ H'' y, Same H' H'' → R (i + 1) H'' (acc ++ [y]) → ∃ acc', H'' D = some (.lst acc') ∧ acc'.length < sizeLine ∧ N (upd H'' D (.lst (acc' ++ [y])))) →
      g x (wipe σ vs) H' fun σ2 H2 => wipe σ2 vs = wipe σ vs ∧ tt σ2 H2 fun b H3 => if b = true then te σ2 H3 fun y H4 => ∃ acc, H4 D = some (.lst acc) ∧ acc.length < sizeLine ∧ N (upd H4 D (.lst (acc ++ [y]))) else N H3)
    (hd : ∀ H' ws, Same H1 H' → H' D = some (.lst ws) → R xs.length H' ws → Qd H') :
    ∃ W : Nat → Nat → Hp → Prop, (∃ m, W 0 m (upd H1 D (.lst []))) ∧ ∀ i m H, W i m H →
      ((Itt K a).stop i H ∧ Qd H) ∨ ((Itt K a).go i H ∧ ∃ Nx : Hp → Prop, (∀ H', Nx H' → ∃ m', m' < m ∧ W (i + 1) m' H') ∧ ∀ x H', (Itt K a).yld i H x H' → g x (wipe σ vs) H' fun σ2 H2 => wipe σ2 vs = wipe σ vs ∧ tt σ2 H2 fun b H3 =>
        if b = true then te σ2 H3 fun y H4 => ∃ acc, H4 D = some (.lst acc) ∧ acc.length < sizeLine ∧ Nx (upd H4 D (.lst (acc ++ [y]))) else Nx H3) := by
  refine lc_tup (K := K) (a := a) (xs := xs) (fun i H' => Same H1 H' ∧ ∃ ws, H' D = some (.lst ws) ∧ R i H' ws) ⟨same_new nD, [], upd_same, r0 _⟩ (fun i H' _ h => hl H' h.1) ?_ ?_
  · rintro i x H' hi ⟨sm, ws, eD, r⟩
    have lt := (List.getElem?_eq_some_iff.mp hi).1
    have lw := len i H' ws r
    have sz : ws.length < sizeLine := few_line (by omega)
    refine hs i x H' _ ws hi sm eD sz r (fun H'' s r2 => ⟨sm.trans s, ws, s _ _ eD, r2⟩) (fun H'' y s r2 => ?_)
    exact ⟨ws, s _ _ eD, sz, same_off nD (sm.trans s), _, upd_same, mono _ _ _ _ (Tps.lst (s _ _ eD)) r2⟩
  · rintro H' ⟨sm, ws, eD, r⟩
    exact hd H' ws sm eD r
theorem map_filter_len {α : Type} {ns : List α} {p : α → Bool} {f : α → V} (i : Nat) : (((ns.take i).filter p).map f).length ≤ i := by
  rw [List.length_map]
  exact Nat.le_trans (List.length_filter_le _ _) (List.length_take_le _ _)
theorem take_filter {α : Type} {ns : List α} {i : Nat} {n : α} {p : α → Bool} (h : ns[i]? = some n) : (ns.take (i + 1)).filter p = (ns.take i).filter p ++ (if p n = true then [n] else []) := by
  rw [List.take_add_one, h, List.filter_append]
  congr 1
  show List.filter p [n] = _
  rw [List.filter_cons]
  split <;> rfl
theorem nodup_le {α : Type} [DecidableEq α] : ∀ {l m : List α}, l.Nodup → (∀ x ∈ l, x ∈ m) → l.length ≤ m.length
  | [], _, _, _ => Nat.zero_le _
  | a :: l, m, h, hs => by
    have hm := hs a List.mem_cons_self
    have h' := List.nodup_cons.mp h
    have ih := nodup_le (l := l) (m := m.erase a) h'.2 (fun x hx => (List.mem_erase_of_ne (fun e => h'.1 (by rw [← e]; exact hx))).mpr (hs x (List.mem_cons_of_mem _ hx)))
    rw [List.length_erase_of_mem hm] at ih
    have := List.length_pos_of_mem hm
    rw [List.length_cons]
    omega

/-! ### demands, and rows of them -/
structure Dm (H : Hp) (v : V) (p lo hi : Int) : Prop where
  ex : ∃ u t, v = .ref u ∧ H u = some (.tup [.int p, .ref t]) ∧ H t = some (.tup [.int lo, .int hi])
  low : lo ≤ p
  high : p ≤ hi
theorem Dm.tps {H H' : Hp} (s : Tps H H') {v : V} {p lo hi : Int} (h : Dm H v p lo hi) : Dm H' v p lo hi := by
  obtain ⟨u, t, rfl, e1, e2⟩ := h.ex
  exact ⟨⟨u, t, rfl, s _ _ e1, s _ _ e2⟩, h.low, h.high⟩
theorem Dm.same {H H' : Hp} (s : Same H H') {v : V} {p lo hi : Int} (h : Dm H v p lo hi) : Dm H' v p lo hi := h.tps (Tps.same s)
inductive Dms (H : Hp) : List V → List (Int × Int × Int) → Prop
  | nil : Dms H [] []
  | cons {v : V} {p lo hi : Int} {vs : List V} {ds : List (Int × Int × Int)} : Dm H v p lo hi → Dms H vs ds → Dms H (v :: vs) ((p, lo, hi) :: ds)
theorem Dms.length {H : Hp} {vs : List V} {ds : List (Int × Int × Int)} (h : Dms H vs ds) : vs.length = ds.length := by
  induction h with
  | nil => rfl
  | cons _ _ ih => rw [List.length_cons, List.length_cons, ih]
theorem Dms.tps {H H' : Hp} (s : Tps H H') {vs : List V} {ds : List (Int × Int × Int)} (h : Dms H vs ds) : Dms H' vs ds := by
  induction h with
  | nil => exact .nil
  | cons e _ ih => exact .cons (e.tps s) ih
theorem Dms.same {H H' : Hp} (s : Same H H') {vs : List V} {ds : List (Int × Int × Int)} (h : Dms H vs ds) : Dms H' vs ds := h.tps (Tps.same s)
theorem Dms.get {H : Hp} {vs : List V} {ds : List (Int × Int × Int)} (h : Dms H vs ds) : ∀ {i : Nat} {v : V}, vs[i]? = some v → ∃ p lo hi, ds[i]? = some (p, lo, hi) ∧ Dm H v p lo hi := by
  induction h with
  | nil =>
    intro i v e
    simp at e
  | cons e _ ih =>
    intro i v q
    cases i with
    | zero =>
      cases q
      exact ⟨_, _, _, rfl, e⟩
    | succ i => exact ih q
theorem Dms.append {H : Hp} {vs us : List V} {ds es : List (Int × Int × Int)} (h : Dms H vs ds) (h2 : Dms H us es) : Dms H (vs ++ us) (ds ++ es) := by
  induction h with
  | nil => exact h2
  | cons e _ ih => exact .cons e ih
theorem Dms.snoc {H : Hp} {vs : List V} {ds : List (Int × Int × Int)} {v : V} {p lo hi : Int} (h : Dms H vs ds) (e : Dm H v p lo hi) : Dms H (vs ++ [v]) (ds ++ [(p, lo, hi)]) := h.append (.cons e .nil)
theorem Dms.take {H : Hp} {vs : List V} {ds : List (Int × Int × Int)} (h : Dms H vs ds) : ∀ n : Nat, Dms H (vs.take n) (ds.take n) := by
  induction h with
  | nil =>
    intro n
    rw [List.take_nil, List.take_nil]
    exact .nil
  | cons e _ ih =>
    intro n
    cases n with
    | zero => exact .nil
    | succ n => exact .cons e (ih n)
theorem Dms.reverse {H : Hp} {vs : List V} {ds : List (Int × Int × Int)} (h : Dms H vs ds) : Dms H vs.reverse ds.reverse := by
  induction h with
  | nil => exact .nil
  | cons e _ ih =>
    rw [List.reverse_cons, List.reverse_cons]
    exact ih.snoc e
theorem Dms.isEmpty {H : Hp} {vs : List V} {ds : List (Int × Int × Int)} (h : Dms H vs ds) : vs.isEmpty = ds.isEmpty := by
  cases h <;> rfl
theorem Dms.ok {H : Hp} {vs : List V} {ds : List (Int × Int × Int)} (h : Dms H vs ds) : ∀ q ∈ ds, q.2.1 ≤ q.1 ∧ q.1 ≤ q.2.2 := by
  induction h with
  | nil =>
    intro q hq
    cases hq
  | cons e _ ih =>
    intro q hq
    rcases List.mem_cons.mp hq with rfl | hq
    · exact ⟨e.low, e.high⟩
    · exact ih q hq
/-! ### comprehensions over a range that draw -/
theorem lcK {d c : Addr} {n0 per : Int} {lo : Int} {n : Nat} {g : TG} {tt : TT} {te : TE} {vs : List Nat} {σ : L2.St} {H1 : Hp} {D : Addr} {Qd : Hp → Prop} (R : Nat → Hp → List V → Prop) (nD : H1 D = none) (dk : Dk H1 d c n0) (few : n < 1000)
    (mono : ∀ i H' H'' ws, Tps H' H'' → R i H' ws → R i H'' ws) (len : ∀ i H' ws, R i H' ws → ws.length ≤ i) (r0 : ∀ H', R 0 H' [])
    (hs : ∀ i H' (N : Hp → Prop) acc, i < n → Kp d c H1 H' → Dk H' d c (n0 + per * i) → H' D = some (.lst acc) → R i H' acc → (∀ H'' y, Kp d c H' H'' → Dk H'' d c (n0 + per * i + per) → R (i + 1) H'' (acc ++ [y]) → ∃ acc', H'' D = some (.lst acc') ∧ acc'.length < sizeLine ∧ N (upd H'' D (.lst (acc' ++ [y])))) →
      g (.int (lo + i)) (wipe σ vs) H' fun σ2 H2 => wipe σ2 vs = wipe σ vs ∧ tt σ2 H2 fun b H3 => if b = true then te σ2 H3 fun y H4 => ∃ acc, H4 D = some (.lst acc) ∧ acc.length < sizeLine ∧ N (upd H4 D (.lst (acc ++ [y]))) else N H3)
    (hd : ∀ H' ws, Kp d c H1 H' → Dk H' d c (n0 + per * n) → H' D = some (.lst ws) → R n H' ws → Qd H') :
    ∃ W : Nat → Nat → Hp → Prop, (∃ m, W 0 m (upd H1 D (.lst []))) ∧ ∀ i m H, W i m H →
      ((Itr lo n).stop i H ∧ Qd H) ∨ ((Itr lo n).go i H ∧ ∃ Nx : Hp → Prop, (∀ H', Nx H' → ∃ m', m' < m ∧ W (i + 1) m' H') ∧ ∀ x H', (Itr lo n).yld i H x H' → g x (wipe σ vs) H' fun σ2 H2 => wipe σ2 vs = wipe σ vs ∧ tt σ2 H2 fun b H3 =>
        if b = true then te σ2 H3 fun y H4 => ∃ acc, H4 D = some (.lst acc) ∧ acc.length < sizeLine ∧ Nx (upd H4 D (.lst (acc ++ [y]))) else Nx H3) := by
  have off := dk.off nD
  refine lc_range (lo := lo) (n := n) (fun i H' => Kp d c H1 H' ∧ Dk H' d c (n0 + per * i) ∧ ∃ ws, H' D = some (.lst ws) ∧ R i H' ws) ⟨Kp.same (same_new nD), (dk.upd off).eq (by simp), [], upd_same, r0 _⟩ ?_ ?_
  · rintro i H' hi ⟨kp, dk', ws, eD, r⟩
    have lw := len i H' ws r
    have sz : ws.length < sizeLine := few_line (by omega)
    refine hs i H' _ ws hi kp dk' eD r (fun H'' y kp2 dk2 r2 => ?_)
    have eD2 := kp2.keep off eD
    refine ⟨ws, eD2, sz, fun b o n1 n2 e => ?_, (dk2.upd off).eq ?_, _, upd_same, mono _ _ _ _ (Tps.lst eD2) r2⟩
    · rw [upd_ne (ne_of_none e nD)]
      exact kp2 b o n1 n2 (kp b o n1 n2 e)
    · rw [Int.natCast_succ, Int.mul_add, Int.mul_one]
      omega
  · rintro H' ⟨kp, dk', ws, eD, r⟩
    exact hd H' ws kp dk' eD r

theorem Ivs.tps {H H' : Hp} (s : Tps H H') {vs : List V} {ps : List (Int × Int)} (h : Ivs H vs ps) : Ivs H' vs ps := by
  induction h with
  | nil => exact .nil
  | cons e _ ih => exact .cons (s _ _ e) ih
theorem Ivs.append {H : Hp} {vs us : List V} {ps qs : List (Int × Int)} (h : Ivs H vs ps) (h2 : Ivs H us qs) : Ivs H (vs ++ us) (ps ++ qs) := by
  induction h with
  | nil => exact h2
  | cons e _ ih => exact .cons e ih
theorem Ivs.isEmpty {H : Hp} {vs : List V} {ps : List (Int × Int)} (h : Ivs H vs ps) : vs.isEmpty = ps.isEmpty := by
  cases h <;> rfl

def strI (f s : Int) (p : Int × Int) : Int × Int := (p.1 * f + s, p.2 * f + f - 1 + s)

/-! ### tuples joined and cut, whichever object comes out -/
theorem catA_any {K : PySem.W.Frag} {H : Hp} {a b : Addr} {xs ys : List V} {Q : VK} (h1 : H a = some (.tup xs)) (h2 : H b = some (.tup ys)) (sz : xs.length + ys.length ≤ sizeLine) (k : ∀ H' p, Same H H' → H' p = some (.tup (xs ++ ys)) → Q (.ref p) H') : rCatA K (.ref a) (.ref b) H Q := by
  refine ⟨a, b, xs, ys, rfl, rfl, SqT.of h1, SqT.of h2, sz, fun e => k H b (Same.refl _) ?_, fun _ e => k H a (Same.refl _) ?_, fun _ _ p np => k _ p (same_new np) upd_same⟩
  · rw [e]
    exact h2
  · rw [e, List.append_nil]
    exact h1
theorem slA_any {K : PySem.W.Frag} {H : Hp} {a : Addr} {xs : List V} {lo hi : Option Int} {Q : VK} (h1 : H a = some (.tup xs)) (k : ∀ H' p, Same H H' → H' p = some (.tup (cutV xs lo hi)) → Q (.ref p) H') : rSlA K (.ref a) lo hi H Q := by
  refine ⟨a, xs, rfl, SqT.of h1, fun e => k H a (Same.refl _) ?_, fun _ p np => k _ p (same_new np) upd_same⟩
  have e2 : cutV xs lo hi = xs := by
    unfold cutV
    rw [e.1, e.2]
    simp
  rw [e2]
  exact h1
theorem Ivs.take {H : Hp} {vs : List V} {ps : List (Int × Int)} (h : Ivs H vs ps) : ∀ n : Nat, Ivs H (vs.take n) (ps.take n) := by
  induction h with
  | nil =>
    intro n
    rw [List.take_nil, List.take_nil]
    exact .nil
  | cons e _ ih =>
    intro n
    cases n with
    | zero => exact .nil
    | succ n => exact .cons e (ih n)

/-! ### comprehensions over a range that change nothing but make new objects -/
theorem lcR {lo : Int} {n : Nat} {g : TG} {tt : TT} {te : TE} {vs : List Nat} {σ : L2.St} {H1 : Hp} {D : Addr} {Qd : Hp → Prop} (R : Nat → Hp → List V → Prop) (nD : H1 D = none) (few : n < 1000)
    (mono : ∀ i H' H'' ws, Tps H' H'' → R i H' ws → R i H'' ws) (len : ∀ i H' ws, R i H' ws → ws.length ≤ i) (r0 : ∀ H', R 0 H' [])
    (hs : ∀ i H' (N : Hp → Prop) acc, i < n → Same H1 H' → H' D = some (.lst acc) → acc.length < sizeLine → R i H' acc → (∀ H'', Same H' H'' → R (i + 1) H'' acc → N H'') → (∀ H'' y, Same H' H'' → R (i + 1) H'' (acc ++ [y]) → ∃ acc', H'' D = some (.lst acc') ∧ acc'.length < sizeLine ∧ N (upd H'' D (.lst (acc' ++ [y])))) →
      g (.int (lo + i)) (wipe σ vs) H' fun σ2 H2 => wipe σ2 vs = wipe σ vs ∧ tt σ2 H2 fun b H3 => if b = true then te σ2 H3 fun y H4 => ∃ acc, H4 D = some (.lst acc) ∧ acc.length < sizeLine ∧ N (upd H4 D (.lst (acc ++ [y]))) else N H3)
    (hd : ∀ H' ws, Same H1 H' → H' D = some (.lst ws) → R n H' ws → Qd H') :
    ∃ W : Nat → Nat → Hp → Prop, (∃ m, W 0 m (upd H1 D (.lst []))) ∧ ∀ i m H, W i m H →
      ((Itr lo n).stop i H ∧ Qd H) ∨ ((Itr lo n).go i H ∧ ∃ Nx : Hp → Prop, (∀ H', Nx H' → ∃ m', m' < m ∧ W (i + 1) m' H') ∧ ∀ x H', (Itr lo n).yld i H x H' → g x (wipe σ vs) H' fun σ2 H2 => wipe σ2 vs = wipe σ vs ∧ tt σ2 H2 fun b H3 =>
        if b = true then te σ2 H3 fun y H4 => ∃ acc, H4 D = some (.lst acc) ∧ acc.length < sizeLine ∧ Nx (upd H4 D (.lst (acc ++ [y]))) else Nx H3) := by
  refine lc_range (lo := lo) (n := n) (fun i H' => Same H1 H' ∧ ∃ ws, H' D = some (.lst ws) ∧ R i H' ws) ⟨same_new nD, [], upd_same, r0 _⟩ ?_ ?_
  · rintro i H' hi ⟨sm, ws, eD, r⟩
    have lw := len i H' ws r
    have sz : ws.length < sizeLine := few_line (by omega)
    refine hs i H' _ ws hi sm eD sz r (fun H'' s r2 => ⟨sm.trans s, ws, s _ _ eD, r2⟩) (fun H'' y s r2 => ?_)
    exact ⟨ws, s _ _ eD, sz, same_off nD (sm.trans s), _, upd_same, mono _ _ _ _ (Tps.lst (s _ _ eD)) r2⟩
  · rintro H' ⟨sm, ws, eD, r⟩
    exact hd H' ws sm eD r

/-! ### sorted(set(pairs)) -/
def ltP (a b : Int × Int) : Prop := a.1 < b.1 ∨ (a.1 = b.1 ∧ a.2 < b.2)
def prL (q : Int × Int) : List Int := [q.1, q.2]
theorem prL_inj {a b : Int × Int} (h : prL a = prL b) : a = b := by
  unfold prL at h
  cases a
  cases b
  simp at h
  rw [h.1, h.2]
theorem mem_prL {q : Int × Int} {ps : List (Int × Int)} : prL q ∈ ps.map prL ↔ q ∈ ps := by
  rw [List.mem_map]
  exact ⟨fun ⟨a, ha, e⟩ => prL_inj e ▸ ha, fun h => ⟨q, h, rfl⟩⟩
theorem Ivs.keys {H : Hp} {us : List V} {ps : List (Int × Int)} (h : Ivs H us ps) : ∃ ks : List (Addr × List Int), us = ks.map (fun p => V.ref p.1) ∧ ks.map (·.2) = ps.map prL ∧ ∀ p ∈ ks, ∃ x y : Int, p.2 = [x, y] ∧ H p.1 = some (.tup [.int x, .int y]) := by
  induction h with
  | nil => exact ⟨[], rfl, rfl, fun p hp => nomatch hp⟩
  | cons e _ ih =>
    obtain ⟨ks, e1, e2, e3⟩ := ih
    refine ⟨(_, [_, _]) :: ks, by rw [List.map_cons, e1], by rw [List.map_cons, List.map_cons, e2]; rfl, fun p hp => ?_⟩
    rcases List.mem_cons.mp hp with rfl | hp
    · exact ⟨_, _, rfl, e⟩
    · exact e3 p hp
theorem Ivs.ofKeys {H : Hp} : ∀ {L : List (Addr × List Int)}, (∀ p ∈ L, ∃ x y : Int, p.2 = [x, y] ∧ H p.1 = some (.tup [.int x, .int y])) → ∃ ps, Ivs H (L.map fun p => V.ref p.1) ps ∧ L.map (·.2) = ps.map prL
  | [], _ => ⟨[], .nil, rfl⟩
  | p :: L, h => by
    obtain ⟨x, y, e, e1⟩ := h p List.mem_cons_self
    obtain ⟨ps, i, e2⟩ := Ivs.ofKeys (L := L) fun q hq => h q (List.mem_cons_of_mem _ hq)
    exact ⟨(x, y) :: ps, .cons e1 i, by rw [List.map_cons, List.map_cons, e2, e]; rfl⟩
theorem Ivs.tpsMem {H : Hp} {us : List V} {ps : List (Int × Int)} (h : Ivs H us ps) {q : Int × Int} (hq : q ∈ ps) : ∃ a, V.ref a ∈ us ∧ H a = some (.tup [.int q.1, .int q.2]) := by
  induction h with
  | nil => cases hq
  | cons e _ ih =>
    rcases List.mem_cons.mp hq with rfl | hq
    · exact ⟨_, List.mem_cons_self, e⟩
    · obtain ⟨a, h1, h2⟩ := ih hq
      exact ⟨a, List.mem_cons_of_mem _ h1, h2⟩
theorem sorted_keys {K : PySem.W.Frag} {P : Program} {w : World} {H : Hp} {ps : List (Int × Int)} {Q : VK} {ks L : List (Addr × List Int)} {a : Addr} (e2 : ks.map (·.2) = ps.map prL) (e3 : ∀ p ∈ ks, ∃ x y : Int, p.2 = [x, y] ∧ H p.1 = some (.tup [.int x, .int y])) (na : H a = none) (h1 : ∀ p ∈ L, p ∈ ks) (h2 : ∀ p ∈ ks, p.2 ∈ L.map (·.2)) (bd : ∀ q ∈ ps, (0 ≤ q.1 ∧ q.1 < 10 ^ 13) ∧ 0 ≤ q.2 ∧ q.2 < 10 ^ 13)
    (fin : ∀ H' p us' ps', Same H H' → H p = none → H' p = some (.lst us') → Ivs H' us' ps' → ps'.Pairwise ltP → (∀ q, q ∈ ps' ↔ q ∈ ps) → Q (.ref p) H') :
    rSortedT K P w [.ref a] (upd H a (SetTO P w a L)) Q := by
  have s1 : Same H (upd H a (SetTO P w a L)) := same_new na
  refine ⟨a, L, 2, 10 ^ 13, rfl, upd_same, fun p hp => ?_, by decide, fun p hp => ?_, fun L' p pm nd fw pw np => ?_⟩
  · obtain ⟨x, y, e, e1⟩ := e3 p (h1 p hp)
    rw [e]
    exact SqT.of (s1 _ _ e1)
  · have m : p.2 ∈ ks.map (·.2) := List.mem_map.mpr ⟨p, h1 p hp, rfl⟩
    rw [e2] at m
    obtain ⟨q, hq, e⟩ := List.mem_map.mp m
    have b := bd q hq
    rw [← e]
    refine ⟨rfl, fun m hm => ?_⟩
    unfold prL at hm
    rcases List.mem_cons.mp hm with rfl | hm
    · exact b.1
    · rw [List.mem_singleton.mp hm]
      exact b.2
  · have s2 : Same (upd H a (SetTO P w a L)) (upd (upd H a (SetTO P w a L)) p (.lst (L'.map fun q => V.ref q.1))) := same_new np
    obtain ⟨ps', i, e4⟩ := Ivs.ofKeys (H := H) (L := L') fun q hq => e3 q (h1 q (pm.mem_iff.mp hq))
    have mem : ∀ q, q ∈ ps' ↔ q ∈ ps := fun q => by
      rw [← mem_prL, ← e4, ← mem_prL (ps := ps), ← e2, (pm.map (·.2)).mem_iff]
      constructor
      · intro h
        obtain ⟨p, hp, e⟩ := List.mem_map.mp h
        exact List.mem_map.mpr ⟨p, h1 p hp, e⟩
      · intro h
        obtain ⟨p, hp, e⟩ := List.mem_map.mp h
        rw [← e]
        exact h2 p hp
    refine fin _ p _ ps' (s1.trans s2) (s1.free np) upd_same (i.same (s1.trans s2)) ?_ mem
    have pw2 : (L'.map (·.2)).Pairwise (fun q r => TS.code (10 ^ 13) q ≤ TS.code (10 ^ 13) r) := List.pairwise_map.mpr pw
    have both := pw2.and nd
    rw [e4] at both
    refine (List.pairwise_map.mp both).imp_of_mem fun {x y} hx hy h => ?_
    have bx := bd x ((mem x).mp hx)
    have bY := bd y ((mem y).mp hy)
    have tb : ∀ {z : Int × Int}, ((0 ≤ z.1 ∧ z.1 < 10 ^ 13) ∧ 0 ≤ z.2 ∧ z.2 < 10 ^ 13) → TS.Bd (10 ^ 13) [z.1, z.2] := fun b m hm => by
      rcases List.mem_cons.mp hm with rfl | hm
      · exact b.1
      · rw [List.mem_singleton.mp hm]
        exact b.2
    rcases code_lex (tb bx) (tb bY) h.1 with c | ⟨c1, c2⟩
    · exact .inl c
    · refine .inr ⟨c1, ?_⟩
      rcases Int.lt_or_eq_of_le c2 with z | z
      · exact z
      · exact absurd (show prL x = prL y by unfold prL; rw [c1, z]) h.2
theorem sorted_set_pairs {K : PySem.W.Frag} {P : Program} {w : World} {H : Hp} {l : Addr} {us : List V} {ps : List (Int × Int)} {Q : VK} (hl : SqL K H l us) (iv : Ivs H us ps) (few : ps.length < 64) (bd : ∀ q ∈ ps, (0 ≤ q.1 ∧ q.1 < 10 ^ 13) ∧ 0 ≤ q.2 ∧ q.2 < 10 ^ 13)
    (fin : ∀ H' p us' ps', Same H H' → H p = none → H' p = some (.lst us') → Ivs H' us' ps' → ps'.Pairwise ltP → (∀ q, q ∈ ps' ↔ q ∈ ps) → Q (.ref p) H') :
    rSetOfT K P w [.ref l] H (fun x H1 => rSortedT K P w [x] H1 Q) := by
  obtain ⟨ks, rfl, e2, e3⟩ := iv.keys
  have lk : ks.length = ps.length := by
    have z := congrArg List.length e2
    rw [List.length_map, List.length_map] at z
    exact z
  refine ⟨l, ks, rfl, hl, fun p hp => ?_, by omega, fun a L na h1 h2 => ?_⟩
  · obtain ⟨x, y, e, e1⟩ := e3 p hp
    rw [e]
    exact SqT.of e1
  exact sorted_keys e2 e3 na h1 h2 bd fin

def leP (a b : Int × Int) : Prop := a.1 < b.1 ∨ (a.1 = b.1 ∧ a.2 ≤ b.2)
theorem leP_of_lt {ps : List (Int × Int)} (h : ps.Pairwise ltP) : ps.Pairwise leP := h.imp fun {a b} h => by
  rcases h with h | h
  · exact .inl h
  · exact .inr ⟨h.1, by omega⟩
theorem leP_uniq {ps qs : List (Int × Int)} (h1 : ps.Pairwise leP) (h2 : qs.Pairwise leP) (pm : ps.Perm qs) : ps = qs := by
  refine pm.eq_of_pairwise (le := leP) (fun a b _ _ x y => ?_) h1 h2
  have : a.1 = b.1 ∧ a.2 = b.2 := by
    unfold leP at x y
    omega
  exact Prod.ext this.1 this.2

theorem sorted_set_pairsT {K : PySem.W.Frag} {P : Program} {w : World} {H : Hp} {l : Addr} {us : List V} {ps : List (Int × Int)} {Q : VK} (hl : H l = some (.tup us)) (iv : Ivs H us ps) (few : ps.length < 64) (bd : ∀ q ∈ ps, (0 ≤ q.1 ∧ q.1 < 10 ^ 13) ∧ 0 ≤ q.2 ∧ q.2 < 10 ^ 13)
    (fin : ∀ H' p us' ps', Same H H' → H p = none → H' p = some (.lst us') → Ivs H' us' ps' → ps'.Pairwise ltP → (∀ q, q ∈ ps' ↔ q ∈ ps) → Q (.ref p) H') :
    rSetOfTT K P w [.ref l] H (fun x H1 => rSortedT K P w [x] H1 Q) := by
  obtain ⟨ks, rfl, e2, e3⟩ := iv.keys
  -- the same keys, in a list that nobody holds: what follows is as there
  have lk : ks.length = ps.length := by
    have z := congrArg List.length e2
    rw [List.length_map, List.length_map] at z
    exact z
  refine ⟨l, ks, rfl, SqT.of hl, fun p hp => ?_, by omega, fun a L na h1 h2 => ?_⟩
  · obtain ⟨x, y, e, e1⟩ := e3 p hp
    rw [e]
    exact SqT.of e1
  exact sorted_keys e2 e3 na h1 h2 bd fin

/-! ### sorted(t), t a tuple of pairs of ints -/
section
variable {prog : Program} {w : World} {A : Around} {E : Value → Shared → Prop} {s : Shared}
/-- the items of a tuple, gathered in a new list -/
theorem collectT {Q : List Value → Shared → Prop} {t : Addr} {o : Obj} {xs : Array Value} {n : Nat} (ho : s.heap.get? t = some o) (hc : o.cls = .type "tuple") (hd : o.data = .seq xs n) (sz : xs.size ≤ sizeLine)
    (fin : ∀ g, s.heap.objs.size ≤ g.objs.size → (∀ b u, s.heap.get? b = some u → g.get? b = some u) → Q xs.toList { s with heap := g }) : wpAny (model prog w) A (collect (.ref t)) Q E s := by
  obtain ⟨g0, eg0⟩ : ∃ g0, s.heap.push { cls := .type "list", data := .seq ([] : List Value).toArray } = g0 := ⟨_, rfl⟩
  have n0 : g0.get? s.heap.objs.size = some { cls := .type "list", data := .seq #[] 0 } := by
    rw [← eg0]
    exact Heap.get?_push_size _ rfl
  have z0 : g0.objs.size = s.heap.objs.size + 1 := by
    rw [← eg0]
    exact Heap.size_push ..
  have k0 : ∀ b u, s.heap.get? b = some u → g0.get? b = some u := fun b u e => by
    rw [← eg0]
    exact Heap.get?_push_of_some _ e
  have n1 := Heap.get?_update_self (Obj.mapSeq (· ++ xs)) n0 rfl
  have last : ∀ s' : Shared, s' = { s with heap := g0.update s.heap.objs.size (Obj.mapSeq (· ++ xs)) } → wpAny (model prog w) A (match Value.ref s.heap.objs.size with
      | Value.ref a => do
        match (← load a).data with
          | Data.seq ys _ => pure ys.toList
          | _ => unsupported "internal:collect"
      | _ => unsupported "internal:collect") Q E s' := fun s' es => by
    rw [es]
    refine wpAny_bind (m := load s.heap.objs.size) (wpAny_load n1 (wpAny_pure ?_))
    show Q ((#[] : Array Value) ++ xs).toList _
    rw [show ((#[] : Array Value) ++ xs).toList = xs.toList by simp]
    refine fin _ (by rw [Heap.size_update, z0]; omega) fun b u e => ?_
    exact (Heap.get?_update_other _ _ (Nat.ne_of_gt (Heap.lt_size e))).trans (k0 b u e)
  unfold collect
  refine wpAny_bind (wpAny_runValue (codeAny_builtin (b := _) F.entry_proto_collect ?_))
  rw [Around.under_plainId (F.plain_proto_collect) _]
  show wpAny _ A.in1 (newList [] >>= fun l => again (.builtin "list.__iadd__" ⟨[l, .ref t], []⟩)) _ _ s
  refine wpAny_bind (wpAny_newObj_type (wpAny_pure ⟨plainId_quiet (F.plain_list_iadd) _, codeAny_builtin (b := _) F.entry_list_iadd ?_⟩))
  rw [Around.under_plainId (F.plain_list_iadd) _, eg0]
  show wpAny _ A.in1 (Builtin.List.listExtendWith (Value.ref s.heap.objs.size) (.ref t) (.ref s.heap.objs.size)) _ _ _
  refine wpAny_mono (wpAny_extend_seq (hsz := sz) (A := A) (R := fun r s' => r = .ok (.ret (.ref s.heap.objs.size)) ∧ s' = { s with heap := g0.update s.heap.objs.size (Obj.mapSeq (· ++ xs)) }) (s := { s with heap := g0 }) _ t _ 0 (.inr rfl) n0 (k0 _ _ ho) hc hd ⟨rfl, rfl⟩) (fun f s' h => ?_) (fun e s' h => absurd h.1 (by simp))
  cases f with
  | done f =>
    obtain ⟨e, h2⟩ := h
    cases e
    exact last s' h2
  | again c => exact ⟨h.1, codeAny_mono h.2 fun r s2 hr => by obtain ⟨rfl, h2⟩ := hr; exact last s2 h2⟩
theorem sortedTup {l : Addr} {vs : List Value} {k : Value → Int × Int} {Q : Value → Shared → Prop} (isT : IsTup s.heap l vs.toArray) (sz : vs.length ≤ sizeLine) (prs : ∀ v ∈ vs, Srt.IsPair s.heap v (k v).1 (k v).2)
    (fin : ∀ (h' : Heap) (d : Addr) (out : List Value), SrtO.Srtd (fun v u => SrtO.lexB (k v) (k u)) out → out.Perm vs → (∀ b o, s.heap.get? b = some o → h'.get? b = some o) → s.heap.objs.size ≤ d → (∃ n, h'.get? d = some (seqObj "list" out.toArray n)) → Q (.ref d) { s with heap := h' }) :
    wpAny (model prog w) A (call (.builtin "sorted") [.ref l]) Q E s := by
  refine Calls.call_function_entry kind_sorted (plain_sorted) entry_sorted (args_sorted1 _) ?_
  unfold Builtin.«sorted»
  refine wpAny_bind (m := checkCount "sorted" 1 1 _) (wpAny_pure (wpAny_bind ?_))
  obtain ⟨o, ho, hc, n, hd⟩ := isT
  refine collectT ho hc hd (by rw [List.size_toArray]; exact sz) (fun h1 big k1 => ?_)
  rw [List.toList_toArray]
  refine wpAny_bind (wpAny_newList ?_ sz)
  have own : (h1.push (seqObj "list" vs.toArray 0)).get? h1.objs.size = some (seqObj "list" vs.toArray 0) := Heap.get?_push_size _ rfl
  have keep : ∀ b o, s.heap.get? b = some o → b ≠ h1.objs.size ∧ b < (h1.push (seqObj "list" vs.toArray 0)).objs.size ∧ (h1.push (seqObj "list" vs.toArray 0)).get? b = some o := fun b o e => by
    have lt : b < h1.objs.size := Heap.lt_size (k1 b o e)
    exact ⟨Nat.ne_of_lt lt, by rw [Heap.size_push]; exact Nat.lt_succ_of_lt lt, Heap.get?_push_of_some _ (k1 b o e)⟩
  show wpAny _ _ _ _ _ { s with heap := h1.push (seqObj "list" vs.toArray 0) }
  refine wpAny_bind (wpAny_holding (wpAny_call_entry slot_list_sort ⟨_, own, rfl⟩ entry_list_sort (SrtO.list_sort_ord (SrtO.swo_lex k) own sz (fun h2 => ?_) fun out hs hb => ⟨_, rfl, ?_⟩) (args_list_sort _)))
  · refine SrtO.pairs_sortableO (s := { s with heap := h1.push (seqObj "list" vs.toArray 0) }) (by omega) (fun v hm => (prs v hm).keeps fun b o e _ => (keep b o e).2.2) fun o' e' => ?_
    have z : some o' = some (seqObj "list" vs.toArray 0) := e'.symm.trans own
    cases z
    exact fun c => absurd (Value.type.inj c) (by decide)
  · refine wpAny_pure ⟨_, rfl, fin _ _ out hs hb.perm (fun b o e => ?_) big (sortedHeap_at own)⟩
    have z := keep b o e
    rw [sortedHeap_old z.1 z.2.1]
    exact z.2.2
end
def rSortTP (K : PySem.W.Frag) : List V → Hp → VK → Prop := fun vs H Q => ∃ (a : Addr) (us : List V) (ps : List (Int × Int)), vs = [V.ref a] ∧ SqT K H a us ∧ Ivs H us ps ∧
  ∀ H' p us' ps', Same H H' → H p = none → H' p = some (.lst us') → Ivs H' us' ps' → ps'.Pairwise leP → ps'.Perm ps → Q (.ref p) H'
theorem Ivs.mem1 {H : Hp} {vs : List V} {ps : List (Int × Int)} (h : Ivs H vs ps) {v : V} (hv : v ∈ vs) : ∃ a q, q ∈ ps ∧ v = .ref a ∧ H a = some (.tup [.int q.1, .int q.2]) := by
  obtain ⟨i, ei⟩ := List.getElem?_of_mem hv
  obtain ⟨a, x, y, e, ep, ea⟩ := h.get ei
  exact ⟨a, (x, y), List.mem_of_getElem? ep, e, ea⟩
noncomputable def pairAt (H : Hp) (v : V) : Int × Int := Classical.epsilon fun q => ∃ a, v = .ref a ∧ H a = some (.tup [.int q.1, .int q.2])
theorem pairAt_eq {H : Hp} {a : Addr} {x y : Int} (h : H a = some (.tup [.int x, .int y])) : pairAt H (.ref a) = (x, y) := by
  have e : ∃ q : Int × Int, ∃ b, V.ref a = .ref b ∧ H b = some (.tup [.int q.1, .int q.2]) := ⟨(x, y), a, rfl, h⟩
  obtain ⟨b, e1, e2⟩ := Classical.epsilon_spec e
  cases e1
  have e2 : H a = some (.tup [.int (pairAt H (.ref a)).1, .int (pairAt H (.ref a)).2]) := e2
  rw [h] at e2
  have z := Option.some.inj e2
  injection z with z
  injection z with z1 z2
  injection z2 with z2 _
  injection z1 with z1
  injection z2 with z2
  exact Prod.ext z1.symm z2.symm
theorem Ivs.pairAt {H : Hp} {vs : List V} {ps : List (Int × Int)} (h : Ivs H vs ps) : vs.map (pairAt H) = ps := by
  induction h with
  | nil => rfl
  | cons e _ ih => rw [List.map_cons, ih, pairAt_eq e]
theorem Ivs.perm1 {H : Hp} {xs ys : List V} (pm : ys.Perm xs) : ∀ {ps : List (Int × Int)}, Ivs H xs ps → ∃ ps', Ivs H ys ps' ∧ ps'.Perm ps := by
  induction pm with
  | nil =>
    intro ps h
    exact ⟨ps, h, .refl _⟩
  | cons x _ ih =>
    intro ps h
    cases h with
    | cons e h =>
      obtain ⟨ps', h', p'⟩ := ih h
      exact ⟨_ :: ps', .cons e h', p'.cons _⟩
  | swap x y l =>
    intro ps h
    cases h with
    | cons e h =>
      cases h with
      | cons e2 h => exact ⟨_, .cons e2 (.cons e h), .swap _ _ _⟩
  | trans _ _ ih1 ih2 =>
    intro ps h
    obtain ⟨p2, h2, q2⟩ := ih2 h
    obtain ⟨p1, h1, q1⟩ := ih1 h2
    exact ⟨p1, h1, q1.trans q2⟩
theorem cr_sortTP {X : Cx} : CallR X (.builtin "sorted") (rSortTP X.K) := by
  intro pins s σ H vs us0 Q I r h
  obtain ⟨a, us, ps, rfl, hs, iv, q⟩ := h
  obtain ⟨its, rv, isT, sz⟩ := I.tuple hs
  obtain ⟨u, rfl, ru⟩ := vals1 r
  obtain rfl : u = Value.ref a := ru
  obtain ⟨e1, e2⟩ := refs_back rv fun x m => by
    obtain ⟨t, q, _, e, _⟩ := iv.mem1 m
    exact ⟨t, e⟩
  refine sortedTup (k := fun u => pairAt H (backV u)) isT (by rw [← rv.length]; exact sz) (fun v hv => ?_) fun h' d out h1 pmo kp hd hn => ?_
  · obtain ⟨t, rfl⟩ := e2 v hv
    have hm : V.ref t ∈ us := by rw [e1]; exact List.mem_map.mpr ⟨_, hv, rfl⟩
    obtain ⟨t', pq, _, e, ht⟩ := iv.mem1 hm
    cases e
    obtain ⟨_, its2, r2, o, ho, hc, n, hd⟩ := I.hok _ _ ht
    obtain ⟨u1, u2, rfl, ri, rj⟩ := vals2 r2
    obtain ⟨t1, rfl⟩ := ri
    obtain ⟨t2, rfl⟩ := rj
    show Srt.IsPair _ _ (pairAt H (.ref t)).1 (pairAt H (.ref t)).2
    rw [pairAt_eq ht]
    exact ⟨t, o, t1, t2, n, rfl, ho, hc, hd⟩
  · have h3 : ∀ u ∈ out, ∃ a, u = Value.ref a := fun u hu => e2 u (pmo.mem_iff.mp hu)
    obtain ⟨n, hn⟩ := hn
    have pm : (out.map backV).Perm us := by
      rw [e1]
      exact pmo.map backV
    obtain ⟨qs, ivq, pmq⟩ := Ivs.perm1 pm iv
    have fr : H d = none := I.hok.fresh hd
    have s1 : Same H (upd H d (.lst (out.map backV))) := same_new fr
    have asc : qs.Pairwise leP := by
      rw [← ivq.pairAt]
      refine List.pairwise_map.mpr (List.pairwise_map.mpr (List.Pairwise.imp (fun {x y} z => ?_) h1))
      have z := SrtO.lexB_no.mp z
      unfold leP
      omega
    refine ⟨.ref d, upd H d (.lst (out.map backV)), I.laid (t' := s.toks) kp hd ⟨?_, out, n, vals_back h3, hn⟩, rfl, q _ d _ qs s1 fr upd_same (ivq.same s1) asc pmq⟩
    rw [pm.length_eq]
    exact sz

/-! ### sorted(list of pairs) -/
theorem Ivs.perm {H : Hp} {xs ys : List V} (pm : ys.Perm xs) : ∀ {ps : List (Int × Int)}, Ivs H xs ps → ∃ ps', Ivs H ys ps' ∧ ps'.Perm ps := by
  induction pm with
  | nil =>
    intro ps h
    exact ⟨ps, h, .refl _⟩
  | cons x _ ih =>
    intro ps h
    cases h with
    | cons e h =>
      obtain ⟨ps', h', p'⟩ := ih h
      exact ⟨_ :: ps', .cons e h', p'.cons _⟩
  | swap x y l =>
    intro ps h
    cases h with
    | cons e h =>
      cases h with
      | cons e2 h => exact ⟨_, .cons e2 (.cons e h), .swap _ _ _⟩
  | trans _ _ ih1 ih2 =>
    intro ps h
    obtain ⟨p2, h2, q2⟩ := ih2 h
    obtain ⟨p1, h1, q1⟩ := ih1 h2
    exact ⟨p1, h1, q1.trans q2⟩
theorem Ivs.pair {H : Hp} {R : V → V → Prop} {S : Int × Int → Int × Int → Prop} (rs : ∀ a b x y u v, H a = some (.tup [.int x, .int y]) → H b = some (.tup [.int u, .int v]) → R (.ref a) (.ref b) → S (x, y) (u, v)) {vs : List V} {ps : List (Int × Int)} (h : Ivs H vs ps) (pw : vs.Pairwise R) : ps.Pairwise S := by
  induction h with
  | nil => exact .nil
  | cons e h ih =>
    have p := List.pairwise_cons.mp pw
    refine List.pairwise_cons.mpr ⟨fun q hq => ?_, ih p.2⟩
    obtain ⟨b, hb, eb⟩ := h.tpsMem hq
    exact rs _ b _ _ q.1 q.2 e eb (p.1 _ hb)
theorem Ivs.mem {H : Hp} {vs : List V} {ps : List (Int × Int)} (h : Ivs H vs ps) {v : V} (hv : v ∈ vs) : ∃ a q, q ∈ ps ∧ v = .ref a ∧ H a = some (.tup [.int q.1, .int q.2]) := by
  obtain ⟨i, ei⟩ := List.getElem?_of_mem hv
  obtain ⟨a, x, y, e, ep, ea⟩ := h.get ei
  exact ⟨a, (x, y), List.mem_of_getElem? ep, e, ea⟩
theorem bd2 {z : Int × Int} (b : (0 ≤ z.1 ∧ z.1 < 10 ^ 13) ∧ 0 ≤ z.2 ∧ z.2 < 10 ^ 13) : TS.Bd (10 ^ 13) [z.1, z.2] := fun m hm => by
  rcases List.mem_cons.mp hm with rfl | hm
  · exact b.1
  · rw [List.mem_singleton.mp hm]
    exact b.2
theorem sort_pairs {K : PySem.W.Frag} {H : Hp} {l : Addr} {us : List V} {ps : List (Int × Int)} {Q : VK} (hl : SqL K H l us) (iv : Ivs H us ps) (few : ps.length < 64) (bd : ∀ q ∈ ps, (0 ≤ q.1 ∧ q.1 < 10 ^ 13) ∧ 0 ≤ q.2 ∧ q.2 < 10 ^ 13)
    (fin : ∀ H' p us' ps', Same H H' → H p = none → H' p = some (.lst us') → Ivs H' us' ps' → ps'.Pairwise leP → ps'.Perm ps → Q (.ref p) H') :
    rSortU K 2 (10 ^ 13) [.ref l] H Q := by
  refine ⟨l, us, rfl, hl, by rw [iv.length]; exact few, fun x hx => ?_, fun ys p2 pm pw np2 => ?_⟩
  · obtain ⟨b, qq, hqq, e, eb⟩ := iv.mem hx
    exact ⟨[qq.1, qq.2], ⟨b, e, SqT.of eb⟩, rfl, bd2 (bd qq hqq)⟩
  obtain ⟨gs, ivg, pmg⟩ := Ivs.perm pm iv
  have z : gs.Pairwise (fun a b => TS.code (10 ^ 13) [a.1, a.2] ≤ TS.code (10 ^ 13) [b.1, b.2]) := Ivs.pair (S := fun a b => TS.code (10 ^ 13) [a.1, a.2] ≤ TS.code (10 ^ 13) [b.1, b.2]) (fun a b x y u v ea eb h => h [x, y] [u, v] ⟨a, rfl, SqT.of ea⟩ ⟨b, rfl, SqT.of eb⟩) ivg pw
  have s2 := same_new (o := .lst ys) np2
  refine fin _ p2 ys gs s2 np2 upd_same (ivg.same s2) (z.imp_of_mem fun {x y} hx hy h => ?_) pmg
  exact code_lex (bd2 (bd x (pmg.mem_iff.mp hx))) (bd2 (bd y (pmg.mem_iff.mp hy))) h

theorem shaped_pairs (ps : List (Int × Int)) : SeqAt.shaped (.tuple (ps.map pairD)) = true := by
  have h1 : ∀ ps : List (Int × Int), PyData.canLayAll0 (ps.map pairD) = true := by
    intro ps
    induction ps with
    | nil => rfl
    | cons n r ih => exact ih
  have h2 : ∀ ps : List (Int × Int), PyData.depthAll (ps.map pairD) ≤ 1 := by
    intro ps
    induction ps with
    | nil => exact Nat.zero_le _
    | cons n r ih =>
      show max 1 (PyData.depthAll (r.map pairD)) ≤ 1
      omega
  unfold SeqAt.shaped
  rw [show PyData.canLay0 (.tuple (ps.map pairD)) = PyData.canLayAll0 (ps.map pairD) from rfl, h1 ps]
  show decide (PyData.depthAll (ps.map pairD) + 1 ≤ 64) = true
  exact decide_eq_true (by have := h2 ps; omega)
theorem eqv_self (ps : List (Int × Int)) : PyData.eqv (.tuple (ps.map pairD)) (.tuple (ps.map pairD)) = true := by
  show PyData.eqvAll (ps.map pairD) (ps.map pairD) = true
  induction ps with
  | nil => rfl
  | cons q r ih =>
    show (((q.1 == q.1) && ((q.2 == q.2) && true)) && PyData.eqvAll (r.map pairD) (r.map pairD)) = true
    rw [ih, beq_self_eq_true, beq_self_eq_true]
    rfl

/-! ### small facts that plans want -/
theorem kit_tupT {K : PySem.W.Frag} : PySem.W.kitOne K (.type "tuple") (.type "tuple") = some true := kit_ty (a := "tuple") (b := "tuple") (r := true) (by decide +kernel)
theorem kit_intI {K : PySem.W.Frag} : PySem.W.kitOne K (.type "int") (.type "int") = some true := kit_ty (a := "int") (b := "int") (r := true) (by decide +kernel)
theorem kit_intB {K : PySem.W.Frag} : PySem.W.kitOne K (.type "int") (.type "bool") = some false := kit_ty (a := "int") (b := "bool") (r := false) (by decide +kernel)
theorem leP_nd {ps : List (Int × Int)} (h : ps.Pairwise leP) (nd : ps.Nodup) : ps.Pairwise ltP := by
  have z := h.and nd
  refine z.imp fun {a b} z => ?_
  rcases z.1 with k | ⟨k1, k2⟩
  · exact .inl k
  · refine .inr ⟨k1, ?_⟩
    rcases Int.lt_or_eq_of_le k2 with w | w
    · exact w
    · exact absurd (Prod.ext k1 w) z.2

theorem ltP_uniq {ps qs : List (Int × Int)} (h1 : ps.Pairwise ltP) (h2 : qs.Pairwise ltP) (m : ∀ q, q ∈ ps ↔ q ∈ qs) : ps = qs := by
  have nd : ∀ {l : List (Int × Int)}, l.Pairwise ltP → l.Nodup := fun h => h.imp fun {a b} h e => by
    subst e
    rcases h with h | h <;> omega
  have le : ∀ {l : List (Int × Int)}, l.Pairwise ltP → l.Pairwise leP := fun h => h.imp fun {a b} h => by
    rcases h with h | ⟨h, k⟩
    · exact .inl h
    · exact .inr ⟨h, by omega⟩
  exact leP_uniq (le h1) (le h2) ((List.perm_ext_iff_of_nodup (nd h1) (nd h2)).mpr m)
theorem atI_end {xs : List V} {v : V} (h : xs[xs.length - 1]? = some v) : atI xs (-1) = some v := by
  have ne : xs ≠ [] := fun e => by
    rw [e] at h
    cases h
  have e := List.dropLast_concat_getLast ne
  rw [List.getLast_eq_getElem] at e
  rw [List.getElem?_eq_getElem (by have := List.length_pos_iff.mpr ne; omega)] at h
  rw [Option.some.inj h] at e
  rw [← e]
  exact atI_last _ _

theorem eqv_pair (x y u v : Int) : PyData.eqv (.tuple [.int x, .int y]) (.tuple [.int u, .int v]) = decide ((x, y) = (u, v)) := by
  show ((x == u) && ((y == v) && true)) = decide ((x, y) = (u, v))
  rw [Bool.and_true, Bool.eq_iff_iff, Bool.and_eq_true, beq_iff_eq, beq_iff_eq, decide_eq_true_iff, Prod.mk.injEq]

def wo (ps : List (Int × Int)) (q : Int × Int) : List (Int × Int) := ps.filter fun x => !decide (x = q)
theorem wo_len (ps : List (Int × Int)) (q : Int × Int) : (wo ps q).length ≤ ps.length := List.length_filter_le _ _
theorem wo_sub {ps : List (Int × Int)} {q x : Int × Int} (h : x ∈ wo ps q) : x ∈ ps := (List.mem_filter.mp h).1

theorem any_pair (x y : Int) : ∀ ps : List (Int × Int), ((ps.map pairD).any fun z => PyData.eqv z (.tuple [.int x, .int y])) = decide ((x, y) ∈ ps)
  | [] => rfl
  | q :: ps => by
    rw [List.map_cons, List.any_cons, any_pair x y ps]
    show (PyData.eqv (.tuple [.int q.1, .int q.2]) (.tuple [.int x, .int y]) || _) = _
    rw [eqv_pair, Bool.eq_iff_iff, Bool.or_eq_true, decide_eq_true_iff, decide_eq_true_iff, decide_eq_true_iff, List.mem_cons]
    exact ⟨fun h => h.imp (fun z => z.symm) id, fun h => h.imp (fun z => z.symm) id⟩

/-! ### a line of cells, intervals of whole cells -/
structure Cells (cs : List (Int × Int)) : Prop where
  ok : ∀ q ∈ cs, 0 ≤ q.1 ∧ q.1 ≤ q.2
  nxt : ∀ (i : Nat) (q r : Int × Int), cs[i]? = some q → cs[i + 1]? = some r → r.1 = q.2 + 1
theorem Cells.snoc {cs : List (Int × Int)} {low s : Int} (h : Cells cs) (last : ∀ q, cs[cs.length - 1]? = some q → low = q.2 + 1) (l0 : 0 ≤ low) (s1 : 1 ≤ s) : Cells (cs ++ [(low, low + s - 1)]) := by
  refine ⟨fun q hq => ?_, fun i q r h1 h2 => ?_⟩
  · rcases List.mem_append.mp hq with hq | hq
    · exact h.ok q hq
    · rw [List.mem_singleton.mp hq]
      exact ⟨l0, by show low ≤ low + s - 1; omega⟩
  · have il := (List.getElem?_eq_some_iff.mp h2).1
    rw [List.length_append] at il
    have il : i + 1 < cs.length + 1 := il
    rw [List.getElem?_append_left (by omega)] at h1
    rcases Nat.lt_or_ge (i + 1) cs.length with z | z
    · rw [List.getElem?_append_left z] at h2
      exact h.nxt i q r h1 h2
    · have e : i = cs.length - 1 := by omega
      rw [List.getElem?_append_right z, show i + 1 - cs.length = 0 by omega] at h2
      cases h2
      rw [e] at h1
      exact last q h1
theorem low3 {r : Int} (h0 : 0 ≤ r) (h1 : r < 3) : ∃ L : Int, atI [V.int 0, .int 3, .int ((10 : Int) ^ (6 : Int).toNat)] r = some (.int L) ∧ 0 ≤ L ∧ L ≤ 1000000 := by
  have : r = 0 ∨ r = 1 ∨ r = 2 := by omega
  rcases this with rfl | rfl | rfl
  · exact ⟨0, rfl, by decide, by decide⟩
  · exact ⟨3, rfl, by decide, by decide⟩
  · exact ⟨_, rfl, by decide, by decide⟩
theorem size5 {r : Int} (h0 : 0 ≤ r) (h1 : r < 5) : ∃ L : Int, atI [V.int 1, .int 1, .int 2, .int 5, .int ((10 : Int) ^ (11 : Int).toNat)] r = some (.int L) ∧ 1 ≤ L ∧ L ≤ 100000000000 := by
  have : r = 0 ∨ r = 1 ∨ r = 2 ∨ r = 3 ∨ r = 4 := by omega
  rcases this with rfl | rfl | rfl | rfl | rfl
  · exact ⟨1, rfl, by decide, by decide⟩
  · exact ⟨1, rfl, by decide, by decide⟩
  · exact ⟨2, rfl, by decide, by decide⟩
  · exact ⟨5, rfl, by decide, by decide⟩
  · exact ⟨_, rfl, by decide, by decide⟩
def sp_law_line : Sp := fun vs H Q _ => ∃ (d : Addr) (c : Addr) (n most : Int), vs = [.ref d, .int most] ∧ Dk H d c n ∧ 0 ≤ n ∧ n < 900000 ∧ 1 ≤ most ∧ most ≤ 9 ∧
  ∀ H' l us cs m, Kp d c H H' → Dk H' d c m → n ≤ m → m ≤ n + 2 + most → H' l = some (.lst us) → Ivs H' us cs → Cells cs → 0 < cs.length → (cs.length : Int) ≤ most → (∀ q ∈ cs, q.2 < 1000000 + 100000000000 * most) → Off d c l → Q (.ref l) H'
theorem ok_law_line (T : Tx K mg f_is_number f_is_position f_is_tuple_of f_is_interval f_ascending_error f_targets_error f_is_pieces f_law_deck f_law_draw f_law_line f_law_interval f_law_intervals f_law_right f_law_is_interval f_law_error f_law_changed f_law_made f_law f_Plan_init f_Plan_targets f_Plan_pieces f_Plan_edits f_Plan_state_at f_Plan_len f_Plan_str f_BadTargets_init C_Plan X_BadTargets X_SpanError X_BadPieces X_BadInterval X_BadEdits d_is_number d_is_position d_is_tuple_of d_is_interval d_ascending_error d_targets_error d_is_pieces d_law_deck d_law_draw d_law_line d_law_interval d_law_intervals d_law_right d_law_is_interval d_law_error d_law_changed d_law_made d_law d_Plan_init d_Plan_targets d_Plan_pieces d_Plan_edits d_Plan_state_at d_Plan_len d_Plan_str d_BadTargets_init t_LAST_POSITION t_MAX_TARGETS t_MAX_PIECES) : FnOk P w K mg base CX0 2 f_law_line d_law_line ["_law_deck_here", "_law_most"] sp_law_line := by
  refine T.F_law_line.ok sc_law_line (fun vs H Q E h => ?_) (fun cdv A outer s H vs Q E hr h => ?_)
  · obtain ⟨d, c, n, most, rfl, _⟩ := h
    rfl
  · obtain ⟨d, c, n, most, rfl, dk, n0, n1, m0, m1, q⟩ := h
    refine ⟨_, (pss_cons (ps_set (i := 2) sc_law_line.nd rfl (Or.inl rfl) (pe_ix ix_list (pe_lst (pa_cons pe_int (pa_cons pe_int (pa_cons (pe_op op_pow pe_int pe_int) pa_nil)))) (pe_call (ok_law_draw T) (hr.mono (by decide)) (by rfl) T.g_law_draw T.F_law_draw.kp T.b_law_draw .nil pass0 (pa_cons (pv 0) (pa_cons pe_int pa_nil))) (fun _ _ => rfl)))
      (pss_cons (ps_set (i := 3) sc_law_line.nd rfl (Or.inl rfl) (pe_lst pa_nil))
      (pss_cons (ps_for PassesOwn.never rfl (pi_range1 (by rfl) T.z_range (pa_cons (pe_op op_add pe_int (pe_call (ok_law_draw T) (hr.mono (by decide)) (by rfl) T.g_law_draw T.F_law_draw.kp T.b_law_draw .nil pass0 (pa_cons (pv 0) (pa_cons (pv 1) pa_nil)))) pa_nil)) (pg_name (i := 4) sc_law_line.nd rfl (Or.inl rfl))
      (pss_cons (ps_set (i := 5) sc_law_line.nd rfl (Or.inl rfl) (pe_ix ix_list (pe_lst (pa_cons pe_int (pa_cons pe_int (pa_cons pe_int (pa_cons pe_int (pa_cons (pe_op op_pow pe_int pe_int) pa_nil)))))) (pe_call (ok_law_draw T) (hr.mono (by decide)) (by rfl) T.g_law_draw T.F_law_draw.kp T.b_law_draw .nil pass0 (pa_cons (pv 0) (pa_cons pe_int pa_nil))) (fun _ _ => rfl)))
      (pss_cons (ps_expr (pe_bm PySem.F.plainAttrs_list PySem.F.slot_list_append PySem.F.type_list_append mt_append (pv 3) (pa_cons (pe_tup (pa_cons (pv 2) (pa_cons (pe_op op_sub (pe_op op_add (pv 2) (pv 5)) pe_int) pa_nil))) pa_nil)))
      (pss_one (ps_set (i := 2) sc_law_line.nd rfl (Or.inl rfl) (pe_op op_add (pv 2) (pv 5)))))))
      (pss_one (ps_ret (pv 3)))))), ?_⟩
    refine ⟨10, 6, rfl, rfl, ⟨by decide, by decide, by decide⟩, by show 3 ≤ sizeLine; decide, fun p np => ?_⟩
    have off := dk.off np
    refine ⟨.ref d, rfl, d, c, _, 3, rfl, dk.kept (same_new np), by omega, by omega, by decide, by decide, fun H2 r2 kp2 dk2 a0 a1 => ?_⟩
    obtain ⟨L0, eL0, hL0, hL1⟩ := low3 a0 a1
    refine ⟨p, _, r2, _, rfl, rfl, SqL.of (kp2.keep off upd_same), eL0, ?_⟩
    have kp02 : Kp d c H H2 := (Kp.same (same_new np)).trans kp2
    refine ⟨by show 0 ≤ sizeLine; decide, fun l nl => ?_⟩
    have offl := dk2.off nl
    have nl0 : H l = none := kp02.none dk dk2 nl
    refine ⟨.ref d, rfl, .int most, rfl, d, c, _, most, rfl, dk2.kept (same_new nl), by omega, by omega, by omega, by omega, fun H3 r3 kp3 dk3 b0 b1 => ?_⟩
    have el3 := kp3.keep offl upd_same
    have kp03 : Kp d c H H3 := kp02.trans ((Kp.same (same_new nl)).trans kp3)
    refine ⟨_, _, rfl, rfl, 1 + r3, rfl, by omega, by omega, for_range (n := (1 + r3).toNat) (fun i σ H' => (Kp d c H H' ∧ Dk H' d c (n + 2 + i)) ∧ (∃ (us : List V) (cs : List (Int × Int)) (low : Int), H' l = some (.lst us) ∧ Ivs H' us cs ∧ cs.length = i ∧ Cells cs ∧ (∀ q, cs[cs.length - 1]? = some q → low = q.2 + 1) ∧ (0 ≤ low ∧ low ≤ 1000000 + 100000000000 * i) ∧ (∀ q ∈ cs, q.2 < 1000000 + 100000000000 * i) ∧ ∃ y4 y5, σ = [some (.ref d), some (.int most), some (.int low), some (.ref l), y4, y5]))
      ⟨⟨kp03, dk3.eq (by simp; omega)⟩, [], [], L0, el3, .nil, rfl, ⟨(fun q hq => nomatch hq), (fun i q r h1 _ => by simp at h1)⟩, (fun q h => by simp at h), ⟨by omega, by omega⟩, (fun q hq => nomatch hq), _, _, rfl⟩ ?_ ?_⟩
    · rintro i σ H4 hi ⟨⟨kp4, dk4⟩, us, cs, low, el, iv, cl, cells, last, ⟨lo0, lo1⟩, topc, y4, y5, rfl⟩
      have i9 : i < 9 := by omega
      refine ⟨10, 11, rfl, rfl, ⟨by decide, by decide, by decide⟩, by show 5 ≤ sizeLine; decide, fun p5 np5 => ?_⟩
      have off5 := dk4.off np5
      refine ⟨.ref d, rfl, d, c, _, 5, rfl, dk4.kept (same_new np5), by omega, by omega, by decide, by decide, fun H5 r5 kp5 dk5 c0 c1 => ?_⟩
      obtain ⟨S, eS, hS0, hS1⟩ := size5 c0 c1
      refine ⟨p5, _, r5, _, rfl, rfl, SqL.of (kp5.keep off5 upd_same), eS, ?_⟩
      have kp45 : Kp d c H4 H5 := (Kp.same (same_new np5)).trans kp5
      have el5 := kp45.keep offl el
      have iv5 := iv.tps (kp45.tps dk4)
      refine ⟨.ref l, rfl, .inl ⟨rfl, _, SqL.of el5⟩, .int low, rfl, .int low, rfl, .int S, rfl, _, _, rfl, rfl, _, _, rfl, rfl, by show 2 ≤ sizeLine; decide, fun t nt => ?_⟩
      have s6 := same_new (o := .tup [.int low, .int (low + S - 1)]) nt
      have et := upd_same (H := H5) (a := t) (o := .tup [.int low, .int (low + S - 1)])
      generalize upd H5 t (.tup [.int low, .int (low + S - 1)]) = H6 at *
      have el6 := s6 _ _ el5
      refine ⟨l, _, _, rfl, rfl, el6, by rw [iv.length]; exact small1000 (by omega), ?_⟩
      refine ⟨.int low, rfl, .int S, rfl, _, _, rfl, rfl, ⟨?_, ?_⟩, us ++ [.ref t], cs ++ [(low, low + S - 1)], low + S, upd_same, ?_, by rw [List.length_append, cl]; rfl, cells.snoc last lo0 hS0, fun q h => ?_, ⟨by omega, by omega⟩, fun q hq => ?_, _, _, rfl⟩
      · intro b o n1 n2 e
        rw [upd_ne (ne_of_none e nl0)]
        exact s6 _ _ (kp45 b o n1 n2 (kp4 b o n1 n2 e))
      · exact ((dk5.kept s6).upd offl).eq (by omega)
      · exact ((iv5.same s6).snoc et).tps (Tps.lst el6)
      · rw [List.length_append, show cs.length + [(low, low + S - 1)].length - 1 = cs.length from rfl, List.getElem?_append_right (Nat.le_refl _), Nat.sub_self] at h
        cases h
        show low + S = low + S - 1 + 1
        omega
      · rcases List.mem_append.mp hq with hq | hq
        · have := topc q hq
          omega
        · rw [List.mem_singleton.mp hq]
          show low + S - 1 < _
          omega
    · rintro σ H4 ⟨⟨kp4, dk4⟩, us, cs, low, el, iv, cl, cells, last, ⟨lo0, lo1⟩, topc, y4, y5, rfl⟩
      refine ⟨.ref l, rfl, q H4 l us cs _ kp4 dk4 (by omega) (by omega) el iv cells (by omega) (by omega) (fun z hz => ?_) offl⟩
      have := topc z hz
      omega
/-- an interval of whole cells -/
def OfCells (cs : List (Int × Int)) (q : Int × Int) : Prop := ∃ (i j : Nat) (a b : Int × Int), i ≤ j ∧ cs[i]? = some a ∧ cs[j]? = some b ∧ q.1 = a.1 ∧ q.2 = b.2
theorem Cells.mono {cs : List (Int × Int)} (h : Cells cs) {i : Nat} {a : Int × Int} (ha : cs[i]? = some a) : ∀ (k : Nat) (b : Int × Int), cs[i + k]? = some b → a.1 ≤ b.1 ∧ a.2 ≤ b.2
  | 0, b, hb => by
    rw [Nat.add_zero, ha] at hb
    cases hb
    exact ⟨Int.le_refl _, Int.le_refl _⟩
  | k + 1, b, hb => by
    have il := (List.getElem?_eq_some_iff.mp hb).1
    have e := List.getElem?_eq_getElem (l := cs) (i := i + k) (by omega)
    have ih := h.mono ha k _ e
    have n := h.nxt (i + k) _ b e hb
    have o1 := h.ok _ (List.mem_of_getElem? e)
    have o2 := h.ok b (List.mem_of_getElem? hb)
    generalize cs[i + k] = z at *
    omega
theorem OfCells.ok {cs : List (Int × Int)} (h : Cells cs) {q : Int × Int} (o : OfCells cs q) {m : Int} (top : ∀ z ∈ cs, z.2 < m) : 0 ≤ q.1 ∧ q.1 ≤ q.2 ∧ q.2 < m := by
  obtain ⟨i, j, a, b, ij, ha, hb, e1, e2⟩ := o
  obtain ⟨k, rfl⟩ := Nat.le.dest ij
  have m := h.mono ha k b hb
  have oa := h.ok a (List.mem_of_getElem? ha)
  have tb := top b (List.mem_of_getElem? hb)
  omega
def sp_law_interval : Sp := fun vs H Q _ => ∃ (d : Addr) (c : Addr) (n : Int) (l : Addr) (us : List V) (cs : List (Int × Int)), vs = [.ref d, .ref l] ∧ Dk H d c n ∧ 0 ≤ n ∧ n < 990000 ∧ Off d c l ∧ H l = some (.lst us) ∧ Ivs H us cs ∧ 0 < cs.length ∧ cs.length ≤ 9 ∧
  ∀ H' p x y, Kp d c H H' → Dk H' d c (n + 2) → H' p = some (.tup [.int x, .int y]) → OfCells cs (x, y) → Q (.ref p) H'
theorem ok_law_interval (T : Tx K mg f_is_number f_is_position f_is_tuple_of f_is_interval f_ascending_error f_targets_error f_is_pieces f_law_deck f_law_draw f_law_line f_law_interval f_law_intervals f_law_right f_law_is_interval f_law_error f_law_changed f_law_made f_law f_Plan_init f_Plan_targets f_Plan_pieces f_Plan_edits f_Plan_state_at f_Plan_len f_Plan_str f_BadTargets_init C_Plan X_BadTargets X_SpanError X_BadPieces X_BadInterval X_BadEdits d_is_number d_is_position d_is_tuple_of d_is_interval d_ascending_error d_targets_error d_is_pieces d_law_deck d_law_draw d_law_line d_law_interval d_law_intervals d_law_right d_law_is_interval d_law_error d_law_changed d_law_made d_law d_Plan_init d_Plan_targets d_Plan_pieces d_Plan_edits d_Plan_state_at d_Plan_len d_Plan_str d_BadTargets_init t_LAST_POSITION t_MAX_TARGETS t_MAX_PIECES) : FnOk P w K mg base CX0 2 f_law_interval d_law_interval ["_law_deck_here", "_law_line_here"] sp_law_interval := by
  refine T.F_law_interval.ok sc_law_interval (fun vs H Q E h => ?_) (fun cdv A outer s H vs Q E hr h => ?_)
  · obtain ⟨d, c, n, l, us, cs, rfl, _⟩ := h
    rfl
  · obtain ⟨d, c, n, l, us, cs, rfl, dk, n0, n1, off, el, iv, l0, l1, q⟩ := h
    refine ⟨_, (pss_cons (ps_asg (pe_callB cr_sortedI (by rfl) T.z_sorted (by decide +kernel) (pa_cons (pe_lst (pa_cons (pe_call (ok_law_draw T) (hr.mono (by decide)) (by rfl) T.g_law_draw T.F_law_draw.kp T.b_law_draw .nil pass0 (pa_cons (pv 0) (pa_cons (pe_callB call_len_seq (by rfl) T.z_len PySem.boot_len (pa_cons (pv 1) pa_nil)) pa_nil))) (pa_cons (pe_call (ok_law_draw T) (hr.mono (by decide)) (by rfl) T.g_law_draw T.F_law_draw.kp T.b_law_draw .nil pass0 (pa_cons (pv 0) (pa_cons (pe_callB call_len_seq (by rfl) T.z_len PySem.boot_len (pa_cons (pv 1) pa_nil)) pa_nil))) pa_nil))) pa_nil)) (pg_unl rfl (pgs_cons (pg_name (i := 2) sc_law_interval.nd rfl (Or.inl rfl)) (pgs_cons (pg_name (i := 3) sc_law_interval.nd rfl (Or.inl rfl)) pgs_nil))))
      (pss_one (ps_ret (pe_tup (pa_cons (pe_ix ix_tup (pe_ix ix_list (pv 1) (pv 2) (fun _ _ => rfl)) pe_int (fun _ _ => rfl)) (pa_cons (pe_ix ix_tup (pe_ix ix_list (pv 1) (pv 3) (fun _ _ => rfl)) pe_int (fun _ _ => rfl)) pa_nil)))))), ?_⟩
    have lu := iv.length
    refine ⟨.ref d, rfl, .ref l, rfl, l, us, rfl, .inl (SqL.of el), d, c, n, (us.length : Int), rfl, dk, n0, by omega, by omega, by omega, fun H1 r1 kp1 dk1 a0 a1 => ?_⟩
    have el1 := kp1.keep off el
    refine ⟨.ref d, rfl, .ref l, rfl, l, us, rfl, .inl (SqL.of el1), d, c, n + 1, (us.length : Int), rfl, dk1, by omega, by omega, by omega, by omega, fun H2 r2 kp2 dk2 b0 b1 => ?_⟩
    have el2 := kp2.keep off el1
    have iv2 := iv.tps ((kp1.trans kp2).tps dk)
    refine ⟨by show 2 ≤ sizeLine; decide, fun p np => ?_⟩
    have s3 := same_new (o := .lst [.int r1, .int r2]) np
    have ep := upd_same (H := H2) (a := p) (o := .lst [.int r1, .int r2])
    generalize upd H2 p (.lst [.int r1, .int r2]) = H3 at *
    dsimp only [tNil]
    refine ⟨p, [r1, r2], rfl, SqL.of ep, fun ms p2 pm srt np2 => ?_⟩
    have s4 := same_new (o := .lst (ms.map V.int)) np2
    have ep2 := upd_same (H := H3) (a := p2) (o := .lst (ms.map V.int))
    generalize upd H3 p2 (.lst (ms.map V.int)) = H4 at *
    have s24 := s3.trans s4
    obtain ⟨i, j, rfl, ij, jl⟩ : ∃ i j : Nat, ms = [(i : Int), (j : Int)] ∧ i ≤ j ∧ j < cs.length := by
      have lm := pm.length_eq
      match ms, lm, srt, pm with
      | [x, y], _, srt, pm =>
        have xy : x ≤ y := (List.pairwise_cons.mp srt).1 y List.mem_cons_self
        have bx : ∀ z ∈ [x, y], 0 ≤ z ∧ z < (us.length : Int) := fun z hz => by
          have := pm.mem_iff.mp hz
          rcases List.mem_cons.mp this with rfl | this
          · exact ⟨a0, a1⟩
          · rw [List.mem_singleton.mp this]
            exact ⟨b0, b1⟩
        have x0 := bx x List.mem_cons_self
        have y0 := bx y (List.mem_cons_of_mem _ List.mem_cons_self)
        exact ⟨x.toNat, y.toNat, by rw [Int.toNat_of_nonneg x0.1, Int.toNat_of_nonneg y0.1], by omega, by omega⟩
    refine ⟨p2, _, rfl, SqL.of ep2, rfl, .int i, [.int j], rfl, .int j, [], rfl, rfl, ?_⟩
    have el4 := s24 _ _ el2
    have iv4 := iv2.same s24
    have ui := List.getElem?_eq_getElem (l := us) (i := i) (by omega)
    have uj := List.getElem?_eq_getElem (l := us) (i := j) (by omega)
    obtain ⟨ai, xi, yi, ei, ci, hi⟩ := iv4.get ui
    obtain ⟨aj, xj, yj, ej, cj, hj⟩ := iv4.get uj
    refine ⟨.ref l, rfl, .int i, rfl, l, us, (i : Int), .ref ai, rfl, rfl, SqL.of el4, (by rw [← ei]; exact atI_nat ui), ai, _, 0, .int xi, rfl, rfl, SqT.of hi, rfl, .ref l, rfl, .int j, rfl, l, us, (j : Int), .ref aj, rfl, rfl, SqL.of el4, (by rw [← ej]; exact atI_nat uj), aj, _, 1, .int yj, rfl, rfl, SqT.of hj, rfl, by show 2 ≤ sizeLine; decide, fun t nt => ?_⟩
    have s5 := same_new (o := .tup [.int xi, .int yj]) nt
    exact q _ t xi yj ((kp1.trans kp2).trans (Kp.same (s24.trans s5))) ((dk2.kept (s24.trans s5)).eq (by omega)) upd_same ⟨i, j, (xi, yi), (xj, yj), ij, ci, cj, rfl, rfl⟩
def sp_law_intervals : Sp := fun vs H Q _ => ∃ (d : Addr) (c : Addr) (n : Int) (l : Addr) (us : List V) (cs : List (Int × Int)) (most : Int), vs = [.ref d, .ref l, .int most] ∧ Dk H d c n ∧ 0 ≤ n ∧ n < 900000 ∧ Off d c l ∧ H l = some (.lst us) ∧ Ivs H us cs ∧ Cells cs ∧ 0 < cs.length ∧ cs.length ≤ 9 ∧ (∀ q ∈ cs, q.2 < 1000000000000) ∧ 0 ≤ most ∧ most ≤ 30 ∧
  ∀ H' t ws ps m, Kp d c H H' → Dk H' d c m → n ≤ m → m ≤ n + 1 + 2 * most → H' t = some (.tup ws) → Ivs H' ws ps → ps.Pairwise ltP → (∀ q ∈ ps, OfCells cs q) → (ps.length : Int) ≤ most → Q (.ref t) H'
theorem ltP_nd6 {ps : List (Int × Int)} (h : ps.Pairwise ltP) : ps.Nodup := h.imp fun {a b} h e => by
  subst e
  rcases h with h | h <;> omega
theorem ok_law_intervals (T : Tx K mg f_is_number f_is_position f_is_tuple_of f_is_interval f_ascending_error f_targets_error f_is_pieces f_law_deck f_law_draw f_law_line f_law_interval f_law_intervals f_law_right f_law_is_interval f_law_error f_law_changed f_law_made f_law f_Plan_init f_Plan_targets f_Plan_pieces f_Plan_edits f_Plan_state_at f_Plan_len f_Plan_str f_BadTargets_init C_Plan X_BadTargets X_SpanError X_BadPieces X_BadInterval X_BadEdits d_is_number d_is_position d_is_tuple_of d_is_interval d_ascending_error d_targets_error d_is_pieces d_law_deck d_law_draw d_law_line d_law_interval d_law_intervals d_law_right d_law_is_interval d_law_error d_law_changed d_law_made d_law d_Plan_init d_Plan_targets d_Plan_pieces d_Plan_edits d_Plan_state_at d_Plan_len d_Plan_str d_BadTargets_init t_LAST_POSITION t_MAX_TARGETS t_MAX_PIECES) : FnOk P w K mg base CX0 3 f_law_intervals d_law_intervals ["_law_deck_here", "_law_line_here", "_law_most"] sp_law_intervals := by
  refine T.F_law_intervals.ok sc_law_intervals (fun vs H Q E h => ?_) (fun cdv A outer s H vs Q E hr h => ?_)
  · obtain ⟨d, c, n, l, us, cs, most, rfl, _⟩ := h
    rfl
  · obtain ⟨d, c, n, l, us, cs, most, rfl, dk, n0, n1, off, el, iv, cells, l0, l1, top, m0, m1, q⟩ := h
    refine ⟨_, (pss_cons (ps_setLc (i := 3) (own := [("_law_k", 4)]) (g := (gName 4)) (tt := tYes) (by rfl) sc_law_intervals.nd rfl rfl (sw_true rfl rfl rfl (by decide +kernel)) (pi_range1 (by rfl) T.z_range (pa_cons (pe_call (ok_law_draw T) (hr.mono (by decide)) (by rfl) T.g_law_draw T.F_law_draw.kp T.b_law_draw .nil pass0 (pa_cons (pv 0) (pa_cons (pe_op op_add (pv 2) pe_int) pa_nil))) pa_nil)) (blkOk_by (own := [("_law_k", 4)]) (N := N_law_intervals) (sc := defScope s_law_intervals) (by decide +kernel)) (fun _ _ _ _ _ => (pg_name (i := 4) sc_law_intervals.nd rfl (Or.inl rfl))) (fun _ _ _ _ _ => pts_nil) (fun _ _ _ _ _ => (pe_call (ok_law_interval T) (hr.mono (by decide)) (by rfl) T.g_law_interval T.F_law_interval.kp T.b_law_interval .nil pass0 (pa_cons (pv 0) (pa_cons (pv 1) pa_nil)))))
      (pss_one (ps_ret (pe_callTy call_tuple_of (by rfl) T.z_tuple (by decide +kernel) (pa_cons (pe_callB (cr_sortedT rfl) (by rfl) T.z_sorted (by decide +kernel) (pa_cons (pe_callTy (cr_setOfT rfl hr.units) (by rfl) T.z_set (by decide +kernel) (pa_cons (pv 3) pa_nil)) pa_nil)) pa_nil))))), ?_⟩
    refine ⟨.ref d, rfl, .int most, rfl, _, _, rfl, rfl, d, c, n, most + 1, rfl, dk, n0, by omega, by omega, by omega, fun H1 r kp1 dk1 r0 r1 => ?_⟩
    refine ⟨r, rfl, by omega, by omega, fun D nD => ?_⟩
    have el1 := kp1.keep off el
    have iv1 := iv.tps (kp1.tps dk)
    refine lcK (per := 2) (lo := 0) (n := r.toNat) (fun j H' ws => ∃ ps, Ivs H' ws ps ∧ ps.length = j ∧ ∀ z ∈ ps, OfCells cs z) nD dk1 (by omega) (fun _ _ _ _ t ⟨ps, h1, h2⟩ => ⟨ps, h1.tps t, h2⟩) (fun j H' ws ⟨ps, h1, h2, _⟩ => by rw [h1.length, h2]; exact Nat.le_refl _) (fun _ => ⟨[], .nil, rfl, fun z hz => nomatch hz⟩) ?_ ?_
    · rintro k H5 N acc hk kp5 dk5 eD ⟨ps, h1, h2, h3⟩ yes
      refine ⟨rfl, .ref d, rfl, .ref l, rfl, d, c, _, l, us, cs, rfl, dk5, by omega, by omega, off, kp5.keep off el1, iv1.tps (kp5.tps dk1), l0, l1, fun H6 p x y kp6 dk6 ep oc => ?_⟩
      refine yes H6 _ kp6 dk6 ⟨ps ++ [(x, y)], (h1.tps (kp6.tps dk5)).snoc ep, by rw [List.length_append, h2]; rfl, fun z hz => ?_⟩
      rcases List.mem_append.mp hz with hz | hz
      · exact h3 z hz
      · rw [List.mem_singleton.mp hz]
        exact oc
    rintro H5 ws kp5 dk5 eD ⟨ps, ivp, pl, oc⟩
    refine ⟨.ref D, rfl, ?_⟩
    dsimp only [tNil]
    refine sorted_set_pairs (SqL.of eD) ivp (by omega) (fun z hz => ?_) (fun H6 p us' ps' s6 np ep iv' asc mem => ?_)
    · have := (oc z hz).ok cells top
      have : z.2 < 10000000000000 := by omega
      exact ⟨⟨by omega, by show z.1 < 10000000000000; omega⟩, by omega, this⟩
    refine ⟨p, us', rfl, .inl ⟨SqL.of ep, fun t nt => ?_⟩⟩
    have s7 := same_new (o := .tup us') nt
    have nd := nodup_le (ltP_nd6 asc) fun z hz => (mem z).mp hz
    exact q _ t us' ps' _ (kp1.trans (kp5.trans (Kp.same (s6.trans s7)))) (dk5.kept (s6.trans s7)) (by omega) (by omega) upd_same (iv'.same s7) asc (fun z hz => oc z ((mem z).mp hz)) (by omega)

/-! ### what a value is -/
def tyD : PyData → String
  | .none => "NoneType"
  | .bool _ => "bool"
  | .int _ => "int"
  | .str _ => "str"
  | .list _ => "list"
  | .tuple _ => "tuple"
  | .dict _ => "dict"
theorem Dv.ty {K : PySem.W.Frag} {H : Hp} {v : V} {d : PyData} (h : Dv K H v d) : TyX K H v (.type (tyD d)) := by
  cases h with
  | non => exact .base .non
  | bl b => exact .base (.bl b)
  | int i => exact .base (.int i)
  | str x => exact .base (.str x)
  | lst e _ => exact .base (.lst e)
  | tup e _ => exact .base (.tup e)
  | dic e _ => exact .base (.dK e)
def intB : PyData → Bool
  | .bool _ => true
  | .int _ => true
  | _ => false
def boolB : PyData → Bool
  | .bool _ => true
  | _ => false
def tupB : PyData → Bool
  | .tuple _ => true
  | _ => false
theorem kit_int {K : PySem.W.Frag} (d : PyData) : PySem.W.kitOne K (.type (tyD d)) (.type "int") = some (intB d) := by
  cases d with
  | none => exact kit_ty (a := "NoneType") (b := "int") (r := false) (by decide +kernel)
  | bool _ => exact kit_ty (a := "bool") (b := "int") (r := true) (by decide +kernel)
  | int _ => exact kit_ty (a := "int") (b := "int") (r := true) (by decide +kernel)
  | str _ => exact kit_ty (a := "str") (b := "int") (r := false) (by decide +kernel)
  | list _ => exact kit_ty (a := "list") (b := "int") (r := false) (by decide +kernel)
  | tuple _ => exact kit_ty (a := "tuple") (b := "int") (r := false) (by decide +kernel)
  | dict _ => exact kit_ty (a := "dict") (b := "int") (r := false) (by decide +kernel)
theorem kit_bool {K : PySem.W.Frag} (d : PyData) : PySem.W.kitOne K (.type (tyD d)) (.type "bool") = some (boolB d) := by
  cases d with
  | none => exact kit_ty (a := "NoneType") (b := "bool") (r := false) (by decide +kernel)
  | bool _ => exact kit_ty (a := "bool") (b := "bool") (r := true) (by decide +kernel)
  | int _ => exact kit_ty (a := "int") (b := "bool") (r := false) (by decide +kernel)
  | str _ => exact kit_ty (a := "str") (b := "bool") (r := false) (by decide +kernel)
  | list _ => exact kit_ty (a := "list") (b := "bool") (r := false) (by decide +kernel)
  | tuple _ => exact kit_ty (a := "tuple") (b := "bool") (r := false) (by decide +kernel)
  | dict _ => exact kit_ty (a := "dict") (b := "bool") (r := false) (by decide +kernel)
theorem kit_tup {K : PySem.W.Frag} (d : PyData) : PySem.W.kitOne K (.type (tyD d)) (.type "tuple") = some (tupB d) := by
  cases d with
  | none => exact kit_ty (a := "NoneType") (b := "tuple") (r := false) (by decide +kernel)
  | bool _ => exact kit_ty (a := "bool") (b := "tuple") (r := false) (by decide +kernel)
  | int _ => exact kit_ty (a := "int") (b := "tuple") (r := false) (by decide +kernel)
  | str _ => exact kit_ty (a := "str") (b := "tuple") (r := false) (by decide +kernel)
  | list _ => exact kit_ty (a := "list") (b := "tuple") (r := false) (by decide +kernel)
  | tuple _ => exact kit_ty (a := "tuple") (b := "tuple") (r := true) (by decide +kernel)
  | dict _ => exact kit_ty (a := "dict") (b := "tuple") (r := false) (by decide +kernel)
def inB (lo hi : Int) : PyData → Bool
  | .int i => decide (lo ≤ i) && decide (i ≤ hi)
  | _ => false
def leB : PyData → PyData → Bool
  | .int x, .int y => decide (x ≤ y)
  | _, _ => false
def ivB : PyData → Bool
  | .tuple [a, b] => inB 0 1000000000000 a && (inB 0 1000000000000 b && leB a b)
  | _ => false
theorem Dv.asInt {K : PySem.W.Frag} {H : Hp} {v : V} {i : Int} (h : Dv K H v (.int i)) : v = .int i := by
  cases h
  rfl
theorem dv_same {K : PySem.W.Frag} {H H' : Hp} (s : Same H H') {v : V} {d : PyData} (h : Dv K H v d) : Dv K H' v d :=
  Dv.rec (K := K) (H := H) (motive_1 := fun v d _ => Dv K H' v d) (motive_2 := fun vs ds _ => DvAll K H' vs ds) .non (fun b => .bl b) (fun i => .int i) (fun x => .str x) (fun e _ q => .lst (s _ _ e) q) (fun e _ q => .tup (s _ _ e) q) (fun e _ q => .dic (s _ _ e) q) .nil (fun _ _ a b => .cons a b) h
theorem dvAll_same {K : PySem.W.Frag} {H H' : Hp} (s : Same H H') : ∀ {vs : List V} {ds : List PyData}, DvAll K H vs ds → DvAll K H' vs ds
  | _, _, .nil => .nil
  | _, _, .cons a b => .cons (dv_same s a) (dvAll_same s b)
theorem DvAll.get {K : PySem.W.Frag} {H : Hp} : ∀ {vs : List V} {ds : List PyData}, DvAll K H vs ds → ∀ {i : Nat} {v : V}, vs[i]? = some v → ∃ d, ds[i]? = some d ∧ Dv K H v d
  | _, _, .nil, _, _, e => by simp at e
  | _, _, .cons a b, 0, _, e => by
    cases e
    exact ⟨_, rfl, a⟩
  | _, _, .cons a b, i + 1, _, e => b.get (i := i) e
theorem DvAll.append {K : PySem.W.Frag} {H : Hp} : ∀ {vs us : List V} {ds es : List PyData}, DvAll K H vs ds → DvAll K H us es → DvAll K H (vs ++ us) (ds ++ es)
  | _, _, _, _, .nil, h => h
  | _, _, _, _, .cons a b, h => .cons a (b.append h)
theorem Dv.dp {K : PySem.W.Frag} {H : Hp} {v : V} {d : PyData} (h : Dv K H v d) : d.canLay0 = true → Dp K H v d := by
  refine Dv.rec (K := K) (H := H) (motive_1 := fun v d _ => d.canLay0 = true → Dp K H v d) (motive_2 := fun vs ds _ => PyData.canLayAll0 ds = true → DpAll K H vs ds) (fun _ => .non) (fun b _ => .bl b) (fun i _ => .int i) (fun x _ => .str x) (fun e _ q z => .lst (SqL.of e) (q z)) (fun e _ q z => .tup (SqT.of e) (q z)) (fun _ _ _ z => ?_) (fun _ => .nil) (fun _ _ a b z => ?_) h
  · cases z
  · have z' := Bool.and_eq_true_iff.mp z
    exact .cons (a z'.1) (b z'.2)
/-- a value that may be asked whether it is an interval: what stands in it, if it is a tuple, has no dicts -/
def PlainT (d : PyData) : Prop := ∀ ds, d = .tuple ds → PyData.canLayAll0 ds = true ∧ PyData.depthAll ds ≤ 60

/-! ### the program's own -/
def sp_is_number (K : PySem.W.Frag) : Sp := fun vs H Q _ => ∃ (v : V) (d : PyData), vs = [v] ∧ Dv K H v d ∧ Q (.bl (intB d && !boolB d)) H
theorem ok_is_number (T : Tx K mg f_is_number f_is_position f_is_tuple_of f_is_interval f_ascending_error f_targets_error f_is_pieces f_law_deck f_law_draw f_law_line f_law_interval f_law_intervals f_law_right f_law_is_interval f_law_error f_law_changed f_law_made f_law f_Plan_init f_Plan_targets f_Plan_pieces f_Plan_edits f_Plan_state_at f_Plan_len f_Plan_str f_BadTargets_init C_Plan X_BadTargets X_SpanError X_BadPieces X_BadInterval X_BadEdits d_is_number d_is_position d_is_tuple_of d_is_interval d_ascending_error d_targets_error d_is_pieces d_law_deck d_law_draw d_law_line d_law_interval d_law_intervals d_law_right d_law_is_interval d_law_error d_law_changed d_law_made d_law d_Plan_init d_Plan_targets d_Plan_pieces d_Plan_edits d_Plan_state_at d_Plan_len d_Plan_str d_BadTargets_init t_LAST_POSITION t_MAX_TARGETS t_MAX_PIECES) : FnOk P w K mg base CX0 1 f_is_number d_is_number ["value"] (sp_is_number K) := by
  refine T.F_is_number.ok sc_is_number (fun vs H Q E h => ?_) (fun cdv A outer s H vs Q E hr h => ?_)
  · obtain ⟨v, d, rfl, _⟩ := h
    rfl
  · obtain ⟨v, d, rfl, hd, q⟩ := h
    refine ⟨_, (pss_one (ps_ret (pe_and (pe_callB call_isi (by rfl) T.z_isinstance (by decide +kernel) (pa_cons (pv 0) (pa_cons (pe_bltn (v := .ty "int") (u := .type "int") (by rfl) T.z_int (by decide +kernel) rfl) pa_nil))) (pe_one (pe_not (pe_callB call_isi (by rfl) T.z_isinstance (by decide +kernel) (pa_cons (pv 0) (pa_cons (pe_bltn (v := .ty "bool") (u := .type "bool") (by rfl) T.z_bool (by decide +kernel) rfl) pa_nil)))))))), ?_⟩
    refine ⟨v, rfl, v, .ty "int", _, _, _, rfl, .ty "int", hd.ty, kit_int d, _, rfl, ite2 (fun e => ?_) (fun e => ?_)⟩
    · refine ⟨v, rfl, v, .ty "bool", _, _, _, rfl, .ty "bool", hd.ty, kit_bool d, _, rfl, ?_⟩
      rw [e] at q
      exact q
    · rw [Bool.not_eq_true] at e
      rw [e] at q
      exact q
theorem num_int {d : PyData} (h : (intB d && !boolB d) = true) : ∃ i, d = .int i := by
  cases d with
  | int i => exact ⟨i, rfl⟩
  | _ => exact (Bool.false_ne_true h).elim
theorem num_no {d : PyData} {lo hi : Int} (h : (intB d && !boolB d) = false) : inB lo hi d = false := by
  cases d with
  | int i => exact Bool.noConfusion (show true = false from h)
  | _ => rfl
def sp_is_position (K : PySem.W.Frag) : Sp := fun vs H Q _ => ∃ (v : V) (d : PyData), vs = [v] ∧ Dv K H v d ∧ Q (.bl (inB 0 1000000000000 d)) H
theorem ok_is_position (T : Tx K mg f_is_number f_is_position f_is_tuple_of f_is_interval f_ascending_error f_targets_error f_is_pieces f_law_deck f_law_draw f_law_line f_law_interval f_law_intervals f_law_right f_law_is_interval f_law_error f_law_changed f_law_made f_law f_Plan_init f_Plan_targets f_Plan_pieces f_Plan_edits f_Plan_state_at f_Plan_len f_Plan_str f_BadTargets_init C_Plan X_BadTargets X_SpanError X_BadPieces X_BadInterval X_BadEdits d_is_number d_is_position d_is_tuple_of d_is_interval d_ascending_error d_targets_error d_is_pieces d_law_deck d_law_draw d_law_line d_law_interval d_law_intervals d_law_right d_law_is_interval d_law_error d_law_changed d_law_made d_law d_Plan_init d_Plan_targets d_Plan_pieces d_Plan_edits d_Plan_state_at d_Plan_len d_Plan_str d_BadTargets_init t_LAST_POSITION t_MAX_TARGETS t_MAX_PIECES) : FnOk P w K mg base CX0 2 f_is_position d_is_position ["value"] (sp_is_position K) := by
  refine T.F_is_position.ok sc_is_position (fun vs H Q E h => ?_) (fun cdv A outer s H vs Q E hr h => ?_)
  · obtain ⟨v, d, rfl, _⟩ := h
    rfl
  · obtain ⟨v, d, rfl, hd, q⟩ := h
    refine ⟨_, (pss_one (ps_ret (pe_and (pe_call (ok_is_number T) (hr.mono (by decide)) (by rfl) T.g_is_number T.F_is_number.kp T.b_is_number .nil pass0 (pa_cons (pv 0) pa_nil)) (pe_one (pe_chain op_le op_le pe_int (pv 0) (pe_glob (v := .int 1000000000000) (by rfl) T.c_LAST_POSITION ⟨_, rfl⟩)))))), ?_⟩
    refine ⟨v, rfl, v, d, rfl, hd, _, rfl, ite2 (fun e => ?_) (fun e => ?_)⟩
    · obtain ⟨i, rfl⟩ := num_int e
      have ev := hd.asInt
      subst ev
      refine ⟨.int i, rfl, _, _, rfl, rfl, _, rfl, ite2 (fun e2 => ?_) (fun e2 => ?_)⟩
      · refine ⟨_, _, rfl, rfl, ?_⟩
        have q' : Q (.bl (decide (0 ≤ i) && decide (i ≤ 1000000000000))) H := q
        rw [e2] at q'
        exact q'
      · have q' : Q (.bl (decide (0 ≤ i) && decide (i ≤ 1000000000000))) H := q
        rw [Bool.not_eq_true] at e2
        rw [e2] at q'
        exact q'
    · rw [Bool.not_eq_true] at e
      rw [num_no e] at q
      exact q
def sp_is_interval (K : PySem.W.Frag) : Sp := fun vs H Q _ => ∃ (v : V) (d : PyData), vs = [v] ∧ Dv K H v d ∧ Q (.bl (ivB d)) H
theorem iv_not {d : PyData} (h : tupB d = false) : ivB d = false := by
  cases d with
  | tuple ds => cases h
  | _ => rfl
def tlB (n : Int) : PyData → Bool
  | .tuple ds => decide ((ds.length : Int) = n)
  | _ => false
def sp_is_tuple_of (K : PySem.W.Frag) : Sp := fun vs H Q _ => ∃ (v : V) (d : PyData) (n : Int), vs = [v, .int n] ∧ Dv K H v d ∧ Q (.bl (tlB n d)) H
theorem tl_not {n : Int} {d : PyData} (h : tupB d = false) : tlB n d = false := by
  cases d with
  | tuple ds => cases h
  | _ => rfl
theorem ok_is_tuple_of (T : Tx K mg f_is_number f_is_position f_is_tuple_of f_is_interval f_ascending_error f_targets_error f_is_pieces f_law_deck f_law_draw f_law_line f_law_interval f_law_intervals f_law_right f_law_is_interval f_law_error f_law_changed f_law_made f_law f_Plan_init f_Plan_targets f_Plan_pieces f_Plan_edits f_Plan_state_at f_Plan_len f_Plan_str f_BadTargets_init C_Plan X_BadTargets X_SpanError X_BadPieces X_BadInterval X_BadEdits d_is_number d_is_position d_is_tuple_of d_is_interval d_ascending_error d_targets_error d_is_pieces d_law_deck d_law_draw d_law_line d_law_interval d_law_intervals d_law_right d_law_is_interval d_law_error d_law_changed d_law_made d_law d_Plan_init d_Plan_targets d_Plan_pieces d_Plan_edits d_Plan_state_at d_Plan_len d_Plan_str d_BadTargets_init t_LAST_POSITION t_MAX_TARGETS t_MAX_PIECES) : FnOk P w K mg base CX0 1 f_is_tuple_of d_is_tuple_of ["value", "length"] (sp_is_tuple_of K) := by
  refine T.F_is_tuple_of.ok sc_is_tuple_of (fun vs H Q E h => ?_) (fun cdv A outer s H vs Q E hr h => ?_)
  · obtain ⟨v, d, n, rfl, _⟩ := h
    rfl
  · obtain ⟨v, d, n, rfl, hd, q⟩ := h
    refine ⟨_, (pss_one (ps_ret (pe_and (pe_callB call_isi (by rfl) T.z_isinstance (by decide +kernel) (pa_cons (pv 0) (pa_cons (pe_bltn (v := .ty "tuple") (u := .type "tuple") (by rfl) T.z_tuple (by decide +kernel) rfl) pa_nil))) (pe_one (pe_cmpR op_eq (pe_callB call_len_seq (by rfl) T.z_len PySem.boot_len (pa_cons (pv 0) pa_nil)) (pv 1) (nomark _)))))), ?_⟩
    refine ⟨v, rfl, v, .ty "tuple", _, _, _, rfl, .ty "tuple", hd.ty, kit_tup d, _, rfl, ?_⟩
    cases tb : tupB d with
    | false =>
      refine iteF ?_
      rw [tl_not tb] at q
      exact q
    | true =>
      refine iteT ?_
      cases hd with
      | @tup a xs ds e all =>
        have len := all.length
        refine ⟨.ref a, rfl, a, xs, rfl, .inr (SqT.of e), .int n, rfl, rfl, ?_⟩
        have z : tlB n (.tuple ds) = decide (V.int (xs.length : Nat) = V.int n) := by
          show decide ((ds.length : Int) = n) = _
          rw [← len]
          by_cases y : ((xs.length : Nat) : Int) = n
          · rw [decide_eq_true y, decide_eq_true (by rw [y])]
          · rw [decide_eq_false y, decide_eq_false (fun z => y (V.int.inj z))]
        rw [z] at q
        exact q
      | _ => exact (Bool.false_ne_true tb).elim
theorem tl_two {d : PyData} (h : tlB 2 d = true) : ∃ a b, d = .tuple [a, b] := by
  match d, h with
  | .tuple [a, b], _ => exact ⟨a, b, rfl⟩
  | .tuple (x :: y :: z :: l), h =>
    have h' : ((x :: y :: z :: l).length : Int) = 2 := of_decide_eq_true (show decide (((x :: y :: z :: l).length : Int) = 2) = true from h)
    rw [List.length_cons, List.length_cons, List.length_cons] at h'
    omega
theorem iv_two {d : PyData} (h : ¬ tlB 2 d = true) : ivB d = false := by
  match d, h with
  | .tuple [a, b], h => exact absurd rfl h
  | .tuple [], _ => rfl
  | .tuple [_], _ => rfl
  | .tuple (_ :: _ :: _ :: l), _ => rfl
  | .none, _ => rfl
  | .bool _, _ => rfl
  | .int _, _ => rfl
  | .str _, _ => rfl
  | .list _, _ => rfl
  | .dict _, _ => rfl
theorem ok_is_interval (T : Tx K mg f_is_number f_is_position f_is_tuple_of f_is_interval f_ascending_error f_targets_error f_is_pieces f_law_deck f_law_draw f_law_line f_law_interval f_law_intervals f_law_right f_law_is_interval f_law_error f_law_changed f_law_made f_law f_Plan_init f_Plan_targets f_Plan_pieces f_Plan_edits f_Plan_state_at f_Plan_len f_Plan_str f_BadTargets_init C_Plan X_BadTargets X_SpanError X_BadPieces X_BadInterval X_BadEdits d_is_number d_is_position d_is_tuple_of d_is_interval d_ascending_error d_targets_error d_is_pieces d_law_deck d_law_draw d_law_line d_law_interval d_law_intervals d_law_right d_law_is_interval d_law_error d_law_changed d_law_made d_law d_Plan_init d_Plan_targets d_Plan_pieces d_Plan_edits d_Plan_state_at d_Plan_len d_Plan_str d_BadTargets_init t_LAST_POSITION t_MAX_TARGETS t_MAX_PIECES) : FnOk P w K mg base CX0 3 f_is_interval d_is_interval ["value"] (sp_is_interval K) := by
  refine T.F_is_interval.ok sc_is_interval (fun vs H Q E h => ?_) (fun cdv A outer s H vs Q E hr h => ?_)
  · obtain ⟨v, d, rfl, _⟩ := h
    rfl
  · obtain ⟨v, d, rfl, hd, q⟩ := h
    refine ⟨_, (pss_cons (ps_if (pt_not (pt_val (pe_call (ok_is_tuple_of T) (hr.mono (by decide)) (by rfl) T.g_is_tuple_of T.F_is_tuple_of.kp T.b_is_tuple_of .nil pass0 (pa_cons (pv 0) (pa_cons pe_int pa_nil)))))
      (pss_one (ps_ret pe_bl))
      pss_nil)
      (pss_cons (ps_asg (pv 0) (pg_tup rfl (pgs_cons (pg_name (i := 1) sc_is_interval.nd rfl (Or.inl rfl)) (pgs_cons (pg_name (i := 2) sc_is_interval.nd rfl (Or.inl rfl)) pgs_nil))))
      (pss_one (ps_ret (pe_and (pe_call (ok_is_position T) (hr.mono (by decide)) (by rfl) T.g_is_position T.F_is_position.kp T.b_is_position .nil pass0 (pa_cons (pv 1) pa_nil)) (pe_and (pe_call (ok_is_position T) (hr.mono (by decide)) (by rfl) T.g_is_position T.F_is_position.kp T.b_is_position .nil pass0 (pa_cons (pv 2) pa_nil)) (pe_one (pe_cmpR op_le (pv 1) (pv 2) (nomark _))))))))), ?_⟩
    refine ⟨v, rfl, v, d, 2, rfl, hd, _, rfl, ?_⟩
    by_cases tb : tlB 2 d = true
    · rw [tb]
      refine iteF ?_
      obtain ⟨d1, d2, rfl⟩ := tl_two tb
      cases hd with
      | @tup a xs ds e all =>
        match xs, all, e, q with
          | [v1, v2], .cons h1 (.cons h2 .nil), e, q =>
            refine ⟨.ref a, rfl, a, _, rfl, SqT.of e, rfl, v1, [v2], rfl, v2, [], rfl, rfl, ?_⟩
            refine ⟨v1, rfl, v1, d1, rfl, h1, _, rfl, ite2 (fun e1 => ?_) (fun e1 => ?_)⟩
            · refine ⟨v2, rfl, v2, d2, rfl, h2, _, rfl, ite2 (fun e2 => ?_) (fun e2 => ?_)⟩
              · cases d1 with
                | int i =>
                  cases d2 with
                  | int j =>
                    have x1 := h1.asInt
                    have x2 := h2.asInt
                    subst x1 x2
                    refine ⟨.int i, rfl, .int j, rfl, _, _, rfl, rfl, ?_⟩
                    have q' : Q (.bl (inB 0 1000000000000 (.int i) && (inB 0 1000000000000 (.int j) && decide (i ≤ j)))) H := q
                    rw [e1, e2] at q'
                    exact q'
                  | _ => exact absurd e2 (by simp [inB])
                | _ => exact absurd e1 (by simp [inB])
              · have q' : Q (.bl (inB 0 1000000000000 d1 && (inB 0 1000000000000 d2 && leB d1 d2))) H := q
                rw [Bool.not_eq_true] at e2
                rw [e1, e2] at q'
                exact q'
            · have q' : Q (.bl (inB 0 1000000000000 d1 && (inB 0 1000000000000 d2 && leB d1 d2))) H := q
              rw [Bool.not_eq_true] at e1
              rw [e1] at q'
              exact q'
    · rw [iv_two tb] at q
      rw [Bool.not_eq_true] at tb
      rw [tb]
      exact iteT q
/-! ### the law's own -/

/-! ### plans as data -/
abbrev St2 := List (Int × Int) × List (Int × Int)
/-- an edit: added or removed; a piece or a target; the interval -/
structure Ed where
  add : Bool
  pc : Bool
  q : Int × Int
def wordOf (add pc : Bool) : Str := match add, pc with
  | true, false => "add_target"
  | true, true => "add_piece"
  | false, false => "remove_target"
  | false, true => "remove_piece"
def wordE (e : Ed) : Str := wordOf e.add e.pc
instance (a b : Int × Int) : Decidable (ltP a b) := by unfold ltP; infer_instance
def insI (q : Int × Int) : List (Int × Int) → List (Int × Int)
  | [] => [q]
  | p :: ps => if ltP q p then q :: p :: ps else p :: insI q ps
theorem mem_insI {q x : Int × Int} : ∀ {ps : List (Int × Int)}, x ∈ insI q ps ↔ x = q ∨ x ∈ ps
  | [] => by
    show x ∈ [q] ↔ _
    rw [List.mem_singleton]
    exact ⟨.inl, fun h => h.elim id fun h => nomatch h⟩
  | p :: ps => by
    show x ∈ (if ltP q p then q :: p :: ps else p :: insI q ps) ↔ _
    split
    · rw [List.mem_cons]
    · rw [List.mem_cons, mem_insI (ps := ps), List.mem_cons]
      constructor
      · rintro (h | h | h)
        · exact .inr (.inl h)
        · exact .inl h
        · exact .inr (.inr h)
      · rintro (h | h | h)
        · exact .inr (.inl h)
        · exact .inl h
        · exact .inr (.inr h)
theorem len_insI {q : Int × Int} : ∀ {ps : List (Int × Int)}, (insI q ps).length = ps.length + 1
  | [] => rfl
  | p :: ps => by
    show (if ltP q p then q :: p :: ps else p :: insI q ps).length = _
    split
    · rfl
    · rw [List.length_cons, len_insI (ps := ps), List.length_cons]
theorem ltP_trans {a b c : Int × Int} (h1 : ltP a b) (h2 : ltP b c) : ltP a c := by
  unfold ltP at *
  omega
theorem asc_insI {q : Int × Int} : ∀ {ps : List (Int × Int)}, ps.Pairwise ltP → q ∉ ps → (insI q ps).Pairwise ltP
  | [], _, _ => List.pairwise_cons.mpr ⟨(fun _ h => nomatch h), .nil⟩
  | p :: ps, h, n => by
    have h' := List.pairwise_cons.mp h
    show (if ltP q p then q :: p :: ps else p :: insI q ps).Pairwise ltP
    split
    · rename_i c
      refine List.pairwise_cons.mpr ⟨fun x hx => ?_, h⟩
      rcases List.mem_cons.mp hx with rfl | hx
      · exact c
      · exact ltP_trans c (h'.1 x hx)
    · rename_i c
      refine List.pairwise_cons.mpr ⟨fun x hx => ?_, asc_insI h'.2 fun z => n (List.mem_cons_of_mem _ z)⟩
      rcases mem_insI.mp hx with rfl | hx
      · have ne : x ≠ p := fun e => n (e ▸ List.mem_cons_self)
        unfold ltP at c ⊢
        rcases Int.lt_trichotomy p.1 x.1 with z | z | z
        · exact .inl z
        · rcases Int.lt_trichotomy p.2 x.2 with y | y | y
          · exact .inr ⟨z, y⟩
          · exact absurd (Prod.ext z y).symm ne
          · exact absurd (.inr ⟨z.symm, y⟩) c
        · exact absurd (.inl z) c
      · exact h'.1 x hx
def upI (add : Bool) (q : Int × Int) (ps : List (Int × Int)) : List (Int × Int) := if add = true then insI q ps else wo ps q
def stepS (S : St2) (e : Ed) : St2 := if e.pc = true then (S.1, upI e.add e.q S.2) else (upI e.add e.q S.1, S.2)
def sideS (pc : Bool) (S : St2) : List (Int × Int) := if pc = true then S.2 else S.1
/-- intervals as a plan holds them -/
structure SideOk (n : Nat) (ps : List (Int × Int)) : Prop where
  asc : ps.Pairwise ltP
  ok : ∀ q ∈ ps, (0 ≤ q.1 ∧ q.1 ≤ q.2) ∧ q.2 ≤ 1000000000000
  few : ps.length ≤ n
structure StOk (S : St2) : Prop where
  t : SideOk 24 S.1
  p : SideOk 30 S.2
/-- an edit that can be done -/
structure Can (S : St2) (e : Ed) : Prop where
  ok : (0 ≤ e.q.1 ∧ e.q.1 ≤ e.q.2) ∧ e.q.2 ≤ 1000000000000
  no : e.add = true → e.q ∉ sideS e.pc S ∧ (sideS e.pc S).length < (if e.pc = true then 30 else 24)
  yes : e.add = false → e.q ∈ sideS e.pc S
theorem ltP_ndp {ps : List (Int × Int)} (h : ps.Pairwise ltP) : ps.Nodup := h.imp fun {a b} h e => by
  subst e
  rcases h with h | h <;> omega
theorem SideOk.ins {n : Nat} {ps : List (Int × Int)} {q : Int × Int} (h : SideOk n ps) (ok : (0 ≤ q.1 ∧ q.1 ≤ q.2) ∧ q.2 ≤ 1000000000000) (nq : q ∉ ps) (l : ps.length < n) : SideOk n (insI q ps) :=
  ⟨asc_insI h.asc nq, fun x hx => (mem_insI.mp hx).elim (fun e => e ▸ ok) fun m => h.ok x m, by rw [len_insI]; exact l⟩
theorem SideOk.wo {n : Nat} {ps : List (Int × Int)} (h : SideOk n ps) (q : Int × Int) : SideOk n (wo ps q) :=
  ⟨h.asc.filter _, fun x hx => h.ok x (wo_sub hx), Nat.le_trans (wo_len ps q) h.few⟩
theorem StOk.step {S : St2} {e : Ed} (h : StOk S) (c : Can S e) : StOk (stepS S e) := by
  obtain ⟨add, pc, q⟩ := e
  cases pc with
  | true =>
    refine ⟨h.t, ?_⟩
    cases add with
    | true => exact h.p.ins c.ok (c.no rfl).1 (c.no rfl).2
    | false => exact h.p.wo q
  | false =>
    refine ⟨?_, h.p⟩
    cases add with
    | true => exact h.t.ins c.ok (c.no rfl).1 (c.no rfl).2
    | false => exact h.t.wo q
/-! ### plans in the heap -/
inductive Sts (H : Hp) : List V → List St2 → Prop where
  | nil : Sts H [] []
  | cons {t x y : Addr} {xs ys us : List V} {S : St2} {Ss : List St2} (e : H t = some (.tup [.ref x, .ref y])) (ex : H x = some (.tup xs)) (ix : Ivs H xs S.1) (ey : H y = some (.tup ys)) (iy : Ivs H ys S.2) (r : Sts H us Ss) : Sts H (.ref t :: us) (S :: Ss)
theorem Sts.tps {H H' : Hp} (s : Tps H H') {us : List V} {Ss : List St2} (h : Sts H us Ss) : Sts H' us Ss := by
  induction h with
  | nil => exact .nil
  | cons e ex ix ey iy _ ih => exact .cons (s _ _ e) (s _ _ ex) (ix.tps s) (s _ _ ey) (iy.tps s) ih
theorem Sts.length {H : Hp} {us : List V} {Ss : List St2} (h : Sts H us Ss) : us.length = Ss.length := by
  induction h with
  | nil => rfl
  | cons e ex ix ey iy _ ih => rw [List.length_cons, List.length_cons, ih]
theorem Sts.get {H : Hp} {us : List V} {Ss : List St2} (h : Sts H us Ss) : ∀ {i : Nat} {S : St2}, Ss[i]? = some S → ∃ t x y xs ys, us[i]? = some (.ref t) ∧ H t = some (.tup [.ref x, .ref y]) ∧ H x = some (.tup xs) ∧ Ivs H xs S.1 ∧ H y = some (.tup ys) ∧ Ivs H ys S.2 := by
  induction h with
  | nil => intro i S e; cases e
  | @cons t x y xs ys us S0 Ss e ex ix ey iy _ ih =>
    intro i S h
    cases i with
    | zero =>
      cases h
      exact ⟨t, x, y, xs, ys, rfl, e, ex, ix, ey, iy⟩
    | succ i => exact ih h
theorem Sts.snoc {H : Hp} {us : List V} {Ss : List St2} (h : Sts H us Ss) {t x y : Addr} {xs ys : List V} {S : St2} (e : H t = some (.tup [.ref x, .ref y])) (ex : H x = some (.tup xs)) (ix : Ivs H xs S.1) (ey : H y = some (.tup ys)) (iy : Ivs H ys S.2) : Sts H (us ++ [.ref t]) (Ss ++ [S]) := by
  induction h with
  | nil => exact .cons e ex ix ey iy .nil
  | cons e1 ex1 ix1 ey1 iy1 _ ih => exact .cons e1 ex1 ix1 ey1 iy1 ih
theorem Sts.init {H : Hp} {us : List V} {Ss : List St2} (h : Sts H us Ss) : Sts H us.dropLast Ss.dropLast := by
  induction h with
  | nil => exact .nil
  | cons e ex ix ey iy r ih =>
    cases r with
    | nil => exact .nil
    | cons e2 ex2 ix2 ey2 iy2 r2 => exact .cons e ex ix ey iy ih
inductive Eds (H : Hp) : List V → List Ed → Prop where
  | nil : Eds H [] []
  | cons {t a : Addr} {vs : List V} {e : Ed} {es : List Ed} (h : H t = some (.tup [.str (wordE e), .ref a])) (ha : H a = some (.tup [.int e.q.1, .int e.q.2])) (r : Eds H vs es) : Eds H (.ref t :: vs) (e :: es)
theorem Eds.tps {H H' : Hp} (s : Tps H H') {us : List V} {es : List Ed} (h : Eds H us es) : Eds H' us es := by
  induction h with
  | nil => exact .nil
  | cons e ex _ ih => exact .cons (s _ _ e) (s _ _ ex) ih
theorem Eds.length {H : Hp} {us : List V} {es : List Ed} (h : Eds H us es) : us.length = es.length := by
  induction h with
  | nil => rfl
  | cons e ex _ ih => rw [List.length_cons, List.length_cons, ih]
theorem Eds.snoc {H : Hp} {us : List V} {es : List Ed} (h : Eds H us es) {t a : Addr} {e : Ed} (h1 : H t = some (.tup [.str (wordE e), .ref a])) (h2 : H a = some (.tup [.int e.q.1, .int e.q.2])) : Eds H (us ++ [.ref t]) (es ++ [e]) := by
  induction h with
  | nil => exact .cons h1 h2 .nil
  | cons e1 ex1 _ ih => exact .cons e1 ex1 ih
theorem Eds.init {H : Hp} {us : List V} {es : List Ed} (h : Eds H us es) : Eds H us.dropLast es.dropLast := by
  induction h with
  | nil => exact .nil
  | cons e ex r ih =>
    cases r with
    | nil => exact .nil
    | cons e2 ex2 r2 => exact .cons e ex ih
theorem Eds.get {H : Hp} {us : List V} {es : List Ed} (h : Eds H us es) : ∀ {i : Nat} {v : V}, us[i]? = some v → ∃ t a e, v = .ref t ∧ es[i]? = some e ∧ H t = some (.tup [.str (wordE e), .ref a]) ∧ H a = some (.tup [.int e.q.1, .int e.q.2]) := by
  induction h with
  | nil => intro i v e; cases e
  | @cons t a vs e es h1 h2 _ ih =>
    intro i v hv
    cases i with
    | zero =>
      cases hv
      exact ⟨t, a, e, rfl, rfl, h1, h2⟩
    | succ i => exact ih hv
def edD (e : Ed) : PyData := .tuple [.str (wordE e), .tuple [.int e.q.1, .int e.q.2]]
theorem Eds.dp {K : PySem.W.Frag} {H : Hp} {us : List V} {es : List Ed} (h : Eds H us es) : DpAll K H us (es.map edD) := by
  induction h with
  | nil => exact .nil
  | cons e ex _ ih => exact .cons (.tup (SqT.of e) (.cons (.str _) (.cons (dp2 ex) .nil))) ih
/-- the attributes of a plan, in the order in which they are stored -/
def flP (a b : Addr) (z : Bool) : List (Str × V) := [("states", .ref a), ("done", .ref b), ("busy", .bl z)]
theorem kSD : ¬ (("states" : Str) = "done") := by decide +kernel
theorem kSB : ¬ (("states" : Str) = "busy") := by decide +kernel
theorem kDB : ¬ (("done" : Str) = "busy") := by decide +kernel
theorem flP_new (a b : Addr) (z : Bool) : putF "busy" (.bl z) (putF "done" (.ref b) (putF "states" (.ref a) [])) = flP a b z := by
  show putF "busy" (.bl z) (if ("states" : Str) = "done" then [(("states" : Str), V.ref b)] else (("states" : Str), V.ref a) :: putF "done" (V.ref b) []) = _
  rw [if_neg kSD]
  show (if ("states" : Str) = "busy" then _ else (("states" : Str), V.ref a) :: (if ("done" : Str) = "busy" then _ else (("done" : Str), V.ref b) :: putF "busy" (V.bl z) [])) = _
  rw [if_neg kSB, if_neg kDB]
  rfl
theorem flP_states (a b a' : Addr) (z : Bool) : putF "states" (.ref a') (flP a b z) = flP a' b z := by
  show (if ("states" : Str) = "states" then _ else _) = _
  rw [if_pos rfl]
  rfl
theorem flP_done (a b b' : Addr) (z : Bool) : putF "done" (.ref b') (flP a b z) = flP a b' z := by
  show (if ("states" : Str) = "done" then _ else (("states" : Str), V.ref a) :: (if ("done" : Str) = "done" then _ else _)) = _
  rw [if_neg kSD, if_pos rfl]
  rfl
theorem lk_states (a b : Addr) (z : Bool) : (flP a b z).lookup ("states" : Str) = some (.ref a) := by rw [← flP_new, lookup_putF, if_neg kSB, lookup_putF, if_neg kSD, lookup_putF, if_pos rfl]
theorem lk_done (a b : Addr) (z : Bool) : (flP a b z).lookup ("done" : Str) = some (.ref b) := by rw [← flP_new, lookup_putF, if_neg kDB, lookup_putF, if_pos rfl]
theorem lk_busy (a b : Addr) (z : Bool) : (flP a b z).lookup ("busy" : Str) = some (.bl z) := by rw [← flP_new, lookup_putF, if_pos rfl]
theorem lk_no (a b : Addr) (z : Bool) {m : Str} (h : (decide (m = "states") || decide (m = "done") || decide (m = "busy")) = false) : (flP a b z).lookup m = none := by
  rw [Bool.or_eq_false_iff, Bool.or_eq_false_iff] at h
  rw [← flP_new, lookup_putF, if_neg (of_decide_eq_false h.2), lookup_putF, if_neg (of_decide_eq_false h.1.2), lookup_putF, if_neg (of_decide_eq_false h.1.1)]
  rfl
/-- a plan stands at p, with the states Ss behind the edits Es -/
structure PlanAt (C : Addr) (H : Hp) (p : Addr) (Ss : List St2) (Es : List Ed) : Prop where
  ex : ∃ dx a b us vs, H p = some (.ins C dx (flP a b false)) ∧ H a = some (.tup us) ∧ Sts H us Ss ∧ H b = some (.tup vs) ∧ Eds H vs Es
  len : Ss.length = Es.length + 1
/-- nothing but p has changed -/
def But (p : Addr) (H H' : Hp) : Prop := ∀ b o, b ≠ p → H b = some o → H' b = some o
theorem But.trans {p : Addr} {H H1 H2 : Hp} (h1 : But p H H1) (h2 : But p H1 H2) : But p H H2 := fun b o n e => h2 b o n (h1 b o n e)
theorem But.same {p : Addr} {H H1 : Hp} (s : Same H H1) : But p H H1 := fun b o _ e => s b o e
theorem But.upd {p : Addr} {H : Hp} {o : HO} : But p H (upd H p o) := fun b u n e => by
  rw [upd_ne n]
  exact e
theorem But.tps {p C dx : Addr} {fs : List (Str × V)} {H H' : Hp} (h : But p H H') (e : H p = some (.ins C dx fs)) : Tps H H' := fun b xs hb => h b _ (ne_of hb e (fun z => by cases z)) hb
theorem PlanAt.tps {C p : Addr} {H H' : Hp} {Ss : List St2} {Es : List Ed} (P : PlanAt C H p Ss Es) (b : But p H H') : Tps H H' := by
  obtain ⟨dx, _, _, _, _, e, _⟩ := P.ex
  exact b.tps e
theorem PlanAt.lst {C p : Addr} {H H' : Hp} {Ss : List St2} {Es : List Ed} (P : PlanAt C H p Ss Es) (b : But p H H') {l : Addr} {us : List V} (h : H l = some (.lst us)) : H' l = some (.lst us) := by
  obtain ⟨dx, _, _, _, _, e, _⟩ := P.ex
  exact b l _ (ne_of h e (fun z => by cases z)) h
/-- carried over a change that keeps the instance and the tuples -/
theorem PlanAt.keep {C p : Addr} {H H' : Hp} {Ss : List St2} {Es : List Ed} (P : PlanAt C H p Ss Es) (t : Tps H H') (k : ∀ C dx fs, H p = some (.ins C dx fs) → H' p = some (.ins C dx fs)) : PlanAt C H' p Ss Es := by
  obtain ⟨⟨dx, a, b, us, vs, e, ea, sa, eb, sb⟩, l⟩ := P
  exact ⟨⟨dx, a, b, us, vs, k _ _ _ e, t _ _ ea, sa.tps t, t _ _ eb, sb.tps t⟩, l⟩
theorem PlanAt.same {C p : Addr} {H H' : Hp} {Ss : List St2} {Es : List Ed} (P : PlanAt C H p Ss Es) (s : Same H H') : PlanAt C H' p Ss Es := P.keep (Tps.same s) fun _ _ _ e => s _ _ e
/-! ### checks of intervals -/

/-! ### repr of data in an except suite -/
theorem call_reprS {X : Cx} {a : Addr} {oe : Obj} {pn : List (Addr × Obj)} (quiet : Quiet X.A) (units : X.A.units + 64 < cLine) : CallR (X.suite a ((a, oe) :: pn)) (.builtin "repr")
    (fun xs H Q => ∃ v d n dp, xs = [v] ∧ Dp X.K H v d ∧ Sm n dp d ∧ n ≤ 300000 ∧ dp ≤ 60 ∧ Q (.str d.shown) H) := call_reprD (X := X.suite a ((a, oe) :: pn)) quiet units
theorem call_reprVS {X : Cx} {a : Addr} {oe : Obj} {pn : List (Addr × Obj)} (mods : ∃ mm, X.base.Ns sysModules mm) (quiet : Quiet X.A) (units : X.A.units + 64 < cLine) : CallR (X.suite a ((a, oe) :: pn)) (.builtin "repr")
    (fun xs H Q => ∃ v d n dp, xs = [v] ∧ Dv X.K H v d ∧ Sm n dp d ∧ n ≤ 300000 ∧ dp ≤ 60 ∧ Q (.str d.shown) H) := call_reprV (X := X.suite a ((a, oe) :: pn)) mods quiet units

/-! ### for i, x in enumerate(t) -/
theorem for_enumT {K : PySem.W.Frag} {a : Addr} {xs : List V} {g : TG} {tb : TS} {D : Ends} {σ : L2.St} {H : Hp} (Pv : Nat → L2.St → Hp → Prop) (h0 : Pv 0 σ H) (hq : ∀ i σ H, Pv i σ H → SqT K H a xs)
    (hs : ∀ (i : Nat) (x : V) (t : Addr) (σ : L2.St) (H : Hp), xs[i]? = some x → Pv i σ H → H t = none → g (.ref t) σ (upd H t (.tup [.int (i : Nat), x])) fun σ2 H2 => tb { D with nx := Pv (i + 1), ct := Pv (i + 1), bk := D.nx } σ2 H2) (hd : ∀ σ H, Pv xs.length σ H → D.nx σ H) :
    ∃ W : Nat → Nat → L2.St → Hp → Prop, (∃ m, W 0 m σ H) ∧ ∀ i m σ H, W i m σ H →
      ((IteT K a xs.length).stop i H ∧ D.nx σ H) ∨ ((IteT K a xs.length).go i H ∧ ∃ N : L2.St → Hp → Prop, (∀ σ' H', N σ' H' → ∃ m', m' < m ∧ W (i + 1) m' σ' H') ∧ ∀ v H', (IteT K a xs.length).yld i H v H' → g v σ H' fun σ2 H2 => tb { D with nx := N, ct := N, bk := D.nx } σ2 H2) := by
  refine ⟨fun i m σ H => i + m = xs.length ∧ Pv i σ H, ⟨xs.length, by omega, h0⟩, ?_⟩
  rintro i m σ H ⟨im, p⟩
  have hx := hq i σ H p
  by_cases c : i < xs.length
  · refine .inr ⟨⟨xs, xs[i], hx, List.getElem?_eq_getElem c, rfl⟩, Pv (i + 1), fun σ' H' p' => ⟨m - 1, by omega, by omega, p'⟩, ?_⟩
    rintro v H' ⟨t, x, rfl, nt, rfl, at_⟩
    exact hs i x t σ H (at_ xs hx) p nt
  · refine .inl ⟨⟨xs, hx, rfl, by omega⟩, hd σ H ?_⟩
    have : i = xs.length := by omega
    rw [← this]
    exact p

/-! ### the first error of an ascending tuple of intervals -/
def leqB : PyData → PyData → Bool
  | .tuple [.int x1, .int x2], .tuple [.int y1, .int y2] => if x1 = y1 then (if x2 = y2 then true else decide (x2 ≤ y2)) else decide (x1 ≤ y1)
  | _, _ => false
def errAt (ds : List PyData) (i : Nat) : Option Str := if ivB (ds.getD i .none) = true then (if 0 < i ∧ leqB (ds.getD i .none) (ds.getD (i - 1) .none) = true then some "order" else none) else some "interval"
def fe (ds : List PyData) : Nat → Nat → PyData
  | 0, _ => .none
  | k + 1, i => match errAt ds i with
    | some s => .tuple [.int i, .str s]
    | none => fe ds k (i + 1)
def noTup : PyData := .tuple [.none, .str "tuple"]
def errD (most : Int) : PyData → PyData
  | .tuple ds => if (ds.length : Int) > most then noTup else fe ds ds.length 0
  | _ => noTup
theorem iv_shape {d : PyData} (h : ivB d = true) : ∃ x y, d = .tuple [.int x, .int y] := by
  cases d with
  | tuple ds =>
    match ds, h with
    | [], h => exact (Bool.false_ne_true h).elim
    | [_], h => exact (Bool.false_ne_true h).elim
    | _ :: _ :: _ :: _, h => exact (Bool.false_ne_true h).elim
    | [a, b], h =>
      have h' : (inB 0 1000000000000 a && (inB 0 1000000000000 b && leB a b)) = true := h
      have h1 := (Bool.and_eq_true_iff.mp h').1
      have h2 := (Bool.and_eq_true_iff.mp (Bool.and_eq_true_iff.mp h').2).1
      cases a with
      | int x =>
        cases b with
        | int y => exact ⟨x, y, rfl⟩
        | _ => exact (Bool.false_ne_true h2).elim
      | _ => exact (Bool.false_ne_true h1).elim
  | _ => exact (Bool.false_ne_true h).elim
theorem Dv.asPair {K : PySem.W.Frag} {H : Hp} {v : V} {x y : Int} (h : Dv K H v (.tuple [.int x, .int y])) : ∃ b, v = .ref b ∧ H b = some (.tup [.int x, .int y]) := by
  cases h with
  | @tup a xs _ e all =>
    match xs, all with
    | [_, _], .cons h1 (.cons h2 .nil) =>
      cases h1
      cases h2
      exact ⟨a, rfl, e⟩
theorem getD_some {ds : List PyData} {i : Nat} {d : PyData} (h : ds[i]? = some d) : ds.getD i .none = d := by
  rw [List.getD_eq_getElem?_getD, h]
  rfl
theorem sm_fe (ds : List PyData) : ∀ k i : Nat, i + k ≤ 1000 → Sm 1000 3 (fe ds k i)
  | 0, _, _ => Sm.none.mono (by decide) (by decide)
  | k + 1, i, h => by
    show Sm 1000 3 (match errAt ds i with | some s => .tuple [.int i, .str s] | none => fe ds k (i + 1))
    have one : ∀ s : Str, Sm 100 0 (.str s) → Sm 1000 3 (.tuple [.int i, .str s]) := fun s hs => by
      refine (Sm.tup (n := 100) (dp := 0) (ds := [.int i, .str s]) (fun d hd => ?_)).mono (by show 2 * 101 ≤ 1000; decide) (by decide)
      rcases List.mem_cons.mp hd with rfl | hd
      · exact Sm.int (by omega)
      · rw [List.mem_singleton.mp hd]
        exact hs
    cases e : errAt ds i with
    | none => exact sm_fe ds k (i + 1) (by omega)
    | some s =>
      apply one
      unfold errAt at e
      split at e
      · split at e
        · cases e
          exact ⟨rfl, by decide +kernel, by decide +kernel, Nat.le_refl _⟩
        · cases e
      · cases e
        exact ⟨rfl, by decide +kernel, by decide +kernel, Nat.le_refl _⟩
theorem sm_noTup : Sm 1000 3 noTup := by
  refine ⟨by decide +kernel, by decide +kernel, by decide +kernel, by decide +kernel⟩
theorem sm_err (most : Int) {d : PyData} (h : ∀ ds, d = .tuple ds → ds.length ≤ 900) : Sm 1000 3 (errD most d) := by
  cases d with
  | tuple ds =>
    show Sm 1000 3 (if (ds.length : Int) > most then noTup else fe ds ds.length 0)
    split
    · exact sm_noTup
    · exact sm_fe ds _ _ (by have := h ds rfl; omega)
  | _ => exact sm_noTup
def sp_ascending_error (K : PySem.W.Frag) : Sp := fun vs H Q _ => ∃ (v : V) (d : PyData) (most : Int), vs = [v, .int most] ∧ Dv K H v d ∧ ∀ H' r, Same H H' → Dv K H' r (errD most d) → Q r H'
theorem ok_ascending_error (T : Tx K mg f_is_number f_is_position f_is_tuple_of f_is_interval f_ascending_error f_targets_error f_is_pieces f_law_deck f_law_draw f_law_line f_law_interval f_law_intervals f_law_right f_law_is_interval f_law_error f_law_changed f_law_made f_law f_Plan_init f_Plan_targets f_Plan_pieces f_Plan_edits f_Plan_state_at f_Plan_len f_Plan_str f_BadTargets_init C_Plan X_BadTargets X_SpanError X_BadPieces X_BadInterval X_BadEdits d_is_number d_is_position d_is_tuple_of d_is_interval d_ascending_error d_targets_error d_is_pieces d_law_deck d_law_draw d_law_line d_law_interval d_law_intervals d_law_right d_law_is_interval d_law_error d_law_changed d_law_made d_law d_Plan_init d_Plan_targets d_Plan_pieces d_Plan_edits d_Plan_state_at d_Plan_len d_Plan_str d_BadTargets_init t_LAST_POSITION t_MAX_TARGETS t_MAX_PIECES) : FnOk P w K mg base CX0 4 f_ascending_error d_ascending_error ["value", "most"] (sp_ascending_error K) := by
  refine T.F_ascending_error.ok sc_ascending_error (fun vs H Q E h => ?_) (fun cdv A outer s H vs Q E hr h => ?_)
  · obtain ⟨v, d, most, rfl, _⟩ := h
    rfl
  · obtain ⟨v, d, most, rfl, hd, q⟩ := h
    refine ⟨_, (pss_cons (ps_if (PW.pt (pw_or (pt_not (pt_val (pe_callB call_isi (by rfl) T.z_isinstance (by decide +kernel) (pa_cons (pv 0) (pa_cons (pe_bltn (v := .ty "tuple") (u := .type "tuple") (by rfl) T.z_tuple (by decide +kernel) rfl) pa_nil))))) (pw_or1 (pt_cmpR op_gt (pe_callB call_len_seq (by rfl) T.z_len PySem.boot_len (pa_cons (pv 0) pa_nil)) (pv 1) (nomark _)))))
      (pss_one (ps_ret (pe_tup (pa_cons pe_non (pa_cons pe_str pa_nil)))))
      pss_nil)
      (pss_cons (ps_for PassesOwn.never rfl (pi_enumT (by rfl) T.z_enumerate (pa_cons (pv 0) pa_nil)) (pg_tup rfl (pgs_cons (pg_name (i := 2) sc_ascending_error.nd rfl (Or.inl rfl)) (pgs_cons (pg_name (i := 3) sc_ascending_error.nd rfl (Or.inl rfl)) pgs_nil)))
      (pss_cons (ps_if (pt_not (pt_val (pe_call (ok_is_interval T) (hr.mono (by decide)) (by rfl) T.g_is_interval T.F_is_interval.kp T.b_is_interval .nil pass0 (pa_cons (pv 3) pa_nil))))
      (pss_one (ps_ret (pe_tup (pa_cons (pv 2) (pa_cons pe_str pa_nil)))))
      pss_nil)
      (pss_one (ps_if (PW.pt (pw_and (pt_cmpR op_gt (pv 2) pe_int (nomark _)) (pw_and1 (pt_cmpR (op_leT hr.units0) (pv 3) (pe_ix ix_tup (pv 0) (pe_op op_sub (pv 2) pe_int) (fun _ _ => rfl)) (nomark _)))))
      (pss_one (ps_ret (pe_tup (pa_cons (pv 2) (pa_cons pe_str pa_nil)))))
      pss_nil))))
      (pss_one (ps_ret pe_non)))), ?_⟩
    refine ⟨v, rfl, v, .ty "tuple", _, _, _, rfl, .ty "tuple", hd.ty, kit_tup d, _, rfl, ?_⟩
    cases tb : tupB d with
    | false =>
      refine iteT ?_
      refine iteT ?_
      refine ⟨by show 2 ≤ sizeLine; decide, fun t nt => ?_⟩
      have e : errD most d = noTup := by
        cases d with
        | tuple ds => cases tb
        | _ => rfl
      rw [e] at q
      exact q _ _ (same_new nt) (.tup upd_same (.cons .non (.cons (.str _) .nil)))
    | true =>
      refine iteF ?_
      cases hd with
      | @tup a xs ds e all =>
        have len := all.length
        refine ⟨.ref a, rfl, a, xs, rfl, .inr (SqT.of e), .int most, rfl, _, _, rfl, rfl, _, rfl, ite2 (fun e1 => ?_) (fun e1 => ?_)⟩
        · have e2 : most < (xs.length : Int) := of_decide_eq_true e1
          refine ⟨by show 2 ≤ sizeLine; decide, fun t nt => ?_⟩
          have eq : errD most (.tuple ds) = noTup := by
            show (if (ds.length : Int) > most then noTup else fe ds ds.length 0) = noTup
            rw [if_pos (by omega)]
          rw [eq] at q
          exact q _ _ (same_new nt) (.tup upd_same (.cons .non (.cons (.str _) .nil)))
        · have e2 : ¬ most < (xs.length : Int) := fun z => e1 (decide_eq_true z)
          have eq : errD most (.tuple ds) = fe ds ds.length 0 := by
            show (if (ds.length : Int) > most then noTup else fe ds ds.length 0) = _
            rw [if_neg (by omega)]
          rw [eq] at q
          generalize eR : fe ds ds.length 0 = R at q
          refine ⟨.ref a, rfl, a, xs, rfl, SqT.of e, ?_⟩
          refine ⟨fun i m σ H' => i + m = xs.length ∧ Same H H' ∧ fe ds m i = R ∧ (∀ j, j < i → ivB (ds.getD j .none) = true) ∧ ∃ y2 y3, σ = [some (.ref a), some (.int most), y2, y3], ⟨xs.length, by omega, Same.refl _, by rw [len]; exact eR, fun j hj => absurd hj (Nat.not_lt_zero j), none, none, rfl⟩, fun i m σ H1 hW => ?_⟩
          obtain ⟨em, sm, ef, ok, y2, y3, rfl⟩ := hW
          have ha1 := sm _ _ e
          by_cases hi : i < xs.length
          · have hx : xs[i]? = some xs[i] := List.getElem?_eq_getElem hi
            obtain ⟨m', rfl⟩ : ∃ m', m = m' + 1 := ⟨m - 1, by omega⟩
            refine .inr ⟨⟨_, _, SqT.of ha1, hx, rfl⟩, fun σ' H' => Same H H' ∧ fe ds m' (i + 1) = R ∧ (∀ j, j < i + 1 → ivB (ds.getD j .none) = true) ∧ ∃ y2 y3, σ' = [some (.ref a), some (.int most), y2, y3], fun σ' H' hN => ?_, fun z H' hy => ?_⟩
            · obtain ⟨n1, n2, n3, n4⟩ := hN
              exact ⟨m', by omega, by omega, n1, n2, n3, n4⟩
            · obtain ⟨t, x, rfl, nt, rfl, fx⟩ := hy
              have ex : x = xs[i] := Option.some.inj ((fx _ (SqT.of ha1)).symm.trans hx)
              subst ex
              obtain ⟨di, edi, hdi⟩ := all.get hx
              have gd := getD_some edi
              have st := same_new (o := .tup [.int (i : Nat), xs[i]]) nt
              have et := upd_same (H := H1) (a := t) (o := .tup [.int (i : Nat), xs[i]])
              generalize upd H1 t (.tup [.int (i : Nat), xs[i]]) = H2 at *
              have smH := sm.trans st
              have hv2 := dv_same smH hdi
              generalize xs[i] = vi at *
              refine ⟨t, _, rfl, SqT.of et, rfl, .int (i : Nat), [vi], rfl, vi, [], rfl, rfl, ?_⟩
              have fes : fe ds (m' + 1) i = match errAt ds i with | some s => .tuple [.int i, .str s] | none => fe ds m' (i + 1) := rfl
              refine ⟨vi, rfl, vi, di, rfl, hv2, _, rfl, ?_⟩
              cases hiv : ivB di with
              | false =>
                refine iteT ?_
                have ea : errAt ds i = some (Str.ofString "interval") := by
                  unfold errAt
                  rw [gd, hiv]
                  rfl
                rw [ea] at fes
                refine ⟨.int _, rfl, by show 2 ≤ sizeLine; decide, fun t2 nt2 => ?_⟩
                have q2 := q (upd H2 t2 (.tup [.int (i : Nat), .str "interval"])) (.ref t2) (smH.trans (same_new nt2))
                rw [← ef, fes] at q2
                exact q2 (.tup upd_same (.cons (.int _) (.cons (.str _) .nil)))
              | true =>
                refine iteF ?_
                obtain ⟨x1, x2, rfl⟩ := iv_shape hiv
                obtain ⟨b, rfl, hb⟩ := hv2.asPair
                refine ⟨.int _, rfl, _, _, rfl, rfl, _, rfl, ite2 (fun g0 => ?_) (fun g0 => ?_)⟩
                · have i0 : 0 < i := by
                    have z := of_decide_eq_true g0
                    omega
                  have hp : xs[i - 1]? = some xs[i - 1] := List.getElem?_eq_getElem (by omega)
                  obtain ⟨dp, edp, hdp⟩ := all.get hp
                  have gp := getD_some edp
                  have okp := ok (i - 1) (by omega)
                  rw [gp] at okp
                  obtain ⟨y1, y2', rfl⟩ := iv_shape okp
                  obtain ⟨c, ec, hc⟩ := (dv_same smH hdp).asPair
                  have ix : atI xs ((i : Int) - 1) = some (.ref c) := by
                    rw [show (i : Int) - 1 = ((i - 1 : Nat) : Int) by omega, ← ec]
                    exact atI_nat hp
                  refine ⟨.ref b, rfl, .ref a, rfl, .int _, rfl, _, _, rfl, rfl, a, xs, _, .ref c, rfl, rfl, SqT.of (st _ _ ha1), ix, b, c, [x1, x2], [y1, y2'], rfl, rfl, SqT.of hb, SqT.of hc, _, rfl, ?_⟩
                  have elex : Ob.lexAt (fun j => decide ([x1, x2].getD j 0 = [y1, y2'].getD j 0)) (fun j => decide ([x1, x2].getD j 0 ≤ [y1, y2'].getD j 0)) (decide ([x1, x2].length ≤ [y1, y2'].length)) 0 (min [x1, x2].length [y1, y2'].length) = leqB (.tuple [.int x1, .int x2]) (.tuple [.int y1, .int y2']) := by
                    show (if decide (x1 = y1) = true then (if decide (x2 = y2') = true then true else decide (x2 ≤ y2')) else decide (x1 ≤ y1)) = (if x1 = y1 then (if x2 = y2' then true else decide (x2 ≤ y2')) else decide (x1 ≤ y1))
                    by_cases c1 : x1 = y1
                    · rw [if_pos (decide_eq_true c1), if_pos c1]
                      by_cases c2 : x2 = y2'
                      · rw [if_pos (decide_eq_true c2), if_pos c2]
                      · rw [if_neg (by rw [decide_eq_false c2]; decide), if_neg c2]
                    · rw [if_neg (by rw [decide_eq_false c1]; decide), if_neg c1]
                  rw [elex]
                  cases hl : leqB (.tuple [.int x1, .int x2]) (.tuple [.int y1, .int y2']) with
                  | true =>
                    refine iteT ?_
                    have ea : errAt ds i = some (Str.ofString "order") := by
                      unfold errAt
                      rw [if_pos (by rw [gd]; exact hiv), if_pos ⟨i0, by rw [gd, gp]; exact hl⟩]
                    rw [ea] at fes
                    refine ⟨.int _, rfl, by show 2 ≤ sizeLine; decide, fun t2 nt2 => ?_⟩
                    have q2 := q (upd H2 t2 (.tup [.int (i : Nat), .str "order"])) (.ref t2) (smH.trans (same_new nt2))
                    rw [← ef, fes] at q2
                    exact q2 (.tup upd_same (.cons (.int _) (.cons (.str _) .nil)))
                  | false =>
                    refine iteF ?_
                    have ea : errAt ds i = none := by
                      unfold errAt
                      rw [if_pos (by rw [gd]; exact hiv), if_neg (fun z => by
                        have z2 := z.2
                        rw [gd, gp, hl] at z2
                        exact Bool.false_ne_true z2)]
                    rw [ea] at fes
                    refine ⟨smH, fes.symm.trans ef, fun j hj => ?_, _, _, rfl⟩
                    rcases Nat.lt_or_ge j i with z | z
                    · exact ok j z
                    · have : j = i := by omega
                      subst this
                      rw [gd]
                      exact hiv
                · have i0 : i = 0 := by
                    rcases Nat.eq_zero_or_pos i with z | z
                    · exact z
                    · exact absurd (decide_eq_true (by omega)) g0
                  refine iteF ?_
                  have ea : errAt ds i = none := by
                    unfold errAt
                    rw [if_pos (by rw [gd]; exact hiv), if_neg (fun z => by
                      have z1 := z.1
                      omega)]
                  rw [ea] at fes
                  refine ⟨smH, fes.symm.trans ef, fun j hj => ?_, _, _, rfl⟩
                  have : j = i := by omega
                  subst this
                  rw [gd]
                  exact hiv
          · refine .inl ⟨⟨_, SqT.of ha1, rfl, by omega⟩, ?_⟩
            have m0 : m = 0 := by omega
            subst m0
            have q2 := q H1 .non sm
            rw [← ef] at q2
            exact q2 .non
      | _ => exact (Bool.false_ne_true tb).elim

/-! ### queries -/
/-- a version: None, or a number; i the state's place -/
def IsVer (v : V) (n i : Nat) : Prop := (v = .non ∧ i = n) ∨ (v = .int i ∧ i ≤ n)
def sp_state_at (C : Addr) : Sp := fun vs H Q _ => ∃ (p : Addr) (v : V) (Ss : List St2) (Es : List Ed) (S : St2) (i : Nat), vs = [.ref p, v] ∧ PlanAt C H p Ss Es ∧ IsVer v Es.length i ∧ Ss[i]? = some S ∧
  ∀ t x y xs ys, H t = some (.tup [.ref x, .ref y]) → H x = some (.tup xs) → Ivs H xs S.1 → H y = some (.tup ys) → Ivs H ys S.2 → Q (.ref t) H
theorem ok_Plan_state_at (T : Tx K mg f_is_number f_is_position f_is_tuple_of f_is_interval f_ascending_error f_targets_error f_is_pieces f_law_deck f_law_draw f_law_line f_law_interval f_law_intervals f_law_right f_law_is_interval f_law_error f_law_changed f_law_made f_law f_Plan_init f_Plan_targets f_Plan_pieces f_Plan_edits f_Plan_state_at f_Plan_len f_Plan_str f_BadTargets_init C_Plan X_BadTargets X_SpanError X_BadPieces X_BadInterval X_BadEdits d_is_number d_is_position d_is_tuple_of d_is_interval d_ascending_error d_targets_error d_is_pieces d_law_deck d_law_draw d_law_line d_law_interval d_law_intervals d_law_right d_law_is_interval d_law_error d_law_changed d_law_made d_law d_Plan_init d_Plan_targets d_Plan_pieces d_Plan_edits d_Plan_state_at d_Plan_len d_Plan_str d_BadTargets_init t_LAST_POSITION t_MAX_TARGETS t_MAX_PIECES) : FnOk P w K mg base CX0 2 f_Plan_state_at d_Plan_state_at ["self", "version"] (sp_state_at C_Plan) := by
  refine T.F_Plan_state_at.ok sc_Plan_state_at (fun vs H Q E h => ?_) (fun cdv A outer s H vs Q E hr h => ?_)
  · obtain ⟨p, v, Ss, Es, S, i, rfl, _⟩ := h
    rfl
  · obtain ⟨p, v, Ss, Es, S, i, rfl, P, ver, eS, q⟩ := h
    refine ⟨_, (pss_cons (ps_if (pt_cmpR op_isN (pv 1) pe_non (nomark _))
      (pss_one (ps_ret (pe_ix ix_tup (pe_fld (pv 0) rfl) (pe_un un_neg pe_int) (fun _ _ => rfl))))
      pss_nil)
      (pss_cons (ps_if (PW.pt (pw_or (pt_not (pt_val (pe_call (ok_is_number T) (hr.mono (by decide)) (by rfl) T.g_is_number T.F_is_number.kp T.b_is_number .nil pass0 (pa_cons (pv 1) pa_nil)))) (pw_or1 (pt_not (pt_chain op_le op_le pe_int (pv 1) (pe_callB call_len_seq (by rfl) T.z_len PySem.boot_len (pa_cons (pe_fld (pv 0) rfl) pa_nil)))))))
      (pss_one ps_never)
      pss_nil)
      (pss_one (ps_ret (pe_ix ix_tup (pe_fld (pv 0) rfl) (pv 1) (fun _ _ => rfl)))))), ?_⟩
    obtain ⟨⟨dx, a, b, us, vs, hp, ha, sts, hb, eds⟩, pl⟩ := id P
    have lv := eds.length
    have lu := sts.length
    obtain ⟨s, x, y, xs, ys, eu, hs, hx, ix, hy, iy⟩ := sts.get eS
    have q := q s x y xs ys hs hx ix hy iy
    rcases ver with ⟨rfl, rfl⟩ | ⟨rfl, li⟩
    · refine ⟨_, rfl, rfl, _, rfl, iteT ?_⟩
      exact ⟨.ref p, rfl, p, C_Plan, dx, _, _, rfl, hp, T.cl_Plan, T.n_Plan_states, lk_states _ _ _, 1, rfl, a, us, -1, .ref s, rfl, rfl, SqT.of ha, atI_end (by rw [lu, pl]; exact eu), q⟩
    · refine ⟨_, rfl, rfl, _, rfl, iteF ?_⟩
      refine ⟨_, rfl, .int i, .int i, rfl, .int _, _, rfl, iteF ?_⟩
      refine ⟨_, rfl, _, _, rfl, rfl, _, rfl, ?_⟩
      rw [decide_eq_true (show (0 : Int) ≤ (i : Int) by omega)]
      refine iteT ⟨.ref p, rfl, p, C_Plan, dx, _, _, rfl, hp, T.cl_Plan, T.n_Plan_done, lk_done _ _ _, b, vs, rfl, .inr (SqT.of hb), _, _, rfl, rfl, _, rfl, ?_⟩
      rw [decide_eq_true (show (i : Int) ≤ (vs.length : Int) by omega)]
      refine iteF ?_
      exact ⟨.ref p, rfl, p, C_Plan, dx, _, _, rfl, hp, T.cl_Plan, T.n_Plan_states, lk_states _ _ _, _, rfl, a, us, i, .ref s, rfl, rfl, SqT.of ha, atI_nat eu, q⟩
def sp_side (C : Addr) (pc : Bool) : Sp := fun vs H Q _ => ∃ (p : Addr) (v : V) (Ss : List St2) (Es : List Ed) (S : St2) (i : Nat), vs = [.ref p, v] ∧ PlanAt C H p Ss Es ∧ IsVer v Es.length i ∧ Ss[i]? = some S ∧
  ∀ x xs, H x = some (.tup xs) → Ivs H xs (sideS pc S) → Q (.ref x) H
theorem ok_Plan_targets (T : Tx K mg f_is_number f_is_position f_is_tuple_of f_is_interval f_ascending_error f_targets_error f_is_pieces f_law_deck f_law_draw f_law_line f_law_interval f_law_intervals f_law_right f_law_is_interval f_law_error f_law_changed f_law_made f_law f_Plan_init f_Plan_targets f_Plan_pieces f_Plan_edits f_Plan_state_at f_Plan_len f_Plan_str f_BadTargets_init C_Plan X_BadTargets X_SpanError X_BadPieces X_BadInterval X_BadEdits d_is_number d_is_position d_is_tuple_of d_is_interval d_ascending_error d_targets_error d_is_pieces d_law_deck d_law_draw d_law_line d_law_interval d_law_intervals d_law_right d_law_is_interval d_law_error d_law_changed d_law_made d_law d_Plan_init d_Plan_targets d_Plan_pieces d_Plan_edits d_Plan_state_at d_Plan_len d_Plan_str d_BadTargets_init t_LAST_POSITION t_MAX_TARGETS t_MAX_PIECES) : FnOk P w K mg base CX0 3 f_Plan_targets d_Plan_targets ["self", "version"] (sp_side C_Plan false) := by
  refine T.F_Plan_targets.ok sc_Plan_targets (fun vs H Q E h => ?_) (fun cdv A outer s H vs Q E hr h => ?_)
  · obtain ⟨p, v, Ss, Es, S, i, rfl, _⟩ := h
    rfl
  · obtain ⟨p, v, Ss, Es, S, i, rfl, P, ver, eS, q⟩ := h
    refine ⟨_, (pss_one (ps_ret (pe_ix ix_tup (pe_meth (pv 0) T.cl_Plan T.m_Plan_state_at (ok_Plan_state_at T) (hr.mono (by decide)) T.b_Plan_state_at .nil pass0 (pa_cons (pv 1) pa_nil)) pe_int (fun _ _ => rfl)))), ?_⟩
    obtain ⟨dx, a, b, us, vs, hp, _⟩ := id P.ex
    refine ⟨.ref p, rfl, p, dx, _, rfl, hp, lk_no _ _ _ (by decide +kernel), _, rfl, p, v, Ss, Es, S, i, rfl, P, ver, eS, fun t x y xs ys ht hx ix hy iy => ?_⟩
    exact ⟨t, _, 0, .ref x, rfl, rfl, SqT.of ht, rfl, q x xs hx ix⟩
theorem ok_Plan_pieces (T : Tx K mg f_is_number f_is_position f_is_tuple_of f_is_interval f_ascending_error f_targets_error f_is_pieces f_law_deck f_law_draw f_law_line f_law_interval f_law_intervals f_law_right f_law_is_interval f_law_error f_law_changed f_law_made f_law f_Plan_init f_Plan_targets f_Plan_pieces f_Plan_edits f_Plan_state_at f_Plan_len f_Plan_str f_BadTargets_init C_Plan X_BadTargets X_SpanError X_BadPieces X_BadInterval X_BadEdits d_is_number d_is_position d_is_tuple_of d_is_interval d_ascending_error d_targets_error d_is_pieces d_law_deck d_law_draw d_law_line d_law_interval d_law_intervals d_law_right d_law_is_interval d_law_error d_law_changed d_law_made d_law d_Plan_init d_Plan_targets d_Plan_pieces d_Plan_edits d_Plan_state_at d_Plan_len d_Plan_str d_BadTargets_init t_LAST_POSITION t_MAX_TARGETS t_MAX_PIECES) : FnOk P w K mg base CX0 3 f_Plan_pieces d_Plan_pieces ["self", "version"] (sp_side C_Plan true) := by
  refine T.F_Plan_pieces.ok sc_Plan_pieces (fun vs H Q E h => ?_) (fun cdv A outer s H vs Q E hr h => ?_)
  · obtain ⟨p, v, Ss, Es, S, i, rfl, _⟩ := h
    rfl
  · obtain ⟨p, v, Ss, Es, S, i, rfl, P, ver, eS, q⟩ := h
    refine ⟨_, (pss_one (ps_ret (pe_ix ix_tup (pe_meth (pv 0) T.cl_Plan T.m_Plan_state_at (ok_Plan_state_at T) (hr.mono (by decide)) T.b_Plan_state_at .nil pass0 (pa_cons (pv 1) pa_nil)) pe_int (fun _ _ => rfl)))), ?_⟩
    obtain ⟨dx, a, b, us, vs, hp, _⟩ := id P.ex
    refine ⟨.ref p, rfl, p, dx, _, rfl, hp, lk_no _ _ _ (by decide +kernel), _, rfl, p, v, Ss, Es, S, i, rfl, P, ver, eS, fun t x y xs ys ht hx ix hy iy => ?_⟩
    exact ⟨t, _, 1, .ref y, rfl, rfl, SqT.of ht, rfl, q y ys hy iy⟩
def sp_edits (C : Addr) : Sp := fun vs H Q _ => ∃ (p : Addr) (Ss : List St2) (Es : List Ed), vs = [.ref p] ∧ PlanAt C H p Ss Es ∧ ∀ b vs, H b = some (.tup vs) → Eds H vs Es → Q (.ref b) H
theorem ok_Plan_edits (T : Tx K mg f_is_number f_is_position f_is_tuple_of f_is_interval f_ascending_error f_targets_error f_is_pieces f_law_deck f_law_draw f_law_line f_law_interval f_law_intervals f_law_right f_law_is_interval f_law_error f_law_changed f_law_made f_law f_Plan_init f_Plan_targets f_Plan_pieces f_Plan_edits f_Plan_state_at f_Plan_len f_Plan_str f_BadTargets_init C_Plan X_BadTargets X_SpanError X_BadPieces X_BadInterval X_BadEdits d_is_number d_is_position d_is_tuple_of d_is_interval d_ascending_error d_targets_error d_is_pieces d_law_deck d_law_draw d_law_line d_law_interval d_law_intervals d_law_right d_law_is_interval d_law_error d_law_changed d_law_made d_law d_Plan_init d_Plan_targets d_Plan_pieces d_Plan_edits d_Plan_state_at d_Plan_len d_Plan_str d_BadTargets_init t_LAST_POSITION t_MAX_TARGETS t_MAX_PIECES) : FnOk P w K mg base CX0 1 f_Plan_edits d_Plan_edits ["self"] (sp_edits C_Plan) := by
  refine T.F_Plan_edits.ok sc_Plan_edits (fun vs H Q E h => ?_) (fun cdv A outer s H vs Q E hr h => ?_)
  · obtain ⟨p, Ss, Es, rfl, _⟩ := h
    rfl
  · obtain ⟨p, Ss, Es, rfl, P, q⟩ := h
    refine ⟨_, (pss_one (ps_ret (pe_fld (pv 0) rfl))), ?_⟩
    obtain ⟨⟨dx, a, b, us, vs, hp, ha, sts, hb, eds⟩, pl⟩ := id P
    exact ⟨.ref p, rfl, p, C_Plan, dx, _, _, rfl, hp, T.cl_Plan, T.n_Plan_done, lk_done _ _ _, q b vs hb eds⟩
def sp_plen (C : Addr) : Sp := fun vs H Q _ => ∃ (p : Addr) (Ss : List St2) (Es : List Ed), vs = [.ref p] ∧ PlanAt C H p Ss Es ∧ Q (.int (Es.length : Nat)) H
theorem ok_Plan_len (T : Tx K mg f_is_number f_is_position f_is_tuple_of f_is_interval f_ascending_error f_targets_error f_is_pieces f_law_deck f_law_draw f_law_line f_law_interval f_law_intervals f_law_right f_law_is_interval f_law_error f_law_changed f_law_made f_law f_Plan_init f_Plan_targets f_Plan_pieces f_Plan_edits f_Plan_state_at f_Plan_len f_Plan_str f_BadTargets_init C_Plan X_BadTargets X_SpanError X_BadPieces X_BadInterval X_BadEdits d_is_number d_is_position d_is_tuple_of d_is_interval d_ascending_error d_targets_error d_is_pieces d_law_deck d_law_draw d_law_line d_law_interval d_law_intervals d_law_right d_law_is_interval d_law_error d_law_changed d_law_made d_law d_Plan_init d_Plan_targets d_Plan_pieces d_Plan_edits d_Plan_state_at d_Plan_len d_Plan_str d_BadTargets_init t_LAST_POSITION t_MAX_TARGETS t_MAX_PIECES) : FnOk P w K mg base CX0 1 f_Plan_len d_Plan_len ["self"] (sp_plen C_Plan) := by
  refine T.F_Plan_len.ok sc_Plan_len (fun vs H Q E h => ?_) (fun cdv A outer s H vs Q E hr h => ?_)
  · obtain ⟨p, Ss, Es, rfl, _⟩ := h
    rfl
  · obtain ⟨p, Ss, Es, rfl, P, q⟩ := h
    refine ⟨_, (pss_one (ps_ret (pe_callB call_len_seq (by rfl) T.z_len PySem.boot_len (pa_cons (pe_fld (pv 0) rfl) pa_nil)))), ?_⟩
    obtain ⟨⟨dx, a, b, us, vs, hp, ha, sts, hb, eds⟩, pl⟩ := id P
    have lv := eds.length
    refine ⟨.ref p, rfl, p, C_Plan, dx, _, _, rfl, hp, T.cl_Plan, T.n_Plan_done, lk_done _ _ _, b, vs, rfl, .inr (SqT.of hb), ?_⟩
    rw [lv]
    exact q

/-! ### the deck and a plan (deck without a table) -/
theorem Dk.noti {H : Hp} {d c : Addr} {n : Int} (h : Dk H d c n) {p C dx : Addr} {fs : List (Str × V)} (e : H p = some (.ins C dx fs)) : Off d c p := by
  obtain ⟨ys, z, _⟩ := h.cells
  exact ⟨ne_of e h.top (fun z => by cases z), ne_of e z (fun z => by cases z)⟩
theorem Dk.butp {H H' : Hp} {d c : Addr} {n : Int} (h : Dk H d c n) {p C dx : Addr} {fs : List (Str × V)} (e : H p = some (.ins C dx fs)) (b : But p H H') : Dk H' d c n := by
  obtain ⟨ys, z, w⟩ := h.cells
  exact ⟨b _ _ (ne_of h.top e (fun z => by cases z)) h.top, ys, b _ _ (ne_of z e (fun z => by cases z)) z, w⟩

/-! ### str(plan) -/
def strP (a b c : Int) : Str := (((((Str.empty ++ toString a) ++ " targets, ") ++ toString b) ++ " pieces, ") ++ toString c) ++ " edits"
theorem ts_len : ∀ n : Fin 100, ((toString ((n.val : Nat) : Int) : String) : Str).length ≤ 3 := by decide +kernel
theorem ts_le {n : Nat} (h : n < 100) : ((toString ((n : Nat) : Int) : String) : Str).length ≤ 3 := ts_len ⟨n, h⟩
theorem join6 (a b c : Str) : Str.join " " [a, "targets,", b, "pieces,", c, "edits"] = (((((Str.empty ++ a) ++ " targets, ") ++ b) ++ " pieces, ") ++ c) ++ " edits" := by
  show a ++ " " ++ ("targets," ++ " " ++ (b ++ " " ++ ("pieces," ++ " " ++ (c ++ " " ++ "edits")))) = _
  rw [show (" targets, " : Str) = " " ++ ("targets," ++ " ") by decide +kernel, show (" pieces, " : Str) = " " ++ ("pieces," ++ " ") by decide +kernel, show (" edits" : Str) = " " ++ "edits" by decide +kernel, Str.empty_append]
  simp only [Str.append_assoc]
def sp_pstr (C : Addr) : Sp := fun vs H Q _ => ∃ (p : Addr) (Ls : List St2) (S : St2) (Es : List Ed), vs = [.ref p] ∧ PlanAt C H p (Ls ++ [S]) Es ∧ StOk S ∧ Es.length ≤ 60 ∧ Q (.str (strP S.1.length S.2.length Es.length)) H
theorem ok_Plan_str (T : Tx K mg f_is_number f_is_position f_is_tuple_of f_is_interval f_ascending_error f_targets_error f_is_pieces f_law_deck f_law_draw f_law_line f_law_interval f_law_intervals f_law_right f_law_is_interval f_law_error f_law_changed f_law_made f_law f_Plan_init f_Plan_targets f_Plan_pieces f_Plan_edits f_Plan_state_at f_Plan_len f_Plan_str f_BadTargets_init C_Plan X_BadTargets X_SpanError X_BadPieces X_BadInterval X_BadEdits d_is_number d_is_position d_is_tuple_of d_is_interval d_ascending_error d_targets_error d_is_pieces d_law_deck d_law_draw d_law_line d_law_interval d_law_intervals d_law_right d_law_is_interval d_law_error d_law_changed d_law_made d_law d_Plan_init d_Plan_targets d_Plan_pieces d_Plan_edits d_Plan_state_at d_Plan_len d_Plan_str d_BadTargets_init t_LAST_POSITION t_MAX_TARGETS t_MAX_PIECES) : FnOk P w K mg base CX0 4 f_Plan_str d_Plan_str ["self"] (sp_pstr C_Plan) := by
  refine T.F_Plan_str.ok sc_Plan_str (fun vs H Q E h => ?_) (fun cdv A outer s H vs Q E hr h => ?_)
  · obtain ⟨p, Ls, S, Es, rfl, _⟩ := h
    rfl
  · obtain ⟨p, Ls, S, Es, rfl, P, so, le, q⟩ := h
    refine ⟨_, (pss_one (ps_ret (pe_joined (PJ.cons (pe_fmt (pe_callB call_len_seq (by rfl) T.z_len PySem.boot_len (pa_cons (pe_meth0 (pv 0) T.cl_Plan T.m_Plan_targets (ok_Plan_targets T) (hr.mono (by decide)) T.b_Plan_targets.choose_spec.2 T.b_Plan_targets.choose_spec.1 pass0) pa_nil))) (PJ.cons pe_str (PJ.cons (pe_fmt (pe_callB call_len_seq (by rfl) T.z_len PySem.boot_len (pa_cons (pe_meth0 (pv 0) T.cl_Plan T.m_Plan_pieces (ok_Plan_pieces T) (hr.mono (by decide)) T.b_Plan_pieces.choose_spec.2 T.b_Plan_pieces.choose_spec.1 pass0) pa_nil))) (PJ.cons pe_str (PJ.cons (pe_fmt (pe_callB call_len_seq (by rfl) T.z_len PySem.boot_len (pa_cons (pe_fld (pv 0) rfl) pa_nil))) (PJ.cons pe_str PJ.nil))))))))), ?_⟩
    obtain ⟨⟨dx, a, b, us, vs, hp, ha, sts, hb, eds⟩, pl⟩ := id P
    have lv := eds.length
    have pl' : Ls.length + 1 = Es.length + 1 := by
      rw [List.length_append] at pl
      exact pl
    have eS : (Ls ++ [S])[Es.length]? = some S := by
      rw [List.getElem?_append_right (by omega), show Es.length - Ls.length = 0 by omega]
      rfl
    have l1 := ts_le (n := S.1.length) (by have := so.t.few; omega)
    have l2 := ts_le (n := S.2.length) (by have := so.p.few; omega)
    have l3 := ts_le (n := Es.length) (by omega)
    have big : ∀ n : Nat, n < 100 → ((n : Nat) : Int).natAbs.log2 < 1920 := fun n h => by
      rw [Int.natAbs_natCast]
      rcases Nat.eq_zero_or_pos n with z | z
      · rw [z]
        decide
      · exact (Nat.log2_lt (by omega)).mpr (Nat.lt_of_lt_of_le h (by decide +kernel))
    have sz : sizeLine = 16777216 := by decide
    refine ⟨.ref p, rfl, p, dx, _, rfl, hp, lk_no _ _ _ (by decide +kernel), p, .non, _, Es, S, Es.length, rfl, P, .inl ⟨rfl, rfl⟩, eS, fun x xs hx ix => ?_⟩
    have lx : xs.length = S.1.length := ix.length
    refine ⟨x, xs, rfl, .inr (SqT.of hx), .inr ⟨_, rfl, ?_, ?_⟩⟩
    · rw [lx]
      exact big _ (by have := so.t.few; omega)
    rw [lx]
    have k0 : (Str.empty : Str).length = 0 := rfl
    have k1 : (" targets, " : Str).length = 10 := by decide +kernel
    have k2 : (" pieces, " : Str).length = 9 := by decide +kernel
    have k3 : (" edits" : Str).length = 6 := by decide +kernel
    refine ⟨_, rfl, by rw [Str.length_append]; omega, ?_⟩
    refine ⟨_, rfl, by rw [Str.length_append, Str.length_append]; omega, ?_⟩
    refine ⟨.ref p, rfl, p, dx, _, rfl, hp, lk_no _ _ _ (by decide +kernel), p, .non, _, Es, S, Es.length, rfl, P, .inl ⟨rfl, rfl⟩, eS, fun y ys hy iy => ?_⟩
    have ly : ys.length = S.2.length := iy.length
    refine ⟨y, ys, rfl, .inr (SqT.of hy), .inr ⟨_, rfl, ?_, ?_⟩⟩
    · rw [ly]
      exact big _ (by have := so.p.few; omega)
    rw [ly]
    refine ⟨_, rfl, by rw [Str.length_append, Str.length_append, Str.length_append]; omega, ?_⟩
    refine ⟨_, rfl, by rw [Str.length_append, Str.length_append, Str.length_append, Str.length_append]; omega, ?_⟩
    refine ⟨.ref p, rfl, p, C_Plan, dx, _, _, rfl, hp, T.cl_Plan, T.n_Plan_done, lk_done _ _ _, b, vs, rfl, .inr (SqT.of hb), .inr ⟨_, rfl, ?_, ?_⟩⟩
    · rw [lv]
      exact big _ (by omega)
    rw [lv]
    refine ⟨_, rfl, by rw [Str.length_append, Str.length_append, Str.length_append, Str.length_append, Str.length_append]; omega, ?_⟩
    refine ⟨_, rfl, by rw [Str.length_append, Str.length_append, Str.length_append, Str.length_append, Str.length_append, Str.length_append]; omega, ?_⟩
    exact q

/-! ### t != () -/
section
variable {X : Cx}
def rNeE (K : PySem.W.Frag) : R2 := fun x y H Q => ∃ (a b : Addr) (xs : List V), x = .ref a ∧ y = .ref b ∧ SqT K H a xs ∧ SqT K H b [] ∧ Q (.bl (!xs.isEmpty)) H
theorem op_neE (units : X.A.units < cLine) : OpR X (compareOp .NotEq) (rNeE X.K) := by
  intro pins s σ H x y v u Q I rx ry h
  obtain ⟨a, b, xs, rfl, rfl, ha, hb, q⟩ := h
  cases rx
  cases ry
  obtain ⟨its, r1, p1, _⟩ := I.tuple ha
  obtain ⟨its2, r2, p2, _⟩ := I.tuple hb
  cases r2
  refine SeqAt.RcNeAt.tuples (e := fun _ => true) (show s.heap.IsTuple a its.toArray from p1) (show s.heap.IsTuple b ([] : List Value).toArray from p2) units (fun j h1 h2 => absurd h2 (Nat.not_lt_zero j)) X.prog X.w X.xe (EP X pins σ Q) ⟨.bl (!xs.isEmpty), H, I, ?_, q⟩
  cases r1 with
  | nil => rfl
  | cons r t => rfl
end

theorem perm_leP_lt {ps ps' : List (Int × Int)} (h : ps'.Pairwise leP) (pm : ps'.Perm ps) (nd : ps.Nodup) : ps'.Pairwise ltP := leP_nd h (pm.nodup_iff.mpr nd)
/-! ### what plan laws do -/
/-- a law's state of a plan: a list of two tuples -/
structure LawS (H : Hp) (l : Addr) (S : St2) : Prop where
  ex : ∃ (x y : Addr) (xs ys : List V), H l = some (.lst [.ref x, .ref y]) ∧ H x = some (.tup xs) ∧ Ivs H xs S.1 ∧ H y = some (.tup ys) ∧ Ivs H ys S.2
theorem LawS.keep {H H' : Hp} {l : Addr} {S : St2} (h : LawS H l S) (t : Tps H H') (k : ∀ us, H l = some (.lst us) → H' l = some (.lst us)) : LawS H' l S := by
  obtain ⟨x, y, xs, ys, e, ex, ix, ey, iy⟩ := h.ex
  exact ⟨x, y, xs, ys, k _ e, t _ _ ex, ix.tps t, t _ _ ey, iy.tps t⟩
theorem LawS.same {H H' : Hp} {l : Addr} {S : St2} (h : LawS H l S) (s : Same H H') : LawS H' l S := h.keep (Tps.same s) fun us e => s _ _ e
theorem LawS.side {H : Hp} {l : Addr} {S : St2} (h : LawS H l S) (pc : Bool) : ∃ (us : List V) (x : Addr) (xs : List V), H l = some (.lst us) ∧ us.length = 2 ∧ atI us (if pc = true then 1 else 0) = some (.ref x) ∧ ixN us.length (if pc = true then 1 else 0) = some (if pc = true then 1 else 0) ∧ H x = some (.tup xs) ∧ Ivs H xs (sideS pc S) ∧
    ∀ {H' : Hp} {l' x' : Addr} {xs' : List V} {ps : List (Int × Int)}, Tps H H' → H' l' = some (.lst (us.set (if pc = true then 1 else 0) (.ref x'))) → H' x' = some (.tup xs') → Ivs H' xs' ps → LawS H' l' (if pc = true then (S.1, ps) else (ps, S.2)) := by
  obtain ⟨x, y, xs, ys, e, ex, ix, ey, iy⟩ := h.ex
  cases pc with
  | false => exact ⟨_, x, xs, e, rfl, rfl, rfl, ex, ix, fun t e' ex' ix' => ⟨_, y, _, ys, e', ex', ix', t _ _ ey, iy.tps t⟩⟩
  | true => exact ⟨_, y, ys, e, rfl, rfl, rfl, ey, iy, fun t e' ex' ix' => ⟨x, _, xs, _, e', t _ _ ex, ix.tps t, ex', ix'⟩⟩
/-- an edit as a tuple -/
def EdAt (H : Hp) (t : Addr) (e : Ed) : Prop := ∃ a, H t = some (.tup [.str (wordE e), .ref a]) ∧ H a = some (.tup [.int e.q.1, .int e.q.2])
theorem EdAt.tps {H H' : Hp} {t : Addr} {e : Ed} (h : EdAt H t e) (s : Tps H H') : EdAt H' t e := by
  obtain ⟨a, h1, h2⟩ := h
  exact ⟨a, s _ _ h1, s _ _ h2⟩
theorem piece_w : ∀ add pc : Bool, inV (.str (wordOf add pc)) [.str "add_piece", .str "remove_piece"] = pc := by decide +kernel
theorem piece_in (e : Ed) : inV (.str (wordE e)) [.str "add_piece", .str "remove_piece"] = e.pc := piece_w e.add e.pc
theorem add_w : ∀ add pc : Bool, inV (.str (wordOf add pc)) [.str "add_target", .str "add_piece"] = add := by decide +kernel
theorem add_in (e : Ed) : inV (.str (wordE e)) [.str "add_target", .str "add_piece"] = e.add := add_w e.add e.pc
theorem step_side (S : St2) (e : Ed) : stepS S e = if e.pc = true then (S.1, upI e.add e.q (sideS e.pc S)) else (upI e.add e.q (sideS e.pc S), S.2) := by
  obtain ⟨add, pc, q⟩ := e
  cases pc <;> rfl
theorem StOk.side {S : St2} (h : StOk S) (pc : Bool) : SideOk 30 (sideS pc S) := by
  cases pc with
  | true => exact h.p
  | false => exact ⟨h.t.asc, h.t.ok, Nat.le_trans h.t.few (by decide)⟩
theorem wo_none {ps : List (Int × Int)} {q : Int × Int} (h : q ∉ ps) : wo ps q = ps := List.filter_eq_self.mpr fun x hx => by
  rw [decide_eq_false]
  · rfl
  · intro e
    exact h (e ▸ hx)
theorem ins_sorted {ps ps' : List (Int × Int)} {q : Int × Int} (asc : ps.Pairwise ltP) (n : q ∉ ps) (srt : ps'.Pairwise leP) (pm : ps'.Perm (ps ++ [q])) : ps' = insI q ps := by
  have nd : (ps ++ [q]).Nodup := List.nodup_append.mpr ⟨ltP_ndp asc, List.nodup_cons.mpr ⟨(fun h => nomatch h), List.nodup_nil⟩, fun z hz w hw e => n (by
    rw [List.mem_singleton.mp hw] at e
    exact e ▸ hz)⟩
  refine ltP_uniq (perm_leP_lt srt pm nd) (asc_insI asc n) fun z => ?_
  rw [pm.mem_iff, mem_insI, List.mem_append, List.mem_singleton]
  exact or_comm
def sp_law_after : Sp := fun vs H Q _ => ∃ (l t : Addr) (S : St2) (e : Ed), vs = [.ref l, .ref t] ∧ LawS H l S ∧ EdAt H t e ∧ StOk S ∧ Can S e ∧
  ∀ H' l', Same H H' → H l' = none → LawS H' l' (stepS S e) → Q (.ref l') H'
theorem LawS.off {H : Hp} {l : Addr} {S : St2} (h : LawS H l S) {u : Addr} (n : H u = none) : u ≠ l := by
  obtain ⟨x, y, xs, ys, e, _⟩ := h.ex
  exact (ne_of_none e n).symm
/-! ### what is told of a plan -/
theorem sm_word : ∀ add pc : Bool, Sm 100 0 (.str (wordOf add pc))
  | true, true => ⟨rfl, by decide +kernel, by decide +kernel, Nat.le_refl _⟩
  | true, false => ⟨rfl, by decide +kernel, by decide +kernel, Nat.le_refl _⟩
  | false, true => ⟨rfl, by decide +kernel, by decide +kernel, Nat.le_refl _⟩
  | false, false => ⟨rfl, by decide +kernel, by decide +kernel, Nat.le_refl _⟩
theorem sm_pr {q : Int × Int} (h : (0 ≤ q.1 ∧ q.1 ≤ q.2) ∧ q.2 ≤ 1000000000000) : Sm 202 1 (pairD q) := by
  refine (Sm.tup (n := 100) (dp := 0) fun x hx => ?_).mono (by show 2 * 101 ≤ 202; decide) (Nat.le_refl _)
  have b1 : q.1.natAbs < 10 ^ 30 := Nat.lt_of_le_of_lt (show q.1.natAbs ≤ 1000000000000 by omega) (by decide)
  have b2 : q.2.natAbs < 10 ^ 30 := Nat.lt_of_le_of_lt (show q.2.natAbs ≤ 1000000000000 by omega) (by decide)
  rcases List.mem_cons.mp hx with rfl | hx
  · exact Sm.int b1
  · rw [List.mem_singleton.mp hx]
    exact Sm.int b2
def EdOk (e : Ed) : Prop := (0 ≤ e.q.1 ∧ e.q.1 ≤ e.q.2) ∧ e.q.2 ≤ 1000000000000
theorem sm_ed {e : Ed} (h : EdOk e) : Sm 406 2 (edD e) := by
  refine (Sm.tup (n := 202) (dp := 1) fun x hx => ?_).mono (by show 2 * 203 ≤ 406; decide) (Nat.le_refl _)
  rcases List.mem_cons.mp hx with rfl | hx
  · exact (sm_word _ _).mono (by decide) (by decide)
  · rw [List.mem_singleton.mp hx]
    exact sm_pr h
theorem sm_prs {n : Nat} {ps : List (Int × Int)} (h : SideOk n ps) (hn : n ≤ 30) : Sm 6090 2 (.tuple (ps.map pairD)) := by
  refine (Sm.tup (n := 202) (dp := 1) fun x hx => ?_).mono (by rw [List.length_map]; have := h.few; omega) (by decide)
  obtain ⟨q, hq, rfl⟩ := List.mem_map.mp hx
  exact sm_pr (h.ok q hq)
theorem sm_eds {es : List Ed} (h : ∀ e ∈ es, EdOk e) (l : es.length ≤ 60) : Sm 24420 3 (.tuple (es.map edD)) := by
  refine (Sm.tup (n := 406) (dp := 2) fun x hx => ?_).mono (by rw [List.length_map]; omega) (by decide)
  obtain ⟨q, hq, rfl⟩ := List.mem_map.mp hx
  exact sm_ed (h q hq)
def told3 (S : St2) (Es : List Ed) : PyData := .list [.tuple (S.1.map pairD), .tuple (S.2.map pairD), .tuple (Es.map edD)]
theorem sm_told3 {S : St2} {Es : List Ed} (so : StOk S) (h : ∀ e ∈ Es, EdOk e) (l : Es.length ≤ 60) : Sm 100000 4 (told3 S Es) := by
  refine (Sm.lst (n := 24420) (dp := 3) fun x hx => ?_).mono (by show 3 * 24421 ≤ 100000; decide) (Nat.le_refl _)
  rcases List.mem_cons.mp hx with rfl | hx
  · exact (sm_prs so.t (by decide)).mono (by decide) (by decide)
  rcases List.mem_cons.mp hx with rfl | hx
  · exact (sm_prs so.p (by decide)).mono (by decide) (by decide)
  · rw [List.mem_singleton.mp hx]
    exact sm_eds h l
theorem big_ok {n : Nat} (h : n < 100) : ((n : Nat) : Int).natAbs.log2 < 1920 := by
  rw [Int.natAbs_natCast]
  rcases Nat.eq_zero_or_pos n with z | z
  · rw [z]
    decide
  · exact (Nat.log2_lt (by omega)).mpr (Nat.lt_of_lt_of_le h (by decide +kernel))
def sp_law_right (C : Addr) : Sp := fun vs H Q _ => ∃ (p l le : Addr) (Ls : List St2) (S : St2) (Es : List Ed) (evs : List V), vs = [.ref p, .ref l, .ref le] ∧ PlanAt C H p (Ls ++ [S]) Es ∧ StOk S ∧ LawS H l S ∧ H le = some (.lst evs) ∧ Eds H evs Es ∧ Es.length ≤ 60 ∧ (∀ e ∈ Es, EdOk e) ∧
  ∀ H', Same H H' → Q (.bl true) H'
theorem ok_law_right (T : Tx K mg f_is_number f_is_position f_is_tuple_of f_is_interval f_ascending_error f_targets_error f_is_pieces f_law_deck f_law_draw f_law_line f_law_interval f_law_intervals f_law_right f_law_is_interval f_law_error f_law_changed f_law_made f_law f_Plan_init f_Plan_targets f_Plan_pieces f_Plan_edits f_Plan_state_at f_Plan_len f_Plan_str f_BadTargets_init C_Plan X_BadTargets X_SpanError X_BadPieces X_BadInterval X_BadEdits d_is_number d_is_position d_is_tuple_of d_is_interval d_ascending_error d_targets_error d_is_pieces d_law_deck d_law_draw d_law_line d_law_interval d_law_intervals d_law_right d_law_is_interval d_law_error d_law_changed d_law_made d_law d_Plan_init d_Plan_targets d_Plan_pieces d_Plan_edits d_Plan_state_at d_Plan_len d_Plan_str d_BadTargets_init t_LAST_POSITION t_MAX_TARGETS t_MAX_PIECES) (hM : ∃ mm, base.Ns sysModules mm) : FnG P w K mg base 7 f_law_right d_law_right ["_law_plan", "_law_state", "_law_edits"] (sp_law_right C_Plan) := by
  refine FnG.of T.F_law_right sc_law_right (fun {vs H Q} h => ?_) (fun cdv A outer s H vs Q hr hq h => ?_)
  · obtain ⟨p, l, le, Ls, S, Es, evs, rfl, _⟩ := h
    rfl
  · obtain ⟨p, l, le, Ls, S, Es, evs, rfl, P, so, hl, hle, ev, lE, eok, q⟩ := h
    refine ⟨_, (pss_cons (ps_if (pt_cmpR op_ne (pe_callB (call_reprD hq hr.units) (by rfl) T.z_repr (by decide +kernel) (pa_cons (pe_lst (pa_cons (pe_meth0 (pv 0) T.cl_Plan T.m_Plan_targets (ok_Plan_targets T) (hr.mono (by decide)) T.b_Plan_targets.choose_spec.2 T.b_Plan_targets.choose_spec.1 pass0) (pa_cons (pe_meth0 (pv 0) T.cl_Plan T.m_Plan_pieces (ok_Plan_pieces T) (hr.mono (by decide)) T.b_Plan_pieces.choose_spec.2 T.b_Plan_pieces.choose_spec.1 pass0) (pa_cons (pe_meth0 (pv 0) T.cl_Plan T.m_Plan_edits (ok_Plan_edits T) (hr.mono (by decide)) T.b_Plan_edits .nil pass0) pa_nil)))) pa_nil)) (pe_callB (call_reprD hq hr.units) (by rfl) T.z_repr (by decide +kernel) (pa_cons (pe_lst (pa_cons (pe_ix ix_list (pv 1) pe_int (fun _ _ => rfl)) (pa_cons (pe_ix ix_list (pv 1) pe_int (fun _ _ => rfl)) (pa_cons (pe_callTy call_tuple_of (by rfl) T.z_tuple (by decide +kernel) (pa_cons (pv 2) pa_nil)) pa_nil)))) pa_nil)) (nomark _))
      (pss_one (ps_ret pe_bl))
      pss_nil)
      (pss_cons (ps_set (i := 3) sc_law_right.nd rfl (Or.inl rfl) (pe_lst (pa_cons (pe_callTy call_str_int (by rfl) T.z_str (by decide +kernel) (pa_cons (pe_callB call_len_seq (by rfl) T.z_len PySem.boot_len (pa_cons (pe_ix ix_list (pv 1) pe_int (fun _ _ => rfl)) pa_nil)) pa_nil)) (pa_cons pe_str (pa_cons (pe_callTy call_str_int (by rfl) T.z_str (by decide +kernel) (pa_cons (pe_callB call_len_seq (by rfl) T.z_len PySem.boot_len (pa_cons (pe_ix ix_list (pv 1) pe_int (fun _ _ => rfl)) pa_nil)) pa_nil)) (pa_cons pe_str (pa_cons (pe_callTy call_str_int (by rfl) T.z_str (by decide +kernel) (pa_cons (pe_callB call_len_seq (by rfl) T.z_len PySem.boot_len (pa_cons (pv 2) pa_nil)) pa_nil)) (pa_cons pe_str pa_nil))))))))
      (pss_one (ps_ret (pe_and (pe_cmpR op_eq (pe_callTy (cr_strOwn (ok_Plan_str T) T.m_Plan_str.at_ T.m_Plan_str.fn T.b_Plan_str pass0 (hr.mono (by decide))) (by rfl) T.z_str (by decide +kernel) (pa_cons (pv 0) pa_nil)) (pe_join pe_str (pv 3)) (nomark _)) (pe_one (pe_cmpR op_eq (pe_callB (cr_lenOwn (ok_Plan_len T) T.m_Plan_len.at_ T.m_Plan_len.fn T.b_Plan_len pass0 (hr.mono (by decide))) (by rfl) T.z_len PySem.boot_len (pa_cons (pv 0) pa_nil)) (pe_callB call_len_seq (by rfl) T.z_len PySem.boot_len (pa_cons (pv 2) pa_nil)) (nomark _)))))))), ?_⟩
    obtain ⟨⟨dx, a, b, us, vs, hp, ha, sts, hb, eds⟩, pl⟩ := id P
    have lv := eds.length
    have pl' : Ls.length + 1 = Es.length + 1 := by
      rw [List.length_append] at pl
      exact pl
    have eS : (Ls ++ [S])[Es.length]? = some S := by
      rw [List.getElem?_append_right (by omega), show Es.length - Ls.length = 0 by omega]
      rfl
    obtain ⟨lx, ly, lxs, lys, el, elx, ilx, ely, ily⟩ := hl.ex
    have sm := sm_told3 so eok lE
    refine ⟨.ref p, rfl, p, dx, _, rfl, hp, lk_no _ _ _ (by decide +kernel), p, .non, _, Es, S, Es.length, rfl, P, .inl ⟨rfl, rfl⟩, eS, fun x xs hx ix => ?_⟩
    refine ⟨.ref p, rfl, p, dx, _, rfl, hp, lk_no _ _ _ (by decide +kernel), p, .non, _, Es, S, Es.length, rfl, P, .inl ⟨rfl, rfl⟩, eS, fun y ys hy iy => ?_⟩
    refine ⟨.ref p, rfl, p, dx, _, rfl, hp, lk_no _ _ _ (by decide +kernel), p, _, Es, rfl, P, fun bb vs' hb' eds' => ?_⟩
    refine ⟨by show 3 ≤ sizeLine; decide, fun g ng => ?_⟩
    have s1 := same_new (o := .lst [.ref x, .ref y, .ref bb]) ng
    have eg := upd_same (H := H) (a := g) (o := .lst [.ref x, .ref y, .ref bb])
    generalize upd H g (.lst [.ref x, .ref y, .ref bb]) = H1 at *
    have d1 : Dp K H1 (.ref g) (told3 S Es) := .lst (SqL.of eg) (.cons (.tup (SqT.of (s1 _ _ hx)) (ix.same s1).dp) (.cons (.tup (SqT.of (s1 _ _ hy)) (iy.same s1).dp) (.cons (.tup (SqT.of (s1 _ _ hb')) (eds'.tps (Tps.same s1)).dp) .nil)))
    generalize eDD : told3 S Es = dd at *
    refine ⟨.ref g, dd, 100000, 4, rfl, d1, sm, by decide, by decide, ?_⟩
    refine ⟨.ref l, rfl, l, _, 0, .ref lx, rfl, rfl, SqL.of (s1 _ _ el), rfl, .ref l, rfl, l, _, 1, .ref ly, rfl, rfl, SqL.of (s1 _ _ el), rfl, .ref le, rfl, le, evs, rfl, .inl ⟨SqL.of (s1 _ _ hle), fun g2 ng2 => ?_⟩⟩
    have s2 := same_new (o := .tup evs) ng2
    have eg2 := upd_same (H := H1) (a := g2) (o := .tup evs)
    generalize upd H1 g2 (.tup evs) = H2 at *
    refine ⟨by show 3 ≤ sizeLine; decide, fun g3 ng3 => ?_⟩
    have s3 := same_new (o := .lst [.ref lx, .ref ly, .ref g2]) ng3
    have eg3 := upd_same (H := H2) (a := g3) (o := .lst [.ref lx, .ref ly, .ref g2])
    generalize upd H2 g3 (.lst [.ref lx, .ref ly, .ref g2]) = H3 at *
    have s13 := s1.trans (s2.trans s3)
    have s23 := s2.trans s3
    have d3 : Dp K H3 (.ref g3) dd := by
      rw [← eDD]
      exact .lst (SqL.of eg3) (.cons (.tup (SqT.of (s13 _ _ elx)) (ilx.same s13).dp) (.cons (.tup (SqT.of (s13 _ _ ely)) (ily.same s13).dp) (.cons (.tup (SqT.of (s3 _ _ eg2)) (ev.tps (Tps.same s13)).dp) .nil)))
    refine ⟨.ref g3, dd, 100000, 4, rfl, d3, sm, by decide, by decide, ?_⟩
    refine ⟨rfl, _, rfl, iteNS rfl ?_⟩
    have lxl : lxs.length = S.1.length := ilx.length
    have lyl : lys.length = S.2.length := ily.length
    have lel : evs.length = Es.length := ev.length
    have f1 := so.t.few
    have f2 := so.p.few
    have P3 := P.same s13
    have el3 := s13 _ _ el
    refine ⟨.ref l, rfl, l, _, 0, .ref lx, rfl, rfl, SqL.of el3, rfl, lx, lxs, rfl, .inr (SqT.of (s13 _ _ elx)), _, rfl, by rw [lxl]; exact big_ok (by omega), ?_⟩
    rw [lxl]
    refine ⟨.ref l, rfl, l, _, 1, .ref ly, rfl, rfl, SqL.of el3, rfl, ly, lys, rfl, .inr (SqT.of (s13 _ _ ely)), _, rfl, by rw [lyl]; exact big_ok (by omega), ?_⟩
    rw [lyl]
    refine ⟨.ref le, rfl, le, evs, rfl, .inl (SqL.of (s13 _ _ hle)), _, rfl, by rw [lel]; exact big_ok (by omega), ?_⟩
    rw [lel]
    refine ⟨by show 6 ≤ sizeLine; decide, fun w nw => ?_⟩
    have s4 := same_new (o := .lst ([(toString (S.1.length : Int) : Str), "targets,", (toString (S.2.length : Int) : Str), "pieces,", (toString (Es.length : Int) : Str), "edits"].map V.str)) nw
    have ew := upd_same (H := H3) (a := w) (o := .lst ([(toString (S.1.length : Int) : Str), "targets,", (toString (S.2.length : Int) : Str), "pieces,", (toString (Es.length : Int) : Str), "edits"].map V.str))
    have P4 := P3.same s4
    obtain ⟨dx4, a4, b4, us4, vs4, hp4, _⟩ := id P4.ex
    refine ⟨.ref p, rfl, p, dx4, _, rfl, hp4, p, Ls, S, Es, rfl, P4, so, lE, _, rfl, ?_⟩
    have l1 := ts_le (n := S.1.length) (by omega)
    have l2 := ts_le (n := S.2.length) (by omega)
    have l3 := ts_le (n := Es.length) (by omega)
    refine ⟨⟨_, rfl⟩, .ref w, rfl, _, w, [(toString (S.1.length : Int) : Str), "targets,", (toString (S.2.length : Int) : Str), "pieces,", (toString (Es.length : Int) : Str), "edits"], rfl, rfl, .inl (SqL.of ew), ?_, ?_⟩
    · have k1 : ("targets," : Str).length = 8 := by decide +kernel
      have k2 : ("pieces," : Str).length = 7 := by decide +kernel
      have k3 : ("edits" : Str).length = 5 := by decide +kernel
      have k4 : (" " : Str).length = 1 := by decide +kernel
      show (_ + (_ + (_ + (_ + (_ + (_ + 0)))))) + 6 * _ ≤ _
      dsimp only
      omega
    have ej : V.str (strP S.1.length S.2.length Es.length) = V.str (Txt.join " " [(toString (S.1.length : Int) : Str), "targets,", (toString (S.2.length : Int) : Str), "pieces,", (toString (Es.length : Int) : Str), "edits"]) := by
      rw [show ∀ a b, Txt.join a b = Str.join a b from fun a b => StrLaws.glued_eq_join a b, join6]
      rfl
    refine ⟨rfl, _, rfl, ?_⟩
    rw [← ej, decide_eq_true rfl]
    refine iteT ?_
    have s14 := s13.trans s4
    refine ⟨.ref p, rfl, p, dx4, _, rfl, hp4, p, _, Es, rfl, P4, _, rfl, ⟨by omega, by omega⟩, ?_⟩
    refine ⟨.ref le, rfl, le, evs, rfl, .inl (SqL.of (s14 _ _ hle)), rfl, ?_⟩
    have z := q _ s14
    rw [show decide (V.int (Es.length : Nat) = V.int (evs.length : Nat)) = true from decide_eq_true (by rw [lel])]
    exact z
def sp_law_begun : Sp := fun vs H Q _ => ∃ (d c : Addr) (n most : Int), vs = [.ref d, .int most] ∧ Dk H d c n ∧ 0 ≤ n ∧ n < 800000 ∧ 1 ≤ most ∧ most ≤ 8 ∧
  ∀ H' g l ls us cs S m, Kp d c H H' → Dk H' d c m → n ≤ m → m ≤ n + 24 + most → H' g = some (.lst [.ref l, .ref ls]) → H' l = some (.lst us) → Ivs H' us cs → Cells cs → 0 < cs.length → (cs.length : Int) ≤ most → (∀ q ∈ cs, q.2 < 1000000 + 100000000000 * most) → Off d c l → LawS H' ls S → Off d c ls → ls ≠ l → S.1.Pairwise ltP → S.2.Pairwise ltP → (∀ q ∈ S.1, OfCells cs q) → (∀ q ∈ S.2, OfCells cs q) → S.1.length ≤ 6 → S.2.length ≤ 4 → Q (.ref g) H'
theorem OfCells.edok {cs : List (Int × Int)} (h : Cells cs) {q : Int × Int} (o : OfCells cs q) (top : ∀ z ∈ cs, z.2 < 1000000000000) : (0 ≤ q.1 ∧ q.1 ≤ q.2) ∧ q.2 ≤ 1000000000000 := by
  have := o.ok h top
  omega
theorem cells_side {cs ps : List (Int × Int)} {n : Nat} (h : Cells cs) (top : ∀ z ∈ cs, z.2 < 1000000000000) (asc : ps.Pairwise ltP) (o : ∀ q ∈ ps, OfCells cs q) (l : ps.length ≤ n) : SideOk n ps := ⟨asc, fun q hq => (o q hq).edok h top, l⟩

/-! ### odd values through draws (the plain deck) -/
/-- the heap but for the deck -/
def OffP (d c : Addr) (H : Hp) : Hp := fun b => if b = d ∨ b = c then none else H b
theorem offP_get {d c : Addr} {H : Hp} {b : Addr} {o : HO} (n : Off d c b) (e : H b = some o) : OffP d c H b = some o := by
  unfold OffP
  rw [if_neg (fun z => z.elim n.1 n.2)]
  exact e
theorem offP_at {d c : Addr} {H : Hp} {b : Addr} {o : HO} (e : OffP d c H b = some o) : b ≠ d ∧ b ≠ c ∧ H b = some o := by
  unfold OffP at e
  by_cases z : b = d ∨ b = c
  · rw [if_pos z] at e
    cases e
  · rw [if_neg z] at e
    exact ⟨fun q => z (.inl q), fun q => z (.inr q), e⟩
theorem offP_sub {d c : Addr} {H : Hp} : Same (OffP d c H) H := fun _ _ e => (offP_at e).2.2
theorem offP_kp {d c : Addr} {H H' : Hp} (k : Kp d c H H') : Same (OffP d c H) (OffP d c H') := fun b o e => by
  obtain ⟨n1, n2, z⟩ := offP_at e
  exact offP_get ⟨n1, n2⟩ (k b o n1 n2 z)
theorem Dk.offT {H : Hp} {d c : Addr} {n : Int} (h : Dk H d c n) {b : Addr} {us : List V} (e : H b = some (.tup us)) : Off d c b := by
  obtain ⟨xs, q, _⟩ := h.cells
  exact ⟨ne_of e h.top (fun z => by cases z), ne_of e q (fun z => by cases z)⟩
theorem ivs_dv {K : PySem.W.Frag} {d c : Addr} {n : Int} {H : Hp} (dk : Dk H d c n) : ∀ {us : List V} {ps : List (Int × Int)}, Ivs H us ps → DvAll K (OffP d c H) us (ps.map pairD)
  | _, _, .nil => .nil
  | _, _, .cons e h => .cons (.tup (offP_get (dk.offT e) e) (.cons (.int _) (.cons (.int _) .nil))) (ivs_dv dk h)
/-- every sign of a text is a sign -/
def okc (x : Str) : Prop := ∀ c ∈ x.cps.toList, c < 16 ^ 8
theorem okc_app {a b : Str} (h : okc a) (g : okc b) : okc (a ++ b) := by
  intro c hc
  have e : (a ++ b).cps = a.cps ++ b.cps := rfl
  rw [e, Array.toList_append] at hc
  exact (List.mem_append.mp hc).elim (h c) (g c)
theorem okc_int (i : Int) : okc (PyData.shown (.int i)) := by
  intro c hc
  have hc : c ∈ (Str.ofString (toString i)).cps.toList := hc
  rw [Str.ofString_eq_toList] at hc
  have hc : c ∈ ((toString i).toList.map Char.toNat) := by simpa using hc
  obtain ⟨x, _, rfl⟩ := List.mem_map.mp hc
  have := x.val.toNat_lt
  show x.val.toNat < 16 ^ 8
  omega
theorem okc_lit {x : Str} (h : (x.cps.toList.all fun c => decide (c < 16 ^ 8)) = true) : okc x := fun c hc => of_decide_eq_true (List.all_eq_true.mp h c hc)
theorem okc_pair (x y : Int) : okc (PyData.shown (.tuple [.int x, .int y])) := by
  have e : PyData.shown (.tuple [.int x, .int y]) = ("(" : Str) ++ (PyData.shown (.int x) ++ (", " : Str) ++ PyData.shown (.int y)) ++ (")" : Str) := by
    show ("(" : Str) ++ Str.join ", " [PyData.shown (.int x), PyData.shown (.int y)] ++ (")" : Str) = _
    rfl
  rw [e]
  exact okc_app (okc_app (okc_lit (by decide +kernel)) (okc_app (okc_app (okc_int x) (okc_lit (by decide +kernel))) (okc_int y))) (okc_lit (by decide +kernel))
theorem sm_shown {n dp : Nat} {d : PyData} (h : Sm n dp d) (c : okc d.shown) (hn : n ≤ 1000) : Sm 50000 0 (.str d.shown) := by
  refine ⟨rfl, ?_, ?_, Nat.le_refl _⟩
  · show (d.shown.cps.toList.all fun c => decide (c < 16 ^ 8)) = true
    exact List.all_eq_true.mpr fun x hx => decide_eq_true (c x hx)
  · have q := PyData.shown_le 40 (by decide) d h.short
    have := h.small
    show d.shown.length ≤ 50000
    omega
def oddE : List PyData := [.none, .tuple [], .list [], .dict [], .int 5, .str "0-3", .tuple [.int 3, .int 2], .tuple [.int 0, .bool true], .tuple [.bool false, .int 1], .tuple [.int 0, .int 1, .int 2], .tuple [.int (-1), .int 0], .list [.int 0, .int 1], .tuple [.int 0, .int (10 ^ 12 + 1)], .tuple [.int 0, .str "1"], .tuple [.none, .int 3], .tuple [.tuple [.int 0, .int 1], .tuple [.int 0, .int 1]], .bool true, .int (10 ^ 20)]
def fineE (d : PyData) : Bool := (d.showable && (d.leavesShort 40 && (decide (d.weight ≤ 1000) && decide (d.depth ≤ 3)))) && d.shown.cps.toList.all fun c => decide (c < 16 ^ 8)
theorem oddE_fine : oddE.all fineE = true := by decide +kernel
theorem oddE_ok {d : PyData} (h : d ∈ oddE) : Sm 1000 3 d ∧ okc d.shown := by
  have h := Bool.and_eq_true_iff.mp (List.all_eq_true.mp oddE_fine d h)
  have h1 := Bool.and_eq_true_iff.mp h.1
  have h2 := Bool.and_eq_true_iff.mp h1.2
  have h3 := Bool.and_eq_true_iff.mp h2.2
  exact ⟨⟨h1.1, h2.1, of_decide_eq_true h3.1, of_decide_eq_true h3.2⟩, okc_lit h.2⟩
/-- a list of data that stays through draws -/
structure OddL (K : PySem.W.Frag) (d c : Addr) (Hx : Hp) (D : Addr) (ds : List PyData) (H' : Hp) : Prop where
  same : Same Hx H'
  off : Off d c D
  ex : ∃ us, H' D = some (.lst us) ∧ DvAll K (OffP d c H') us ds

/-! ### data by its weight, with a bound on the length of each row: what a value with a part replaced weighs -/
mutual
def intsB (B L : Nat) : PyData → Bool
  | .none | .bool _ | .str _ => true
  | .int i => decide (i.natAbs < B)
  | .list xs | .tuple xs => decide (xs.length ≤ L) && intsBAll B L xs
  | .dict kvs => intsBKv B L kvs
def intsBAll (B L : Nat) : List PyData → Bool
  | [] => true
  | x :: xs => intsB B L x && intsBAll B L xs
def intsBKv (B L : Nat) : List (PyData × PyData) → Bool
  | [] => true
  | (k, v) :: r => intsB B L k && intsB B L v && intsBKv B L r
end
mutual
theorem intsB_mono {B C L M : Nat} (h : B ≤ C) (g : L ≤ M) : ∀ d : PyData, intsB B L d = true → intsB C M d = true
  | .none, _ => by unfold intsB; rfl
  | .bool _, _ => by unfold intsB; rfl
  | .str _, _ => by unfold intsB; rfl
  | .int i, q => by
    unfold intsB at q ⊢
    have := of_decide_eq_true q
    exact decide_eq_true (Nat.lt_of_lt_of_le this h)
  | .list xs, q => by
    unfold intsB at q ⊢
    have z := Bool.and_eq_true_iff.mp q
    exact Bool.and_eq_true_iff.mpr ⟨decide_eq_true (Nat.le_trans (of_decide_eq_true z.1) g), intsBAll_mono h g xs z.2⟩
  | .tuple xs, q => by
    unfold intsB at q ⊢
    have z := Bool.and_eq_true_iff.mp q
    exact Bool.and_eq_true_iff.mpr ⟨decide_eq_true (Nat.le_trans (of_decide_eq_true z.1) g), intsBAll_mono h g xs z.2⟩
  | .dict kvs, q => by
    unfold intsB at q ⊢
    exact intsBKv_mono h g kvs q
theorem intsBAll_mono {B C L M : Nat} (h : B ≤ C) (g : L ≤ M) : ∀ xs : List PyData, intsBAll B L xs = true → intsBAll C M xs = true
  | [], _ => by unfold intsBAll; rfl
  | x :: xs, q => by
    unfold intsBAll at q ⊢
    have z := Bool.and_eq_true_iff.mp q
    exact Bool.and_eq_true_iff.mpr ⟨intsB_mono h g x z.1, intsBAll_mono h g xs z.2⟩
theorem intsBKv_mono {B C L M : Nat} (h : B ≤ C) (g : L ≤ M) : ∀ xs : List (PyData × PyData), intsBKv B L xs = true → intsBKv C M xs = true
  | [], _ => by unfold intsBKv; rfl
  | (k, v) :: xs, q => by
    unfold intsBKv at q ⊢
    have z := Bool.and_eq_true_iff.mp q
    have y := Bool.and_eq_true_iff.mp z.1
    exact Bool.and_eq_true_iff.mpr ⟨Bool.and_eq_true_iff.mpr ⟨intsB_mono h g k y.1, intsB_mono h g v y.2⟩, intsBKv_mono h g xs z.2⟩
end
theorem intsBAll_mem {B L : Nat} : ∀ {xs : List PyData}, intsBAll B L xs = true → ∀ x ∈ xs, intsB B L x = true
  | [], _, x, hx => nomatch hx
  | y :: xs, q, x, hx => by
    unfold intsBAll at q
    have z := Bool.and_eq_true_iff.mp q
    rcases List.mem_cons.mp hx with rfl | hx
    · exact z.1
    · exact intsBAll_mem z.2 x hx
theorem intsBAll_of {B L : Nat} : ∀ {xs : List PyData}, (∀ x ∈ xs, intsB B L x = true) → intsBAll B L xs = true
  | [], _ => by unfold intsBAll; rfl
  | y :: xs, q => by
    unfold intsBAll
    exact Bool.and_eq_true_iff.mpr ⟨q y List.mem_cons_self, intsBAll_of fun x hx => q x (List.mem_cons_of_mem _ hx)⟩
/-- what may be shown, with numbers below B -/
structure Fine (B L : Nat) (d : PyData) : Prop where
  shows : d.showable = true
  short : d.leavesShort 40 = true
  nums : intsB B L d = true
theorem Fine.mono {B C L M : Nat} {d : PyData} (h : Fine B L d) (l : B ≤ C) (g : L ≤ M) : Fine C M d := ⟨h.shows, h.short, intsB_mono l g d h.nums⟩
theorem Fine.bool (B L : Nat) (b : Bool) : Fine B L (.bool b) := ⟨rfl, rfl, by unfold intsB; rfl⟩
theorem Fine.none (B L : Nat) : Fine B L .none := ⟨rfl, rfl, by unfold intsB; rfl⟩
theorem Fine.int {B L : Nat} {i : Int} (h : i.natAbs < B) (l : B ≤ 10 ^ 30) : Fine B L (.int i) := by
  have s := Sm.int (Nat.lt_of_lt_of_le h l)
  exact ⟨s.shows, s.short, by unfold intsB; exact decide_eq_true h⟩
theorem Fine.lt {B L : Nat} {i : Int} (h : Fine B L (.int i)) : i.natAbs < B := by
  have z := h.nums
  unfold intsB at z
  exact of_decide_eq_true z
theorem fine_seq {B L : Nat} {ds : List PyData} (h : ∀ x ∈ ds, Fine B L x) : PyData.showableAll ds = true ∧ PyData.leavesShortAll 40 ds = true ∧ intsBAll B L ds = true := by
  induction ds with
  | nil => exact ⟨rfl, rfl, by unfold intsBAll; rfl⟩
  | cons d ds ih =>
    obtain ⟨a, b, c⟩ := ih fun x hx => h x (List.mem_cons_of_mem _ hx)
    have z := h d List.mem_cons_self
    refine ⟨?_, ?_, intsBAll_of fun x hx => (h x hx).nums⟩
    · show (d.showable && PyData.showableAll ds) = true
      rw [z.shows, a]
      rfl
    · show (d.leavesShort 40 && PyData.leavesShortAll 40 ds) = true
      rw [z.short, b]
      rfl
theorem Fine.tup {B L : Nat} {ds : List PyData} (l : ds.length ≤ L) (h : ∀ x ∈ ds, Fine B L x) : Fine B L (.tuple ds) :=
  let ⟨a, b, c⟩ := fine_seq h
  ⟨a, b, by unfold intsB; exact Bool.and_eq_true_iff.mpr ⟨decide_eq_true l, c⟩⟩
theorem Fine.lst {B L : Nat} {ds : List PyData} (l : ds.length ≤ L) (h : ∀ x ∈ ds, Fine B L x) : Fine B L (.list ds) :=
  let ⟨a, b, c⟩ := fine_seq h
  ⟨a, b, by unfold intsB; exact Bool.and_eq_true_iff.mpr ⟨decide_eq_true l, c⟩⟩
theorem fine_all {B L : Nat} : ∀ {ds : List PyData}, PyData.showableAll ds = true → PyData.leavesShortAll 40 ds = true → intsBAll B L ds = true → ∀ x ∈ ds, Fine B L x
  | [], _, _, _, x, hx => nomatch hx
  | d :: ds, h1, h2, h3, x, hx => by
    have z1 := Bool.and_eq_true_iff.mp (show (d.showable && PyData.showableAll ds) = true from h1)
    have z2 := Bool.and_eq_true_iff.mp (show (d.leavesShort 40 && PyData.leavesShortAll 40 ds) = true from h2)
    unfold intsBAll at h3
    have z3 := Bool.and_eq_true_iff.mp h3
    rcases List.mem_cons.mp hx with rfl | hx
    · exact ⟨z1.1, z2.1, z3.1⟩
    · exact fine_all z1.2 z2.2 z3.2 x hx
theorem Fine.mem {B L : Nat} {ds : List PyData} (h : Fine B L (.tuple ds)) : ∀ x ∈ ds, Fine B L x := by
  have c := h.nums
  unfold intsB at c
  exact fine_all h.shows h.short (Bool.and_eq_true_iff.mp c).2
theorem Fine.len {B L : Nat} {ds : List PyData} (h : Fine B L (.tuple ds)) : ds.length ≤ L := by
  have c := h.nums
  unfold intsB at c
  exact of_decide_eq_true (Bool.and_eq_true_iff.mp c).1
theorem wAll_app : ∀ {a b : List PyData}, PyData.weightAll (a ++ b) = PyData.weightAll a + PyData.weightAll b
  | [], b => (Nat.zero_add _).symm
  | x :: a, b => by
    show x.weight + 1 + PyData.weightAll (a ++ b) = x.weight + 1 + PyData.weightAll a + PyData.weightAll b
    rw [wAll_app]
    omega
theorem wAll_mem : ∀ {a : List PyData} {x : PyData}, x ∈ a → x.weight + 1 ≤ PyData.weightAll a
  | y :: a, x, h => by
    show x.weight + 1 ≤ y.weight + 1 + PyData.weightAll a
    rcases List.mem_cons.mp h with rfl | h
    · omega
    · have := wAll_mem h
      omega
theorem wAll_take (n : Nat) (a : List PyData) : PyData.weightAll (a.take n) ≤ PyData.weightAll a := by
  have := wAll_app (a := a.take n) (b := a.drop n)
  rw [List.take_append_drop] at this
  omega
theorem wAll_drop (n : Nat) (a : List PyData) : PyData.weightAll (a.drop n) ≤ PyData.weightAll a := by
  have := wAll_app (a := a.take n) (b := a.drop n)
  rw [List.take_append_drop] at this
  omega
theorem wAll_rev : ∀ a : List PyData, PyData.weightAll a.reverse = PyData.weightAll a
  | [] => rfl
  | x :: a => by
    rw [List.reverse_cons, wAll_app, wAll_rev a]
    show PyData.weightAll a + (x.weight + 1 + 0) = x.weight + 1 + PyData.weightAll a
    omega
theorem wAll_set {ds : List PyData} {i : Nat} {x y : PyData} (h : ds[i]? = some x) : PyData.weightAll (ds.take i ++ [y] ++ ds.drop (i + 1)) + x.weight = PyData.weightAll ds + y.weight := by
  have e : ds = ds.take i ++ [x] ++ ds.drop (i + 1) := by
    obtain ⟨z, w⟩ := List.getElem?_eq_some_iff.mp h
    rw [← w, List.append_assoc, List.singleton_append, List.getElem_cons_drop, List.take_append_drop]
  have w1 := congrArg PyData.weightAll e
  rw [wAll_app, wAll_app] at w1 ⊢
  show _ + (y.weight + 1 + 0) + _ + _ = _
  rw [w1]
  show _ = _ + (x.weight + 1 + 0) + _ + _
  omega
theorem dAll_mem : ∀ {a : List PyData} {n : Nat}, (∀ x ∈ a, x.depth ≤ n) → PyData.depthAll a ≤ n
  | [], _, _ => Nat.zero_le _
  | x :: a, n, h => Nat.max_le.mpr ⟨h x List.mem_cons_self, dAll_mem fun y hy => h y (List.mem_cons_of_mem _ hy)⟩
theorem dAll_le : ∀ {a : List PyData} {x : PyData}, x ∈ a → x.depth ≤ PyData.depthAll a
  | y :: a, x, h => by
    rcases List.mem_cons.mp h with rfl | h
    · exact Nat.le_max_left _ _
    · exact Nat.le_trans (dAll_le h) (Nat.le_max_right _ _)
theorem len_weight : ∀ a : List PyData, a.length ≤ PyData.weightAll a
  | [] => Nat.le_refl _
  | x :: a => by
    have := len_weight a
    show a.length + 1 ≤ x.weight + 1 + PyData.weightAll a
    omega
/-- a value of data: fine, of weight at most N and depth at most dp -/
def Gwt (K : PySem.W.Frag) (B L N dp : Nat) (G : Hp) (v : V) : Prop := ∃ d, Dv K G v d ∧ Fine B L d ∧ d.weight ≤ N ∧ d.depth ≤ dp
/-- items of data, of weight at most N together -/
def Rwt (K : PySem.W.Frag) (B L N dp : Nat) (G : Hp) (us : List V) : Prop := ∃ ds, DvAll K G us ds ∧ (∀ x ∈ ds, Fine B L x ∧ x.depth ≤ dp) ∧ PyData.weightAll ds ≤ N
section
variable {K : PySem.W.Frag} {B C L L2 N M dp dq : Nat} {G G' : Hp} {v : V} {us vs : List V}
theorem Gwt.same (h : Gwt K B L N dp G v) (s : Same G G') : Gwt K B L N dp G' v :=
  let ⟨d, a, b, c⟩ := h
  ⟨d, dv_same s a, b, c⟩
theorem Gwt.mono (h : Gwt K B L N dp G v) (l1 : B ≤ C) (l4 : L ≤ L2) (l2 : N ≤ M) (l3 : dp ≤ dq) : Gwt K C L2 M dq G v :=
  let ⟨d, a, b, c, e⟩ := h
  ⟨d, a, b.mono l1 l4, Nat.le_trans c l2, Nat.le_trans e l3⟩
theorem Gwt.sm (h : Gwt K B L N dp G v) : ∃ d, Dv K G v d ∧ Sm N dp d :=
  let ⟨d, a, b, c, e⟩ := h
  ⟨d, a, b.shows, b.short, c, e⟩
theorem Rwt.same (h : Rwt K B L N dp G us) (s : Same G G') : Rwt K B L N dp G' us :=
  let ⟨ds, a, b⟩ := h
  ⟨ds, dvAll_same s a, b⟩
theorem Rwt.mono (h : Rwt K B L N dp G us) (l1 : B ≤ C) (l4 : L ≤ L2) (l2 : N ≤ M) (l3 : dp ≤ dq) : Rwt K C L2 M dq G us :=
  let ⟨ds, a, b, c⟩ := h
  ⟨ds, a, fun x hx => ⟨(b x hx).1.mono l1 l4, Nat.le_trans (b x hx).2 l3⟩, Nat.le_trans c l2⟩
theorem Rwt.len (h : Rwt K B L N dp G us) : us.length ≤ N := by
  obtain ⟨ds, a, b, c⟩ := h
  rw [a.length]
  exact Nat.le_trans (len_weight ds) c
theorem dvAll_take' : ∀ {us : List V} {ds : List PyData}, DvAll K G us ds → ∀ n : Nat, DvAll K G (us.take n) (ds.take n)
  | _, _, .nil, n => by
    rw [List.take_nil, List.take_nil]
    exact .nil
  | _, _, .cons a b, 0 => .nil
  | _, _, .cons a b, n + 1 => .cons a (dvAll_take' b n)
theorem dvAll_drop' : ∀ {us : List V} {ds : List PyData}, DvAll K G us ds → ∀ n : Nat, DvAll K G (us.drop n) (ds.drop n)
  | _, _, .nil, n => by
    rw [List.drop_nil, List.drop_nil]
    exact .nil
  | _, _, .cons a b, 0 => .cons a b
  | _, _, .cons a b, n + 1 => dvAll_drop' b n
theorem dvAll_rev' : ∀ {vs : List V} {ds : List PyData}, DvAll K G vs ds → DvAll K G vs.reverse ds.reverse
  | _, _, .nil => .nil
  | _, _, .cons a b => by
    rw [List.reverse_cons, List.reverse_cons]
    exact (dvAll_rev' b).append (.cons a .nil)
theorem Rwt.cut (h : Rwt K B L N dp G us) (lo hi : Option Int) : Rwt K B L N dp G (cutV us lo hi) := by
  obtain ⟨ds, a, b, c⟩ := h
  unfold cutV
  exact ⟨_, dvAll_take' (dvAll_drop' a _) _, fun x hx => b x (List.mem_of_mem_drop (List.mem_of_mem_take hx)), Nat.le_trans (wAll_take _ _) (Nat.le_trans (wAll_drop _ _) c)⟩
theorem Rwt.cat (h : Rwt K B L N dp G us) (h2 : Rwt K B L M dp G vs) : Rwt K B L (N + M) dp G (us ++ vs) := by
  obtain ⟨ds, a, b, c⟩ := h
  obtain ⟨es, a2, b2, c2⟩ := h2
  refine ⟨_, a.append a2, fun x hx => ?_, by rw [wAll_app]; omega⟩
  rcases List.mem_append.mp hx with hx | hx
  · exact b x hx
  · exact b2 x hx
theorem Rwt.rev (h : Rwt K B L N dp G us) : Rwt K B L N dp G us.reverse := by
  obtain ⟨ds, a, b, c⟩ := h
  exact ⟨_, dvAll_rev' a, fun x hx => b x (List.mem_reverse.mp hx), by rw [wAll_rev]; exact c⟩
theorem Rwt.nil : Rwt K B L 0 dp G [] := ⟨[], .nil, (fun x hx => nomatch hx), Nat.le_refl _⟩
theorem Rwt.cons (h : Gwt K B L N dp G v) (h2 : Rwt K B L M dp G us) : Rwt K B L (N + 1 + M) dp G (v :: us) := by
  obtain ⟨d, a, b, c, e⟩ := h
  obtain ⟨ds, a2, b2, c2⟩ := h2
  refine ⟨d :: ds, .cons a a2, fun x hx => ?_, by show d.weight + 1 + PyData.weightAll ds ≤ _; omega⟩
  rcases List.mem_cons.mp hx with rfl | hx
  · exact ⟨b, e⟩
  · exact b2 x hx
theorem Rwt.one (h : Gwt K B L N dp G v) : Rwt K B L (N + 1) dp G [v] := Rwt.cons h .nil
theorem Rwt.tup (h : Rwt K B L N dp G us) (l : us.length ≤ L) {p : Addr} (e : G p = some (.tup us)) : Gwt K B L N (dp + 1) G (.ref p) := by
  obtain ⟨ds, a, b, c⟩ := h
  exact ⟨_, .tup e a, .tup (by rw [← a.length]; exact l) fun x hx => (b x hx).1, c, Nat.succ_le_succ (dAll_mem fun x hx => (b x hx).2)⟩
theorem Rwt.lst (h : Rwt K B L N dp G us) (l : us.length ≤ L) {p : Addr} (e : G p = some (.lst us)) : Gwt K B L N (dp + 1) G (.ref p) := by
  obtain ⟨ds, a, b, c⟩ := h
  exact ⟨_, .lst e a, .lst (by rw [← a.length]; exact l) fun x hx => (b x hx).1, c, Nat.succ_le_succ (dAll_mem fun x hx => (b x hx).2)⟩
/-- the row with one item replaced weighs as much more as the new item does -/
theorem swap_row {ds : List PyData} {y : V} {d : PyData} {i : Nat} (all : DvAll K G us ds) (fine : ∀ x ∈ ds, Fine B L x ∧ x.depth ≤ dp) (ed : ds[i]? = some d) (hy : Gwt K C L2 (2 * d.weight + M) dq G y) (l : B ≤ C) (l4 : L ≤ L2) (l3 : dp ≤ dq) : Rwt K C L2 (2 * PyData.weightAll ds + M) dq G (us.take i ++ [y] ++ us.drop (i + 1)) := by
  have wd := wAll_mem (List.mem_of_getElem? ed)
  obtain ⟨x, hx1, hx2, hx3, hx4⟩ := hy
  refine ⟨ds.take i ++ [x] ++ ds.drop (i + 1), ((dvAll_take' all i).append (.cons hx1 .nil)).append (dvAll_drop' all (i + 1)), fun z hz => ?_, ?_⟩
  · rcases List.mem_append.mp hz with hz | hz
    · rcases List.mem_append.mp hz with hz | hz
      · have m := fine z (List.mem_of_mem_take hz)
        exact ⟨m.1.mono l l4, Nat.le_trans m.2 l3⟩
      · rw [List.mem_singleton.mp hz]
        exact ⟨hx2, hx4⟩
    · have m := fine z (List.mem_of_mem_drop hz)
      exact ⟨m.1.mono l l4, Nat.le_trans m.2 l3⟩
  · have := wAll_set (y := x) ed
    omega
end

def sp_law_is_interval (K : PySem.W.Frag) : Sp := fun vs H Q _ => ∃ (v : V) (d : PyData), vs = [v] ∧ Dv K H v d ∧ Q (.bl (ivB d)) H
theorem ok_law_is_interval (T : Tx K mg f_is_number f_is_position f_is_tuple_of f_is_interval f_ascending_error f_targets_error f_is_pieces f_law_deck f_law_draw f_law_line f_law_interval f_law_intervals f_law_right f_law_is_interval f_law_error f_law_changed f_law_made f_law f_Plan_init f_Plan_targets f_Plan_pieces f_Plan_edits f_Plan_state_at f_Plan_len f_Plan_str f_BadTargets_init C_Plan X_BadTargets X_SpanError X_BadPieces X_BadInterval X_BadEdits d_is_number d_is_position d_is_tuple_of d_is_interval d_ascending_error d_targets_error d_is_pieces d_law_deck d_law_draw d_law_line d_law_interval d_law_intervals d_law_right d_law_is_interval d_law_error d_law_changed d_law_made d_law d_Plan_init d_Plan_targets d_Plan_pieces d_Plan_edits d_Plan_state_at d_Plan_len d_Plan_str d_BadTargets_init t_LAST_POSITION t_MAX_TARGETS t_MAX_PIECES) : FnOk P w K mg base CX0 1 f_law_is_interval d_law_is_interval ["_law_value"] (sp_law_is_interval K) := by
  refine T.F_law_is_interval.ok sc_law_is_interval (fun vs H Q E h => ?_) (fun cdv A outer s H vs Q E hr h => ?_)
  · obtain ⟨v, d, rfl, _⟩ := h
    rfl
  · obtain ⟨v, d, rfl, hd, q⟩ := h
    refine ⟨_, (pss_cons (ps_if (PW.pt (pw_or (pt_not (pt_val (pe_callB call_isi (by rfl) T.z_isinstance (by decide +kernel) (pa_cons (pv 0) (pa_cons (pe_bltn (v := .ty "tuple") (u := .type "tuple") (by rfl) T.z_tuple (by decide +kernel) rfl) pa_nil))))) (pw_or1 (pt_cmpR op_ne (pe_callB call_len_seq (by rfl) T.z_len PySem.boot_len (pa_cons (pv 0) pa_nil)) pe_int (nomark _)))))
      (pss_one (ps_ret pe_bl))
      pss_nil)
      (pss_cons (ps_for PassesOwn.never rfl (pi_tup (pv 0)) (pg_name (i := 1) sc_law_is_interval.nd rfl (Or.inl rfl))
      (pss_one (ps_if (PW.pt (pw_or (pt_not (pt_val (pe_callB call_isi (by rfl) T.z_isinstance (by decide +kernel) (pa_cons (pv 1) (pa_cons (pe_bltn (v := .ty "int") (u := .type "int") (by rfl) T.z_int (by decide +kernel) rfl) pa_nil))))) (pw_or (pt_val (pe_callB call_isi (by rfl) T.z_isinstance (by decide +kernel) (pa_cons (pv 1) (pa_cons (pe_bltn (v := .ty "bool") (u := .type "bool") (by rfl) T.z_bool (by decide +kernel) rfl) pa_nil)))) (pw_or1 (pt_not (pt_chain op_le op_le pe_int (pv 1) (pe_op op_pow pe_int pe_int)))))))
      (pss_one (ps_ret pe_bl))
      pss_nil)))
      (pss_one (ps_ret (pe_cmpR op_le (pe_ix ix_tup (pv 0) pe_int (fun _ _ => rfl)) (pe_ix ix_tup (pv 0) pe_int (fun _ _ => rfl)) (nomark _)))))), ?_⟩
    refine ⟨v, rfl, v, .ty "tuple", _, _, _, rfl, .ty "tuple", hd.ty, kit_tup d, _, rfl, ?_⟩
    cases tb : tupB d with
    | false =>
      refine iteT (iteT ?_)
      rw [iv_not tb] at q
      exact q
    | true =>
      refine iteF ?_
      cases hd with
      | @tup a xs ds e all =>
        have len := all.length
        refine ⟨.ref a, rfl, a, xs, rfl, .inr (SqT.of e), rfl, _, rfl, ?_⟩
        by_cases two : xs.length = 2
        · have yes : V.int (xs.length : Nat) = V.int 2 := by rw [two]; rfl
          rw [decide_eq_true yes]
          refine iteF ?_
          refine ⟨.ref a, rfl, a, rfl, ⟨_, SqT.of e⟩, ?_⟩
          refine for_tup (K := K) (a := a) (xs := xs) (D := ⟨_, _, fun _ _ => True, fun _ _ => True⟩) (fun j σ H' => H' = H ∧ (∀ i d', i < j → ds[i]? = some d' → inB 0 1000000000000 d' = true) ∧ ∃ y, σ = [some (.ref a), y]) ⟨rfl, fun i d' h => absurd h (Nat.not_lt_zero i), _, rfl⟩ (fun j σ H' _ h => by rw [h.1]; exact SqT.of e) ?_ ?_
          · rintro j x σ H' hj ⟨rfl, before, y, rfl⟩
            obtain ⟨d1, e1, hd1⟩ := all.get hj
            have out : inB 0 1000000000000 d1 = false → ivB (.tuple ds) = false := fun z => by
              have l2 : ds.length = 2 := by omega
              match ds, l2, e1 with
              | [a, b], _, e1 =>
                have jl : j < 2 := by
                  rcases Nat.lt_or_ge j 2 with h | h
                  · exact h
                  · rw [List.getElem?_eq_none (by show 2 ≤ j; exact h)] at e1
                    cases e1
                show (inB 0 1000000000000 a && (inB 0 1000000000000 b && leB a b)) = false
                rcases Nat.lt_or_ge j 1 with h | h
                · obtain rfl : j = 0 := by omega
                  cases e1
                  rw [z]
                  rfl
                · obtain rfl : j = 1 := by omega
                  cases e1
                  rw [z]
                  exact Bool.and_false _
            refine ⟨x, rfl, x, .ty "int", _, _, _, rfl, .ty "int", hd1.ty, kit_int d1, _, rfl, ?_⟩
            have no : inB 0 1000000000000 d1 = false → Q (.bl false) H' := fun z => by
              rw [out z] at q
              exact q
            cases ei : intB d1 with
            | false =>
              refine iteT (iteT ?_)
              exact no (num_no (by rw [ei]; rfl))
            | true =>
              refine iteF ?_
              refine ⟨x, rfl, x, .ty "bool", _, _, _, rfl, .ty "bool", hd1.ty, kit_bool d1, _, rfl, ?_⟩
              cases eb : boolB d1 with
              | true =>
                refine iteT (iteT ?_)
                exact no (num_no (by rw [ei, eb]; rfl))
              | false =>
                refine iteF ?_
                obtain ⟨n, rfl⟩ := num_int (d := d1) (by rw [ei, eb]; rfl)
                have ev := hd1.asInt
                subst ev
                refine ⟨.int n, rfl, _, _, rfl, rfl, _, rfl, ite2 (fun e2 => ?_) (fun e2 => ?_)⟩
                · refine ⟨10, 12, rfl, rfl, ⟨by decide, by decide, by decide⟩, _, _, rfl, rfl, ?_⟩
                  rw [show (10 : Int) ^ (12 : Int).toNat = 1000000000000 by decide]
                  cases e3 : decide (n ≤ 1000000000000) with
                  | false =>
                    refine ⟨false, congrArg V.bl e3, iteT ?_⟩
                    exact no (by show (decide (0 ≤ n) && decide (n ≤ 1000000000000)) = false; rw [e3]; exact Bool.and_false _)
                  | true =>
                    refine ⟨true, congrArg V.bl e3, iteF ?_⟩
                    refine ⟨rfl, fun i d' hi hd' => ?_, _, rfl⟩
                    rcases Nat.lt_or_ge i j with h | h
                    · exact before i d' h hd'
                    · obtain rfl : i = j := by omega
                      rw [e1] at hd'
                      cases hd'
                      show (decide (0 ≤ n) && decide (n ≤ 1000000000000)) = true
                      rw [e2, e3]
                      rfl
                · rw [Bool.not_eq_true] at e2
                  refine ⟨false, rfl, iteT ?_⟩
                  exact no (by show (decide (0 ≤ n) && decide (n ≤ 1000000000000)) = false; rw [e2]; rfl)
          · rintro σ H' ⟨rfl, before, y, rfl⟩
            match xs, ds, two, len, all, e, q, before with
            | [v1, v2], [d1, d2], _, _, .cons h1 (.cons h2 .nil), e, q, before =>
              have b1 := before 0 d1 (Nat.zero_lt_succ _) rfl
              have b2 := before 1 d2 (Nat.lt_succ_self _) rfl
              cases d1 with
              | int i =>
                cases d2 with
                | int j =>
                  have x1 := h1.asInt
                  have x2 := h2.asInt
                  subst x1 x2
                  have q' : Q (.bl (inB 0 1000000000000 (.int i) && (inB 0 1000000000000 (.int j) && decide (i ≤ j)))) H' := q
                  rw [b1, b2] at q'
                  exact ⟨.ref a, rfl, a, _, 0, .int i, rfl, rfl, SqT.of e, rfl, .ref a, rfl, a, _, 1, .int j, rfl, rfl, SqT.of e, rfl, _, _, rfl, rfl, q'⟩
                | _ => cases b2
              | _ => cases b1
        · have ne : ¬ (V.int (xs.length : Nat) = V.int 2) := fun z => two (by
            have z' := V.int.inj z
            omega)
          rw [decide_eq_false ne]
          refine iteT ?_
          have z : ivB (.tuple ds) = false := by
            match ds, len with
            | [], _ => rfl
            | [_], _ => rfl
            | [_, _], len => exact absurd len two
            | _ :: _ :: _ :: _, _ => rfl
          rw [z] at q
          exact q
      | _ => exact (Bool.false_ne_true tb).elim

/-! ### what no error means -/
def toPair : PyData → Int × Int
  | .tuple [.int x, .int y] => (x, y)
  | _ => (0, 0)
theorem fe_none {ds : List PyData} : ∀ (k i : Nat), fe ds k i = .none → ∀ j, i ≤ j → j < i + k → errAt ds j = none
  | 0, i, _, j, h1, h2 => by omega
  | k + 1, i, h, j, h1, h2 => by
    have h : (match errAt ds i with | some s => PyData.tuple [.int i, .str s] | none => fe ds k (i + 1)) = .none := h
    cases e : errAt ds i with
    | some s =>
      rw [e] at h
      cases h
    | none =>
      rw [e] at h
      rcases Nat.eq_or_lt_of_le h1 with rfl | h3
      · exact e
      · exact fe_none k (i + 1) h j h3 (by omega)
theorem iv_bd {x y : Int} (h : ivB (.tuple [.int x, .int y]) = true) : (0 ≤ x ∧ x ≤ y) ∧ y ≤ 1000000000000 := by
  have h4 : (inB 0 1000000000000 (.int x) && (inB 0 1000000000000 (.int y) && leB (.int x) (.int y))) = true := h
  have h5 := Bool.and_eq_true_iff.mp h4
  have h6 := Bool.and_eq_true_iff.mp h5.2
  have h7 := Bool.and_eq_true_iff.mp (show (decide ((0 : Int) ≤ x) && decide (x ≤ 1000000000000)) = true from h5.1)
  have h8 := Bool.and_eq_true_iff.mp (show (decide ((0 : Int) ≤ y) && decide (y ≤ 1000000000000)) = true from h6.1)
  exact ⟨⟨of_decide_eq_true h7.1, of_decide_eq_true h6.2⟩, of_decide_eq_true h8.2⟩
theorem ivs_of {K : PySem.W.Frag} {H : Hp} : ∀ {xs : List V} {ds : List PyData}, DvAll K H xs ds → (∀ d ∈ ds, ivB d = true) → Ivs H xs (ds.map toPair)
  | _, _, .nil, _ => .nil
  | _, _, .cons a b, h => by
    obtain ⟨x, y, rfl⟩ := iv_shape (h _ List.mem_cons_self)
    obtain ⟨t, rfl, ht⟩ := a.asPair
    exact .cons ht (ivs_of b fun d hd => h d (List.mem_cons_of_mem _ hd))
theorem pairs_back : ∀ {ds : List PyData}, (∀ d ∈ ds, ivB d = true) → ds = (ds.map toPair).map pairD
  | [], _ => rfl
  | d :: ds, h => by
    obtain ⟨x, y, rfl⟩ := iv_shape (h _ List.mem_cons_self)
    rw [List.map_cons, List.map_cons, ← pairs_back fun d hd => h d (List.mem_cons_of_mem _ hd)]
    rfl
theorem ltP_tr2 {a b c : Int × Int} (h : ltP a b) (g : ltP b c) : ltP a c := by
  unfold ltP at *
  omega
theorem chain_pw {ps : List (Int × Int)} (h : ∀ j, (hj : j + 1 < ps.length) → ltP ps[j] ps[j + 1]) : ps.Pairwise ltP := by
  refine List.pairwise_iff_getElem.mpr fun i j hi hj ij => ?_
  induction j with
  | zero => omega
  | succ j ih =>
    rcases Nat.eq_or_lt_of_le (Nat.le_of_lt_succ ij) with e | e
    · subst e
      exact h i hj
    · exact ltP_tr2 (ih (by omega) e) (h j hj)
theorem err_none {n : Nat} {d : PyData} (h : errD n d = .none) : ∃ ds, d = .tuple ds ∧ (∀ x ∈ ds, ivB x = true) ∧ SideOk n (ds.map toPair) := by
  cases d with
  | tuple ds =>
    have h : (if (ds.length : Int) > n then noTup else fe ds ds.length 0) = .none := h
    by_cases c : (ds.length : Int) > n
    · rw [if_pos c] at h
      cases h
    rw [if_neg c] at h
    have at0 : ∀ j, j < ds.length → errAt ds j = none := fun j hj => fe_none _ _ h j (Nat.zero_le _) (by omega)
    have iv : ∀ j, (hj : j < ds.length) → ivB ds[j] = true := fun j hj => by
      have e := at0 j hj
      unfold errAt at e
      rw [getD_some (List.getElem?_eq_getElem hj)] at e
      cases hb : ivB ds[j] with
      | true => rfl
      | false =>
        rw [hb] at e
        cases e
    have all : ∀ x ∈ ds, ivB x = true := fun x hx => by
      obtain ⟨j, hj, rfl⟩ := List.getElem_of_mem hx
      exact iv j hj
    refine ⟨ds, rfl, all, ⟨chain_pw fun j hj => ?_, fun q hq => ?_, by rw [List.length_map]; omega⟩⟩
    · rw [List.length_map] at hj
      rw [List.getElem_map, List.getElem_map]
      have e := at0 (j + 1) hj
      unfold errAt at e
      rw [getD_some (List.getElem?_eq_getElem hj), iv _ hj, if_pos rfl, Nat.add_sub_cancel, getD_some (List.getElem?_eq_getElem (show j < ds.length by omega))] at e
      obtain ⟨x, y, e1⟩ := iv_shape (iv j (by omega))
      obtain ⟨u, v, e2⟩ := iv_shape (iv (j + 1) hj)
      rw [e1, e2] at e ⊢
      have nl : ¬ leqB (.tuple [.int u, .int v]) (.tuple [.int x, .int y]) = true := fun z => by
        rw [if_pos ⟨Nat.zero_lt_succ _, z⟩] at e
        cases e
      have nl : ¬ (if u = x then (if v = y then true else decide (v ≤ y)) else decide (u ≤ x)) = true := nl
      show ltP (x, y) (u, v)
      unfold ltP
      by_cases c1 : u = x
      · rw [if_pos c1] at nl
        by_cases c2 : v = y
        · rw [if_pos c2] at nl
          exact absurd rfl nl
        · rw [if_neg c2] at nl
          have nl : ¬ v ≤ y := fun z => nl (decide_eq_true z)
          show x < u ∨ x = u ∧ y < v
          omega
      · rw [if_neg c1] at nl
        have nl : ¬ u ≤ x := fun z => nl (decide_eq_true z)
        show x < u ∨ x = u ∧ y < v
        omega
    · obtain ⟨x, hx, rfl⟩ := List.mem_map.mp hq
      have hi := all x hx
      obtain ⟨u, v, rfl⟩ := iv_shape hi
      exact iv_bd hi
  | _ => cases h
def noneB : PyData → Bool
  | .none => true
  | _ => false
theorem none_iff {d : PyData} : noneB d = true ↔ d = .none := by
  cases d <;> first | exact ⟨fun _ => rfl, fun _ => rfl⟩ | exact ⟨fun z => (nomatch z), fun z => (nomatch z)⟩
theorem Dv.isN {K : PySem.W.Frag} {H : Hp} {v : V} {d : PyData} (h : Dv K H v d) : decide (v = .non) = noneB d := by
  cases h with
  | non => rfl
  | _ => exact decide_eq_false (fun z => by cases z)
def sp_targets_error (K : PySem.W.Frag) : Sp := fun vs H Q _ => ∃ (v : V) (d : PyData), vs = [v] ∧ Dv K H v d ∧ ∀ H' r, Same H H' → Dv K H' r (errD 24 d) → Q r H'
theorem ok_targets_error (T : Tx K mg f_is_number f_is_position f_is_tuple_of f_is_interval f_ascending_error f_targets_error f_is_pieces f_law_deck f_law_draw f_law_line f_law_interval f_law_intervals f_law_right f_law_is_interval f_law_error f_law_changed f_law_made f_law f_Plan_init f_Plan_targets f_Plan_pieces f_Plan_edits f_Plan_state_at f_Plan_len f_Plan_str f_BadTargets_init C_Plan X_BadTargets X_SpanError X_BadPieces X_BadInterval X_BadEdits d_is_number d_is_position d_is_tuple_of d_is_interval d_ascending_error d_targets_error d_is_pieces d_law_deck d_law_draw d_law_line d_law_interval d_law_intervals d_law_right d_law_is_interval d_law_error d_law_changed d_law_made d_law d_Plan_init d_Plan_targets d_Plan_pieces d_Plan_edits d_Plan_state_at d_Plan_len d_Plan_str d_BadTargets_init t_LAST_POSITION t_MAX_TARGETS t_MAX_PIECES) : FnOk P w K mg base CX0 5 f_targets_error d_targets_error ["value"] (sp_targets_error K) := by
  refine T.F_targets_error.ok sc_targets_error (fun vs H Q E h => ?_) (fun cdv A outer s H vs Q E hr h => ?_)
  · obtain ⟨v, d, rfl, _⟩ := h
    rfl
  · obtain ⟨v, d, rfl, hd, q⟩ := h
    refine ⟨_, (pss_one (ps_ret (pe_call (ok_ascending_error T) (hr.mono (by decide)) (by rfl) T.g_ascending_error T.F_ascending_error.kp T.b_ascending_error .nil pass0 (pa_cons (pv 0) (pa_cons (pe_glob (v := .int 24) (by rfl) T.c_MAX_TARGETS ⟨_, rfl⟩) pa_nil))))), ?_⟩
    exact ⟨v, rfl, v, d, 24, rfl, hd, q⟩
def sp_is_pieces (K : PySem.W.Frag) : Sp := fun vs H Q _ => ∃ (v : V) (d : PyData), vs = [v] ∧ Dv K H v d ∧ ∀ H', Same H H' → Q (.bl (noneB (errD 30 d))) H'
theorem ok_is_pieces (T : Tx K mg f_is_number f_is_position f_is_tuple_of f_is_interval f_ascending_error f_targets_error f_is_pieces f_law_deck f_law_draw f_law_line f_law_interval f_law_intervals f_law_right f_law_is_interval f_law_error f_law_changed f_law_made f_law f_Plan_init f_Plan_targets f_Plan_pieces f_Plan_edits f_Plan_state_at f_Plan_len f_Plan_str f_BadTargets_init C_Plan X_BadTargets X_SpanError X_BadPieces X_BadInterval X_BadEdits d_is_number d_is_position d_is_tuple_of d_is_interval d_ascending_error d_targets_error d_is_pieces d_law_deck d_law_draw d_law_line d_law_interval d_law_intervals d_law_right d_law_is_interval d_law_error d_law_changed d_law_made d_law d_Plan_init d_Plan_targets d_Plan_pieces d_Plan_edits d_Plan_state_at d_Plan_len d_Plan_str d_BadTargets_init t_LAST_POSITION t_MAX_TARGETS t_MAX_PIECES) : FnOk P w K mg base CX0 5 f_is_pieces d_is_pieces ["value"] (sp_is_pieces K) := by
  refine T.F_is_pieces.ok sc_is_pieces (fun vs H Q E h => ?_) (fun cdv A outer s H vs Q E hr h => ?_)
  · obtain ⟨v, d, rfl, _⟩ := h
    rfl
  · obtain ⟨v, d, rfl, hd, q⟩ := h
    refine ⟨_, (pss_one (ps_ret (pe_cmpR op_isN (pe_call (ok_ascending_error T) (hr.mono (by decide)) (by rfl) T.g_ascending_error T.F_ascending_error.kp T.b_ascending_error .nil pass0 (pa_cons (pv 0) (pa_cons (pe_glob (v := .int 30) (by rfl) T.c_MAX_PIECES ⟨_, rfl⟩) pa_nil))) pe_non (nomark _)))), ?_⟩
    refine ⟨v, rfl, v, d, 30, rfl, hd, fun H1 r s1 hr => ⟨rfl, ?_⟩⟩
    rw [hr.isN]
    exact q H1 s1
/-! ### a plan is made, or an error is raised -/
theorem ok_BadTargets_init (T : Tx K mg f_is_number f_is_position f_is_tuple_of f_is_interval f_ascending_error f_targets_error f_is_pieces f_law_deck f_law_draw f_law_line f_law_interval f_law_intervals f_law_right f_law_is_interval f_law_error f_law_changed f_law_made f_law f_Plan_init f_Plan_targets f_Plan_pieces f_Plan_edits f_Plan_state_at f_Plan_len f_Plan_str f_BadTargets_init C_Plan X_BadTargets X_SpanError X_BadPieces X_BadInterval X_BadEdits d_is_number d_is_position d_is_tuple_of d_is_interval d_ascending_error d_targets_error d_is_pieces d_law_deck d_law_draw d_law_line d_law_interval d_law_intervals d_law_right d_law_is_interval d_law_error d_law_changed d_law_made d_law d_Plan_init d_Plan_targets d_Plan_pieces d_Plan_edits d_Plan_state_at d_Plan_len d_Plan_str d_BadTargets_init t_LAST_POSITION t_MAX_TARGETS t_MAX_PIECES) : FnOk P w K mg base CX0 1 f_BadTargets_init d_BadTargets_init ["self", "error"] (sp_exc_init K X_BadTargets "error") := by
  refine T.F_BadTargets_init.ok sc_BadTargets_init (fun vs H Q E h => ?_) (fun cdv A outer s H vs Q E hr h => ?_)
  · obtain ⟨a, v, rfl, _⟩ := h
    rfl
  · obtain ⟨a, v, rfl, ha, q⟩ := h
    refine ⟨_, (pss_one (ps_ost (pv 0) (pv 1))), ?_⟩
    exact ⟨v, rfl, .ref a, rfl, a, X_BadTargets, rfl, T.xi_BadTargets.ox, T.xi_BadTargets.no, .inl ⟨ha, fun dx nd ne => q dx nd ne⟩⟩
def sp_initX (K : PySem.W.Frag) (C XT XP : Addr) : Sp := fun vs H Q E => ∃ (p dx : Addr) (v1 v2 : V) (d1 d2 : PyData), vs = [.ref p, v1, v2] ∧ H p = some (.ins C dx []) ∧ Dv K H v1 d1 ∧ Dv K H v2 d2 ∧
  (errD 24 d1 ≠ .none → ∀ H' v d, Same H H' → Dv K H' v (errD 24 d1) → H' d = none → E (.ref XT) (some d) (upd H' d (.xd [("error", v)]))) ∧
  (errD 24 d1 = .none → errD 30 d2 ≠ .none → ∀ H', Same H H' → E (.ref XP) none H') ∧
  (errD 24 d1 = .none → errD 30 d2 = .none → ∀ H' S, StOk S → d1 = .tuple (S.1.map pairD) → d2 = .tuple (S.2.map pairD) → But p H H' → PlanAt C H' p [S] [] → Q .non H')
theorem ok_Plan_init (T : Tx K mg f_is_number f_is_position f_is_tuple_of f_is_interval f_ascending_error f_targets_error f_is_pieces f_law_deck f_law_draw f_law_line f_law_interval f_law_intervals f_law_right f_law_is_interval f_law_error f_law_changed f_law_made f_law f_Plan_init f_Plan_targets f_Plan_pieces f_Plan_edits f_Plan_state_at f_Plan_len f_Plan_str f_BadTargets_init C_Plan X_BadTargets X_SpanError X_BadPieces X_BadInterval X_BadEdits d_is_number d_is_position d_is_tuple_of d_is_interval d_ascending_error d_targets_error d_is_pieces d_law_deck d_law_draw d_law_line d_law_interval d_law_intervals d_law_right d_law_is_interval d_law_error d_law_changed d_law_made d_law d_Plan_init d_Plan_targets d_Plan_pieces d_Plan_edits d_Plan_state_at d_Plan_len d_Plan_str d_BadTargets_init t_LAST_POSITION t_MAX_TARGETS t_MAX_PIECES) : FnOk P w K mg base (L2.CX P w) 6 f_Plan_init d_Plan_init ["self", "targets", "pieces"] (sp_initX K C_Plan X_BadTargets X_BadPieces) := by
  refine T.F_Plan_init.okX sc_Plan_init (fun vs H Q E h => ?_) (fun cdv A outer s H vs Q E hr h => ?_)
  · obtain ⟨p, dx, v1, v2, d1, d2, rfl, _⟩ := h
    rfl
  · obtain ⟨p, dx, v1, v2, d1, d2, rfl, hp, h1, h2, bad1, bad2, good⟩ := h
    refine ⟨_, (pss_cons (ps_set (i := 3) sc_Plan_init.nd rfl (Or.inl rfl) (pe_call (ok_targets_error T) (hr.mono (by decide)) (by rfl) T.g_targets_error T.F_targets_error.kp T.b_targets_error .nil pass0 (pa_cons (pv 1) pa_nil)))
      (pss_cons (ps_if (pt_cmpR op_notN (pv 3) pe_non (nomark _))
      (pss_one (ps_raise1 rfl (takes_of rfl rfl rfl rfl) T.xn_BadTargets T.xi_BadTargets (ok_BadTargets_init T) (hr.mono (by decide)) T.b_BadTargets_init (by rfl) (pa_cons (pv 3) pa_nil)))
      pss_nil)
      (pss_cons (ps_if (pt_not (pt_val (pe_call (ok_is_pieces T) (hr.mono (by decide)) (by rfl) T.g_is_pieces T.F_is_pieces.kp T.b_is_pieces .nil pass0 (pa_cons (pv 2) pa_nil))))
      (pss_one (ps_raise0 rfl (takes_of rfl rfl rfl rfl) T.xn_BadPieces T.xr_BadPieces (by rfl)))
      pss_nil) (PSs.nox (pss_cons (ps_fld (pv 0) (pe_tup (pa_cons (pe_tup (pa_cons (pv 1) (pa_cons (pv 2) pa_nil))) pa_nil)) rfl)
      (pss_cons (ps_fld (pv 0) (pe_tup pa_nil) rfl)
      (pss_one (ps_fld (pv 0) pe_bl rfl)))))))), ?_⟩
    refine ⟨v1, rfl, v1, d1, rfl, h1, fun H1 r s1 hr1 => ?_⟩
    refine ⟨r, rfl, rfl, _, rfl, ?_⟩
    rw [hr1.isN]
    cases n1 : noneB (errD 24 d1) with
    | false =>
      refine iteT ?_
      have ne : errD 24 d1 ≠ .none := fun z => by
        rw [none_iff.mpr z] at n1
        cases n1
      exact ⟨r, rfl, r, rfl, fun d nd => bad1 ne H1 r d s1 hr1 nd⟩
    | true =>
      refine iteF ?_
      have e1 := none_iff.mp n1
      refine ⟨v2, rfl, v2, d2, rfl, dv_same s1 h2, fun H2 s2 => ⟨_, rfl, ?_⟩⟩
      have s12 := s1.trans s2
      cases n2 : noneB (errD 30 d2) with
      | false =>
        have ne : errD 30 d2 ≠ .none := fun z => by
          rw [none_iff.mpr z] at n2
          cases n2
        refine iteT ?_
        exact bad2 e1 ne H2 s12
      | true =>
        have e2 := none_iff.mp n2
        refine iteF ?_
        obtain ⟨ds1, rfl, i1, o1⟩ := err_none e1
        obtain ⟨ds2, rfl, i2, o2⟩ := err_none e2
        have g1 := dv_same s12 h1
        have g2 := dv_same s12 h2
        cases g1 with
        | @tup x xs _ hx allx =>
          cases g2 with
          | @tup y ys _ hy ally =>
            have ix := ivs_of allx i1
            have iy := ivs_of ally i2
            have b1 := pairs_back i1
            have b2 := pairs_back i2
            have so : StOk (ds1.map toPair, ds2.map toPair) := ⟨o1, o2⟩
            refine ⟨.ref x, rfl, .ref y, rfl, by show 2 ≤ sizeLine; decide, fun t nt => ?_⟩
            have s3 := same_new (o := .tup [.ref x, .ref y]) nt
            have et := upd_same (H := H2) (a := t) (o := .tup [.ref x, .ref y])
            generalize upd H2 t (.tup [.ref x, .ref y]) = H3 at *
            refine ⟨by show 1 ≤ sizeLine; decide, fun a na => ?_⟩
            have s4 := same_new (o := .tup [.ref t]) na
            have ea := upd_same (H := H3) (a := a) (o := .tup [.ref t])
            generalize upd H3 a (.tup [.ref t]) = H4 at *
            have s24 := s3.trans s4
            have s14 := s12.trans s24
            have hp4 := s14 _ _ hp
            refine ⟨.ref p, rfl, p, C_Plan, dx, [], rfl, hp4, T.cl_Plan, T.n_Plan_states, by show 0 < 1000; decide, ?_⟩
            refine ⟨by show 0 ≤ sizeLine; decide, fun b nb => ?_⟩
            have nbp : b ≠ p := fun e => by
              rw [e, upd_same] at nb
              cases nb
            refine ⟨.ref p, rfl, p, C_Plan, dx, _, rfl, by rw [upd_ne nbp.symm, upd_same], T.cl_Plan, T.n_Plan_done, by show 1 < 1000; decide, ?_⟩
            refine ⟨.ref p, rfl, p, C_Plan, dx, _, rfl, upd_same, T.cl_Plan, T.n_Plan_busy, by rw [show putF "done" (V.ref b) (putF "states" (V.ref a) []) = [(("states" : Str), V.ref a), ("done", V.ref b)] from if_neg kSD]; show 2 < 1000; decide, ?_⟩
            rw [flP_new]
            have nb4 : H4 b = none := by
              rw [upd_ne nbp] at nb
              exact nb
            have fin : ∀ {c : Addr} {o : HO}, c ≠ p → H4 c = some o → upd (upd (upd (upd H4 p (.ins C_Plan dx (putF "states" (.ref a) []))) b (.tup [])) p (.ins C_Plan dx (putF "done" (.ref b) (putF "states" (.ref a) [])))) p (.ins C_Plan dx (flP a b false)) c = some o := fun {c o} n e => by
              rw [upd_ne n, upd_ne n, upd_ne (ne_of_none e nb4), upd_ne n]
              exact e
            have tp : Tps H4 (upd (upd (upd (upd H4 p (.ins C_Plan dx (putF "states" (.ref a) []))) b (.tup [])) p (.ins C_Plan dx (putF "done" (.ref b) (putF "states" (.ref a) [])))) p (.ins C_Plan dx (flP a b false))) := fun c us e => fin (ne_of e hp4 (fun z => by cases z)) e
            refine good e1 e2 _ (ds1.map toPair, ds2.map toPair) so (congrArg PyData.tuple b1) (congrArg PyData.tuple b2) (fun c o n e => fin n (s14 _ _ e)) ⟨⟨dx, a, b, _, _, upd_same, tp _ _ ea, ?_, by rw [upd_ne nbp, upd_ne nbp, upd_same], .nil⟩, rfl⟩
            exact .cons (tp _ _ (s4 _ _ et)) (tp _ _ (s24 _ _ hx)) ((ix.same s24).tps tp) (tp _ _ (s24 _ _ hy)) ((iy.same s24).tps tp) .nil
/-! ### the law's own first error -/
theorem lex_leq (x1 x2 y1 y2 : Int) : (!HT.lexLt [y1, y2] [x1, x2]) = leqB (.tuple [.int x1, .int x2]) (.tuple [.int y1, .int y2]) := by
  show (!(if y1 = x1 then (if y2 = x2 then false else decide (y2 < x2)) else decide (y1 < x1))) = (if x1 = y1 then (if x2 = y2 then true else decide (x2 ≤ y2)) else decide (x1 ≤ y1))
  have k : ∀ a b : Int, (!decide (a < b)) = decide (b ≤ a) := fun a b => by
    rw [Bool.eq_iff_iff]
    simp only [Bool.not_eq_true', decide_eq_false_iff_not, decide_eq_true_eq]
    omega
  by_cases c1 : x1 = y1
  · rw [if_pos c1, if_pos c1.symm]
    by_cases c2 : x2 = y2
    · rw [if_pos c2, if_pos c2.symm]
      rfl
    · rw [if_neg c2, if_neg (fun z => c2 z.symm), k]
  · rw [if_neg c1, if_neg (fun z => c1 z.symm), k]
def sp_law_error (K : PySem.W.Frag) : Sp := fun vs H Q _ => ∃ (v : V) (d : PyData) (most : Int), vs = [v, .int most] ∧ Dv K H v d ∧ ∀ H' r, Same H H' → Dv K H' r (errD most d) → Q r H'
theorem ok_law_error (T : Tx K mg f_is_number f_is_position f_is_tuple_of f_is_interval f_ascending_error f_targets_error f_is_pieces f_law_deck f_law_draw f_law_line f_law_interval f_law_intervals f_law_right f_law_is_interval f_law_error f_law_changed f_law_made f_law f_Plan_init f_Plan_targets f_Plan_pieces f_Plan_edits f_Plan_state_at f_Plan_len f_Plan_str f_BadTargets_init C_Plan X_BadTargets X_SpanError X_BadPieces X_BadInterval X_BadEdits d_is_number d_is_position d_is_tuple_of d_is_interval d_ascending_error d_targets_error d_is_pieces d_law_deck d_law_draw d_law_line d_law_interval d_law_intervals d_law_right d_law_is_interval d_law_error d_law_changed d_law_made d_law d_Plan_init d_Plan_targets d_Plan_pieces d_Plan_edits d_Plan_state_at d_Plan_len d_Plan_str d_BadTargets_init t_LAST_POSITION t_MAX_TARGETS t_MAX_PIECES) : FnOk P w K mg base CX0 2 f_law_error d_law_error ["_law_value", "_law_most"] (sp_law_error K) := by
  refine T.F_law_error.ok sc_law_error (fun vs H Q E h => ?_) (fun cdv A outer s H vs Q E hr h => ?_)
  · obtain ⟨v, d, most, rfl, _⟩ := h
    rfl
  · obtain ⟨v, d, most, rfl, hd, q⟩ := h
    refine ⟨_, (pss_cons (ps_if (PW.pt (pw_or (pt_not (pt_val (pe_callB call_isi (by rfl) T.z_isinstance (by decide +kernel) (pa_cons (pv 0) (pa_cons (pe_bltn (v := .ty "tuple") (u := .type "tuple") (by rfl) T.z_tuple (by decide +kernel) rfl) pa_nil))))) (pw_or1 (pt_cmpR op_gt (pe_callB call_len_seq (by rfl) T.z_len PySem.boot_len (pa_cons (pv 0) pa_nil)) (pv 1) (nomark _)))))
      (pss_one (ps_ret (pe_tup (pa_cons pe_non (pa_cons pe_str pa_nil)))))
      pss_nil)
      (pss_cons (ps_for PassesOwn.never rfl (pi_enumT (by rfl) T.z_enumerate (pa_cons (pv 0) pa_nil)) (pg_tup rfl (pgs_cons (pg_name (i := 2) sc_law_error.nd rfl (Or.inl rfl)) (pgs_cons (pg_name (i := 3) sc_law_error.nd rfl (Or.inl rfl)) pgs_nil)))
      (pss_cons (ps_if (pt_not (pt_val (pe_call (ok_law_is_interval T) (hr.mono (by decide)) (by rfl) T.g_law_is_interval T.F_law_is_interval.kp T.b_law_is_interval .nil pass0 (pa_cons (pv 3) pa_nil))))
      (pss_one (ps_ret (pe_tup (pa_cons (pv 2) (pa_cons pe_str pa_nil)))))
      pss_nil)
      (pss_one (ps_if (PW.pt (pw_and (pt_cmpR op_gt (pv 2) pe_int (nomark _)) (pw_and1 (pt_not (pt_cmpR (op_ltT hr.units0) (pe_ix ix_tup (pv 0) (pe_op op_sub (pv 2) pe_int) (fun _ _ => rfl)) (pv 3) (nomark _))))))
      (pss_one (ps_ret (pe_tup (pa_cons (pv 2) (pa_cons pe_str pa_nil)))))
      pss_nil))))
      (pss_one (ps_ret pe_non)))), ?_⟩
    refine ⟨v, rfl, v, .ty "tuple", _, _, _, rfl, .ty "tuple", hd.ty, kit_tup d, _, rfl, ?_⟩
    cases tb : tupB d with
    | false =>
      refine iteT ?_
      refine iteT ?_
      refine ⟨by show 2 ≤ sizeLine; decide, fun t nt => ?_⟩
      have e : errD most d = noTup := by
        cases d with
        | tuple ds => cases tb
        | _ => rfl
      rw [e] at q
      exact q _ _ (same_new nt) (.tup upd_same (.cons .non (.cons (.str _) .nil)))
    | true =>
      refine iteF ?_
      cases hd with
      | @tup a xs ds e all =>
        have len := all.length
        refine ⟨.ref a, rfl, a, xs, rfl, .inr (SqT.of e), .int most, rfl, _, _, rfl, rfl, _, rfl, ite2 (fun e1 => ?_) (fun e1 => ?_)⟩
        · have e2 : most < (xs.length : Int) := of_decide_eq_true e1
          refine ⟨by show 2 ≤ sizeLine; decide, fun t nt => ?_⟩
          have eq : errD most (.tuple ds) = noTup := by
            show (if (ds.length : Int) > most then noTup else fe ds ds.length 0) = noTup
            rw [if_pos (by omega)]
          rw [eq] at q
          exact q _ _ (same_new nt) (.tup upd_same (.cons .non (.cons (.str _) .nil)))
        · have e2 : ¬ most < (xs.length : Int) := fun z => e1 (decide_eq_true z)
          have eq : errD most (.tuple ds) = fe ds ds.length 0 := by
            show (if (ds.length : Int) > most then noTup else fe ds ds.length 0) = _
            rw [if_neg (by omega)]
          rw [eq] at q
          generalize eR : fe ds ds.length 0 = R at q
          refine ⟨.ref a, rfl, a, xs, rfl, SqT.of e, ?_⟩
          refine for_enumT (K := K) (a := a) (xs := xs) (D := ⟨_, _, fun _ _ => True, fun _ _ => True⟩) (fun j σ H' => Same H H' ∧ fe ds (xs.length - j) j = R ∧ (∀ i, i < j → ivB (ds.getD i .none) = true) ∧ ∃ y2 y3, σ = [some (.ref a), some (.int most), y2, y3])
            ⟨Same.refl _, by rw [len, Nat.sub_zero]; exact eR, fun j hj => absurd hj (Nat.not_lt_zero j), _, _, rfl⟩ (fun j σ H' h => SqT.of (h.1 _ _ e)) ?_ ?_
          · rintro i vi t σ H1 hx ⟨sm, ef, ok, y2, y3, rfl⟩ nt
            have hi := (List.getElem?_eq_some_iff.mp hx).1
            obtain ⟨di, edi, hdi⟩ := all.get hx
            have gd := getD_some edi
            obtain ⟨m', em'⟩ : ∃ m', xs.length - i = m' + 1 := ⟨xs.length - i - 1, by omega⟩
            rw [em'] at ef
            have m2 : xs.length - (i + 1) = m' := by omega
            have st := same_new (o := .tup [.int (i : Nat), vi]) nt
            have et := upd_same (H := H1) (a := t) (o := .tup [.int (i : Nat), vi])
            generalize upd H1 t (.tup [.int (i : Nat), vi]) = H2 at *
            have smH := sm.trans st
            have hv2 := dv_same smH hdi
            refine ⟨t, _, rfl, SqT.of et, rfl, .int (i : Nat), [vi], rfl, vi, [], rfl, rfl, ?_⟩
            have fes : fe ds (m' + 1) i = match errAt ds i with | some s => .tuple [.int i, .str s] | none => fe ds m' (i + 1) := rfl
            refine ⟨vi, rfl, vi, di, rfl, hv2, _, rfl, ?_⟩
            cases hiv : ivB di with
            | false =>
              refine iteT ?_
              have ea : errAt ds i = some (Str.ofString "interval") := by
                unfold errAt
                rw [gd, hiv]
                rfl
              rw [ea] at fes
              refine ⟨.int _, rfl, by show 2 ≤ sizeLine; decide, fun t2 nt2 => ?_⟩
              have q2 := q (upd H2 t2 (.tup [.int (i : Nat), .str "interval"])) (.ref t2) (smH.trans (same_new nt2))
              rw [← ef, fes] at q2
              exact q2 (.tup upd_same (.cons (.int _) (.cons (.str _) .nil)))
            | true =>
              refine iteF ?_
              obtain ⟨x1, x2, rfl⟩ := iv_shape hiv
              obtain ⟨b, rfl, hb⟩ := hv2.asPair
              have good : errAt ds i = none → (Same H H2 ∧ fe ds (xs.length - (i + 1)) (i + 1) = R ∧ (∀ i', i' < i + 1 → ivB (ds.getD i' .none) = true)) := fun ea => by
                rw [ea] at fes
                refine ⟨smH, by rw [m2]; exact fes.symm.trans ef, fun j hj => ?_⟩
                rcases Nat.lt_or_ge j i with z | z
                · exact ok j z
                · obtain rfl : j = i := by omega
                  rw [gd]
                  exact hiv
              refine ⟨.int _, rfl, _, _, rfl, rfl, _, rfl, ite2 (fun g0 => ?_) (fun g0 => ?_)⟩
              · have i0 : 0 < i := by
                  have z := of_decide_eq_true g0
                  omega
                have hp : xs[i - 1]? = some xs[i - 1] := List.getElem?_eq_getElem (by omega)
                obtain ⟨dp, edp, hdp⟩ := all.get hp
                have gp := getD_some edp
                have okp := ok (i - 1) (by omega)
                rw [gp] at okp
                obtain ⟨y1, y2', rfl⟩ := iv_shape okp
                obtain ⟨c, ec, hc⟩ := (dv_same smH hdp).asPair
                have ix : atI xs ((i : Int) - 1) = some (.ref c) := by
                  rw [show (i : Int) - 1 = ((i - 1 : Nat) : Int) by omega, ← ec]
                  exact atI_nat hp
                refine ⟨.ref a, rfl, .int _, rfl, _, _, rfl, rfl, a, xs, _, .ref c, rfl, rfl, SqT.of (smH _ _ e), ix, .ref b, rfl, c, b, [y1, y2'], [x1, x2], rfl, rfl, SqT.of hc, SqT.of hb, _, rfl, ?_⟩
                cases hl : leqB (.tuple [.int x1, .int x2]) (.tuple [.int y1, .int y2']) with
                | true =>
                  have hl2 : HT.lexLt [y1, y2'] [x1, x2] = false := by
                    rw [← lex_leq] at hl
                    rw [Bool.not_eq_true'] at hl
                    exact hl
                  rw [hl2]
                  refine iteT ?_
                  have ea : errAt ds i = some (Str.ofString "order") := by
                    unfold errAt
                    rw [if_pos (by rw [gd]; exact hiv), if_pos ⟨i0, by rw [gd, gp]; exact hl⟩]
                  rw [ea] at fes
                  refine ⟨.int _, rfl, by show 2 ≤ sizeLine; decide, fun t2 nt2 => ?_⟩
                  have q2 := q (upd H2 t2 (.tup [.int (i : Nat), .str "order"])) (.ref t2) (smH.trans (same_new nt2))
                  rw [← ef, fes] at q2
                  exact q2 (.tup upd_same (.cons (.int _) (.cons (.str _) .nil)))
                | false =>
                  have hl2 : HT.lexLt [y1, y2'] [x1, x2] = true := by
                    rw [← lex_leq] at hl
                    rw [Bool.not_eq_false'] at hl
                    exact hl
                  rw [hl2]
                  have ea : errAt ds i = none := by
                    unfold errAt
                    rw [if_pos (by rw [gd]; exact hiv), if_neg (fun z => by
                      have z2 := z.2
                      rw [gd, gp, hl] at z2
                      cases z2)]
                  obtain ⟨g1, g2, g3⟩ := good ea
                  exact iteF ⟨g1, g2, g3, _, _, rfl⟩
              · have i0 : i = 0 := by
                  rcases Nat.eq_zero_or_pos i with z | z
                  · exact z
                  · exact absurd (decide_eq_true (by omega)) g0
                have ea : errAt ds i = none := by
                  unfold errAt
                  rw [if_pos (by rw [gd]; exact hiv), if_neg (fun z => by
                    have z1 := z.1
                    omega)]
                obtain ⟨g1, g2, g3⟩ := good ea
                exact ⟨g1, g2, g3, _, _, rfl⟩
          · rintro σ H1 ⟨sm, ef, ok, y2, y3, rfl⟩
            rw [Nat.sub_self] at ef
            have q2 := q H1 .non sm
            rw [← ef] at q2
            exact q2 .non
      | _ => exact (Bool.false_ne_true tb).elim

/-! ### rows with something replaced -/
theorem noPart_of {σ : L2.St} {H : Hp} {Q : Option Int → Hp → Prop} (h : Q none H) : tNoPart σ H Q := h
theorem cutFrom (xs : List V) (j : Nat) : cutV xs (some (j : Int)) none = xs.drop j := by
  unfold cutV
  rw [HT.sIx_none, show HT.sIx xs.length 0 (some (j : Int)) = min j xs.length from HT.sIx_nat xs.length 0 j]
  rw [List.take_of_length_le (by rw [List.length_drop]; omega)]
  rcases Nat.le_total j xs.length with h | h
  · rw [Nat.min_eq_left h]
  · rw [Nat.min_eq_right h, List.drop_length, List.drop_eq_nil_of_le h]
def oddC : List PyData := [.none, .tuple [], .list [], .dict [], .int 5, .str "0-3", .tuple [.int 3, .int 2], .tuple [.int 0, .bool true], .tuple [.int 0, .int 1, .int 2], .tuple [.int (-1), .int 0], .tuple [.int 0, .int ((10 ^ 12) + 1)], .list [.int 0, .int 1], .tuple [.str "0", .int 1]]
def fineW (d : PyData) : Bool := (d.showable && (d.leavesShort 40 && intsB (10 ^ 29 + 1) 40 d)) && (decide (d.weight ≤ 1000) && decide (d.depth ≤ 3))
theorem oddW : oddC.all fineW = true := by decide +kernel
theorem odd_gw {K : PySem.W.Frag} {G : Hp} {v : V} {dd : PyData} (h : dd ∈ oddC) (hd : Dv K G v dd) : Gwt K (10 ^ 29 + 1) 40 1000 3 G v := by
  have h := Bool.and_eq_true_iff.mp (List.all_eq_true.mp oddW dd h)
  have h1 := Bool.and_eq_true_iff.mp h.1
  have h2 := Bool.and_eq_true_iff.mp h1.2
  have h3 := Bool.and_eq_true_iff.mp h.2
  exact ⟨dd, hd, ⟨h1.1, h2.1, h2.2⟩, of_decide_eq_true h3.1, of_decide_eq_true h3.2⟩
theorem num_gw {K : PySem.W.Frag} {G : Hp} {i : Int} (h0 : 0 ≤ i) (h1 : i ≤ 1000000000000) : Gwt K (10 ^ 29 + 1) 40 100 0 G (.int i) := by
  have s := Sm.int (i := i) (Nat.lt_of_le_of_lt (show i.natAbs ≤ 1000000000000 by omega) (by decide))
  exact ⟨_, .int i, Fine.int (Nat.lt_of_le_of_lt (show i.natAbs ≤ 1000000000000 by omega) (by decide)) (by decide), s.small, Nat.le_refl _⟩
theorem iv_gw {K : PySem.W.Frag} {G : Hp} {t : Addr} {x y : Int} (e : G t = some (.tup [.int x, .int y])) (b : (0 ≤ x ∧ x ≤ y) ∧ y ≤ 1000000000000) : Gwt K (10 ^ 29 + 1) 40 202 1 G (.ref t) :=
  (Rwt.cons (num_gw b.1.1 (by omega)) (Rwt.one (num_gw (by omega) b.2))).tup (show 2 ≤ 40 by decide) e
theorem ivs_rw {K : PySem.W.Frag} {d c : Addr} {n : Int} {H : Hp} (dk : Dk H d c n) {us : List V} {ps : List (Int × Int)} (h : Ivs H us ps) (b : ∀ q ∈ ps, (0 ≤ q.1 ∧ q.1 ≤ q.2) ∧ q.2 ≤ 1000000000000) : Rwt K (10 ^ 29 + 1) 40 (ps.length * 203) 1 (OffP d c H) us := by
  induction h with
  | nil => exact Rwt.nil.mono (Nat.le_refl _) (Nat.le_refl _) (Nat.zero_le _) (Nat.le_refl _)
  | cons e _ ih =>
    refine (Rwt.cons (iv_gw (offP_get (dk.offT e) e) (b _ List.mem_cons_self)) (ih fun q hq => b q (List.mem_cons_of_mem _ hq))).mono (Nat.le_refl _) (Nat.le_refl _) ?_ (Nat.le_refl _)
    rw [List.length_cons, Nat.add_mul]
    omega
abbrev GV (K : PySem.W.Frag) (d c : Addr) (H : Hp) (v : V) : Prop := Gwt K (10 ^ 29 + 1) 40 10000 5 (OffP d c H) v
theorem at8 {α : Type} {r : Int} (h0 : 0 ≤ r) (h1 : r < 8) (a1 a2 a3 a4 a5 a6 a7 a8 : α) : ∃ v, atI [a1, a2, a3, a4, a5, a6, a7, a8] r = some v ∧ v ∈ [a1, a2, a3, a4, a5, a6, a7, a8] := by
  obtain ⟨j, rfl⟩ : ∃ j : Nat, r = j := ⟨r.toNat, by omega⟩
  have hj : j < [a1, a2, a3, a4, a5, a6, a7, a8].length := by show j < 8; omega
  exact ⟨_, atI_nat (List.getElem?_eq_getElem hj), List.getElem_mem hj⟩
def sp_law_changed (K : PySem.W.Frag) : Sp := fun vs H Q _ => ∃ (d c : Addr) (n : Int) (t : Addr) (us : List V) (ps : List (Int × Int)), vs = [.ref d, .ref t] ∧ Dk H d c n ∧ 0 ≤ n ∧ n < 900000 ∧ H t = some (.tup us) ∧ Ivs H us ps ∧ ps.length ≤ 8 ∧ (∀ q ∈ ps, (0 ≤ q.1 ∧ q.1 ≤ q.2) ∧ q.2 ≤ 1000000000000) ∧
  ∀ H' v, Kp d c H H' → Dk H' d c (n + 4) → GV K d c H' v → Q v H'
theorem ok_law_changed (T : Tx K mg f_is_number f_is_position f_is_tuple_of f_is_interval f_ascending_error f_targets_error f_is_pieces f_law_deck f_law_draw f_law_line f_law_interval f_law_intervals f_law_right f_law_is_interval f_law_error f_law_changed f_law_made f_law f_Plan_init f_Plan_targets f_Plan_pieces f_Plan_edits f_Plan_state_at f_Plan_len f_Plan_str f_BadTargets_init C_Plan X_BadTargets X_SpanError X_BadPieces X_BadInterval X_BadEdits d_is_number d_is_position d_is_tuple_of d_is_interval d_ascending_error d_targets_error d_is_pieces d_law_deck d_law_draw d_law_line d_law_interval d_law_intervals d_law_right d_law_is_interval d_law_error d_law_changed d_law_made d_law d_Plan_init d_Plan_targets d_Plan_pieces d_Plan_edits d_Plan_state_at d_Plan_len d_Plan_str d_BadTargets_init t_LAST_POSITION t_MAX_TARGETS t_MAX_PIECES) : FnOk P w K mg base CX0 2 f_law_changed d_law_changed ["_law_deck_here", "_law_intervals_here"] (sp_law_changed K) := by
  refine T.F_law_changed.ok sc_law_changed (fun vs H Q E h => ?_) (fun cdv A outer s H vs Q E hr h => ?_)
  · obtain ⟨d, c, n, t, us, ps, rfl, _⟩ := h
    rfl
  · obtain ⟨d, c, n, t, us, ps, rfl, dk, n0, n1, et, iv, lps, ok, q⟩ := h
    refine ⟨_, (pss_cons (ps_set (i := 2) sc_law_changed.nd rfl (Or.inl rfl) (pe_lst (pa_cons pe_non (pa_cons (pe_tup pa_nil) (pa_cons (pe_lst pa_nil) (pa_cons pe_dnewK (pa_cons pe_int (pa_cons pe_str (pa_cons (pe_tup (pa_cons pe_int (pa_cons pe_int pa_nil))) (pa_cons (pe_tup (pa_cons pe_int (pa_cons pe_bl pa_nil))) (pa_cons (pe_tup (pa_cons pe_int (pa_cons pe_int (pa_cons pe_int pa_nil)))) (pa_cons (pe_tup (pa_cons (pe_un un_neg pe_int) (pa_cons pe_int pa_nil))) (pa_cons (pe_tup (pa_cons pe_int (pa_cons (pe_op op_add (pe_op op_pow pe_int pe_int) pe_int) pa_nil))) (pa_cons (pe_lst (pa_cons pe_int (pa_cons pe_int pa_nil))) (pa_cons (pe_tup (pa_cons pe_str (pa_cons pe_int pa_nil))) pa_nil)))))))))))))))
      (pss_cons (ps_set (i := 3) sc_law_changed.nd rfl (Or.inl rfl) (pe_ix ix_list (pv 2) (pe_call (ok_law_draw T) (hr.mono (by decide)) (by rfl) T.g_law_draw T.F_law_draw.kp T.b_law_draw .nil pass0 (pa_cons (pv 0) (pa_cons pe_int pa_nil))) (fun _ _ => rfl)))
      (pss_cons (ps_set (i := 4) sc_law_changed.nd rfl (Or.inl rfl) (pe_call (ok_law_draw T) (hr.mono (by decide)) (by rfl) T.g_law_draw T.F_law_draw.kp T.b_law_draw .nil pass0 (pa_cons (pv 0) (pa_cons (pe_op op_add (pe_callB call_len_seq (by rfl) T.z_len PySem.boot_len (pa_cons (pv 1) pa_nil)) pe_int) pa_nil))))
      (pss_cons (ps_set (i := 5) sc_law_changed.nd rfl (Or.inl rfl) (pe_callTy call_tuple_of (by rfl) T.z_tuple (by decide +kernel) (pa_cons (pe_lc (own := [("_law_k", 6)]) (g := (gName 6)) (tt := tYes) (by rfl) sc_law_changed.nd (pi_range1 (by rfl) T.z_range (pa_cons (pe_op op_add pe_int (pe_call (ok_law_draw T) (hr.mono (by decide)) (by rfl) T.g_law_draw T.F_law_draw.kp T.b_law_draw .nil pass0 (pa_cons (pv 0) (pa_cons pe_int pa_nil)))) pa_nil)) (blkOk_by (own := [("_law_k", 6)]) (N := N_law_changed) (sc := defScope s_law_changed) (by decide +kernel)) (fun _ _ _ _ _ => (pg_name (i := 6) sc_law_changed.nd rfl (Or.inl rfl))) (fun _ _ _ _ _ => pts_nil) (fun _ _ _ _ _ => (pe_tup (pa_cons (pv 6) (pa_cons (pv 6) pa_nil))))) pa_nil)))
      (pss_cons (ps_set (i := 7) sc_law_changed.nd rfl (Or.inl rfl) (pe_lst (pa_cons (pe_op op_catA (pe_op op_catA (pe_slice sl_tupA (pv 1) po_none (po_some (pv 4))) (pe_tup (pa_cons (pv 3) pa_nil))) (pe_slice sl_tupA (pv 1) (po_some (pv 4)) po_none)) (pa_cons (pe_revT (pv 1)) (pa_cons (pe_op op_catA (pv 1) (pe_slice sl_tupA (pv 1) (po_some (pe_un un_neg pe_int)) po_none)) (pa_cons (pv 5) pa_nil))))))
      (pss_cons (ps_set (i := 7) sc_law_changed.nd rfl (Or.inl rfl) (pe_op op_cat (pv 7) (pe_lst (pa_cons (pe_callTy call_list_of (by rfl) T.z_list (by decide +kernel) (pa_cons (pv 1) pa_nil)) (pa_cons (pv 3) (pa_cons (pe_op op_catA (pe_op op_catA (pe_slice sl_tupA (pv 1) po_none (po_some (pv 4))) (pe_tup (pa_cons (pv 3) pa_nil))) (pe_slice sl_tupA (pv 1) (po_some (pe_op op_add (pv 4) pe_int)) po_none)) (pa_cons (pv 1) pa_nil)))))))
      (pss_one (ps_ret (pe_ix ix_list (pv 7) (pe_call (ok_law_draw T) (hr.mono (by decide)) (by rfl) T.g_law_draw T.F_law_draw.kp T.b_law_draw .nil pass0 (pa_cons (pv 0) (pa_cons pe_int pa_nil))) (fun _ _ => rfl)))))))))), ?_⟩
    have big : sizeLine = 16777216 := by decide
    have lu := iv.length
    refine ⟨by show 0 ≤ sizeLine; decide, fun p1 m1 => ?_⟩
    have s1 := same_new (H := H) (p := p1) (o := .tup []) m1
    have e1 := upd_same (H := H) (a := p1) (o := .tup [])
    generalize upd H p1 (.tup []) = H1 at *
    refine ⟨by show 0 ≤ sizeLine; decide, fun p2 m2 => ?_⟩
    have s2 := same_new (H := H1) (p := p2) (o := .lst []) m2
    have e2 := upd_same (H := H1) (a := p2) (o := .lst [])
    generalize upd H1 p2 (.lst []) = H2 at *
    refine fun p3 m3 => ?_
    have s3 := same_new (H := H2) (p := p3) (o := .dK []) m3
    have e3 := upd_same (H := H2) (a := p3) (o := .dK [])
    generalize upd H2 p3 (.dK []) = H3 at *
    refine ⟨by show 2 ≤ sizeLine; decide, fun p4 m4 => ?_⟩
    have s4 := same_new (H := H3) (p := p4) (o := .tup [.int 3, .int 2]) m4
    have e4 := upd_same (H := H3) (a := p4) (o := .tup [.int 3, .int 2])
    generalize upd H3 p4 (.tup [.int 3, .int 2]) = H4 at *
    refine ⟨by show 2 ≤ sizeLine; decide, fun p5 m5 => ?_⟩
    have s5 := same_new (H := H4) (p := p5) (o := .tup [.int 0, .bl true]) m5
    have e5 := upd_same (H := H4) (a := p5) (o := .tup [.int 0, .bl true])
    generalize upd H4 p5 (.tup [.int 0, .bl true]) = H5 at *
    refine ⟨by show 3 ≤ sizeLine; decide, fun p6 m6 => ?_⟩
    have s6 := same_new (H := H5) (p := p6) (o := .tup [.int 0, .int 1, .int 2]) m6
    have e6 := upd_same (H := H5) (a := p6) (o := .tup [.int 0, .int 1, .int 2])
    generalize upd H5 p6 (.tup [.int 0, .int 1, .int 2]) = H6 at *
    refine ⟨1, rfl, by show 2 ≤ sizeLine; decide, fun p7 m7 => ?_⟩
    have s7 := same_new (H := H6) (p := p7) (o := .tup [.int (-1), .int 0]) m7
    have e7 := upd_same (H := H6) (a := p7) (o := .tup [.int (-1), .int 0])
    generalize upd H6 p7 (.tup [.int (-1), .int 0]) = H7 at *
    refine ⟨10, 12, rfl, rfl, ⟨by decide, by decide, by decide⟩, _, _, rfl, rfl, by show 2 ≤ sizeLine; decide, fun p8 m8 => ?_⟩
    have s8 := same_new (H := H7) (p := p8) (o := .tup [.int 0, .int (((10 : Int) ^ (12 : Int).toNat) + 1)]) m8
    have e8 := upd_same (H := H7) (a := p8) (o := .tup [.int 0, .int (((10 : Int) ^ (12 : Int).toNat) + 1)])
    generalize upd H7 p8 (.tup [.int 0, .int (((10 : Int) ^ (12 : Int).toNat) + 1)]) = H8 at *
    refine ⟨by show 2 ≤ sizeLine; decide, fun p9 m9 => ?_⟩
    have s9 := same_new (H := H8) (p := p9) (o := .lst [.int 0, .int 1]) m9
    have e9 := upd_same (H := H8) (a := p9) (o := .lst [.int 0, .int 1])
    generalize upd H8 p9 (.lst [.int 0, .int 1]) = H9 at *
    refine ⟨by show 2 ≤ sizeLine; decide, fun p10 m10 => ?_⟩
    have s10 := same_new (H := H9) (p := p10) (o := .tup [.str "0", .int 1]) m10
    have e10 := upd_same (H := H9) (a := p10) (o := .tup [.str "0", .int 1])
    generalize upd H9 p10 (.tup [.str "0", .int 1]) = H10 at *
    refine ⟨by show 13 ≤ sizeLine; decide, fun p11 m11 => ?_⟩
    have s11 := same_new (H := H10) (p := p11) (o := .lst [.non, .ref p1, .ref p2, .ref p3, .int 5, .str "0-3", .ref p4, .ref p5, .ref p6, .ref p7, .ref p8, .ref p9, .ref p10]) m11
    have e11 := upd_same (H := H10) (a := p11) (o := .lst [.non, .ref p1, .ref p2, .ref p3, .int 5, .str "0-3", .ref p4, .ref p5, .ref p6, .ref p7, .ref p8, .ref p9, .ref p10])
    generalize upd H10 p11 (.lst [.non, .ref p1, .ref p2, .ref p3, .int 5, .str "0-3", .ref p4, .ref p5, .ref p6, .ref p7, .ref p8, .ref p9, .ref p10]) = H11 at *
    have hs : Same H H11 := s1.trans ( s2.trans ( s3.trans ( s4.trans ( s5.trans ( s6.trans ( s7.trans ( s8.trans ( s9.trans ( s10.trans (s11))))))))))
    have o1 : OffP d c H11 p1 = some _ := offP_get (dk.off m1) (s11 _ _ (s10 _ _ (s9 _ _ (s8 _ _ (s7 _ _ (s6 _ _ (s5 _ _ (s4 _ _ (s3 _ _ (s2 _ _ (e1)))))))))))
    have o2 : OffP d c H11 p2 = some _ := offP_get (dk.off (s1.free m2)) (s11 _ _ (s10 _ _ (s9 _ _ (s8 _ _ (s7 _ _ (s6 _ _ (s5 _ _ (s4 _ _ (s3 _ _ (e2))))))))))
    have o3 : OffP d c H11 p3 = some _ := offP_get (dk.off (s1.free (s2.free m3))) (s11 _ _ (s10 _ _ (s9 _ _ (s8 _ _ (s7 _ _ (s6 _ _ (s5 _ _ (s4 _ _ (e3)))))))))
    have o4 : OffP d c H11 p4 = some _ := offP_get (dk.off (s1.free (s2.free (s3.free m4)))) (s11 _ _ (s10 _ _ (s9 _ _ (s8 _ _ (s7 _ _ (s6 _ _ (s5 _ _ (e4))))))))
    have o5 : OffP d c H11 p5 = some _ := offP_get (dk.off (s1.free (s2.free (s3.free (s4.free m5))))) (s11 _ _ (s10 _ _ (s9 _ _ (s8 _ _ (s7 _ _ (s6 _ _ (e5)))))))
    have o6 : OffP d c H11 p6 = some _ := offP_get (dk.off (s1.free (s2.free (s3.free (s4.free (s5.free m6)))))) (s11 _ _ (s10 _ _ (s9 _ _ (s8 _ _ (s7 _ _ (e6))))))
    have o7 : OffP d c H11 p7 = some _ := offP_get (dk.off (s1.free (s2.free (s3.free (s4.free (s5.free (s6.free m7))))))) (s11 _ _ (s10 _ _ (s9 _ _ (s8 _ _ (e7)))))
    have o8 : OffP d c H11 p8 = some _ := offP_get (dk.off (s1.free (s2.free (s3.free (s4.free (s5.free (s6.free (s7.free m8)))))))) (s11 _ _ (s10 _ _ (s9 _ _ (e8))))
    have o9 : OffP d c H11 p9 = some _ := offP_get (dk.off (s1.free (s2.free (s3.free (s4.free (s5.free (s6.free (s7.free (s8.free m9))))))))) (s11 _ _ (s10 _ _ (e9)))
    have o10 : OffP d c H11 p10 = some _ := offP_get (dk.off (s1.free (s2.free (s3.free (s4.free (s5.free (s6.free (s7.free (s8.free (s9.free m10)))))))))) (s11 _ _ (e10))
    have oL := ((((((((((dk.kept s1).kept s2).kept s3).kept s4).kept s5).kept s6).kept s7).kept s8).kept s9).kept s10).off m11
    have all : DvAll K (OffP d c H11) [.non, .ref p1, .ref p2, .ref p3, .int 5, .str "0-3", .ref p4, .ref p5, .ref p6, .ref p7, .ref p8, .ref p9, .ref p10] oddC := .cons (.non) (.cons (.tup o1 (.nil)) (.cons (.lst o2 (.nil)) (.cons (.dic o3 .nil) (.cons (.int _) (.cons (.str _) (.cons (.tup o4 (.cons (.int _) (.cons (.int _) (.nil)))) (.cons (.tup o5 (.cons (.int _) (.cons (.bl _) (.nil)))) (.cons (.tup o6 (.cons (.int _) (.cons (.int _) (.cons (.int _) (.nil))))) (.cons (.tup o7 (.cons (.int _) (.cons (.int _) (.nil)))) (.cons (.tup o8 (.cons (.int _) (.cons (.int _) (.nil)))) (.cons (.lst o9 (.cons (.int _) (.cons (.int _) (.nil)))) (.cons (.tup o10 (.cons (.str _) (.cons (.int _) (.nil)))) (.nil)))))))))))))
    generalize ([.non, .ref p1, .ref p2, .ref p3, .int 5, .str "0-3", .ref p4, .ref p5, .ref p6, .ref p7, .ref p8, .ref p9, .ref p10] : List V) = items at *
    have len : items.length = 13 := all.length
    refine ⟨.ref p11, rfl, .ref d, rfl, d, c, n, 13, rfl, dk.kept hs, n0, by omega, by decide, by decide, fun Hd r kp dk2 r0 r1 => ?_⟩
    obtain ⟨j, rfl⟩ : ∃ j : Nat, r = j := ⟨r.toNat, by omega⟩
    have hj : j < items.length := by omega
    have ej : items[j]? = some items[j] := List.getElem?_eq_getElem hj
    obtain ⟨dd, ed, hdv⟩ := all.get ej
    refine ⟨p11, items, j, items[j], rfl, rfl, SqL.of (kp.keep oL e11), atI_nat ej, ?_⟩
    have gi := odd_gw (List.mem_of_getElem? ed) (dv_same (offP_kp kp) hdv)
    generalize items[j] = it at *
    have kpD : Kp d c H Hd := (Kp.same hs).trans kp
    have etD := kpD.tup dk et
    have ivD := iv.tps (kpD.tps dk)
    refine ⟨.ref d, rfl, .ref t, rfl, t, us, rfl, .inr (SqT.of etD), _, _, rfl, rfl, d, c, n + 1, (us.length : Int) + 1, rfl, dk2, by omega, by omega, by omega, by omega, fun A1 pl ka1 da1 b0 b1 => ?_⟩
    obtain ⟨k, rfl⟩ : ∃ k : Nat, pl = k := ⟨pl.toNat, by omega⟩
    refine ⟨.ref d, rfl, d, c, n + 1 + 1, 8, rfl, da1, by omega, by omega, by decide, by decide, fun A2 w ka2 da2 w0 w1 => ?_⟩
    refine ⟨_, _, rfl, rfl, 24 + w, rfl, by omega, by omega, fun D nD => ?_⟩
    refine lcR (lo := 0) (n := (24 + w).toNat) (fun j H' ws => ∃ qs, Ivs H' ws qs ∧ qs.length ≤ j ∧ ∀ q ∈ qs, (0 ≤ q.1 ∧ q.1 ≤ q.2) ∧ q.2 ≤ 1000000000000) nD (by omega) (fun _ _ _ _ t r => let ⟨qs, a, b⟩ := r; ⟨qs, a.tps t, b⟩) (fun j H' ws r => let ⟨qs, a, b, _⟩ := r; by rw [a.length]; exact b) (fun _ => ⟨[], .nil, Nat.le_refl _, fun q hq => nomatch hq⟩) ?_ ?_
    · rintro j H1 N acc hj s1 eD sz ⟨qs, iq, lq, oq⟩ no yes
      refine ⟨rfl, .int (0 + j), rfl, .int (0 + j), rfl, by show 2 ≤ sizeLine; decide, fun t1 nt1 => ?_⟩
      refine yes _ _ (same_new nt1) ⟨qs ++ [(0 + (j : Int), 0 + (j : Int))], (iq.same (same_new nt1)).snoc upd_same, by rw [List.length_append]; show qs.length + 1 ≤ _; omega, fun q hq => ?_⟩
      rcases List.mem_append.mp hq with hq | hq
      · exact oq q hq
      · rw [List.mem_singleton.mp hq]
        show (0 ≤ 0 + (j : Int) ∧ 0 + (j : Int) ≤ 0 + (j : Int)) ∧ 0 + (j : Int) ≤ 1000000000000
        omega
    rintro A3 ws s3 eD ⟨qs, iq, lq, oq⟩
    have lws := iq.length
    refine ⟨D, ws, rfl, .inl ⟨SqL.of eD, fun wd nwd => ?_⟩⟩
    have s4 := same_new (o := .tup ws) nwd
    have ewd := upd_same (H := A3) (a := wd) (o := .tup ws)
    generalize upd A3 wd (.tup ws) = A4 at *
    have s24 := s3.trans s4
    have kpA : Kp d c Hd A4 := ka1.trans (ka2.trans (Kp.same s24))
    have dkA := da2.kept s24
    have etA := kpA.tup dk2 etD
    have ivA := ivD.tps (kpA.tps dk2)
    have iqA := iq.same s4
    have cutl : ∀ (us : List V) lo hi, (cutV us lo hi).length ≤ us.length := fun us lo hi => by
      unfold cutV
      rw [List.length_take, List.length_drop]
      omega
    have c1 := cutl us none (some (k : Int))
    have c2 := cutl us (some (k : Int)) none
    have c3 := cutl us (some (-1)) none
    have c4 := cutl us (some ((k : Int) + 1)) none
    refine ⟨.ref t, rfl, .int (k : Nat), rfl, (k : Int), rfl, slA_any etA (fun B1 b1 t1 eb1 => ?_)⟩
    refine ⟨it, rfl, by show 1 ≤ sizeLine; decide, fun b2 nb2 => ?_⟩
    have t2 := same_new (o := .tup [it]) nb2
    have eb2 := upd_same (H := B1) (a := b2) (o := .tup [it])
    generalize upd B1 b2 (.tup [it]) = B2 at *
    refine catA_any (t2 _ _ eb1) eb2 (by rw [big]; show _ + 1 ≤ _; omega) (fun B3 b3 t3 eb3 => ?_)
    have u3 := t1.trans (t2.trans t3)
    refine ⟨.ref t, rfl, .int (k : Nat), rfl, (k : Int), rfl, ?_⟩
    refine noPart_of ?_
    refine slA_any (u3 _ _ etA) (fun B4 b4 t4 eb4 => ?_)
    refine catA_any (t4 _ _ eb3) eb4 (by rw [big, List.length_append]; show _ + 1 + _ ≤ _; omega) (fun B5 b5 t5 eb5 => ?_)
    have u5 := u3.trans (t4.trans t5)
    refine ⟨.ref t, rfl, t, us, rfl, SqT.of (u5 _ _ etA), fun b6 nb6 => ?_⟩
    have t6 := same_new (o := .tup us.reverse) nb6
    have eb6 := upd_same (H := B5) (a := b6) (o := .tup us.reverse)
    generalize upd B5 b6 (.tup us.reverse) = B6 at *
    have u6 := u5.trans t6
    refine ⟨.ref t, rfl, .ref t, rfl, 1, rfl, -1, rfl, ?_⟩
    refine noPart_of ?_
    refine slA_any (u6 _ _ etA) (fun B7 b7 t7 eb7 => ?_)
    refine catA_any ((u6.trans t7) _ _ etA) eb7 (by rw [big]; omega) (fun B8 b8 t8 eb8 => ?_)
    have u8 := u6.trans (t7.trans t8)
    refine ⟨.ref wd, rfl, by show 4 ≤ sizeLine; decide, fun l1 nl1 => ?_⟩
    have t9 := same_new (o := .lst [.ref b5, .ref b6, .ref b8, .ref wd]) nl1
    have el1 := upd_same (H := B8) (a := l1) (o := .lst [.ref b5, .ref b6, .ref b8, .ref wd])
    generalize upd B8 l1 (.lst [.ref b5, .ref b6, .ref b8, .ref wd]) = B9 at *
    have u9 := u8.trans t9
    refine ⟨.ref l1, rfl, .ref t, rfl, t, us, rfl, .inr (SqT.of (u9 _ _ etA)), fun b10 nb10 => ?_⟩
    have off10 : Off d c b10 := (dkA.kept u9).off nb10
    have t10 := same_new (o := .lst us) nb10
    have eb10 := upd_same (H := B9) (a := b10) (o := .lst us)
    generalize upd B9 b10 (.lst us) = B10 at *
    have u10 := u9.trans t10
    refine ⟨it, rfl, .ref t, rfl, .int (k : Nat), rfl, (k : Int), rfl, slA_any (u10 _ _ etA) (fun B11 b11 t11 eb11 => ?_)⟩
    refine ⟨it, rfl, by show 1 ≤ sizeLine; decide, fun b12 nb12 => ?_⟩
    have t12 := same_new (o := .tup [it]) nb12
    have eb12 := upd_same (H := B11) (a := b12) (o := .tup [it])
    generalize upd B11 b12 (.tup [it]) = B12 at *
    refine catA_any (t12 _ _ eb11) eb12 (by rw [big]; show _ + 1 ≤ _; omega) (fun B13 b13 t13 eb13 => ?_)
    have u13 := u10.trans (t11.trans (t12.trans t13))
    refine ⟨.ref t, rfl, .int (k : Nat), rfl, _, _, rfl, rfl, (k : Int) + 1, rfl, ?_⟩
    refine noPart_of ?_
    refine slA_any (u13 _ _ etA) (fun B14 b14 t14 eb14 => ?_)
    refine catA_any (t14 _ _ eb13) eb14 (by rw [big, List.length_append]; show _ + 1 + _ ≤ _; omega) (fun B15 b15 t15 eb15 => ?_)
    have u15 := u13.trans (t14.trans t15)
    refine ⟨.ref t, rfl, by show 4 ≤ sizeLine; decide, fun l2 nl2 => ?_⟩
    have t16 := same_new (o := .lst [.ref b10, it, .ref b15, .ref t]) nl2
    have el2 := upd_same (H := B15) (a := l2) (o := .lst [.ref b10, it, .ref b15, .ref t])
    generalize upd B15 l2 (.lst [.ref b10, it, .ref b15, .ref t]) = B16 at *
    have u16 := u15.trans t16
    have w9 : Same B9 B16 := t10.trans (t11.trans (t12.trans (t13.trans (t14.trans (t15.trans t16)))))
    refine ⟨l1, l2, _, _, rfl, rfl, w9 _ _ el1, el2, by rw [big]; show 4 + 4 ≤ _; omega, fun g ng => ?_⟩
    have offg : Off d c g := (dkA.kept u16).off ng
    have t17 := same_new (o := .lst ([V.ref b5, .ref b6, .ref b8, .ref wd] ++ [V.ref b10, it, .ref b15, .ref t])) ng
    have eg := upd_same (H := B16) (a := g) (o := .lst ([V.ref b5, .ref b6, .ref b8, .ref wd] ++ [V.ref b10, it, .ref b15, .ref t]))
    generalize upd B16 g (.lst ([V.ref b5, .ref b6, .ref b8, .ref wd] ++ [V.ref b10, it, .ref b15, .ref t])) = B17 at *
    have u17 := u16.trans t17
    have dk17 := dkA.kept u17
    have w17 := w9.trans t17
    have kpT : Kp d c Hd B17 := kpA.trans (Kp.same u17)
    have rwI : Rwt K (10 ^ 29 + 1) 40 1624 3 (OffP d c B17) us := (ivs_rw dk17 (ivA.same u17) ok).mono (Nat.le_refl _) (Nat.le_refl _) (by omega) (by decide)
    have rwW : Rwt K (10 ^ 29 + 1) 40 7000 3 (OffP d c B17) ws := (ivs_rw dk17 (iqA.same u17) oq).mono (Nat.le_refl _) (Nat.le_refl _) (by omega) (by decide)
    have git : Gwt K (10 ^ 29 + 1) 40 1000 3 (OffP d c B17) it := gi.same (offP_kp kpT)
    have tupG : ∀ {z : Addr} {vs : List V} {M : Nat}, B17 z = some (.tup vs) → Rwt K (10 ^ 29 + 1) 40 M 3 (OffP d c B17) vs → vs.length ≤ 40 → M ≤ 10000 → GV K d c B17 (.ref z) := fun e rr k k2 => (rr.tup k (offP_get (dk17.offT e) e)).mono (Nat.le_refl _) (Nat.le_refl _) k2 (by decide)
    have vals : ∀ v ∈ [V.ref b5, .ref b6, .ref b8, .ref wd, .ref b10, it, .ref b15, .ref t], GV K d c B17 v := by
      intro v hv
      have x8 : Same B8 B17 := t9.trans w17
      have x6 : Same B6 B17 := t7.trans (t8.trans x8)
      simp only [List.mem_cons, List.not_mem_nil, or_false] at hv
      rcases hv with rfl | rfl | rfl | rfl | rfl | rfl | rfl | rfl
      · refine tupG ((t6.trans x6) _ _ eb5) (((rwI.cut _ _).cat (Rwt.one git)).cat (rwI.cut _ _)) ?_ (by decide)
        rw [List.length_append, List.length_append]
        show _ + 1 + _ ≤ 40
        omega
      · exact tupG (x6 _ _ eb6) rwI.rev (by rw [List.length_reverse]; omega) (by decide)
      · exact tupG (x8 _ _ eb8) (rwI.cat (rwI.cut _ _)) (by rw [List.length_append]; omega) (by decide)
      · exact tupG (u17 _ _ ewd) rwW (by omega) (by decide)
      · exact (rwI.lst (by omega) (offP_get off10 ((t11.trans (t12.trans (t13.trans (t14.trans (t15.trans (t16.trans t17)))))) _ _ eb10))).mono (Nat.le_refl _) (Nat.le_refl _) (by decide) (by decide)
      · exact git.mono (Nat.le_refl _) (Nat.le_refl _) (by decide) (by decide)
      · refine tupG ((t16.trans t17) _ _ eb15) (((rwI.cut _ _).cat (Rwt.one git)).cat (rwI.cut _ _)) ?_ (by decide)
        rw [List.length_append, List.length_append]
        show _ + 1 + _ ≤ 40
        omega
      · exact tupG (u17 _ _ etA) rwI (by omega) (by decide)
    refine ⟨.ref g, rfl, .ref d, rfl, d, c, n + 1 + 1 + 1, 8, rfl, dk17, by omega, by omega, by decide, by decide, fun H9 r9 k9 d9 r90 r91 => ?_⟩
    obtain ⟨v, ev, hv⟩ := at8 r90 r91 (V.ref b5) (.ref b6) (.ref b8) (.ref wd) (.ref b10) it (.ref b15) (.ref t)
    refine ⟨g, _, r9, v, rfl, rfl, SqL.of (k9.keep offg eg), ev, ?_⟩
    exact q H9 v (kpD.trans (kpT.trans k9)) (d9.eq (by omega)) ((vals v hv).same (offP_kp k9))
/-! ### a plan, or the error as a list -/
def sp_law_made (K : PySem.W.Frag) (C : Addr) : Sp := fun vs H Q _ => ∃ (v1 v2 : V) (d1 d2 : PyData), vs = [v1, v2] ∧ Dv K H v1 d1 ∧ Dv K H v2 d2 ∧
  (errD 24 d1 ≠ .none → ∀ H' L v, Same H H' → Dv K H' v (errD 24 d1) → H' L = some (.lst [.str "targets", v]) → Q (.ref L) H') ∧
  (errD 24 d1 = .none → errD 30 d2 ≠ .none → ∀ H' L, Same H H' → H' L = some (.lst [.str "pieces"]) → Q (.ref L) H') ∧
  (errD 24 d1 = .none → errD 30 d2 = .none → ∀ H' p S, StOk S → d1 = .tuple (S.1.map pairD) → d2 = .tuple (S.2.map pairD) → Same H H' → PlanAt C H' p [S] [] → Q (.ref p) H')
theorem ok_law_made (T : Tx K mg f_is_number f_is_position f_is_tuple_of f_is_interval f_ascending_error f_targets_error f_is_pieces f_law_deck f_law_draw f_law_line f_law_interval f_law_intervals f_law_right f_law_is_interval f_law_error f_law_changed f_law_made f_law f_Plan_init f_Plan_targets f_Plan_pieces f_Plan_edits f_Plan_state_at f_Plan_len f_Plan_str f_BadTargets_init C_Plan X_BadTargets X_SpanError X_BadPieces X_BadInterval X_BadEdits d_is_number d_is_position d_is_tuple_of d_is_interval d_ascending_error d_targets_error d_is_pieces d_law_deck d_law_draw d_law_line d_law_interval d_law_intervals d_law_right d_law_is_interval d_law_error d_law_changed d_law_made d_law d_Plan_init d_Plan_targets d_Plan_pieces d_Plan_edits d_Plan_state_at d_Plan_len d_Plan_str d_BadTargets_init t_LAST_POSITION t_MAX_TARGETS t_MAX_PIECES) : FnOk P w K mg base CX0 8 f_law_made d_law_made ["_law_targets", "_law_pieces"] (sp_law_made K C_Plan) := by
  refine T.F_law_made.ok sc_law_made (fun vs H Q E h => ?_) (fun cdv A outer s H vs Q E hr h => ?_)
  · obtain ⟨v1, v2, d1, d2, rfl, _⟩ := h
    rfl
  · obtain ⟨v1, v2, d1, d2, rfl, h1, h2, bad1, bad2, good⟩ := h
    refine ⟨_, (pss_one (ps_try_as (i := 2)  (Wout := fun _ _ _ _ => False) rfl rfl sc_law_made.nd rfl rfl ⟨rfl, by decide, .inl T.xn_SpanError.g⟩ takes0
      (fun W pn xe tk _ => (pss_one (ps_ret (pe_makeL T.mk_Plan (ok_Plan_init T) (hr.mono (by decide)) (by rfl) T.g_Plan T.b_Plan_init .nil (fun σ => passAt tk σ) (pa_cons (pv 0) (pa_cons (pv 1) pa_nil))))))
      (fun ea oe cls ed pn hz hf => (pss_cons (ps_if (PW.pt (pw_and (pt_val (pe_callB (call_isY hz hf) (by rfl) T.z_isinstance (by decide +kernel) (pa_cons (pv 2) (pa_cons (pe_glob (v := .ref X_BadTargets) (by rfl) T.xn_BadTargets.g rfl) pa_nil)))) (pw_and1 (pt_not (pt_val (pe_callB (call_isYT hz hf) (by rfl) T.z_isinstance (by decide +kernel) (pa_cons (pv 2) (pa_cons (pe_tup (pa_cons (pe_glob (v := .ref X_BadPieces) (by rfl) T.xn_BadPieces.g rfl) (pa_cons (pe_glob (v := .ref X_BadInterval) (by rfl) T.xn_BadInterval.g rfl) (pa_cons (pe_glob (v := .ref X_BadEdits) (by rfl) T.xn_BadEdits.g rfl) pa_nil)))) pa_nil))))))))
      (pss_one (ps_ret (pe_lst (pa_cons pe_str (pa_cons (pe_xf T.xi_BadTargets.xf T.xi_BadTargets.no hz hf (pv 2)) pa_nil)))))
      pss_nil)
      (pss_one (ps_ret (pe_op op_rep (pe_lst (pa_cons pe_str pa_nil)) (pe_callTy call_int1 (by rfl) T.z_int (by decide +kernel) (pa_cons (pe_and (pe_callB (call_isY hz hf) (by rfl) T.z_isinstance (by decide +kernel) (pa_cons (pv 2) (pa_cons (pe_glob (v := .ref X_BadPieces) (by rfl) T.xn_BadPieces.g rfl) pa_nil))) (pe_one (pe_not (pe_callB (call_isYT hz hf) (by rfl) T.z_isinstance (by decide +kernel) (pa_cons (pv 2) (pa_cons (pe_tup (pa_cons (pe_glob (v := .ref X_BadTargets) (by rfl) T.xn_BadTargets.g rfl) (pa_cons (pe_glob (v := .ref X_BadInterval) (by rfl) T.xn_BadInterval.g rfl) (pa_cons (pe_glob (v := .ref X_BadEdits) (by rfl) T.xn_BadEdits.g rfl) pa_nil)))) pa_nil)))))) pa_nil))))))))), ?_⟩
    refine ⟨v1, rfl, v2, rfl, fun p dx np ndx nn => ?_⟩
    have sA : Same H (upd (upd H dx (.own p)) p (.ins C_Plan dx [])) := fun b o e => by
      rw [upd_ne (ne_of_none e np), upd_ne (ne_of_none e ndx)]
      exact e
    refine ⟨p, dx, v1, v2, d1, d2, rfl, upd_same, dv_same sA h1, dv_same sA h2, fun ne H2 v d s2 hv nd => ?_, fun e1 ne H2 s2 => ?_, fun e1 e2 H2 S so b1 b2 but P => ⟨rfl, ?_⟩⟩
    · refine ⟨true, T.xn_SpanError.exm T.xs_BadTargets_SpanError, fun _ ea na => ?_, fun z => nomatch z⟩
      have ex := T.xi_BadTargets.ex
      have s3 := same_new (o := .xd [("error", v)]) nd
      have e3 := upd_same (H := H2) (a := d) (o := .xd [("error", v)])
      generalize upd H2 d (.xd [("error", v)]) = H3 at *
      refine ⟨.ref ea, rfl, X_BadTargets, .ref X_BadTargets, _, _, rfl, rfl, .inr ⟨d, _, rfl, e3⟩, ex, .own _, kit_self, _, rfl, ite2 (fun _ => ?_) (fun z => absurd rfl z)⟩
      refine ⟨.ref ea, rfl, by show 3 ≤ sizeLine; decide, fun t nt => ?_⟩
      have s4 := same_new (o := .tup [.ref X_BadPieces, .ref X_BadInterval, .ref X_BadEdits]) nt
      have et := upd_same (H := H3) (a := t) (o := .tup [.ref X_BadPieces, .ref X_BadInterval, .ref X_BadEdits])
      generalize upd H3 t (.tup [.ref X_BadPieces, .ref X_BadInterval, .ref X_BadEdits]) = H4 at *
      refine ⟨X_BadTargets, t, _, _, _, rfl, rfl, .inr ⟨d, _, rfl, s4 _ _ e3⟩, ex, et, .cons (.own _) (.cons (.own _) (.cons (.own _) .nil)), kit_noneI (mg := mg) T.xi_BadTargets (l := [("BadPieces", X_BadPieces), ("BadInterval", X_BadInterval), ("BadEdits", X_BadEdits)]) (fun q hq => ?_), _, rfl, ite2 (fun _ => ?_) (fun z => absurd rfl z)⟩
      · rcases List.mem_cons.mp hq with rfl | hq
        · exact ⟨T.xn_BadPieces, T.xs_BadTargets_BadPieces⟩
        rcases List.mem_cons.mp hq with rfl | hq
        · exact ⟨T.xn_BadInterval, T.xs_BadTargets_BadInterval⟩
        rw [List.mem_singleton.mp hq]
        exact ⟨T.xn_BadEdits, T.xs_BadTargets_BadEdits⟩
      have e4 := s4 _ _ e3
      refine ⟨.ref ea, rfl, rfl, rfl, d, _, v, rfl, e4, rfl, by show 2 ≤ sizeLine; decide, fun L nL => ?_⟩
      have s5 := same_new (o := .lst [.str "targets", v]) nL
      have s25 := s3.trans (s4.trans s5)
      exact bad1 ne _ L v (sA.trans (s2.trans s25)) (dv_same s25 hv) upd_same
    · refine ⟨true, T.xn_SpanError.exm T.xs_BadPieces_SpanError, fun _ ea na => ?_, fun z => nomatch z⟩
      have ex := T.xr_BadPieces.ex
      refine ⟨.ref ea, rfl, X_BadPieces, .ref X_BadTargets, _, _, rfl, rfl, .inl rfl, ex, .own _, T.xn_BadTargets.kit T.xs_BadPieces_BadTargets (T.xr_BadPieces.ne T.xs_BadPieces_BadTargets), _, rfl, ite2 (fun z => nomatch z) (fun _ => ?_)⟩
      refine ⟨by show 1 ≤ sizeLine; decide, fun l nl => ?_⟩
      have s3 := same_new (o := .lst [.str "pieces"]) nl
      have el := upd_same (H := H2) (a := l) (o := .lst [.str "pieces"])
      generalize upd H2 l (.lst [.str "pieces"]) = H3 at *
      refine ⟨.ref ea, rfl, X_BadPieces, .ref X_BadPieces, _, _, rfl, rfl, .inl rfl, ex, .own _, kit_self, _, rfl, ite2 (fun _ => ?_) (fun z => absurd rfl z)⟩
      refine ⟨.ref ea, rfl, by show 3 ≤ sizeLine; decide, fun t nt => ?_⟩
      have s4 := same_new (o := .tup [.ref X_BadTargets, .ref X_BadInterval, .ref X_BadEdits]) nt
      have et := upd_same (H := H3) (a := t) (o := .tup [.ref X_BadTargets, .ref X_BadInterval, .ref X_BadEdits])
      generalize upd H3 t (.tup [.ref X_BadTargets, .ref X_BadInterval, .ref X_BadEdits]) = H4 at *
      refine ⟨X_BadPieces, t, _, _, _, rfl, rfl, .inl rfl, ex, et, .cons (.own _) (.cons (.own _) (.cons (.own _) .nil)), kit_none (mg := mg) T.xr_BadPieces (l := [("BadTargets", X_BadTargets), ("BadInterval", X_BadInterval), ("BadEdits", X_BadEdits)]) (fun q hq => ?_), ?_⟩
      · rcases List.mem_cons.mp hq with rfl | hq
        · exact ⟨T.xn_BadTargets, T.xs_BadPieces_BadTargets⟩
        rcases List.mem_cons.mp hq with rfl | hq
        · exact ⟨T.xn_BadInterval, T.xs_BadPieces_BadInterval⟩
        rw [List.mem_singleton.mp hq]
        exact ⟨T.xn_BadEdits, T.xs_BadPieces_BadEdits⟩
      refine ⟨_, rfl, .inr ⟨_, rfl, ?_⟩⟩
      refine ⟨l, 1, _, rfl, rfl, s4 _ _ el, by decide, by decide, by show 1 * _ ≤ _; decide, fun zz nzz => ?_⟩
      have s5 := same_new (o := .lst (List.replicate (1 : Int).toNat [V.str "pieces"]).flatten) nzz
      exact bad2 e1 ne _ zz (sA.trans (s2.trans (s3.trans (s4.trans s5)))) upd_same
    · exact good e1 e2 H2 p S so b1 b2 (fun b o e => but b o (ne_of_none e np) (sA _ _ e)) P

theorem dv_rows {K : PySem.W.Frag} {H : Hp} : ∀ {ps : List (Int × Int)} {us : List V}, DvAll K H us (ps.map pairD) → Ivs H us ps
  | [], _, .nil => .nil
  | q :: ps, _, .cons a b => by
    obtain ⟨t, rfl, ht⟩ := Dv.asPair (x := q.1) (y := q.2) a
    exact .cons ht (dv_rows b)
theorem dv_row {K : PySem.W.Frag} {H : Hp} {v : V} {ps : List (Int × Int)} (h : Dv K H v (.tuple (ps.map pairD))) : ∃ x xs, v = .ref x ∧ H x = some (.tup xs) ∧ Ivs H xs ps := by
  cases h with
  | @tup a xs _ e all => exact ⟨a, xs, rfl, e, dv_rows all⟩
def sp_law (K : PySem.W.Frag) : Sp := fun vs H Q _ => ∃ (a : Addr) (ns : List Int), vs = [.ref a] ∧ SqL K H a (ns.map V.int) ∧ ns.length ≤ 63 ∧ ∀ H', Q (.bl true) H'
theorem ok_law (T : Tx K mg f_is_number f_is_position f_is_tuple_of f_is_interval f_ascending_error f_targets_error f_is_pieces f_law_deck f_law_draw f_law_line f_law_interval f_law_intervals f_law_right f_law_is_interval f_law_error f_law_changed f_law_made f_law f_Plan_init f_Plan_targets f_Plan_pieces f_Plan_edits f_Plan_state_at f_Plan_len f_Plan_str f_BadTargets_init C_Plan X_BadTargets X_SpanError X_BadPieces X_BadInterval X_BadEdits d_is_number d_is_position d_is_tuple_of d_is_interval d_ascending_error d_targets_error d_is_pieces d_law_deck d_law_draw d_law_line d_law_interval d_law_intervals d_law_right d_law_is_interval d_law_error d_law_changed d_law_made d_law d_Plan_init d_Plan_targets d_Plan_pieces d_Plan_edits d_Plan_state_at d_Plan_len d_Plan_str d_BadTargets_init t_LAST_POSITION t_MAX_TARGETS t_MAX_PIECES) (hM : ∃ mm, base.Ns sysModules mm) : FnG P w K mg base 10 f_law d_law ["_law_script"] (sp_law K) := by
  refine FnG.of T.F_law sc_law (fun {vs H Q} h => ?_) (fun cdv A outer s H vs Q hr hq h => ?_)
  · obtain ⟨a, ns, rfl, _⟩ := h
    rfl
  · obtain ⟨a, ns, rfl, hS, hlen, q⟩ := h
    refine ⟨_, (pss_cons (ps_set (i := 1) sc_law.nd rfl (Or.inl rfl) (pe_call (ok_law_deck T) (hr.mono (by decide)) (by rfl) T.g_law_deck T.F_law_deck.kp T.b_law_deck .nil pass0 (pa_cons (pv 0) pa_nil)))
      (pss_cons (ps_for PassesOwn.never rfl (pi_range1 (by rfl) T.z_range (pa_cons pe_int pa_nil)) (pg_name (i := 2) sc_law.nd rfl (Or.inl rfl))
      (pss_cons (ps_set (i := 3) sc_law.nd rfl (Or.inl rfl) (pe_call (ok_law_line T) (hr.mono (by decide)) (by rfl) T.g_law_line T.F_law_line.kp T.b_law_line .nil pass0 (pa_cons (pv 1) (pa_cons pe_int pa_nil))))
      (pss_cons (ps_par (by rfl) sc_law.nd (i := 4) (j := 5) rfl rfl (by decide) rfl rfl (pa_cons (pe_call (ok_law_intervals T) (hr.mono (by decide)) (by rfl) T.g_law_intervals T.F_law_intervals.kp T.b_law_intervals .nil pass0 (pa_cons (pv 1) (pa_cons (pv 3) (pa_cons pe_int pa_nil)))) (pa_cons (pe_call (ok_law_intervals T) (hr.mono (by decide)) (by rfl) T.g_law_intervals T.F_law_intervals.kp T.b_law_intervals .nil pass0 (pa_cons (pv 1) (pa_cons (pv 3) (pa_cons pe_int pa_nil)))) pa_nil)) (by rfl))
      (C8.pss_cut (ps_if (pt_cmpR op_eq (pe_call (ok_law_draw T) (hr.mono (by decide)) (by rfl) T.g_law_draw T.F_law_draw.kp T.b_law_draw .nil pass0 (pa_cons (pv 1) (pa_cons pe_int pa_nil))) pe_int (nomark _))
      (pss_one (ps_set (i := 4) sc_law.nd rfl (Or.inl rfl) (pe_call (ok_law_changed T) (hr.mono (by decide)) (by rfl) T.g_law_changed T.F_law_changed.kp T.b_law_changed .nil pass0 (pa_cons (pv 1) (pa_cons (pv 4) pa_nil)))))
      pss_nil)
      (C8.pss_cut (ps_if (pt_cmpR op_eq (pe_call (ok_law_draw T) (hr.mono (by decide)) (by rfl) T.g_law_draw T.F_law_draw.kp T.b_law_draw .nil pass0 (pa_cons (pv 1) (pa_cons pe_int pa_nil))) pe_int (nomark _))
      (pss_one (ps_set (i := 5) sc_law.nd rfl (Or.inl rfl) (pe_call (ok_law_changed T) (hr.mono (by decide)) (by rfl) T.g_law_changed T.F_law_changed.kp T.b_law_changed .nil pass0 (pa_cons (pv 1) (pa_cons (pv 5) pa_nil)))))
      pss_nil)
      (pss_cons (ps_set (i := 6) sc_law.nd rfl (Or.inl rfl) (pe_callB (call_reprV hM hq hr.units) (by rfl) T.z_repr (by decide +kernel) (pa_cons (pe_lst (pa_cons (pv 4) (pa_cons (pv 5) pa_nil))) pa_nil)))
      (pss_cons (ps_set (i := 7) sc_law.nd rfl (Or.inl rfl) (pe_call (ok_law_made T) (hr.mono (by decide)) (by rfl) T.g_law_made T.F_law_made.kp T.b_law_made .nil pass0 (pa_cons (pv 4) (pa_cons (pv 5) pa_nil))))
      (pss_cons (ps_par (by rfl) sc_law.nd (i := 8) (j := 9) rfl rfl (by decide) rfl rfl (pa_cons (pe_call (ok_law_error T) (hr.mono (by decide)) (by rfl) T.g_law_error T.F_law_error.kp T.b_law_error .nil pass0 (pa_cons (pv 4) (pa_cons pe_int pa_nil))) (pa_cons (pe_call (ok_law_error T) (hr.mono (by decide)) (by rfl) T.g_law_error T.F_law_error.kp T.b_law_error .nil pass0 (pa_cons (pv 5) (pa_cons pe_int pa_nil))) pa_nil)) (by rfl))
      (C8.pss_cut (ps_if (PW.pt (pw_or (pt_cmpR op_notN (pv 8) pe_non (nomark _)) (pw_or1 (pt_cmpR op_notN (pv 9) pe_non (nomark _)))))
      (pss_cons (ps_set (i := 10) sc_law.nd rfl (Or.inl rfl) (pe_ix ix_list (pe_lst (pa_cons (pe_lst (pa_cons pe_str pa_nil)) (pa_cons (pe_lst (pa_cons pe_str (pa_cons (pv 8) pa_nil))) pa_nil))) (pe_callTy call_int1 (by rfl) T.z_int (by decide +kernel) (pa_cons (pe_cmpR op_notN (pv 8) pe_non (nomark _)) pa_nil)) (fun _ _ => rfl)))
      (pss_one (ps_if (PW.pt (pw_or (pt_not (pt_val (pe_callB call_isi (by rfl) T.z_isinstance (by decide +kernel) (pa_cons (pv 7) (pa_cons (pe_bltn (v := .ty "list") (u := .type "list") (by rfl) T.z_list (by decide +kernel) rfl) pa_nil))))) (pw_or1 (pt_cmpR op_ne (pe_callB (call_reprV hM hq hr.units) (by rfl) T.z_repr (by decide +kernel) (pa_cons (pv 7) pa_nil)) (pe_callB (call_reprV hM hq hr.units) (by rfl) T.z_repr (by decide +kernel) (pa_cons (pv 10) pa_nil)) (nomark _)))))
      (pss_one (ps_ret pe_bl))
      pss_nil)))
      (pss_one (ps_if (PW.pt (pw_or (pt_val (pe_callB call_isi (by rfl) T.z_isinstance (by decide +kernel) (pa_cons (pv 7) (pa_cons (pe_bltn (v := .ty "list") (u := .type "list") (by rfl) T.z_list (by decide +kernel) rfl) pa_nil)))) (pw_or1 (pt_not (pt_val (pe_callG (ok_law_right T hM) (hr.mono (by decide)) hq (by rfl) T.g_law_right T.F_law_right.kp T.b_law_right (pa_cons (pv 7) (pa_cons (pe_lst (pa_cons (pv 4) (pa_cons (pv 5) pa_nil))) (pa_cons (pe_lst pa_nil) pa_nil)))))))))
      (pss_one (ps_ret pe_bl))
      pss_nil)))
      (pss_one (ps_if (pt_cmpR op_ne (pe_callB (call_reprV hM hq hr.units) (by rfl) T.z_repr (by decide +kernel) (pa_cons (pe_lst (pa_cons (pv 4) (pa_cons (pv 5) pa_nil))) pa_nil)) (pv 6) (nomark _))
      (pss_one (ps_ret pe_bl))
      pss_nil)))))))))))
      (pss_one (ps_ret pe_bl)))), ?_⟩
    refine ⟨.ref a, rfl, a, ns, rfl, hS, hlen, fun H1 d c s1 nd0 nc dk0 => ?_⟩
    refine ⟨8, rfl, by decide, by decide, for_range (D := ⟨_, _, fun _ _ => True, fun _ _ => True⟩) (n := 8) (fun i σ H' => (∃ n : Int, Dk H' d c n ∧ 0 ≤ n ∧ n ≤ 70 * i) ∧ ∃ y2 y3 y4 y5 y6 y7 y8 y9 y10, σ = [some (.ref a), some (.ref d), y2, y3, y4, y5, y6, y7, y8, y9, y10])
      ⟨⟨0, dk0, by decide, by decide⟩, _, _, _, _, _, _, _, _, _, rfl⟩ ?_ (fun σ H' _ => q H')⟩
    rintro i σ H2 hi ⟨⟨n, dk2, n0, n1⟩, y2, y3, y4, y5, y6, y7, y8, y9, y10, rfl⟩
    refine ⟨.ref d, rfl, d, c, n, 8, rfl, dk2, n0, by omega, by decide, by decide, fun H3 l lus cs m3 kp3 dk3 b30 b31 el iv cells l0 l1 top offl => ?_⟩
    have tc : ∀ q ∈ cs, q.2 < 1000000000000 := fun q hq => by
      have := top q hq
      omega
    refine ⟨.ref d, rfl, .ref l, rfl, d, c, m3, l, lus, cs, 8, rfl, dk3, by omega, by omega, offl, el, iv, cells, l0, by omega, tc, by decide, by decide, fun H4 t1 w1 p1 m4 kp4 dk4 b40 b41 e1 i1 a1 o1 f1 => ?_⟩
    have el4 := kp4.keep offl el
    have iv4 := iv.tps (kp4.tps dk3)
    refine ⟨.ref d, rfl, .ref l, rfl, d, c, m4, l, lus, cs, 8, rfl, dk4, by omega, by omega, offl, el4, iv4, cells, l0, by omega, tc, by decide, by decide, fun H5 t2 w2 p2 m5 kp5 dk5 b50 b51 e2 i2 a2 o2 f2 => ?_⟩
    refine ⟨_, _, rfl, ?_⟩
    have e15 := kp5.tup dk4 e1
    have i15 := i1.tps (kp5.tps dk4)
    have ok1 : ∀ q ∈ p1, (0 ≤ q.1 ∧ q.1 ≤ q.2) ∧ q.2 ≤ 1000000000000 := fun q hq => (o1 q hq).edok cells tc
    have ok2 : ∀ q ∈ p2, (0 ≤ q.1 ∧ q.1 ≤ q.2) ∧ q.2 ≤ 1000000000000 := fun q hq => (o2 q hq).edok cells tc
    have lw1 := i1.length
    have lw2 := i2.length
    have gv : ∀ {H' : Hp} {n' : Int} {t : Addr} {w : List V} {p : List (Int × Int)}, Dk H' d c n' → H' t = some (.tup w) → Ivs H' w p → p.length ≤ 8 → (∀ q ∈ p, (0 ≤ q.1 ∧ q.1 ≤ q.2) ∧ q.2 ≤ 1000000000000) → GV K d c H' (.ref t) := fun dk e iv l ok => ((ivs_rw dk iv ok).tup (by rw [iv.length]; omega) (offP_get (dk.offT e) e)).mono (Nat.le_refl _) (Nat.le_refl _) (by omega) (by decide)
    -- the targets may be changed
    refine ⟨fun σ H' => ∃ m v1, Kp d c H5 H' ∧ Dk H' d c m ∧ m5 ≤ m ∧ m ≤ m5 + 6 ∧ GV K d c H' v1 ∧ ∃ y6 y7 y8 y9 y10, σ = [some (.ref a), some (.ref d), some (.int (0 + i)), some (.ref l), some v1, some (.ref t2), y6, y7, y8, y9, y10], ?_, ?_⟩
    · refine ⟨.ref d, rfl, d, c, m5, 2, rfl, dk5, by omega, by omega, by decide, by decide, fun H6 r6 kp6 dk6 r60 r61 => ?_⟩
      have e16 := kp6.tup dk5 e15
      have i16 := i15.tps (kp6.tps dk5)
      refine ⟨rfl, _, rfl, ite2 (fun _ => ?_) (fun _ => ⟨m5 + 1, _, kp6, dk6, by omega, by omega, gv dk6 e16 i16 (by omega) ok1, _, _, _, _, _, rfl⟩)⟩
      refine ⟨.ref d, rfl, .ref t1, rfl, d, c, m5 + 1, t1, w1, p1, rfl, dk6, by omega, by omega, e16, i16, by omega, ok1, fun H7 v kp7 dk7 g => ?_⟩
      exact ⟨_, v, kp6.trans kp7, dk7, by omega, by omega, g, _, _, _, _, _, rfl⟩
    rintro σ H7 ⟨m7, v1, kp7, dk7, b70, b71, g1, y6, y7, y8, y9, y10, rfl⟩
    have e27 := kp7.tup dk5 e2
    have i27 := i2.tps (kp7.tps dk5)
    refine ⟨fun σ H' => ∃ m v2, Kp d c H7 H' ∧ Dk H' d c m ∧ m7 ≤ m ∧ m ≤ m7 + 6 ∧ GV K d c H' v2 ∧ ∃ y6 y7 y8 y9 y10, σ = [some (.ref a), some (.ref d), some (.int (0 + i)), some (.ref l), some v1, some v2, y6, y7, y8, y9, y10], ?_, ?_⟩
    · refine ⟨.ref d, rfl, d, c, m7, 2, rfl, dk7, by omega, by omega, by decide, by decide, fun H8 r8 kp8 dk8 r80 r81 => ?_⟩
      have e28 := kp8.tup dk7 e27
      have i28 := i27.tps (kp8.tps dk7)
      refine ⟨rfl, _, rfl, ite2 (fun _ => ?_) (fun _ => ⟨m7 + 1, _, kp8, dk8, by omega, by omega, gv dk8 e28 i28 (by omega) ok2, _, _, _, _, _, rfl⟩)⟩
      refine ⟨.ref d, rfl, .ref t2, rfl, d, c, m7 + 1, t2, w2, p2, rfl, dk8, by omega, by omega, e28, i28, by omega, ok2, fun H9 v kp9 dk9 g => ?_⟩
      exact ⟨_, v, kp8.trans kp9, dk9, by omega, by omega, g, _, _, _, _, _, rfl⟩
    rintro σ H9 ⟨m9, v2, kp9, dk9, b90, b91, g2, y6, y7, y8, y9, y10, rfl⟩
    obtain ⟨d1, hd1, fi1, wt1, de1⟩ := (g1.same (offP_kp kp9)).same offP_sub
    obtain ⟨d2, hd2, fi2, wt2, de2⟩ := g2.same offP_sub
    have sm1 : Sm 10000 5 d1 := ⟨fi1.shows, fi1.short, wt1, de1⟩
    have sm2 : Sm 10000 5 d2 := ⟨fi2.shows, fi2.short, wt2, de2⟩
    obtain ⟨dL, edL⟩ : ∃ dL : PyData, dL = .list [d1, d2] := ⟨_, rfl⟩
    have smL : Sm 20002 6 dL := by
      rw [edL]
      refine (Sm.lst (n := 10000) (dp := 5) (ds := [d1, d2]) fun z hz => ?_).mono (by show 2 * 10001 ≤ 20002; decide) (Nat.le_refl _)
      rcases List.mem_cons.mp hz with rfl | hz
      · exact sm1
      · rw [List.mem_singleton.mp hz]
        exact sm2
    refine ⟨v1, rfl, v2, rfl, by show 2 ≤ sizeLine; decide, fun k1 nk1 => ?_⟩
    have sA := same_new (o := .lst [v1, v2]) nk1
    have ek1 := upd_same (H := H9) (a := k1) (o := .lst [v1, v2])
    generalize upd H9 k1 (.lst [v1, v2]) = HA at *
    have dvL : Dv K HA (.ref k1) dL := by
      rw [edL]
      exact .lst ek1 (.cons (dv_same sA hd1) (.cons (dv_same sA hd2) .nil))
    refine ⟨.ref k1, dL, _, _, rfl, dvL, smL, by decide, by decide, ?_⟩
    have len1 : ∀ ds, d1 = .tuple ds → ds.length ≤ 900 := fun ds e => by
      subst e
      exact Nat.le_trans fi1.len (by decide)
    have smE := sm_err 24 len1
    refine ⟨v1, rfl, v2, rfl, v1, v2, d1, d2, rfl, dv_same sA hd1, dv_same sA hd2, fun ne HB L v sB hv eL => ?_, fun en ne HB L sB eL => ?_, fun en1 en2 HB p S so b1 b2 sB P => ?_⟩
    · -- bad targets
      have sAB := sA.trans sB
      refine ⟨v1, rfl, v1, d1, 24, rfl, dv_same sAB hd1, fun HC r1 sC hr1 => ?_⟩
      refine ⟨v2, rfl, v2, d2, 30, rfl, dv_same (sAB.trans sC) hd2, fun HD r2 sD hr2 => ?_⟩
      refine ⟨_, _, rfl, ?_⟩
      have sAD := sAB.trans (sC.trans sD)
      have hr1D := dv_same sD hr1
      have nn : noneB (errD 24 d1) = false := by
        rw [← Bool.not_eq_true, none_iff]
        exact ne
      refine ⟨fun σ H' => ∃ y7 y8 y9 y10, Same H9 H' ∧ σ = [some (.ref a), some (.ref d), some (.int (0 + i)), some (.ref l), some v1, some v2, some (.str dL.shown), y7, y8, y9, y10], ?_, ?_⟩
      · refine ⟨r1, rfl, rfl, _, rfl, ?_⟩
        rw [hr1D.isN, nn]
        refine iteT ?_
        refine ⟨by show 1 ≤ sizeLine; decide, fun l2 nl2 => ?_⟩
        have sE := same_new (o := .lst [.str "pieces"]) nl2
        have el2 := upd_same (H := HD) (a := l2) (o := .lst [.str "pieces"])
        generalize upd HD l2 (.lst [.str "pieces"]) = HE at *
        refine ⟨r1, rfl, by show 2 ≤ sizeLine; decide, fun l3 nl3 => ?_⟩
        have sF := same_new (o := .lst [.str "targets", r1]) nl3
        have el3 := upd_same (H := HE) (a := l3) (o := .lst [.str "targets", r1])
        generalize upd HE l3 (.lst [.str "targets", r1]) = HF at *
        refine ⟨by show 2 ≤ sizeLine; decide, fun l4 nl4 => ?_⟩
        have sG := same_new (o := .lst [.ref l2, .ref l3]) nl4
        have el4 := upd_same (H := HF) (a := l4) (o := .lst [.ref l2, .ref l3])
        generalize upd HF l4 (.lst [.ref l2, .ref l3]) = HG at *
        have sDG := sE.trans (sF.trans sG)
        refine ⟨r1, rfl, rfl, .inr ⟨_, rfl, ?_⟩⟩
        rw [hr1D.isN, nn]
        refine ⟨l4, _, 1, .ref l3, rfl, rfl, SqL.of el4, rfl, ?_⟩
        have eLG := sDG _ _ ((sC.trans sD) _ _ eL)
        refine ⟨.ref L, rfl, .ref L, .ty "list", _, _, _, rfl, .ty "list", .base (.lst eLG), kit_ty (a := "list") (b := "list") (r := true) (by decide +kernel), _, rfl, iteF ?_⟩
        obtain ⟨dE, edE⟩ : ∃ dE : PyData, dE = .list [.str "targets", errD 24 d1] := ⟨_, rfl⟩
        have smE2 : Sm 2002 4 dE := by
          rw [edE]
          refine (Sm.lst (n := 1000) (dp := 3) (ds := [.str "targets", errD 24 d1]) fun z hz => ?_).mono (by show 2 * 1001 ≤ 2002; decide) (Nat.le_refl _)
          rcases List.mem_cons.mp hz with rfl | hz
          · exact ⟨rfl, by decide +kernel, by decide +kernel, Nat.zero_le _⟩
          · rw [List.mem_singleton.mp hz]
            exact smE
        have dvE1 : Dv K HG (.ref L) dE := by
          rw [edE]
          exact .lst eLG (.cons (.str _) (.cons (dv_same (sC.trans (sD.trans sDG)) hv) .nil))
        have dvE2 : Dv K HG (.ref l3) dE := by
          rw [edE]
          exact .lst (sG _ _ el3) (.cons (.str _) (.cons (dv_same sDG hr1D) .nil))
        refine ⟨.ref L, rfl, .ref L, dE, _, _, rfl, dvE1, smE2, by decide, by decide, .ref l3, rfl, .ref l3, dE, _, _, rfl, dvE2, smE2, by decide, by decide, rfl, _, rfl, iteNS rfl ?_⟩
        exact ⟨_, _, _, _, sAD.trans sDG, rfl⟩
      · rintro σ HY ⟨y7, y8, y9, y10, sY, rfl⟩
        refine ⟨v1, rfl, v2, rfl, by show 2 ≤ sizeLine; decide, fun k2 nk2 => ?_⟩
        have sK := same_new (o := .lst [v1, v2]) nk2
        have ek2 := upd_same (H := HY) (a := k2) (o := .lst [v1, v2])
        generalize upd HY k2 (.lst [v1, v2]) = HZ at *
        have sYZ := sY.trans sK
        have dvM : Dv K HZ (.ref k2) dL := by
          rw [edL]
          exact .lst ek2 (.cons (dv_same sYZ hd1) (.cons (dv_same sYZ hd2) .nil))
        refine ⟨.ref k2, dL, _, _, rfl, dvM, smL, by decide, by decide, _, rfl, rfl, _, rfl, iteNS rfl ?_⟩
        exact ⟨⟨m9, dk9.kept sYZ, by omega, by omega⟩, _, _, _, _, _, _, _, _, _, rfl⟩
    · -- good targets, bad pieces
      have sAB := sA.trans sB
      refine ⟨v1, rfl, v1, d1, 24, rfl, dv_same sAB hd1, fun HC r1 sC hr1 => ?_⟩
      refine ⟨v2, rfl, v2, d2, 30, rfl, dv_same (sAB.trans sC) hd2, fun HD r2 sD hr2 => ?_⟩
      refine ⟨_, _, rfl, ?_⟩
      have sAD := sAB.trans (sC.trans sD)
      have hr1D := dv_same sD hr1
      rw [en] at hr1D
      cases hr1D
      have nn : noneB (errD 30 d2) = false := by
        rw [← Bool.not_eq_true, none_iff]
        exact ne
      refine ⟨fun σ H' => ∃ y7 y8 y9 y10, Same H9 H' ∧ σ = [some (.ref a), some (.ref d), some (.int (0 + i)), some (.ref l), some v1, some v2, some (.str dL.shown), y7, y8, y9, y10], ?_, ?_⟩
      · refine ⟨.non, rfl, rfl, _, rfl, iteF ?_⟩
        refine ⟨r2, rfl, rfl, _, rfl, ?_⟩
        rw [hr2.isN, nn]
        refine iteT ?_
        refine ⟨by show 1 ≤ sizeLine; decide, fun l2 nl2 => ?_⟩
        have sE := same_new (o := .lst [.str "pieces"]) nl2
        have el2 := upd_same (H := HD) (a := l2) (o := .lst [.str "pieces"])
        generalize upd HD l2 (.lst [.str "pieces"]) = HE at *
        refine ⟨.non, rfl, by show 2 ≤ sizeLine; decide, fun l3 nl3 => ?_⟩
        have sF := same_new (o := .lst [.str "targets", V.non]) nl3
        have el3 := upd_same (H := HE) (a := l3) (o := .lst [.str "targets", V.non])
        generalize upd HE l3 (.lst [.str "targets", V.non]) = HF at *
        refine ⟨by show 2 ≤ sizeLine; decide, fun l4 nl4 => ?_⟩
        have sG := same_new (o := .lst [.ref l2, .ref l3]) nl4
        have el4 := upd_same (H := HF) (a := l4) (o := .lst [.ref l2, .ref l3])
        generalize upd HF l4 (.lst [.ref l2, .ref l3]) = HG at *
        have sDG := sE.trans (sF.trans sG)
        refine ⟨.non, rfl, rfl, .inr ⟨_, rfl, ?_⟩⟩
        refine ⟨l4, _, 0, .ref l2, rfl, rfl, SqL.of el4, rfl, ?_⟩
        have eLG := sDG _ _ ((sC.trans sD) _ _ eL)
        refine ⟨.ref L, rfl, .ref L, .ty "list", _, _, _, rfl, .ty "list", .base (.lst eLG), kit_ty (a := "list") (b := "list") (r := true) (by decide +kernel), _, rfl, iteF ?_⟩
        obtain ⟨dE, edE⟩ : ∃ dE : PyData, dE = .list [.str "pieces"] := ⟨_, rfl⟩
        have smE2 : Sm 2002 4 dE := by
          rw [edE]
          refine (Sm.lst (n := 1000) (dp := 3) (ds := [.str "pieces"]) fun z hz => ?_).mono (by show 1 * 1001 ≤ 2002; decide) (Nat.le_refl _)
          rw [List.mem_singleton.mp hz]
          exact ⟨rfl, by decide +kernel, by decide +kernel, Nat.zero_le _⟩
        have dvE1 : Dv K HG (.ref L) dE := by
          rw [edE]
          exact .lst eLG (.cons (.str _) .nil)
        have dvE2 : Dv K HG (.ref l2) dE := by
          rw [edE]
          exact .lst ((sF.trans sG) _ _ el2) (.cons (.str _) .nil)
        refine ⟨.ref L, rfl, .ref L, dE, _, _, rfl, dvE1, smE2, by decide, by decide, .ref l2, rfl, .ref l2, dE, _, _, rfl, dvE2, smE2, by decide, by decide, rfl, _, rfl, iteNS rfl ?_⟩
        exact ⟨_, _, _, _, sAD.trans sDG, rfl⟩
      · rintro σ HY ⟨y7, y8, y9, y10, sY, rfl⟩
        refine ⟨v1, rfl, v2, rfl, by show 2 ≤ sizeLine; decide, fun k2 nk2 => ?_⟩
        have sK := same_new (o := .lst [v1, v2]) nk2
        have ek2 := upd_same (H := HY) (a := k2) (o := .lst [v1, v2])
        generalize upd HY k2 (.lst [v1, v2]) = HZ at *
        have sYZ := sY.trans sK
        have dvM : Dv K HZ (.ref k2) dL := by
          rw [edL]
          exact .lst ek2 (.cons (dv_same sYZ hd1) (.cons (dv_same sYZ hd2) .nil))
        refine ⟨.ref k2, dL, _, _, rfl, dvM, smL, by decide, by decide, _, rfl, rfl, _, rfl, iteNS rfl ?_⟩
        exact ⟨⟨m9, dk9.kept sYZ, by omega, by omega⟩, _, _, _, _, _, _, _, _, _, rfl⟩
    · -- a plan
      have sAB := sA.trans sB
      refine ⟨v1, rfl, v1, d1, 24, rfl, dv_same sAB hd1, fun HC r1 sC hr1 => ?_⟩
      refine ⟨v2, rfl, v2, d2, 30, rfl, dv_same (sAB.trans sC) hd2, fun HD r2 sD hr2 => ?_⟩
      refine ⟨_, _, rfl, ?_⟩
      have sAD := sAB.trans (sC.trans sD)
      have hr1D := dv_same sD hr1
      have hr2D := hr2
      rw [en1] at hr1D
      rw [en2] at hr2D
      cases hr1D
      cases hr2D
      have PD := P.same (sC.trans sD)
      obtain ⟨dx, _, _, _, _, hp, _⟩ := id PD.ex
      refine ⟨fun σ H' => ∃ y7 y8 y9 y10, Same H9 H' ∧ σ = [some (.ref a), some (.ref d), some (.int (0 + i)), some (.ref l), some v1, some v2, some (.str dL.shown), y7, y8, y9, y10], ?_, ?_⟩
      · refine ⟨.non, rfl, rfl, _, rfl, iteF ?_⟩
        refine ⟨.non, rfl, rfl, _, rfl, iteF ?_⟩
        refine ⟨.ref p, rfl, .ref p, .ty "list", _, _, _, rfl, .ty "list", .base (.ins hp T.cl_Plan T.is_Plan.1 T.is_Plan.2.1 T.is_Plan.2.2.1 T.is_Plan.2.2.2), kit_bltn (by decide +kernel) T.nl_Plan, _, rfl, iteF ?_⟩
        have hd1D := dv_same sAD hd1
        have hd2D := dv_same sAD hd2
        rw [b1] at hd1D
        rw [b2] at hd2D
        obtain ⟨x1, xs1, rfl, ex1, ix1⟩ := dv_row hd1D
        obtain ⟨x2, xs2, rfl, ex2, ix2⟩ := dv_row hd2D
        refine ⟨.ref p, rfl, .ref x1, rfl, .ref x2, rfl, by show 2 ≤ sizeLine; decide, fun l2 nl2 => ?_⟩
        have sE := same_new (o := .lst [V.ref x1, .ref x2]) nl2
        have el2 := upd_same (H := HD) (a := l2) (o := .lst [V.ref x1, .ref x2])
        generalize upd HD l2 (.lst [V.ref x1, .ref x2]) = HE at *
        refine ⟨by show 0 ≤ sizeLine; decide, fun l3 nl3 => ?_⟩
        have sF := same_new (o := .lst ([] : List V)) nl3
        have el3 := upd_same (H := HE) (a := l3) (o := .lst ([] : List V))
        generalize upd HE l3 (.lst ([] : List V)) = HF at *
        have sDF := sE.trans sF
        refine ⟨p, l2, l3, [], S, [], [], rfl, PD.same sDF, so, ⟨x1, x2, xs1, xs2, sF _ _ el2, sDF _ _ ex1, ix1.same sDF, sDF _ _ ex2, ix2.same sDF⟩, el3, .nil, by decide, fun _ h => (nomatch h), fun HG sG => ?_⟩
        refine ⟨_, rfl, iteF ?_⟩
        exact ⟨_, _, _, _, sAD.trans (sDF.trans sG), rfl⟩
      · rintro σ HY ⟨y7, y8, y9, y10, sY, rfl⟩
        refine ⟨v1, rfl, v2, rfl, by show 2 ≤ sizeLine; decide, fun k2 nk2 => ?_⟩
        have sK := same_new (o := .lst [v1, v2]) nk2
        have ek2 := upd_same (H := HY) (a := k2) (o := .lst [v1, v2])
        generalize upd HY k2 (.lst [v1, v2]) = HZ at *
        have sYZ := sY.trans sK
        have dvM : Dv K HZ (.ref k2) dL := by
          rw [edL]
          exact .lst ek2 (.cons (dv_same sYZ hd1) (.cons (dv_same sYZ hd2) .nil))
        refine ⟨.ref k2, dL, _, _, rfl, dvM, smL, by decide, by decide, _, rfl, rfl, _, rfl, iteNS rfl ?_⟩
        exact ⟨⟨m9, dk9.kept sYZ, by omega, by omega⟩, _, _, _, _, _, _, _, _, _, rfl⟩

end
theorem all_mk {l : PySem.W.OpenLaw} {w : World} {K : PySem.W.Frag} {h : Heap} {mg : Str → Option Value} {fa f1 f2 f3 f4 f5 f6 f7 f8 f9 f10 f11 f12 f13 f14 f15 f16 f17 f18 f19 f20 f21 f22 f23 f24 f25 f26 C_Plan X_BadTargets X_SpanError X_BadPieces X_BadInterval X_BadEdits kD20 kD21 : Addr} (X : K.In h) (G : h.Ns mainGlobals mg) (hfa : mg "law" = some (.ref fa))
    {od1 an1 od2 an2 od3 an3 od4 an4 od5 an5 od6 an6 od7 an7 od8 an8 od9 an9 od10 an10 od11 an11 od12 an12 od13 an13 od14 an14 od15 an15 od16 an16 od17 an17 od18 an18 od19 an19 od20 an20 od21 an21 od22 an22 od23 an23 od24 an24 od25 an25 od26 an26 : Option Addr} {sl1 sl2 sl3 sl4 sl5 sl6 sl7 sl8 sl9 sl10 sl11 sl12 sl13 sl14 sl15 sl16 sl17 sl18 sl19 sl20 sl21 sl22 sl23 sl24 sl25 sl26 : Array (Option Value)} {oc1 kV1 dc1 pm1 cd1 ct1 oc2 kV2 dc2 pm2 cd2 ct2 oc3 kV3 dc3 pm3 cd3 ct3 oc4 kV4 dc4 pm4 cd4 ct4 oc5 kV5 dc5 pm5 cd5 ct5 oc6 kV6 dc6 pm6 cd6 ct6 oc7 kV7 dc7 pm7 cd7 ct7 oc8 kV8 dc8 pm8 cd8 ct8 oc9 kV9 dc9 pm9 cd9 ct9 oc10 kV10 dc10 pm10 cd10 ct10 oc11 kV11 dc11 pm11 cd11 ct11 oc12 kV12 dc12 pm12 cd12 ct12 oc13 kV13 dc13 pm13 cd13 ct13 oc14 kV14 dc14 pm14 cd14 ct14 oc15 kV15 dc15 pm15 cd15 ct15 oc16 kV16 dc16 pm16 cd16 ct16 oc17 kV17 dc17 pm17 cd17 ct17 oc18 kV18 dc18 pm18 cd18 ct18 oc19 kV19 dc19 pm19 cd19 ct19 oc20 dc20 pm20 cd20 ct20 oc21 dc21 pm21 cd21 ct21 oc22 kV22 dc22 pm22 cd22 ct22 oc23 kV23 dc23 pm23 cd23 ct23 oc24 kV24 dc24 pm24 cd24 ct24 oc25 kV25 dc25 pm25 cd25 ct25 oc26 kV26 dc26 pm26 cd26 ct26 : Value} {tk0 tk1 tk2 : Tok}
    (a1 : PySem.W.nsIn K mainGlobals "is_number" = some (some (.ref f1))) (l1 : K.lookup f1 = some ⟨oc1, od1, .func (PySem.W.fnOf "is_number" "is_number" (defArgs s_is_number) (defBody s_is_number) (defScope s_is_number) .none kV1 dc1 pm1 an1 cd1 ct1), sl1⟩) (c1 : PySem.W.codeIn K cd1 "is_number" = true) (k1 : PySem.W.keepIn K (.ref f1) = true)
    (a2 : PySem.W.nsIn K mainGlobals "is_position" = some (some (.ref f2))) (l2 : K.lookup f2 = some ⟨oc2, od2, .func (PySem.W.fnOf "is_position" "is_position" (defArgs s_is_position) (defBody s_is_position) (defScope s_is_position) .none kV2 dc2 pm2 an2 cd2 ct2), sl2⟩) (c2 : PySem.W.codeIn K cd2 "is_position" = true) (k2 : PySem.W.keepIn K (.ref f2) = true)
    (a3 : PySem.W.nsIn K mainGlobals "is_tuple_of" = some (some (.ref f3))) (l3 : K.lookup f3 = some ⟨oc3, od3, .func (PySem.W.fnOf "is_tuple_of" "is_tuple_of" (defArgs s_is_tuple_of) (defBody s_is_tuple_of) (defScope s_is_tuple_of) .none kV3 dc3 pm3 an3 cd3 ct3), sl3⟩) (c3 : PySem.W.codeIn K cd3 "is_tuple_of" = true) (k3 : PySem.W.keepIn K (.ref f3) = true)
    (a4 : PySem.W.nsIn K mainGlobals "is_interval" = some (some (.ref f4))) (l4 : K.lookup f4 = some ⟨oc4, od4, .func (PySem.W.fnOf "is_interval" "is_interval" (defArgs s_is_interval) (defBody s_is_interval) (defScope s_is_interval) .none kV4 dc4 pm4 an4 cd4 ct4), sl4⟩) (c4 : PySem.W.codeIn K cd4 "is_interval" = true) (k4 : PySem.W.keepIn K (.ref f4) = true)
    (a5 : PySem.W.nsIn K mainGlobals "ascending_error" = some (some (.ref f5))) (l5 : K.lookup f5 = some ⟨oc5, od5, .func (PySem.W.fnOf "ascending_error" "ascending_error" (defArgs s_ascending_error) (defBody s_ascending_error) (defScope s_ascending_error) .none kV5 dc5 pm5 an5 cd5 ct5), sl5⟩) (c5 : PySem.W.codeIn K cd5 "ascending_error" = true) (k5 : PySem.W.keepIn K (.ref f5) = true)
    (a6 : PySem.W.nsIn K mainGlobals "targets_error" = some (some (.ref f6))) (l6 : K.lookup f6 = some ⟨oc6, od6, .func (PySem.W.fnOf "targets_error" "targets_error" (defArgs s_targets_error) (defBody s_targets_error) (defScope s_targets_error) .none kV6 dc6 pm6 an6 cd6 ct6), sl6⟩) (c6 : PySem.W.codeIn K cd6 "targets_error" = true) (k6 : PySem.W.keepIn K (.ref f6) = true)
    (a7 : PySem.W.nsIn K mainGlobals "is_pieces" = some (some (.ref f7))) (l7 : K.lookup f7 = some ⟨oc7, od7, .func (PySem.W.fnOf "is_pieces" "is_pieces" (defArgs s_is_pieces) (defBody s_is_pieces) (defScope s_is_pieces) .none kV7 dc7 pm7 an7 cd7 ct7), sl7⟩) (c7 : PySem.W.codeIn K cd7 "is_pieces" = true) (k7 : PySem.W.keepIn K (.ref f7) = true)
    (a8 : PySem.W.nsIn K mainGlobals "_law_deck" = some (some (.ref f8))) (l8 : K.lookup f8 = some ⟨oc8, od8, .func (PySem.W.fnOf "_law_deck" "_law_deck" (defArgs s_law_deck) (defBody s_law_deck) (defScope s_law_deck) .none kV8 dc8 pm8 an8 cd8 ct8), sl8⟩) (c8 : PySem.W.codeIn K cd8 "_law_deck" = true) (k8 : PySem.W.keepIn K (.ref f8) = true)
    (a9 : PySem.W.nsIn K mainGlobals "_law_draw" = some (some (.ref f9))) (l9 : K.lookup f9 = some ⟨oc9, od9, .func (PySem.W.fnOf "_law_draw" "_law_draw" (defArgs s_law_draw) (defBody s_law_draw) (defScope s_law_draw) .none kV9 dc9 pm9 an9 cd9 ct9), sl9⟩) (c9 : PySem.W.codeIn K cd9 "_law_draw" = true) (k9 : PySem.W.keepIn K (.ref f9) = true)
    (a10 : PySem.W.nsIn K mainGlobals "_law_line" = some (some (.ref f10))) (l10 : K.lookup f10 = some ⟨oc10, od10, .func (PySem.W.fnOf "_law_line" "_law_line" (defArgs s_law_line) (defBody s_law_line) (defScope s_law_line) .none kV10 dc10 pm10 an10 cd10 ct10), sl10⟩) (c10 : PySem.W.codeIn K cd10 "_law_line" = true) (k10 : PySem.W.keepIn K (.ref f10) = true)
    (a11 : PySem.W.nsIn K mainGlobals "_law_interval" = some (some (.ref f11))) (l11 : K.lookup f11 = some ⟨oc11, od11, .func (PySem.W.fnOf "_law_interval" "_law_interval" (defArgs s_law_interval) (defBody s_law_interval) (defScope s_law_interval) .none kV11 dc11 pm11 an11 cd11 ct11), sl11⟩) (c11 : PySem.W.codeIn K cd11 "_law_interval" = true) (k11 : PySem.W.keepIn K (.ref f11) = true)
    (a12 : PySem.W.nsIn K mainGlobals "_law_intervals" = some (some (.ref f12))) (l12 : K.lookup f12 = some ⟨oc12, od12, .func (PySem.W.fnOf "_law_intervals" "_law_intervals" (defArgs s_law_intervals) (defBody s_law_intervals) (defScope s_law_intervals) .none kV12 dc12 pm12 an12 cd12 ct12), sl12⟩) (c12 : PySem.W.codeIn K cd12 "_law_intervals" = true) (k12 : PySem.W.keepIn K (.ref f12) = true)
    (a13 : PySem.W.nsIn K mainGlobals "_law_right" = some (some (.ref f13))) (l13 : K.lookup f13 = some ⟨oc13, od13, .func (PySem.W.fnOf "_law_right" "_law_right" (defArgs s_law_right) (defBody s_law_right) (defScope s_law_right) .none kV13 dc13 pm13 an13 cd13 ct13), sl13⟩) (c13 : PySem.W.codeIn K cd13 "_law_right" = true) (k13 : PySem.W.keepIn K (.ref f13) = true)
    (a14 : PySem.W.nsIn K mainGlobals "_law_is_interval" = some (some (.ref f14))) (l14 : K.lookup f14 = some ⟨oc14, od14, .func (PySem.W.fnOf "_law_is_interval" "_law_is_interval" (defArgs s_law_is_interval) (defBody s_law_is_interval) (defScope s_law_is_interval) .none kV14 dc14 pm14 an14 cd14 ct14), sl14⟩) (c14 : PySem.W.codeIn K cd14 "_law_is_interval" = true) (k14 : PySem.W.keepIn K (.ref f14) = true)
    (a15 : PySem.W.nsIn K mainGlobals "_law_error" = some (some (.ref f15))) (l15 : K.lookup f15 = some ⟨oc15, od15, .func (PySem.W.fnOf "_law_error" "_law_error" (defArgs s_law_error) (defBody s_law_error) (defScope s_law_error) .none kV15 dc15 pm15 an15 cd15 ct15), sl15⟩) (c15 : PySem.W.codeIn K cd15 "_law_error" = true) (k15 : PySem.W.keepIn K (.ref f15) = true)
    (a16 : PySem.W.nsIn K mainGlobals "_law_changed" = some (some (.ref f16))) (l16 : K.lookup f16 = some ⟨oc16, od16, .func (PySem.W.fnOf "_law_changed" "_law_changed" (defArgs s_law_changed) (defBody s_law_changed) (defScope s_law_changed) .none kV16 dc16 pm16 an16 cd16 ct16), sl16⟩) (c16 : PySem.W.codeIn K cd16 "_law_changed" = true) (k16 : PySem.W.keepIn K (.ref f16) = true)
    (a17 : PySem.W.nsIn K mainGlobals "_law_made" = some (some (.ref f17))) (l17 : K.lookup f17 = some ⟨oc17, od17, .func (PySem.W.fnOf "_law_made" "_law_made" (defArgs s_law_made) (defBody s_law_made) (defScope s_law_made) .none kV17 dc17 pm17 an17 cd17 ct17), sl17⟩) (c17 : PySem.W.codeIn K cd17 "_law_made" = true) (k17 : PySem.W.keepIn K (.ref f17) = true)
    (a18 : PySem.W.nsIn K mainGlobals "law" = some (some (.ref f18))) (l18 : K.lookup f18 = some ⟨oc18, od18, .func (PySem.W.fnOf "law" "law" (defArgs s_law) (defBody s_law) (defScope s_law) .none kV18 dc18 pm18 an18 cd18 ct18), sl18⟩) (c18 : PySem.W.codeIn K cd18 "law" = true) (k18 : PySem.W.keepIn K (.ref f18) = true)
    (a19 : PySem.W.findIn K (.ref C_Plan) "__init__" = some (some (.ref f19))) (i19 : PySem.W.isFn K (.ref f19) = true) (l19 : K.lookup f19 = some ⟨oc19, od19, .func (PySem.W.fnOf "__init__" "Plan.__init__" (defArgs s_Plan_init) (defBody s_Plan_init) (defScope s_Plan_init) .none kV19 dc19 pm19 an19 cd19 ct19), sl19⟩) (c19 : PySem.W.codeIn K cd19 "Plan.__init__" = true) (k19 : PySem.W.keepIn K (.ref f19) = true)
    (a20 : PySem.W.findIn K (.ref C_Plan) "targets" = some (some (.ref f20))) (i20 : PySem.W.isFn K (.ref f20) = true) (l20 : K.lookup f20 = some ⟨oc20, od20, .func (PySem.W.fnOf "targets" "Plan.targets" (defArgs s_Plan_targets) (defBody s_Plan_targets) (defScope s_Plan_targets) .none (.ref kD20) dc20 pm20 an20 cd20 ct20), sl20⟩) (c20 : PySem.W.codeIn K cd20 "Plan.targets" = true) (k20 : PySem.W.keepIn K (.ref f20) = true)
    (q20 : PySem.W.nsIn K kD20 "version" = some (some .none))
    (a21 : PySem.W.findIn K (.ref C_Plan) "pieces" = some (some (.ref f21))) (i21 : PySem.W.isFn K (.ref f21) = true) (l21 : K.lookup f21 = some ⟨oc21, od21, .func (PySem.W.fnOf "pieces" "Plan.pieces" (defArgs s_Plan_pieces) (defBody s_Plan_pieces) (defScope s_Plan_pieces) .none (.ref kD21) dc21 pm21 an21 cd21 ct21), sl21⟩) (c21 : PySem.W.codeIn K cd21 "Plan.pieces" = true) (k21 : PySem.W.keepIn K (.ref f21) = true)
    (q21 : PySem.W.nsIn K kD21 "version" = some (some .none))
    (a22 : PySem.W.findIn K (.ref C_Plan) "edits" = some (some (.ref f22))) (i22 : PySem.W.isFn K (.ref f22) = true) (l22 : K.lookup f22 = some ⟨oc22, od22, .func (PySem.W.fnOf "edits" "Plan.edits" (defArgs s_Plan_edits) (defBody s_Plan_edits) (defScope s_Plan_edits) .none kV22 dc22 pm22 an22 cd22 ct22), sl22⟩) (c22 : PySem.W.codeIn K cd22 "Plan.edits" = true) (k22 : PySem.W.keepIn K (.ref f22) = true)
    (a23 : PySem.W.findIn K (.ref C_Plan) "state_at" = some (some (.ref f23))) (i23 : PySem.W.isFn K (.ref f23) = true) (l23 : K.lookup f23 = some ⟨oc23, od23, .func (PySem.W.fnOf "state_at" "Plan.state_at" (defArgs s_Plan_state_at) (defBody s_Plan_state_at) (defScope s_Plan_state_at) .none kV23 dc23 pm23 an23 cd23 ct23), sl23⟩) (c23 : PySem.W.codeIn K cd23 "Plan.state_at" = true) (k23 : PySem.W.keepIn K (.ref f23) = true)
    (a24 : PySem.W.findIn K (.ref C_Plan) "__len__" = some (some (.ref f24))) (i24 : PySem.W.isFn K (.ref f24) = true) (l24 : K.lookup f24 = some ⟨oc24, od24, .func (PySem.W.fnOf "__len__" "Plan.__len__" (defArgs s_Plan_len) (defBody s_Plan_len) (defScope s_Plan_len) .none kV24 dc24 pm24 an24 cd24 ct24), sl24⟩) (c24 : PySem.W.codeIn K cd24 "Plan.__len__" = true) (k24 : PySem.W.keepIn K (.ref f24) = true)
    (a25 : PySem.W.findIn K (.ref C_Plan) "__str__" = some (some (.ref f25))) (i25 : PySem.W.isFn K (.ref f25) = true) (l25 : K.lookup f25 = some ⟨oc25, od25, .func (PySem.W.fnOf "__str__" "Plan.__str__" (defArgs s_Plan_str) (defBody s_Plan_str) (defScope s_Plan_str) .none kV25 dc25 pm25 an25 cd25 ct25), sl25⟩) (c25 : PySem.W.codeIn K cd25 "Plan.__str__" = true) (k25 : PySem.W.keepIn K (.ref f25) = true)
    (a26 : PySem.W.findIn K (.ref X_BadTargets) "__init__" = some (some (.ref f26))) (i26 : PySem.W.isFn K (.ref f26) = true) (l26 : K.lookup f26 = some ⟨oc26, od26, .func (PySem.W.fnOf "__init__" "BadTargets.__init__" (defArgs s_BadTargets_init) (defBody s_BadTargets_init) (defScope s_BadTargets_init) .none kV26 dc26 pm26 an26 cd26 ct26), sl26⟩) (c26 : PySem.W.codeIn K cd26 "BadTargets.__init__" = true) (k26 : PySem.W.keepIn K (.ref f26) = true)
    (aC_Plan : PySem.W.nsIn K mainGlobals "Plan" = some (some (.ref C_Plan))) (pg_Plan : PySem.W.plainGet K C_Plan Str.empty = true) (hd_Plan : PySem.W.hasDictIn K C_Plan = true) (po_Plan : PySem.W.plainOver K C_Plan = true) (sa_Plan : PySem.W.findIn K (.ref C_Plan) "__setattr__" = some (some (.builtin "object.__setattr__"))) (mk_Plan : PySem.W.makesIn K C_Plan = true) (kc_Plan : PySem.W.keepIn K (.ref C_Plan) = true) (n_states_Plan : PySem.W.findIn K (.ref C_Plan) "states" = some none) (n_done_Plan : PySem.W.findIn K (.ref C_Plan) "done" = some none) (n_busy_Plan : PySem.W.findIn K (.ref C_Plan) "busy" = some none) (ia_Plan : PySem.W.findIn K (.ref C_Plan) "__class__" = some (some (.builtin "object.__class__"))) (ib_Plan : PySem.W.specialIn K (.builtin "object.__class__") "__get__" = some (some (.builtin "getset_descriptor.__get__"))) (it_Plan : PySem.W.takesIn K (.builtin "object.__class__") = some true) (im_Plan : PySem.W.mroIn K C_Plan (.type "object") = some true) (nl_Plan : PySem.W.subIn K (.ref C_Plan) (.type "list") = some false)
    {nm_BadTargets qn_BadTargets : Str} {N_BadTargets : Addr} {bs_BadTargets bm_BadTargets sb_BadTargets : List Value} {sn_BadTargets : List Str} {ab_BadTargets : Bool} {co_BadTargets : Option Bool} {dd_BadTargets : Option Addr} {m0_BadTargets m1_BadTargets m2_BadTargets m3_BadTargets m5_BadTargets : Option Value}
    (aX_BadTargets : PySem.W.nsIn K mainGlobals "BadTargets" = some (some (.ref X_BadTargets))) (iX_BadTargets : PySem.W.isClsIn K X_BadTargets = true) (tX_BadTargets : PySem.W.typeIn K (.ref X_BadTargets) = some (.type "type")) (bX_BadTargets : PySem.W.subIn K (.ref X_BadTargets) (.type "BaseException") = some true) (xL_BadTargets : K.lookup X_BadTargets = some (excClassObj nm_BadTargets qn_BadTargets X_BadTargets N_BadTargets bs_BadTargets bm_BadTargets true sn_BadTargets sb_BadTargets ab_BadTargets co_BadTargets dd_BadTargets m0_BadTargets m1_BadTargets m2_BadTargets m3_BadTargets m5_BadTargets "ValueError.__new__")) (rL_BadTargets : PySem.HandSPX.refsVE bm_BadTargets = true) (sX_BadTargets : PySem.W.findIn K (.ref X_BadTargets) "__setattr__" = some (some (.builtin "object.__setattr__"))) (kX_BadTargets : PySem.W.keepIn K (.ref X_BadTargets) = true) (nX_BadTargets : PySem.W.findIn K (.ref X_BadTargets) "error" = some none) (fX_BadTargets : PySem.W.typeIn K (.ref f26) = some (.type "function")) (gX_BadTargets : PySem.W.findIn K (.ref X_BadTargets) "__getattribute__" = some (some (.builtin "BaseException.__getattribute__"))) (hX_BadTargets : PySem.W.findIn K (.ref X_BadTargets) "__getattr__" = some none) (dX_BadTargets : PySem.W.hasDictIn K X_BadTargets = true) (cX_BadTargets : PySem.W.findIn K (.ref X_BadTargets) "__class__" = some (some (.builtin "object.__class__"))) (eX_BadTargets : PySem.W.specialIn K (.builtin "object.__class__") "__get__" = some (some (.builtin "getset_descriptor.__get__"))) (uX_BadTargets : PySem.W.takesIn K (.builtin "object.__class__") = some true) (mX_BadTargets : PySem.W.mroIn K X_BadTargets (.type "object") = some true) (vX_BadTargets : PySem.W.subIn K (.ref X_BadTargets) (.type "ValueError") = some true) (wX_BadTargets : PySem.W.subIn K (.ref X_BadTargets) (.type "LookupError") = some false)
    (aX_SpanError : PySem.W.nsIn K mainGlobals "SpanError" = some (some (.ref X_SpanError))) (iX_SpanError : PySem.W.isClsIn K X_SpanError = true) (tX_SpanError : PySem.W.typeIn K (.ref X_SpanError) = some (.type "type")) (bX_SpanError : PySem.W.subIn K (.ref X_SpanError) (.type "BaseException") = some true)
    (aX_BadPieces : PySem.W.nsIn K mainGlobals "BadPieces" = some (some (.ref X_BadPieces))) (iX_BadPieces : PySem.W.isClsIn K X_BadPieces = true) (tX_BadPieces : PySem.W.typeIn K (.ref X_BadPieces) = some (.type "type")) (bX_BadPieces : PySem.W.subIn K (.ref X_BadPieces) (.type "BaseException") = some true) (xX_BadPieces : PySem.W.excIn K X_BadPieces bmVE "ValueError.__new__" = true) (kX_BadPieces : PySem.W.keepIn K (.ref X_BadPieces) = true) (gX_BadPieces : PySem.W.findIn K (.ref X_BadPieces) "__getattribute__" = some (some (.builtin "BaseException.__getattribute__"))) (hX_BadPieces : PySem.W.findIn K (.ref X_BadPieces) "__getattr__" = some none) (dX_BadPieces : PySem.W.hasDictIn K X_BadPieces = true) (cX_BadPieces : PySem.W.findIn K (.ref X_BadPieces) "__class__" = some (some (.builtin "object.__class__"))) (eX_BadPieces : PySem.W.specialIn K (.builtin "object.__class__") "__get__" = some (some (.builtin "getset_descriptor.__get__"))) (uX_BadPieces : PySem.W.takesIn K (.builtin "object.__class__") = some true) (mX_BadPieces : PySem.W.mroIn K X_BadPieces (.type "object") = some true) (vX_BadPieces : PySem.W.subIn K (.ref X_BadPieces) (.type "ValueError") = some true)
    (aX_BadInterval : PySem.W.nsIn K mainGlobals "BadInterval" = some (some (.ref X_BadInterval))) (iX_BadInterval : PySem.W.isClsIn K X_BadInterval = true) (tX_BadInterval : PySem.W.typeIn K (.ref X_BadInterval) = some (.type "type")) (bX_BadInterval : PySem.W.subIn K (.ref X_BadInterval) (.type "BaseException") = some true)
    (aX_BadEdits : PySem.W.nsIn K mainGlobals "BadEdits" = some (some (.ref X_BadEdits))) (iX_BadEdits : PySem.W.isClsIn K X_BadEdits = true) (tX_BadEdits : PySem.W.typeIn K (.ref X_BadEdits) = some (.type "type")) (bX_BadEdits : PySem.W.subIn K (.ref X_BadEdits) (.type "BaseException") = some true)
    (sX_BadTargets_SpanError : PySem.W.subIn K (.ref X_BadTargets) (.ref X_SpanError) = some true)
    (sX_BadTargets_BadPieces : PySem.W.subIn K (.ref X_BadTargets) (.ref X_BadPieces) = some false)
    (sX_BadTargets_BadInterval : PySem.W.subIn K (.ref X_BadTargets) (.ref X_BadInterval) = some false)
    (sX_BadTargets_BadEdits : PySem.W.subIn K (.ref X_BadTargets) (.ref X_BadEdits) = some false)
    (sX_BadPieces_SpanError : PySem.W.subIn K (.ref X_BadPieces) (.ref X_SpanError) = some true)
    (sX_BadPieces_BadTargets : PySem.W.subIn K (.ref X_BadPieces) (.ref X_BadTargets) = some false)
    (sX_BadPieces_BadInterval : PySem.W.subIn K (.ref X_BadPieces) (.ref X_BadInterval) = some false)
    (sX_BadPieces_BadEdits : PySem.W.subIn K (.ref X_BadPieces) (.ref X_BadEdits) = some false)
    (y0 : PySem.W.nsIn K mainGlobals "LAST_POSITION" = some (some (.int 1000000000000 tk0))) (y1 : PySem.W.nsIn K mainGlobals "MAX_TARGETS" = some (some (.int 24 tk1))) (y2 : PySem.W.nsIn K mainGlobals "MAX_PIECES" = some (some (.int 30 tk2))) (z0 : PySem.W.nsIn K mainGlobals "abs" = some none) (z1 : PySem.W.nsIn K mainGlobals "bool" = some none) (z2 : PySem.W.nsIn K mainGlobals "enumerate" = some none) (z3 : PySem.W.nsIn K mainGlobals "int" = some none) (z4 : PySem.W.nsIn K mainGlobals "isinstance" = some none) (z5 : PySem.W.nsIn K mainGlobals "len" = some none) (z6 : PySem.W.nsIn K mainGlobals "list" = some none) (z7 : PySem.W.nsIn K mainGlobals "range" = some none) (z8 : PySem.W.nsIn K mainGlobals "repr" = some none) (z9 : PySem.W.nsIn K mainGlobals "set" = some none) (z10 : PySem.W.nsIn K mainGlobals "sorted" = some none) (z11 : PySem.W.nsIn K mainGlobals "str" = some none) (z12 : PySem.W.nsIn K mainGlobals "tuple" = some none) :
    ∃ fd : FuncData, (∀ (s : Shared) (v : Value), BindsTo s fd ⟨[v], []⟩ [("_law_script", v)]) ∧ ∀ base : Heap, K.In base → base.Ns mainGlobals mg → (∃ mm, base.Ns sysModules mm) → FnG l.prog w K mg base 10 fa fd ["_law_script"] (sp_law K) := by
  have e := hfa.symm.trans (PySem.W.mg_of X G a18)
  cases e
  have F1 := fun_mk (st := s_is_number) l1 c1 k1
  have b1 := F1.binds (ps := ["value"]) fun _ _ _ _ _ _ us hl => match us, hl with | [_], _ => rfl
  have F2 := fun_mk (st := s_is_position) l2 c2 k2
  have b2 := F2.binds (ps := ["value"]) fun _ _ _ _ _ _ us hl => match us, hl with | [_], _ => rfl
  have F3 := fun_mk (st := s_is_tuple_of) l3 c3 k3
  have b3 := F3.binds (ps := ["value", "length"]) fun _ _ _ _ _ _ us hl => match us, hl with | [_, _], _ => rfl
  have F4 := fun_mk (st := s_is_interval) l4 c4 k4
  have b4 := F4.binds (ps := ["value"]) fun _ _ _ _ _ _ us hl => match us, hl with | [_], _ => rfl
  have F5 := fun_mk (st := s_ascending_error) l5 c5 k5
  have b5 := F5.binds (ps := ["value", "most"]) fun _ _ _ _ _ _ us hl => match us, hl with | [_, _], _ => rfl
  have F6 := fun_mk (st := s_targets_error) l6 c6 k6
  have b6 := F6.binds (ps := ["value"]) fun _ _ _ _ _ _ us hl => match us, hl with | [_], _ => rfl
  have F7 := fun_mk (st := s_is_pieces) l7 c7 k7
  have b7 := F7.binds (ps := ["value"]) fun _ _ _ _ _ _ us hl => match us, hl with | [_], _ => rfl
  have F8 := fun_mk (st := s_law_deck) l8 c8 k8
  have b8 := F8.binds (ps := ["_law_script"]) fun _ _ _ _ _ _ us hl => match us, hl with | [_], _ => rfl
  have F9 := fun_mk (st := s_law_draw) l9 c9 k9
  have b9 := F9.binds (ps := ["_law_deck_here", "_law_many"]) fun _ _ _ _ _ _ us hl => match us, hl with | [_, _], _ => rfl
  have F10 := fun_mk (st := s_law_line) l10 c10 k10
  have b10 := F10.binds (ps := ["_law_deck_here", "_law_most"]) fun _ _ _ _ _ _ us hl => match us, hl with | [_, _], _ => rfl
  have F11 := fun_mk (st := s_law_interval) l11 c11 k11
  have b11 := F11.binds (ps := ["_law_deck_here", "_law_line_here"]) fun _ _ _ _ _ _ us hl => match us, hl with | [_, _], _ => rfl
  have F12 := fun_mk (st := s_law_intervals) l12 c12 k12
  have b12 := F12.binds (ps := ["_law_deck_here", "_law_line_here", "_law_most"]) fun _ _ _ _ _ _ us hl => match us, hl with | [_, _, _], _ => rfl
  have F13 := fun_mk (st := s_law_right) l13 c13 k13
  have b13 := F13.binds (ps := ["_law_plan", "_law_state", "_law_edits"]) fun _ _ _ _ _ _ us hl => match us, hl with | [_, _, _], _ => rfl
  have F14 := fun_mk (st := s_law_is_interval) l14 c14 k14
  have b14 := F14.binds (ps := ["_law_value"]) fun _ _ _ _ _ _ us hl => match us, hl with | [_], _ => rfl
  have F15 := fun_mk (st := s_law_error) l15 c15 k15
  have b15 := F15.binds (ps := ["_law_value", "_law_most"]) fun _ _ _ _ _ _ us hl => match us, hl with | [_, _], _ => rfl
  have F16 := fun_mk (st := s_law_changed) l16 c16 k16
  have b16 := F16.binds (ps := ["_law_deck_here", "_law_intervals_here"]) fun _ _ _ _ _ _ us hl => match us, hl with | [_, _], _ => rfl
  have F17 := fun_mk (st := s_law_made) l17 c17 k17
  have b17 := F17.binds (ps := ["_law_targets", "_law_pieces"]) fun _ _ _ _ _ _ us hl => match us, hl with | [_, _], _ => rfl
  have F18 := fun_mk (st := s_law) l18 c18 k18
  have b18 := F18.binds (ps := ["_law_script"]) fun _ _ _ _ _ _ us hl => match us, hl with | [_], _ => rfl
  have F19 := fun_mk (st := s_Plan_init) l19 c19 k19
  have b19 := F19.binds (ps := ["self", "targets", "pieces"]) fun _ _ _ _ _ _ us hl => match us, hl with | [_, _, _], _ => rfl
  have F20 : FunD K "targets" "Plan.targets" (defArgs s_Plan_targets) (defBody s_Plan_targets) (defScope s_Plan_targets) [] [("version", V.non)] f20 _ := ⟨⟨oc20, od20, .none, .ref kD20, dc20, pm20, an20, cd20, ct20, sl20, rfl, l20, c20, .inl ⟨rfl, rfl⟩, .inr ⟨kD20, rfl, fun q hq => by rw [List.mem_singleton.mp hq]; exact ⟨.none, q20, rfl⟩⟩⟩, k20⟩
  have b20 := F20.binds0 (ps := ["self", "version"]) 1 (fun z => nomatch z) rfl fun D _ _ _ _ _ us ks h1 h2 => match us, ks, h1, h2 with | [_], [_], _, _ => ⟨_, _, _, _, _, _, rfl, rfl, rfl⟩
  have kb20 := F20.kbinds0 (ps := ["self", "version"]) 1 ["version"] [] (fun us _ ws => us ++ ws) (fun z => nomatch z) (fun q hq => nomatch hq) (fun r1 _ r3 => r1.append r3) fun D _ _ _ _ _ us mv ws h1 h2 h3 => match us, mv, ws, h1, h2, h3 with | [_], [], [_], _, _, _ => rfl
  have F21 : FunD K "pieces" "Plan.pieces" (defArgs s_Plan_pieces) (defBody s_Plan_pieces) (defScope s_Plan_pieces) [] [("version", V.non)] f21 _ := ⟨⟨oc21, od21, .none, .ref kD21, dc21, pm21, an21, cd21, ct21, sl21, rfl, l21, c21, .inl ⟨rfl, rfl⟩, .inr ⟨kD21, rfl, fun q hq => by rw [List.mem_singleton.mp hq]; exact ⟨.none, q21, rfl⟩⟩⟩, k21⟩
  have b21 := F21.binds0 (ps := ["self", "version"]) 1 (fun z => nomatch z) rfl fun D _ _ _ _ _ us ks h1 h2 => match us, ks, h1, h2 with | [_], [_], _, _ => ⟨_, _, _, _, _, _, rfl, rfl, rfl⟩
  have kb21 := F21.kbinds0 (ps := ["self", "version"]) 1 ["version"] [] (fun us _ ws => us ++ ws) (fun z => nomatch z) (fun q hq => nomatch hq) (fun r1 _ r3 => r1.append r3) fun D _ _ _ _ _ us mv ws h1 h2 h3 => match us, mv, ws, h1, h2, h3 with | [_], [], [_], _, _, _ => rfl
  have F22 := fun_mk (st := s_Plan_edits) l22 c22 k22
  have b22 := F22.binds (ps := ["self"]) fun _ _ _ _ _ _ us hl => match us, hl with | [_], _ => rfl
  have F23 := fun_mk (st := s_Plan_state_at) l23 c23 k23
  have b23 := F23.binds (ps := ["self", "version"]) fun _ _ _ _ _ _ us hl => match us, hl with | [_, _], _ => rfl
  have F24 := fun_mk (st := s_Plan_len) l24 c24 k24
  have b24 := F24.binds (ps := ["self"]) fun _ _ _ _ _ _ us hl => match us, hl with | [_], _ => rfl
  have F25 := fun_mk (st := s_Plan_str) l25 c25 k25
  have b25 := F25.binds (ps := ["self"]) fun _ _ _ _ _ _ us hl => match us, hl with | [_], _ => rfl
  have F26 := fun_mk (st := s_BadTargets_init) l26 c26 k26
  have b26 := F26.binds (ps := ["self", "error"]) fun _ _ _ _ _ _ us hl => match us, hl with | [_, _], _ => rfl
  have T : Tx K mg _ _ _ _ _ _ _ _ _ _ _ _ _ _ _ _ _ _ _ _ _ _ _ _ _ _ _ _ _ _ _ _ _ _ _ _ _ _ _ _ _ _ _ _ _ _ _ _ _ _ _ _ _ _ _ _ _ _ tk0 tk1 tk2 := ⟨F1, b1, PySem.W.mg_of X G a1, F2, b2, PySem.W.mg_of X G a2, F3, b3, PySem.W.mg_of X G a3, F4, b4, PySem.W.mg_of X G a4, F5, b5, PySem.W.mg_of X G a5, F6, b6, PySem.W.mg_of X G a6, F7, b7, PySem.W.mg_of X G a7, F8, b8, PySem.W.mg_of X G a8, F9, b9, PySem.W.mg_of X G a9, F10, b10, PySem.W.mg_of X G a10, F11, b11, PySem.W.mg_of X G a11, F12, b12, PySem.W.mg_of X G a12, F13, b13, PySem.W.mg_of X G a13, F14, b14, PySem.W.mg_of X G a14, F15, b15, PySem.W.mg_of X G a15, F16, b16, PySem.W.mg_of X G a16, F17, b17, PySem.W.mg_of X G a17, F18, b18, PySem.W.mg_of X G a18, F19, b19, ⟨a19, i19, k19⟩, F20, b20, kb20.choose_spec, ⟨a20, i20, k20⟩, F21, b21, kb21.choose_spec, ⟨a21, i21, k21⟩, F22, b22, ⟨a22, i22, k22⟩, F23, b23, ⟨a23, i23, k23⟩, F24, b24, ⟨a24, i24, k24⟩, F25, b25, ⟨a25, i25, k25⟩, F26, b26, PySem.W.mg_of X G y0, PySem.W.mg_of X G y1, PySem.W.mg_of X G y2, PySem.W.mg_none_of X G z0, PySem.W.mg_none_of X G z1, PySem.W.mg_none_of X G z2, PySem.W.mg_none_of X G z3, PySem.W.mg_none_of X G z4, PySem.W.mg_none_of X G z5, PySem.W.mg_none_of X G z6, PySem.W.mg_none_of X G z7, PySem.W.mg_none_of X G z8, PySem.W.mg_none_of X G z9, PySem.W.mg_none_of X G z10, PySem.W.mg_none_of X G z11, PySem.W.mg_none_of X G z12, ⟨pg_Plan, hd_Plan, po_Plan, sa_Plan⟩, PySem.W.mg_of X G aC_Plan, ⟨mk_Plan, a19, i19, kc_Plan⟩, n_states_Plan, n_done_Plan, n_busy_Plan, ⟨ia_Plan, ib_Plan, it_Plan, im_Plan⟩, nl_Plan, ⟨PySem.W.mg_of X G aX_BadTargets, iX_BadTargets, tX_BadTargets, bX_BadTargets⟩, ⟨PySem.W.mg_of X G aX_SpanError, iX_SpanError, tX_SpanError, bX_SpanError⟩, ⟨PySem.W.mg_of X G aX_BadPieces, iX_BadPieces, tX_BadPieces, bX_BadPieces⟩, ⟨PySem.W.mg_of X G aX_BadInterval, iX_BadInterval, tX_BadInterval, bX_BadInterval⟩, ⟨PySem.W.mg_of X G aX_BadEdits, iX_BadEdits, tX_BadEdits, bX_BadEdits⟩, ⟨⟨⟨nm_BadTargets, qn_BadTargets, N_BadTargets, bs_BadTargets, bm_BadTargets, sn_BadTargets, sb_BadTargets, ab_BadTargets, co_BadTargets, dd_BadTargets, m0_BadTargets, m1_BadTargets, m2_BadTargets, m3_BadTargets, m5_BadTargets, xL_BadTargets, rL_BadTargets⟩, sX_BadTargets, bX_BadTargets, tX_BadTargets, kX_BadTargets⟩, a26, fX_BadTargets, nX_BadTargets, ⟨gX_BadTargets, hX_BadTargets, bX_BadTargets, dX_BadTargets, cX_BadTargets, eX_BadTargets, uX_BadTargets, mX_BadTargets⟩⟩, vX_BadTargets, wX_BadTargets, sX_BadTargets_SpanError, sX_BadTargets_BadPieces, sX_BadTargets_BadInterval, sX_BadTargets_BadEdits, ⟨xX_BadPieces, kX_BadPieces, ⟨gX_BadPieces, hX_BadPieces, bX_BadPieces, dX_BadPieces, cX_BadPieces, eX_BadPieces, uX_BadPieces, mX_BadPieces⟩⟩, vX_BadPieces, sX_BadPieces_SpanError, sX_BadPieces_BadTargets, sX_BadPieces_BadInterval, sX_BadPieces_BadEdits⟩
  exact ⟨_, fun s v => .of_eq rfl, fun base _ _ hM => ok_law T hM⟩
end L9
open PySem PySem.W PyProof.Rows
set_option maxHeartbeats 0 in
theorem PySem.Challenge.cw_fewspans_k68_plans_created_holds : PySem.Challenge.rw_fewspans_k68_plans_created.Holds := by
  w_on; o_law; k_head; (case hw => w_witness2)
  k_fill
  refine L9.quiet_walk (l := PySem.Challenge.rw_fewspans_k68_plans_created) (n := 63) (k := 10) (x := "_law_script") (sp := fun w => L9.sp_law _) (by decide +kernel) rfl (by decide) rfl ⟨rfl, by decide, by decide⟩ (fun w h Y => PySem.W.kIn_of Y) ?F (fun _ _ a ns hl _ hS => ⟨a, ns, rfl, hS, hl, fun _ => rfl⟩)
  case F =>
    intro w mg fa h KX G hmg
    refine' L9.all_mk KX G hmg ?a1 ?l1 ?c1 ?k1 ?a2 ?l2 ?c2 ?k2 ?a3 ?l3 ?c3 ?k3 ?a4 ?l4 ?c4 ?k4 ?a5 ?l5 ?c5 ?k5 ?a6 ?l6 ?c6 ?k6 ?a7 ?l7 ?c7 ?k7 ?a8 ?l8 ?c8 ?k8 ?a9 ?l9 ?c9 ?k9 ?a10 ?l10 ?c10 ?k10 ?a11 ?l11 ?c11 ?k11 ?a12 ?l12 ?c12 ?k12 ?a13 ?l13 ?c13 ?k13 ?a14 ?l14 ?c14 ?k14 ?a15 ?l15 ?c15 ?k15 ?a16 ?l16 ?c16 ?k16 ?a17 ?l17 ?c17 ?k17 ?a18 ?l18 ?c18 ?k18 ?a19 ?i19 ?l19 ?c19 ?k19 ?a20 ?i20 ?l20 ?c20 ?k20 ?q20 ?a21 ?i21 ?l21 ?c21 ?k21 ?q21 ?a22 ?i22 ?l22 ?c22 ?k22 ?a23 ?i23 ?l23 ?c23 ?k23 ?a24 ?i24 ?l24 ?c24 ?k24 ?a25 ?i25 ?l25 ?c25 ?k25 ?a26 ?i26 ?l26 ?c26 ?k26 ?aC_Plan ?pg_Plan ?hd_Plan ?po_Plan ?sa_Plan ?mk_Plan ?kc_Plan ?n_states_Plan ?n_done_Plan ?n_busy_Plan ?ia_Plan ?ib_Plan ?it_Plan ?im_Plan ?nl_Plan ?aX_BadTargets ?iX_BadTargets ?tX_BadTargets ?bX_BadTargets ?xL_BadTargets ?rL_BadTargets ?sX_BadTargets ?kX_BadTargets ?nX_BadTargets ?fX_BadTargets ?gX_BadTargets ?hX_BadTargets ?dX_BadTargets ?cX_BadTargets ?eX_BadTargets ?uX_BadTargets ?mX_BadTargets ?vX_BadTargets ?wX_BadTargets ?aX_SpanError ?iX_SpanError ?tX_SpanError ?bX_SpanError ?aX_BadPieces ?iX_BadPieces ?tX_BadPieces ?bX_BadPieces ?xX_BadPieces ?kX_BadPieces ?gX_BadPieces ?hX_BadPieces ?dX_BadPieces ?cX_BadPieces ?eX_BadPieces ?uX_BadPieces ?mX_BadPieces ?vX_BadPieces ?aX_BadInterval ?iX_BadInterval ?tX_BadInterval ?bX_BadInterval ?aX_BadEdits ?iX_BadEdits ?tX_BadEdits ?bX_BadEdits ?sX_BadTargets_SpanError ?sX_BadTargets_BadPieces ?sX_BadTargets_BadInterval ?sX_BadTargets_BadEdits ?sX_BadPieces_SpanError ?sX_BadPieces_BadTargets ?sX_BadPieces_BadInterval ?sX_BadPieces_BadEdits ?y0 ?y1 ?y2 ?z0 ?z1 ?z2 ?z3 ?z4 ?z5 ?z6 ?z7 ?z8 ?z9 ?z10 ?z11 ?z12
    (case aC_Plan => k_is)
    (case aX_BadTargets => k_is)
    (case aX_SpanError => k_is)
    (case aX_BadPieces => k_is)
    (case aX_BadInterval => k_is)
    (case aX_BadEdits => k_is)
    (case a1 => k_is)
    (case l1 => k_is)
    (case c1 => k_is)
    (case k1 => k_is)
    (case a2 => k_is)
    (case l2 => k_is)
    (case c2 => k_is)
    (case k2 => k_is)
    (case a3 => k_is)
    (case l3 => k_is)
    (case c3 => k_is)
    (case k3 => k_is)
    (case a4 => k_is)
    (case l4 => k_is)
    (case c4 => k_is)
    (case k4 => k_is)
    (case a5 => k_is)
    (case l5 => k_is)
    (case c5 => k_is)
    (case k5 => k_is)
    (case a6 => k_is)
    (case l6 => k_is)
    (case c6 => k_is)
    (case k6 => k_is)
    (case a7 => k_is)
    (case l7 => k_is)
    (case c7 => k_is)
    (case k7 => k_is)
    (case a8 => k_is)
    (case l8 => k_is)
    (case c8 => k_is)
    (case k8 => k_is)
    (case a9 => k_is)
    (case l9 => k_is)
    (case c9 => k_is)
    (case k9 => k_is)
    (case a10 => k_is)
    (case l10 => k_is)
    (case c10 => k_is)
    (case k10 => k_is)
    (case a11 => k_is)
    (case l11 => k_is)
    (case c11 => k_is)
    (case k11 => k_is)
    (case a12 => k_is)
    (case l12 => k_is)
    (case c12 => k_is)
    (case k12 => k_is)
    (case a13 => k_is)
    (case l13 => k_is)
    (case c13 => k_is)
    (case k13 => k_is)
    (case a14 => k_is)
    (case l14 => k_is)
    (case c14 => k_is)
    (case k14 => k_is)
    (case a15 => k_is)
    (case l15 => k_is)
    (case c15 => k_is)
    (case k15 => k_is)
    (case a16 => k_is)
    (case l16 => k_is)
    (case c16 => k_is)
    (case k16 => k_is)
    (case a17 => k_is)
    (case l17 => k_is)
    (case c17 => k_is)
    (case k17 => k_is)
    (case a18 => k_is)
    (case l18 => k_is)
    (case c18 => k_is)
    (case k18 => k_is)
    (case a19 => k_is)
    (case i19 => k_is)
    (case l19 => k_is)
    (case c19 => k_is)
    (case k19 => k_is)
    (case a20 => k_is)
    (case i20 => k_is)
    (case l20 => k_is)
    (case c20 => k_is)
    (case k20 => k_is)
    (case q20 => k_is)
    (case a21 => k_is)
    (case i21 => k_is)
    (case l21 => k_is)
    (case c21 => k_is)
    (case k21 => k_is)
    (case q21 => k_is)
    (case a22 => k_is)
    (case i22 => k_is)
    (case l22 => k_is)
    (case c22 => k_is)
    (case k22 => k_is)
    (case a23 => k_is)
    (case i23 => k_is)
    (case l23 => k_is)
    (case c23 => k_is)
    (case k23 => k_is)
    (case a24 => k_is)
    (case i24 => k_is)
    (case l24 => k_is)
    (case c24 => k_is)
    (case k24 => k_is)
    (case a25 => k_is)
    (case i25 => k_is)
    (case l25 => k_is)
    (case c25 => k_is)
    (case k25 => k_is)
    (case a26 => k_is)
    (case i26 => k_is)
    (case l26 => k_is)
    (case c26 => k_is)
    (case k26 => k_is)
    (case pg_Plan => k_is)
    (case hd_Plan => k_is)
    (case po_Plan => k_is)
    (case sa_Plan => k_is)
    (case mk_Plan => k_is)
    (case kc_Plan => k_is)
    (case n_states_Plan => k_is)
    (case n_done_Plan => k_is)
    (case n_busy_Plan => k_is)
    (case ia_Plan => k_is)
    (case ib_Plan => k_is)
    (case it_Plan => k_is)
    (case im_Plan => k_is)
    (case nl_Plan => k_is)
    (case iX_BadTargets => k_is)
    (case tX_BadTargets => k_is)
    (case bX_BadTargets => k_is)
    (case xL_BadTargets => k_is)
    (case rL_BadTargets => rfl)
    (case sX_BadTargets => k_is)
    (case kX_BadTargets => k_is)
    (case nX_BadTargets => k_is)
    (case fX_BadTargets => k_is)
    (case gX_BadTargets => k_is)
    (case hX_BadTargets => k_is)
    (case dX_BadTargets => k_is)
    (case cX_BadTargets => k_is)
    (case eX_BadTargets => k_is)
    (case uX_BadTargets => k_is)
    (case mX_BadTargets => k_is)
    (case vX_BadTargets => k_is)
    (case wX_BadTargets => k_is)
    (case iX_SpanError => k_is)
    (case tX_SpanError => k_is)
    (case bX_SpanError => k_is)
    (case iX_BadPieces => k_is)
    (case tX_BadPieces => k_is)
    (case bX_BadPieces => k_is)
    (case xX_BadPieces => k_exc)
    (case kX_BadPieces => k_is)
    (case gX_BadPieces => k_is)
    (case hX_BadPieces => k_is)
    (case dX_BadPieces => k_is)
    (case cX_BadPieces => k_is)
    (case eX_BadPieces => k_is)
    (case uX_BadPieces => k_is)
    (case mX_BadPieces => k_is)
    (case vX_BadPieces => k_is)
    (case iX_BadInterval => k_is)
    (case tX_BadInterval => k_is)
    (case bX_BadInterval => k_is)
    (case iX_BadEdits => k_is)
    (case tX_BadEdits => k_is)
    (case bX_BadEdits => k_is)
    (case sX_BadTargets_SpanError => k_is)
    (case sX_BadTargets_BadPieces => k_is)
    (case sX_BadTargets_BadInterval => k_is)
    (case sX_BadTargets_BadEdits => k_is)
    (case sX_BadPieces_SpanError => k_is)
    (case sX_BadPieces_BadTargets => k_is)
    (case sX_BadPieces_BadInterval => k_is)
    (case sX_BadPieces_BadEdits => k_is)
    (case y0 => k_is)
    (case y1 => k_is)
    (case y2 => k_is)
    (case z0 => k_is)
    (case z1 => k_is)
    (case z2 => k_is)
    (case z3 => k_is)
    (case z4 => k_is)
    (case z5 => k_is)
    (case z6 => k_is)
    (case z7 => k_is)
    (case z8 => k_is)
    (case z9 => k_is)
    (case z10 => k_is)
    (case z11 => k_is)
    (case z12 => k_is)
