import PyProof.Rows.All
import Wide.All
import OpenK.AllK
import Wide.FinOn
import PySem.Challenge.RW_fewspans_k74_batches_applied
import HandS.ForMost
import HandS.Wide
import HandS.IsInst
import HandS.Conv
import HandS.TupLe
import HandS.Strs
import HandS.SetFor
import HandS.Style
import HandS.TupSets
import HandS.Keys
import HandS.Sort
import HandS.SortOrd
import HandS.SortRule
import HandS.SortKw
import HandS.SetBool
import HandS.TupAny
import HandS.Zip
import HandS.NoneIn
import HandS.Deep
import KE.GoesEnum
import KE.GoesMore
import HandS.Lambda
import HandS.CallLocal
import KE.DataCmp
import HandS.EndTab
import KE.KMinBuiltin
import HandS.TupMul
import PyProof.NeKinds
import HandS.Defaults
import HandS.MakeKwOnly
import HandS.OwnEq
import HandS.FStr
import KE.KCallOwn
import HandS.ExcIs
import HandS.ExcOwn
import HandS.CallSlots
import HandS.WordsExc
import HandS.TryMany
import HandS.Codes
import HandS.ExcInit
import KE.KExcIs
import KE.KExcInit
import KE.KExcLine
import HandS.ExcField
import HandS.Text
import PyProof.StrOps2
import HandS.StrMore
import HandS.Flow
import HandS.ReplaceLit
import HandS.ForExc
import HandS.Finally
import HandS.RaiseFrom
import HandS.SuiteRaise
import HandS.HotCalls
import HandS.Hot
import HandS.ExcCtx
import HandS.ExcInitHot
set_option Elab.async false
set_option linter.all false
set_option maxRecDepth 100000
set_option maxHeartbeats 4000000
namespace L9
open PySem PySem.Spec PyProof.Rows L2

/-! ### set(xs), xs a list of ints: the library has it of tuples; the walk is a list's here -/
section
variable {P : Program} {w : World} {A : Around} {E : Value → Shared → Prop} {s : Shared}
abbrev noSet (w : World) : Obj := { cls := .type "set", dict := none, data := .set #[] 0 (.fresh 0 0 (!w.params.followText "set-order")) }
theorem setL_ints {l : Addr} {its : Array Value} (ns : List Int) {Q : Value → Shared → Prop} (quiet : A.handled = none) (isL : s.heap.IsList l its) (allI : IntsAre its.toList ns) (few : ns.length + 1 < scanBound)
    (fin : ∀ (h2 : Heap) (tk n : Nat), SetR w h2 s.heap.objs.size (fun j => decide (j ∈ ns)) n → n ≤ ns.length → (∀ b o, s.heap.get? b = some o → h2.get? b = some o) → Q (.ref s.heap.objs.size) { s with heap := h2, toks := tk }) :
    wpAny (model P w) A (call (.type "set") [.ref l]) Q E s := by
  have size : its.size = ns.length := by
    rw [← Array.length_toList]
    exact allI.length
  obtain ⟨cA, tA, mA⟩ := F.called_set.mro
  have f1 := F.called_set.made
  have f2 := F.called_set.sub
  refine wpAny_call (codeAny_of_tree (?_ : wpAny _ _ (callAny (.type "set") _) _ _ _))
  refine wpAny_pure (And.intro (Code.quiet_builtin _ (by decide +kernel)) (codeAny_builtin F.entry_type_call ?_))
  rw [Around.under_plain (weight_type_call_type "set" [Value.ref l] []) rfl]
  have f3 := F.called_set.notType
  have f4 := F.called_set.canCreate
  have f5 := F.typeCall_set_1 (Value.ref l)
  repeat any_goals first | assumption | wp_step
  refine codeAny_mono (code_set_led1 (.ref l) (E := E) (Q₁ := fun v s1 => v = .ref s.heap.objs.size ∧ s1 = { s with heap := s.heap.push (noSet w) }) (And.intro rfl rfl)) fun r s1 h1 => ?_
  match r, h1 with
  | .error e, h1 => exact h1
  | .ok (.ret v), h1 =>
    obtain ⟨rfl, rfl⟩ := h1
    have at0 : (s.heap.push (noSet w)).get? s.heap.objs.size = some (noSet w) := Heap.get?_push_size _ rfl
    have ty0 : Shared.TypeIs { s with heap := s.heap.push (noSet w) } (.ref s.heap.objs.size) "set" := Exists.intro _ (And.intro at0 rfl)
    have f6 := F.called_set.init.lookup
    have f7 := F.called_set.init.bind (Value.ref s.heap.objs.size)
    repeat any_goals first | assumption | wp_step
    let Z : Value → Shared → Prop := fun v s2 => v = .none ∧ ∃ h2 tk n, s2 = { s with heap := h2, toks := tk } ∧ SetR w h2 s.heap.objs.size (fun j => decide (j ∈ ns)) n ∧ n ≤ ns.length ∧ ∀ b o, s.heap.get? b = some o → h2.get? b = some o
    refine codeAny_mono (codeAny_call_builtin (R := wants Z E) F.called_set.init.plain F.entry_set_init (check_set_init_1 ty0 ?_)) fun r2 s2 h2 => ?_
    · obtain ⟨o, eo, ec, k, ed⟩ := isL
      obtain ⟨oc, od, oD, oS⟩ := o
      simp only at ec ed
      subst ec ed
      have lt : l < s.heap.objs.size := Heap.lt_size eo
      have eo1 : (s.heap.push (noSet w)).get? l = some { cls := .type "list", dict := od, data := .seq its k, slots := oS } := Heap.get?_push_of_some _ eo
      have g1 := F.sub_list_set
      have g2 := F.sub_list_frozenset
      have g3 : (Value.type "list" == Value.type "dict") = false := by decide
      have isL1 : (s.heap.push (noSet w)).IsList l its := Exists.intro _ (And.intro eo1 (And.intro rfl (Exists.intro k rfl)))
      unfold Builtin.«set.__init__» Builtin.Frozenset.updateFrom noKeywords
      generalize keep : pyIter = itr
      wp_walk
      subst keep
      refine wpAny_pyIter_list isL1 (wpAny_bind (wpAny_runValue ?_))
      have quiet3 : A.in1.in1.in1.handled = none := by simp [quiet]
      have sz : (s.heap.push (noSet w)).objs.size = s.heap.objs.size + 1 := Heap.size_push ..
      have lI : l ≠ (s.heap.push (noSet w)).objs.size := by
        rw [sz]
        exact Nat.ne_of_lt (Nat.lt_succ_of_lt lt)
      have out : s.heap.objs.size ∉ [(s.heap.push (noSet w)).objs.size, l] := by
        rw [sz]
        intro z
        rcases List.mem_cons.mp z with z | z
        · exact absurd z (Nat.ne_of_lt (Nat.lt_succ_self _))
        · exact absurd (List.mem_singleton.mp z) (Nat.ne_of_gt lt)
      have vals : ∀ (i : Nat) (v : Value), its[i]? = some v → ∃ j t, ns[i]? = some j ∧ v = .int j t := fun i v hv => by
        have lti : i < ns.length := by
          rw [← size]
          exact (Array.getElem?_eq_some_iff.mp hv).1
        obtain ⟨t, e⟩ := allI.int_at i v (by rw [Array.getElem?_toList]; exact hv)
        have en := List.getElem?_eq_getElem lti
        refine ⟨_, t, en, e.trans ?_⟩
        rw [List.getD_eq_getElem?_getD, en]
        rfl
      refine set_update_ints (Walks.list quiet3 _ l lI its).toS s.heap.objs.size out ns size few vals (its.size - 0) 0 _ rfl (Nat.zero_le _) (And.intro (Exists.intro _ (And.intro (Heap.get?_push_size _ rfl) (And.intro rfl rfl))) (isL1.push _)) ?start ?last
      case start =>
        exact ⟨0, Nat.le_refl _, setR_new_at (Heap.get?_push_of_some _ at0)⟩
      case last =>
        intro s3 n mv le R
        obtain ⟨h3, g3', d3, tk3, o3⟩ := s3
        have m1 : g3' = s.gens := mv.gens
        have m2 : d3 = s.drawn := mv.drawn
        have m3 : o3 = s.os := mv.os
        subst m1 m2 m3
        refine wpAny_pure (?_ : wpAny _ _ (ret Value.none) _ _ _)
        rw [size] at le
        refine wpAny_pure (And.intro rfl ⟨h3, tk3, n, rfl, R, le, fun b o e => ?_⟩)
        have lb := Heap.lt_size e
        refine mv.heap b o (fun z => ?_) (Heap.get?_push_of_some _ (Heap.get?_push_of_some _ e))
        rcases List.mem_cons.mp z with z | z
        · exact absurd z (Nat.ne_of_lt lb)
        · have z1 := List.mem_singleton.mp z
          rw [sz] at z1
          exact absurd z1 (Nat.ne_of_lt (Nat.lt_succ_of_lt lb))
    · match r2, h2 with
      | .error e, h2 => exact h2
      | .ok (.ret v), h2 =>
        obtain ⟨rfl, h', tk, n, rfl, R, le, kp⟩ := h2
        repeat any_goals first | assumption | wp_step
        exact fin h' tk n R le kp
      | .ok .next, h2 => exact h2
      | .ok .brk, h2 => exact h2
      | .ok .cont, h2 => exact h2
  | .ok .next, h1 => exact h1
  | .ok .brk, h1 => exact h1
  | .ok .cont, h1 => exact h1
end
section
variable {X : Cx}
def rSetOfI (K : PySem.W.Frag) (w : World) : List V → Hp → VK → Prop := fun xs H Q => ∃ (l : Addr) (ns : List Int), xs = [V.ref l] ∧ SqL K H l (ns.map V.int) ∧ ns.length < 60 ∧
  ∀ (H' : Hp) a n, Same H H' → H a = none → H' a = some (SetO w a (fun j => decide (j ∈ ns)) n) → n ≤ ns.length → Q (.ref a) H'
theorem cr_setOfI (calm : X.calm = true) : CallR X (.type "set") (rSetOfI X.K X.w) := by
  intro pins s σ H xs us Q I r h
  obtain ⟨l, ns, rfl, hl, few, q⟩ := h
  rw [Vals.ref1 r]
  obtain ⟨its, rv, pl, _⟩ := I.list hl
  refine setL_ints (P := X.prog) (w := X.w) ns (I.ok.hd calm) pl.isList (ints_of_vals rv) (by unfold scanBound; omega) fun h2 tk n R le kp => ?_
  exact ⟨.ref s.heap.objs.size, _, I.laid (t' := tk) kp (Nat.le_refl _) (setO_new R), rfl, q _ _ n (fun b x e => by rw [upd_ne (ne_of_none e (I.hok.fresh (Nat.le_refl _)))]; exact e) (I.hok.fresh (Nat.le_refl _)) upd_same le⟩
end

/-! ### set(t), t a tuple of tuples of ints: the library has it of lists; the walk is a tuple's here -/
section
variable {P : Program} {w : World} {A : Around} {E : Value → Shared → Prop} {s : Shared}
abbrev noSetT (w : World) : Obj := { cls := .type "set", dict := none, data := .set #[] 0 (.fresh 0 0 (!w.params.followText "set-order")) }
theorem setT_tups {l : Addr} {its : Array Value} (ks : List (Addr × List Int)) {Q : Value → Shared → Prop} (quiet : A.handled = none) (isT : s.heap.IsTuple l its) (refs : its.toList = ks.map fun p => Value.ref p.1)
    (tk : ∀ p ∈ ks, IsT P w s.heap p.2 p.1) (few : ks.length < 64) (un : A.units + 3 < cLine)
    (fin : ∀ (h2 : Heap) (tk : Nat) L es ep t, SetTR P w h2 s.heap.objs.size L es ep t → Got ks ks.length L → (∀ b o, s.heap.get? b = some o → h2.get? b = some o) → Q (.ref s.heap.objs.size) { s with heap := h2, toks := tk }) :
    wpAny (model P w) A (call (.type "set") [.ref l]) Q E s := by
  have size : its.size = ks.length := by
    rw [← Array.length_toList, refs, List.length_map]
  obtain ⟨cA, tA, mA⟩ := F.called_set.mro
  have f1 := F.called_set.made
  have f2 := F.called_set.sub
  refine wpAny_call (codeAny_of_tree (?_ : wpAny _ _ (callAny (.type "set") _) _ _ _))
  refine wpAny_pure (And.intro (Code.quiet_builtin _ (by decide +kernel)) (codeAny_builtin F.entry_type_call ?_))
  rw [Around.under_plain (weight_type_call_type "set" [Value.ref l] []) rfl]
  have f3 := F.called_set.notType
  have f4 := F.called_set.canCreate
  have f5 := F.typeCall_set_1 (Value.ref l)
  repeat any_goals first | assumption | wp_step
  refine codeAny_mono (code_set_led1 (.ref l) (E := E) (Q₁ := fun v s1 => v = .ref s.heap.objs.size ∧ s1 = { s with heap := s.heap.push (noSetT w) }) (And.intro rfl rfl)) fun r s1 h1 => ?_
  match r, h1 with
  | .error e, h1 => exact h1
  | .ok (.ret v), h1 =>
    obtain ⟨rfl, rfl⟩ := h1
    have at0 : (s.heap.push (noSetT w)).get? s.heap.objs.size = some (noSetT w) := Heap.get?_push_size _ rfl
    have ty0 : Shared.TypeIs { s with heap := s.heap.push (noSetT w) } (.ref s.heap.objs.size) "set" := Exists.intro _ (And.intro at0 rfl)
    have f6 := F.called_set.init.lookup
    have f7 := F.called_set.init.bind (Value.ref s.heap.objs.size)
    repeat any_goals first | assumption | wp_step
    let Z : Value → Shared → Prop := fun v s2 => v = .none ∧ ∃ h2 tk L es ep t, s2 = { s with heap := h2, toks := tk } ∧ SetTR P w h2 s.heap.objs.size L es ep t ∧ Got ks ks.length L ∧ ∀ b o, s.heap.get? b = some o → h2.get? b = some o
    refine codeAny_mono (codeAny_call_builtin (R := wants Z E) F.called_set.init.plain F.entry_set_init (check_set_init_1 ty0 ?_)) fun r2 s2 h2 => ?_
    · obtain ⟨o, eo, ec, k, ed⟩ := isT
      obtain ⟨oc, od, oD, oS⟩ := o
      simp only at ec ed
      subst ec ed
      have lt : l < s.heap.objs.size := Heap.lt_size eo
      have eo1 : (s.heap.push (noSetT w)).get? l = some { cls := .type "tuple", dict := od, data := .seq its k, slots := oS } := Heap.get?_push_of_some _ eo
      have g1 := F.sub_tuple_set
      have g2 := F.sub_tuple_frozenset
      have g3 : (Value.type "tuple" == Value.type "dict") = false := by decide
      have isT1 : (s.heap.push (noSetT w)).IsTuple l its := Exists.intro _ (And.intro eo1 (And.intro rfl (Exists.intro k rfl)))
      unfold Builtin.«set.__init__» Builtin.Frozenset.updateFrom noKeywords
      generalize keep : pyIter = itr
      wp_walk
      subst keep
      refine wpAny_pyIter_tuple isT1 (wpAny_bind (wpAny_runValue ?_))
      have quiet3 : A.in1.in1.in1.handled = none := by simp [quiet]
      have sz : (s.heap.push (noSetT w)).objs.size = s.heap.objs.size + 1 := Heap.size_push ..
      have lI : l ≠ (s.heap.push (noSetT w)).objs.size := by
        rw [sz]
        exact Nat.ne_of_lt (Nat.lt_succ_of_lt lt)
      have out : s.heap.objs.size ∉ [(s.heap.push (noSetT w)).objs.size, l] := by
        rw [sz]
        intro z
        rcases List.mem_cons.mp z with z | z
        · exact absurd z (Nat.ne_of_lt (Nat.lt_succ_self _))
        · exact absurd (List.mem_singleton.mp z) (Nat.ne_of_gt lt)
      have vals : ∀ (i : Nat) (v : Value), its[i]? = some v → ∃ p, ks[i]? = some p ∧ v = .ref p.1 := fun i v hv => by
        have z : its.toList[i]? = some v := by
          rw [Array.getElem?_toList]
          exact hv
        rw [refs, List.getElem?_map] at z
        obtain ⟨p, e1, e2⟩ := Option.map_eq_some_iff.mp z
        exact Exists.intro p (And.intro e1 e2.symm)
      have beyond : ∀ b, s.heap.objs.size ≤ b → s.heap.get? b = none := fun b hb => by
        cases z : s.heap.get? b with
        | none => rfl
        | some o => exact (Nat.lt_irrefl _ (Nat.lt_of_lt_of_le (Heap.lt_size z) hb)).elim
      refine set_update_tups (Walks.tuple quiet3 _ l lI its).toS s.heap.objs.size out ks size few vals s.heap tk (beyond _ (Nat.le_refl _)) (fun b hb => beyond b ?_) un (its.size - 0) 0 _ rfl (Nat.zero_le _) (And.intro (Exists.intro _ (And.intro (Heap.get?_push_size _ rfl) (And.intro rfl rfl))) (isT1.push _)) (fun b o e => Heap.get?_push_of_some _ (Heap.get?_push_of_some _ e)) ?start ?last
      · rw [List.mem_singleton.mp hb, sz]
        exact Nat.le_succ _
      case start =>
        exact ⟨[], #[], 0, _, setTR_fresh (Heap.get?_push_of_some _ at0), Got.zero ks⟩
      case last =>
        intro s3 L es ep t mv R got kp
        obtain ⟨h3, g3', d3, tk3, o3⟩ := s3
        have m1 : g3' = s.gens := mv.gens
        have m2 : d3 = s.drawn := mv.drawn
        have m3 : o3 = s.os := mv.os
        subst m1 m2 m3
        refine wpAny_pure (?_ : wpAny _ _ (ret Value.none) _ _ _)
        rw [size] at got
        exact wpAny_pure (And.intro rfl ⟨h3, tk3, L, es, ep, t, rfl, R, got, kp⟩)
    · match r2, h2 with
      | .error e, h2 => exact h2
      | .ok (.ret v), h2 =>
        obtain ⟨rfl, h', tk, L, es, ep, t, rfl, R, got, kp⟩ := h2
        repeat any_goals first | assumption | wp_step
        exact fin h' tk L es ep t R got kp
      | .ok .next, h2 => exact h2
      | .ok .brk, h2 => exact h2
      | .ok .cont, h2 => exact h2
  | .ok .next, h1 => exact h1
  | .ok .brk, h1 => exact h1
  | .ok .cont, h1 => exact h1
end
section
variable {X : Cx}
def rSetOfTT (K : PySem.W.Frag) (P : Program) (w : World) : List V → Hp → VK → Prop := fun xs H Q => ∃ (l : Addr) (ks : List (Addr × List Int)), xs = [V.ref l] ∧ SqT K H l (ks.map fun p => V.ref p.1) ∧ (∀ p ∈ ks, SqT K H p.1 (p.2.map V.int)) ∧ ks.length < 64 ∧
  ∀ a L, H a = none → (∀ p ∈ L, p ∈ ks) → (∀ p ∈ ks, p.2 ∈ L.map (·.2)) → Q (.ref a) (upd H a (SetTO P w a L))
theorem cr_setOfTT (calm : X.calm = true) (units : X.A.units + 64 < cLine) : CallR X (.type "set") (rSetOfTT X.K X.prog X.w) := by
  intro pins s σ H xs us Q I r h
  obtain ⟨l, ks, rfl, hl, hk, few, q⟩ := h
  rw [Vals.ref1 r]
  obtain ⟨its, rv, pl, _⟩ := I.tuple hl
  have nn : H s.heap.objs.size = none := I.hok.fresh (Nat.le_refl _)
  refine setT_tups (P := X.prog) (w := X.w) (its := its.toArray) ks (I.ok.hd calm) pl (by simpa using refs_of_vals rv) (fun p hp => I.isT (hk p hp)) few (by omega) fun h2 tk L es ep t R got kp => ?_
  exact ⟨.ref s.heap.objs.size, _, I.laid (t' := tk) kp (Nat.le_refl _) (setTO_new R.t0), rfl, q _ L nn (fun p hp => List.mem_of_mem_take (got.sub p hp)) (fun p hp => got.all p (by rw [List.take_length]; exact hp))⟩
end

/-! ### defs that are run where no text-making of the machine is under way (repr, str of nested data ask for it) -/
abbrev Quiet (A : Around) : Prop := A.guards = some []
structure FnG (P : Program) (w : World) (K : PySem.W.Frag) (mg : Str → Option Value) (base : Heap) (k : Nat) (f : Addr) (fd : FuncData) (ps : List Str) (sp : Sp) : Prop where
  size : ∀ {vs H Q}, sp vs H Q E0 → vs.length = ps.length
  go : ∀ {A outer s H us vs Q}, Room k A → Quiet A → Env0 P w K mg base A outer s H → BindsTo s fd ⟨us, []⟩ (ps.zip us) → Vals vs us → sp vs H Q E0 →
    codeAny (model P w) A (.call (.ref f) ⟨us, []⟩) (CR CX0 outer P w H s Q E0) s
section
variable {P : Program} {w : World} {K : PySem.W.Frag} {mg : Str → Option Value} {base : Heap}
theorem FnG.of {x qual : Str} {st : Stmt} {f : Addr} {fd : FuncData} {N ps : List Str} {k : Nat} {sp : Sp} (F : Fun K x qual st f fd) (S : FnScope N ps (defScope st))
    (size : ∀ {vs H Q}, sp vs H Q E0 → vs.length = ps.length)
    (body : ∀ cdv A outer s H vs Q, Room k (A.deeper (envOfC qual (defScope st) s.heap.objs.size f cdv)) → Quiet (A.deeper (envOfC qual (defScope st) s.heap.objs.size f cdv)) → sp vs H Q E0 →
      ∃ t, PSs (cxOf CX0 P w K mg base N qual (defScope st) f cdv A outer s H E0).nox (defBody st) t ∧ t { nx := fun _ H' => Q .non H', rt := Q } (start N vs) H) :
    FnG P w K mg base (k + 1) f fd ps sp := by
  obtain ⟨oc, od, kV, doc, pm, an, cdv, ct, osl, rfl, look, code⟩ := F.ex
  constructor
  · exact size
  intro A outer s H us vs Q room quiet e0 bind rel want
  have inH : K.In s.heap := e0.mod.kin.keeps fun b o q => (e0.bs b o q).1
  have lim := e0.mod.nolimit.keeps (fun b o q => (e0.bs b o q).1)
  have kinds : ∀ y ∈ ps.zip us, (defScope st).names.lookup y.1 = some .local ∨ ((defScope st).names.lookup y.1 = some .cell ∧ ((cellsFrom (s.heap.objs.size + 1) (defScope st).names []).lookup y.1).isSome = true) := by
    rintro ⟨n, v⟩ hy
    have hn := (List.of_mem_zip hy).1
    cases S.par n hn with
    | inl q => exact Or.inl q
    | inr q => exact Or.inr ⟨q, PySem.W.cellsFrom_some _ _ _ (Or.inl q)⟩
  apply codeAny_call_function room.depth (inH _ _ look) rfl S.co S.gen rfl (PySem.W.codeRec_of inH code)
  apply bind
  apply wpAny_newFunctionEnv_cells S.kind kinds
  intro env he s1 x
  subst he
  refine And.intro (lim.keeps x.toInCall.keep) (codeAny_func ?_)
  obtain ⟨t, ht, hq⟩ := body cdv A outer s H vs Q (room.deeper _) quiet want
  have I := inv_start (CX := CX0) (E := E0) S room.hd e0 (size want) rel x
  apply wpAny_mono (ht.nox.run [] s1 (start N vs) H _ I hq)
  · intro fl s' hs
    cases fl with
    | ret u =>
      obtain ⟨v, σ', H', J, rv, q⟩ := hs
      exact Exists.intro v ⟨H', J.os, J.bare, J.base, J.hok, rv, q⟩
    | next =>
      obtain ⟨σ', H', J, q⟩ := hs
      exact Exists.intro V.non ⟨H', J.os, J.bare, J.base, J.hok, rfl, q⟩
    | brk => exact hs.elim fun _ h => h.elim fun _ h => h.2.elim
    | cont => exact hs.elim fun _ h => h.elim fun _ h => h.2.elim
  · intro e s' hs
    exact hs
end
section
variable {X : Cx} {k : Nat} {f : Addr} {fd : FuncData} {ps : List Str} {sp : Sp} {x : Str} {p pos : Pos} {e : Expr} {es : List Expr} {t : TA}
theorem pe_callG (F : FnG X.prog X.w X.K X.mg X.base k f fd ps sp) (room : Room k X.A) (quiet : Quiet X.A) (hg : Gl X x) (hm : X.mg x = some (.ref f)) (keep : PySem.W.keepIn X.K (.ref f) = true) (bind : Binds X.K fd ps [])
    (args : PA X (e :: es) t) (hdb : (x == ("__debug__" : Str)) = false := by decide) (star : starEach (e :: es) X.env = (false, eval e X.env) :: starEach es X.env := by rfl) (plain : (backTo pos (starEach es X.env)).any (·.1) = false := by rfl) :
    PE X (.Call (.Name x p) (e :: es) [] pos) (tCall sp [] E0 t) := by
  constructor
  intro pins s σ H Q I h
  apply wpAny_Call_Name_kw
  apply ld_glob I hg hm _ hdb
  apply PySem.W.callWith_K (h₀ := X.base) I.ok.mod.kin keep _ star plain
  apply thn (args.run pos pins s σ H _ I h)
  rintro us s1 ⟨vs, H1, I1, rel, q⟩
  refine And.intro I1.kIn ?_
  have q' : sp vs H1 Q E0 := by
    have z := q
    rw [List.append_nil] at z
    exact z
  have same : us.length = ps.length := rel.length.symm.trans (F.size q')
  have b := bind s1 us I1.kIn (by rw [List.append_nil]; exact same)
  rw [List.append_nil] at b
  apply wpAny_call
  apply codeAny_mono (F.go room quiet I1.env0 b rel q')
  intro r s' hr
  match r, hr with
  | .error _, hr => exact hr.elim
  | .ok (.ret u), hr => exact I1.after hr
  | .ok .next, hr => exact False.elim hr
  | .ok .brk, hr => exact False.elim hr
  | .ok .cont, hr => exact False.elim hr
end
/-! ### repr of data at any depth -/
structure Sm (n dp : Nat) (d : PyData) : Prop where
  shows : d.showable = true
  short : d.leavesShort 40 = true
  small : d.weight ≤ n
  flat : d.depth ≤ dp
theorem Sm.mono {n m dp dq : Nat} {d : PyData} (h : Sm n dp d) (h1 : n ≤ m) (h2 : dp ≤ dq) : Sm m dq d := ⟨h.shows, h.short, Nat.le_trans h.small h1, Nat.le_trans h.flat h2⟩
theorem Sm.none : Sm 0 0 .none := ⟨rfl, rfl, Nat.le_refl _, Nat.le_refl _⟩
theorem Sm.bool (b : Bool) : Sm 0 0 (.bool b) := ⟨rfl, rfl, Nat.le_refl _, Nat.le_refl _⟩
theorem log2_small {i : Int} (h : i.natAbs < 10 ^ 30) : i.natAbs.log2 < 100 := PySem.Flt.log2_lt_of (by decide) (Nat.lt_trans h (by decide))
theorem Sm.int {i : Int} (h : i.natAbs < 10 ^ 30) : Sm 100 0 (.int i) := by
  have l := log2_small h
  refine ⟨decide_eq_true (Nat.lt_trans l (by decide)), decide_eq_true ?_, ?_, Nat.le_refl _⟩
  · have q := int_text_length_le10 (a := i) (k := 30) (by decide) h
    show (Str.ofString (toString i)).length ≤ 40
    rw [PySem.ofString_length]
    exact Nat.le_trans q (by decide)
  · show (if i == 0 then 0 else i.natAbs.log2 + 1) ≤ 100
    split <;> omega
theorem smAll {n dp : Nat} : ∀ {ds : List PyData}, (∀ d ∈ ds, Sm n dp d) → PyData.showableAll ds = true ∧ PyData.leavesShortAll 40 ds = true ∧ PyData.weightAll ds ≤ ds.length * (n + 1) ∧ PyData.depthAll ds ≤ dp
  | [], _ => ⟨rfl, rfl, Nat.zero_le _, Nat.zero_le _⟩
  | d :: ds, h => by
    obtain ⟨a, b, c, e⟩ := smAll (ds := ds) fun x hx => h x (List.mem_cons_of_mem _ hx)
    have z := h d List.mem_cons_self
    refine ⟨?_, ?_, ?_, ?_⟩
    · show (d.showable && PyData.showableAll ds) = true
      rw [z.shows, a]
      rfl
    · show (d.leavesShort 40 && PyData.leavesShortAll 40 ds) = true
      rw [z.short, b]
      rfl
    · show d.weight + 1 + PyData.weightAll ds ≤ (ds.length + 1) * (n + 1)
      have := z.small
      rw [Nat.add_mul]
      omega
    · show max d.depth (PyData.depthAll ds) ≤ dp
      exact Nat.max_le.mpr ⟨z.flat, e⟩
theorem Sm.tup {n dp : Nat} {ds : List PyData} (h : ∀ d ∈ ds, Sm n dp d) : Sm (ds.length * (n + 1)) (dp + 1) (.tuple ds) :=
  let ⟨a, b, c, e⟩ := smAll h
  ⟨a, b, c, Nat.succ_le_succ e⟩
theorem Sm.lst {n dp : Nat} {ds : List PyData} (h : ∀ d ∈ ds, Sm n dp d) : Sm (ds.length * (n + 1)) (dp + 1) (.list ds) :=
  let ⟨a, b, c, e⟩ := smAll h
  ⟨a, b, c, Nat.succ_le_succ e⟩
theorem Sm.fits {n dp : Nat} {d : PyData} (h : Sm n dp d) (hn : n ≤ 300000) : d.shown.length ≤ sizeLine := by
  have q := PyData.shown_le 40 (by decide) d h.short
  have := h.small
  have e : sizeLine = 16777216 := by decide
  rw [e]
  omega
/-- data with dicts in it; its lists stand in the heap by themselves -/
def keyD : Key → PyData
  | .inl i => .int i
  | .inr x => .str x
mutual
inductive Dv (K : PySem.W.Frag) (H : Hp) : V → PyData → Prop
  | non : Dv K H .non .none
  | bl (b : Bool) : Dv K H (.bl b) (.bool b)
  | int (i : Int) : Dv K H (.int i) (.int i)
  | str (x : Str) : Dv K H (.str x) (.str x)
  | lst {a : Addr} {xs : List V} {ds : List PyData} : H a = some (.lst xs) → DvAll K H xs ds → Dv K H (.ref a) (.list ds)
  | tup {a : Addr} {xs : List V} {ds : List PyData} : H a = some (.tup xs) → DvAll K H xs ds → Dv K H (.ref a) (.tuple ds)
  | dic {a : Addr} {kvs : List (Key × V)} {ds : List PyData} : H a = some (.dK kvs) → DvAll K H (kvs.map (·.2)) ds → Dv K H (.ref a) (.dict ((kvs.map fun p => keyD p.1).zip ds))
inductive DvAll (K : PySem.W.Frag) (H : Hp) : List V → List PyData → Prop
  | nil : DvAll K H [] []
  | cons {v : V} {vs : List V} {d : PyData} {ds : List PyData} : Dv K H v d → DvAll K H vs ds → DvAll K H (v :: vs) (d :: ds)
end
theorem DvAll.length {K : PySem.W.Frag} {H : Hp} : ∀ {vs : List V} {ds : List PyData}, DvAll K H vs ds → vs.length = ds.length
  | _, _, .nil => rfl
  | _, _, .cons _ h => by rw [List.length_cons, List.length_cons, h.length]
theorem keys_read {P : Program} {w : World} {h : Heap} : ∀ {es : List DictEntry} {vs : List (Key × Value)}, Pairs (mixKind P w) es vs → ReadsAll h (es.map (·.key)) (vs.map fun p => keyD p.1) []
  | _, _, .nil => .nil
  | _, _, .cons (e := e) (kv := kv) hk _ r => by
    have one : Reads h e.key (keyD kv.1) [] := by
      rcases keyIs_shape hk with ⟨i, t, e1, e2⟩ | ⟨x, t, e1, e2⟩
      · rw [e1, e2]
        exact .int i t
      · rw [e1, e2]
        exact .str x t
    exact ReadsAll.cons one (keys_read r)
theorem vals_read {P : Program} {w : World} : ∀ {es : List DictEntry} {vs : List (Key × Value)}, Pairs (mixKind P w) es vs → es.map (·.val) = vs.map (·.2)
  | _, _, .nil => rfl
  | _, _, .cons _ hv r => by rw [List.map_cons, List.map_cons, hv, vals_read r]
theorem kv_vals : ∀ {kvs : List (Key × V)} {vs : List (Key × Value)}, KV kvs vs → Vals (kvs.map (·.2)) (vs.map (·.2)) ∧ (vs.map fun p => keyD p.1) = kvs.map fun p => keyD p.1
  | _, _, .nil => ⟨.nil, rfl⟩
  | _, _, .cons h r => by
    obtain ⟨a, b⟩ := kv_vals r
    refine ⟨.cons h.2 a, ?_⟩
    rw [List.map_cons, List.map_cons, b, h.1]
section
variable {X : Cx} {pins : List (Addr × Obj)} {σ : L2.St} {H : Hp} {s : Shared}
theorem Dv.reads (I : Inv X pins σ H s) (mods : ∃ mm, X.base.Ns sysModules mm) {v : V} {d : PyData} (h : Dv X.K H v d) : ∀ u : Value, RelV v u → ∃ as, Reads s.heap u d as ∧ sysModules ∉ as := by
  have free : H sysModules = none := by
    obtain ⟨mm, o, es, ep, e, _⟩ := mods
    exact (I.bs _ o e).2
  refine Dv.rec (K := X.K) (H := H) (motive_1 := fun v d _ => ∀ u : Value, RelV v u → ∃ as, Reads s.heap u d as ∧ sysModules ∉ as) (motive_2 := fun vs ds _ => ∀ us : List Value, Vals vs us → ∃ as, ReadsAll s.heap us ds as ∧ sysModules ∉ as) ?_ ?_ ?_ ?_ ?_ ?_ ?_ ?_ ?_ h
  · intro u r
    cases r
    exact ⟨_, .none, fun z => nomatch z⟩
  · intro b u r
    cases r
    exact ⟨_, .bool b, fun z => nomatch z⟩
  · intro i u r
    obtain ⟨t, rfl⟩ := r
    exact ⟨_, .int i t, fun z => nomatch z⟩
  · intro x u r
    obtain ⟨t, rfl⟩ := r
    exact ⟨_, .str x t, fun z => nomatch z⟩
  · intro a xs ds e _ ih u r
    cases r
    obtain ⟨_, its, n, rv, q⟩ := I.hok a _ e
    obtain ⟨as, ra, na⟩ := ih _ rv
    refine ⟨a :: as, .list q rfl rfl (by simpa using ra), fun z => ?_⟩
    rcases List.mem_cons.mp z with z | z
    · rw [← z, free] at e
      cases e
    · exact na z
  · intro a xs ds e _ ih u r
    cases r
    obtain ⟨_, its, rv, o, ho, hc, n, hd⟩ := I.hok a _ e
    obtain ⟨as, ra, na⟩ := ih _ rv
    exact ⟨as, .tuple ho hc hd (by simpa using ra), na⟩
  · intro a kvs ds e hall ih u r
    cases r
    obtain ⟨_, hne, vs, kv, o, es, ep, ho, ex, hd, _, prs, _⟩ := I.hok a _ e
    obtain ⟨rv, ek⟩ := kv_vals kv
    obtain ⟨as, ra, na⟩ := ih _ rv
    have len : (kvs.map fun p => keyD p.1).length = ds.length := by
      have z := hall.length
      rw [List.length_map] at z
      rw [List.length_map, z]
    refine ⟨_, .dict ho ex.1 hd (as := []) (bs := as) ?_ ?_, fun z => ?_⟩
    · rw [List.map_fst_zip (by omega), ← ek]
      exact keys_read prs
    · rw [List.map_snd_zip (by omega), vals_read prs]
      exact ra
    · rcases List.mem_cons.mp z with z | z
      · rw [← z] at hne
        exact absurd hne (by decide)
      · exact na z
  · intro us r
    cases r
    exact ⟨_, .nil, fun z => nomatch z⟩
  · intro v vs d ds _ _ ih1 ih2 us r
    cases r with
    | cons r1 r2 =>
      obtain ⟨as, ra, na⟩ := ih1 _ r1
      obtain ⟨bs, rb, nb⟩ := ih2 _ r2
      refine ⟨_, .cons ra rb, fun z => ?_⟩
      rcases List.mem_append.mp z with z | z
      · exact na z
      · exact nb z
theorem call_reprV (mods : ∃ mm, X.base.Ns sysModules mm) (quiet : Quiet X.A) (units : X.A.units + 64 < cLine) : CallR X (.builtin "repr")
    (fun xs H Q => ∃ v d n dp, xs = [v] ∧ Dv X.K H v d ∧ Sm n dp d ∧ n ≤ 300000 ∧ dp ≤ 60 ∧ Q (.str d.shown) H) := by
  intro pins s σ H xs us Q I r h
  obtain ⟨v, d, n, dp, rfl, hd, sm, hn, hdp, q⟩ := h
  obtain ⟨u, rfl, ru⟩ := vals1 r
  have fits := sm.fits hn
  have flat := sm.flat
  obtain ⟨as, rd, off⟩ := Dv.reads I mods hd _ ru
  cases hd with
  | non =>
    cases ru
    exact PySem.P.repr_of_none ⟨.str _, H, I.tok _, ⟨_, rfl⟩, q⟩
  | bl b =>
    cases ru
    exact PySem.P.repr_of_bool ⟨.str _, H, I.tok _, ⟨_, rfl⟩, q⟩
  | int i =>
    obtain ⟨t, rfl⟩ := ru
    exact PySem.P.repr_of_int (of_decide_eq_true sm.shows) ⟨.str _, H, I.tok _, ⟨_, rfl⟩, q⟩
  | str x =>
    obtain ⟨t, rfl⟩ := ru
    exact PySem.P.repr_of_str ⟨.str _, H, I.tok _, ⟨_, rfl⟩, q⟩ fits
  | _ =>
    cases ru
    exact repr_of_reads' rd sm.shows (fun _ => off) quiet (by omega) (fun _ _ e => e) (fun h' t tk more => ⟨.str _, H, I.kept more, ⟨_, rfl⟩, q⟩) fits
end
theorem Dp.noDict {K : PySem.W.Frag} {H : Hp} {v : V} {d : PyData} (h : Dp K H v d) : d.hasDict = false := by
  refine Dp.rec (K := K) (H := H) (motive_1 := fun v d _ => d.hasDict = false) (motive_2 := fun vs ds _ => PyData.hasDictAll ds = false) ?_ ?_ ?_ ?_ ?_ ?_ ?_ ?_ h
  all_goals intros
  all_goals simp_all [PyData.hasDict, PyData.hasDictAll]
section
variable {X : Cx}
theorem call_reprD (quiet : Quiet X.A) (units : X.A.units + 64 < cLine) : CallR X (.builtin "repr")
    (fun xs H Q => ∃ v d n dp, xs = [v] ∧ Dp X.K H v d ∧ Sm n dp d ∧ n ≤ 300000 ∧ dp ≤ 60 ∧ Q (.str d.shown) H) := by
  intro pins s σ H xs us Q I r h
  obtain ⟨v, d, n, dp, rfl, hd, sm, hn, hdp, q⟩ := h
  obtain ⟨u, rfl, ru⟩ := vals1 r
  have fits := sm.fits hn
  have flat := sm.flat
  obtain ⟨as, rd⟩ := Dp.reads I d v u hd ru
  cases hd with
  | non =>
    cases ru
    exact PySem.P.repr_of_none ⟨.str _, H, I.tok _, ⟨_, rfl⟩, q⟩
  | bl b =>
    cases ru
    exact PySem.P.repr_of_bool ⟨.str _, H, I.tok _, ⟨_, rfl⟩, q⟩
  | int i =>
    obtain ⟨t, rfl⟩ := ru
    exact PySem.P.repr_of_int (of_decide_eq_true sm.shows) ⟨.str _, H, I.tok _, ⟨_, rfl⟩, q⟩
  | str x =>
    obtain ⟨t, rfl⟩ := ru
    exact PySem.P.repr_of_str ⟨.str _, H, I.tok _, ⟨_, rfl⟩, q⟩ fits
  | lst h1 h2 =>
    cases ru
    exact repr_of_reads' rd sm.shows (PyData.noDict_hsm (Dp.noDict (Dp.lst h1 h2))) quiet (by omega) (fun _ _ e => e) (fun h' t tk more => ⟨.str _, H, I.kept more, ⟨_, rfl⟩, q⟩) fits
  | tup h1 h2 =>
    cases ru
    exact repr_of_reads' rd sm.shows (PyData.noDict_hsm (Dp.noDict (Dp.tup h1 h2))) quiet (by omega) (fun _ _ e => e) (fun h' t tk more => ⟨.str _, H, I.kept more, ⟨_, rfl⟩, q⟩) fits
end
/-! ### the end of a law row whose def is of the quiet kind -/
theorem quiet_law {P : Program} {w : World} {K : PySem.W.Frag} {mg mb : Str → Option Value} {k : Nat} {fa a : Addr} {fd : FuncData} {x : Str} {sp : Sp} {s₁ : Shared} {vs : List Value} {ns : List Int}
    (inK : K.In s₁.heap) (glob : s₁.heap.Ns mainGlobals mg) (blt : s₁.heap.Ns builtinsNs mb) (bltIs : ∀ y : Str, y ≠ "__name__" → mb y = bootBuiltins y) (lim : s₁.heap.NoLimit) (gens : s₁.gens = #[]) (mods : ∃ mm, s₁.heap.Ns sysModules mm)
    (here : s₁.heap.get? a = some { cls := .type "list", data := .seq vs.toArray }) (whole : IntsAre vs ns) (few : ns.length ≤ sizeLine) (room : Room k callerA)
    (F : ∀ base : Heap, K.In base → base.Ns mainGlobals mg → (∃ mm, base.Ns sysModules mm) → FnG P w K mg base k fa fd [x] sp) (bind : ∀ (s : Shared) (u : Value), BindsTo s fd ⟨[u], []⟩ [(x, u)])
    (want : ∀ H : Hp, Only H → SqL K H a (ns.map V.int) → sp [.ref a] H (fun v _ => v = .bl true) E0) :
    codeAny (model P w) callerA (.call (.ref fa) ⟨[.ref a], []⟩) (fun r s' => r = .ok (.ret (.bool true)) ∧ OldK s₁.heap s'.heap ∧ s'.os = s₁.os ∧ AllBare s'.gens) s₁ := by
  have rel := vals_ints whole
  -- H: the script alone, or nothing
  have main : ∀ H : Hp, Only H → SqL K H a (ns.map V.int) → HOk P w H s₁.heap → (∀ b u, H b = some u → b = a ∧ K.lookup b = none) →
      codeAny (model P w) callerA (.call (.ref fa) ⟨[.ref a], []⟩) (fun r s' => r = .ok (.ret (.bool true)) ∧ OldK s₁.heap s'.heap ∧ s'.os = s₁.os ∧ AllBare s'.gens) s₁ := by
    intro H only sq ok apart
    have untold : ∀ {b o}, s₁.heap.get? b = some o → (b = a → False) → H b = none := by
      intro b o e ne
      cases q : H b with
      | none => rfl
      | some u => exact (ne (apart b u q).1).elim
    have ns1 : ∀ {b m}, s₁.heap.Ns b m → (hidT s₁.heap H).Ns b m := by
      rintro b m ⟨o, es, ep, e, d, r⟩
      refine ⟨o, es, ep, hidT_get e (untold e fun z => ?_), d, r⟩
      subst z
      rw [here] at e
      cases e
      cases d
    have kIn : K.In (hidT s₁.heap H) := by
      intro b o e
      apply hidT_get (inK b o e)
      cases q : H b with
      | none => rfl
      | some u =>
        have z := (apart b u q).2
        rw [e] at z
        cases z
    have lim1 : (hidT s₁.heap H).NoLimit := by
      obtain ⟨mc, h1, h2⟩ := lim
      exact ⟨mc, ns1 h1, h2⟩
    have e0 : Env0 P w K mg (hidT s₁.heap H) callerA [] s₁ H := {
      frames := rfl, mod := ⟨kIn, ns1 glob, ⟨mb, ns1 blt, bltIs⟩, lim1⟩, bs := fun _ _ e => of_hidT e, bsz := Nat.le_of_eq (hidT_size _ _), funs := True.intro, frf := (fun _ hb => nomatch hb), hok := ok, bare := .of_eq gens }
    apply codeAny_mono ((F _ kIn (ns1 glob) (mods.elim fun mm h => ⟨mm, ns1 h⟩)).go (us := [.ref a]) (vs := [.ref a]) room rfl e0 (bind s₁ _) (.cons rfl .nil) (want H only sq))
    intro r s' hr
    match r, hr with
    | .error _, hr => exact hr.elim
    | .ok .next, hr => exact False.elim hr
    | .ok .brk, hr => exact False.elim hr
    | .ok .cont, hr => exact False.elim hr
    | .ok (.ret u), hr =>
      obtain ⟨v, H', os, bare, un, ok', rv, q⟩ := hr
      cases (show v = V.bl true from q)
      cases (show u = Value.bool true from rv)
      refine ⟨rfl, OldK.of_keep ?_, os, bare⟩
      intro b o e
      cases only b with
      | inl n => exact un.keep b o e n (fun z => nomatch z) (fun z => nomatch z)
      | inr n =>
        obtain ⟨ob, xs, z⟩ := n
        have e1 := (ok b _ z).1
        have e2 := (ok' b _ (un.frzs b ob _ z)).1
        rw [e] at e1
        cases e1
        exact e2
  have small : (ns.map V.int).length ≤ sizeLine := by rw [List.length_map]; exact few
  cases known : K.lookup a with
  | some o =>
    have e := inK a o known
    rw [here] at e
    cases e
    have sz : vs.length ≤ sizeLine := by rw [← rel.length]; exact small
    exact main (fun _ => none) (fun _ => .inl rfl) (.inr ⟨_, vs.toArray, _, known, rfl, rfl, rfl, by simpa using sz, by simpa using rel⟩) (fun _ _ z => nomatch z) (fun _ _ z => nomatch z)
  | none =>
    have at1 : ∀ {b u}, (if b = a then some (HO.frz { cls := .type "list", data := .seq vs.toArray } (.lst (ns.map V.int))) else none) = some u → b = a := by
      intro b u z
      by_cases hb : b = a
      · exact hb
      · rw [if_neg hb] at z
        cases z
    refine main (fun b => if b = a then some (.frz { cls := .type "list", data := .seq vs.toArray } (.lst (ns.map V.int))) else none) (fun b => ?_) (.inl (.inr ⟨{ cls := .type "list", data := .seq vs.toArray }, if_pos rfl⟩)) (fun b u z => ?_) (fun b u z => ?_)
    · by_cases hb : b = a
      · exact .inr ⟨_, _, if_pos hb⟩
      · exact .inl (if_neg hb)
    · have hb := at1 z
      subst hb
      have z2 := (if_pos rfl).symm.trans z
      cases z2
      exact ⟨here, small, vs, _, rel, here⟩
    · have hb := at1 z
      subst hb
      exact ⟨rfl, known⟩
theorem quiet_walk {l : PySem.W.OpenLaw} {n k : Nat} {q : Program} {loose : List Str} {XP : (Str → Option Value) → Heap → Prop} {YP : World → Heap → Prop} {d : DefRec} {K : Params → PySem.W.Frag} {sp : World → Sp} {x : Str}
    (noImport : importsNone q = true) (most : l.most = some n) (n2 : n ≤ sizeLine) (defaults : d.params.defaults = []) (room : Room k callerA) (hY : ∀ (w : World) (h : Heap), YP w h → (K w.params).In h)
    (F : ∀ (w : World) (mg : Str → Option Value) (fa : Addr) (h : Heap), (K w.params).In h → h.Ns mainGlobals mg → mg d.name = some (.ref fa) →
      ∃ fd : FuncData, (∀ (s : Shared) (u : Value), BindsTo s fd ⟨[u], []⟩ [(x, u)]) ∧ ∀ base : Heap, (K w.params).In base → base.Ns mainGlobals mg → (∃ mm, base.Ns sysModules mm) → FnG l.prog w (K w.params) mg base k fa fd [x] (sp w))
    (want : ∀ (w : World) (H : Hp) (a : Addr) (ns : List Int), ns.length ≤ n → Only H → SqL (K w.params) H a (ns.map V.int) → sp w [.ref a] H (fun v _ => v = .bl true) E0) :
    PySem.W.WalkO q loose XP YP l.row.toRowW d [] (fun f vs => PySem.call f vs) := by
  apply Att.attach_call most defaults
  intro w s₀ s₁ mg mb fa o pm cd doc a vs ns G Y ho hd hcd hmg hobj hints hlen hg
  obtain ⟨fd, hb, hF⟩ := F w mg fa _ (hY w _ Y) G.T.g hmg
  exact quiet_law (hY w _ Y) G.T.g G.T.b G.T.builtins G.T.nolimit hg ((G.T.seer noImport).mods.elim fun mm h => ⟨mm, h.1⟩) hobj hints (Nat.le_trans hlen n2) room hF hb fun H o1 s1 => want w H a ns hlen o1 s1

/-! ### a op1 b op2 c op3 .. : chains of any length -/
section
variable {X : Cx}
structure PCh (X : Cx) (ops : List CmpOp) (es : List Expr) (t : V → TE) : Prop where
  run : ∀ (pos : Pos) (pins : List (Addr × Obj)) (s : Shared) (σ : L2.St) (H : Hp) (Q : VK) (x : V) (v : Value), Inv X pins σ H s → RelV x v → t x σ H Q → wpAny (model X.prog X.w) X.A (compareChain pos v ops (evalEach es X.env)) (EP X pins σ Q) X.xe s
structure PChT (X : Cx) (ops : List CmpOp) (es : List Expr) (t : V → TE) : Prop where
  run : ∀ (pos : Pos) (pins : List (Addr × Obj)) (s : Shared) (σ : L2.St) (H : Hp) (Q : Bool → Hp → Prop) (x : V) (v : Value), Inv X pins σ H s → RelV x v → (t x σ H fun y H' => ∃ k, y = .bl k ∧ Q k H') → wpAny (model X.prog X.w) X.A (testChain pos v ops (evalEach es X.env)) (TP X pins σ Q) X.xe s
def tLast (r : R2) (tb : TE) : V → TE := fun x σ H Q => tb σ H fun y H2 => r x y H2 Q
def tLink (r : R2) (tb : TE) (rest : V → TE) : V → TE := fun x σ H Q => tb σ H fun y H2 => r x y H2 fun z H3 => ∃ k, z = .bl k ∧ (if k = true then rest y σ H3 Q else Q (.bl false) H3)
def tCh (ta : TE) (rest : V → TE) : TE := fun σ H Q => ta σ H fun x H1 => rest x σ H1 Q
theorem pch_last {op : CmpOp} {r : R2} {b : Expr} {tb : TE} (ho : OpR X (compareOp op) r) (hb : PE X b tb) : PCh X [op] [b] (tLast r tb) :=
  ⟨fun pos pins s σ H Q x v I rx h => chain_last (thn (hb.run pins s σ H _ I h) fun u s2 ⟨y, H2, I2, r2, q2⟩ => ho pins s2 σ H2 x y v u Q I2 rx r2 q2)⟩
theorem pch_link {op op' : CmpOp} {ops : List CmpOp} {r : R2} {b b' : Expr} {bs : List Expr} {tb : TE} {rest : V → TE} (ho : OpR X (compareOp op) r) (hb : PE X b tb) (hr : PCh X (op' :: ops) (b' :: bs) rest) : PCh X (op :: op' :: ops) (b :: b' :: bs) (tLink r tb rest) := by
  refine ⟨fun pos pins s σ H Q x v I rx h => ?_⟩
  refine chain_link (thn (hb.run pins s σ H _ I h) fun u s2 ⟨y, H2, I2, r2, q2⟩ => thn (ho pins s2 σ H2 x y v u _ I2 rx r2 q2) fun d s3 ⟨z, H3, I3, r3, k, e, q3⟩ => ?_)
  subst e
  cases r3
  refine wpAny_truthy_bool ?_
  cases k with
  | false => exact ite_ff ⟨.bl false, H3, I3, rfl, q3⟩
  | true => exact ite_tt (hr.run pos pins s3 σ H3 Q y u I3 r2 q3)
theorem pe_chN {op op' : CmpOp} {ops : List CmpOp} {a b b' : Expr} {bs : List Expr} {pos : Pos} {ta : TE} {rest : V → TE} (ha : PE X a ta) (hr : PCh X (op :: op' :: ops) (b :: b' :: bs) rest)
    (hm : lastMarks (op :: op' :: ops) (b :: b' :: bs) = false := by with_unfolding_all rfl) : PE X (.Compare a (op :: op' :: ops) (b :: b' :: bs) pos) (tCh ta rest) :=
  ⟨fun pins s σ H Q I h => Compare_chain (thn (ha.run pins s σ H _ I h) fun v s1 ⟨x, H1, I1, r1, q1⟩ => hr.run pos pins s1 σ H1 Q x v I1 r1 q1) hm⟩
theorem pchT_last {op : CmpOp} {r : R2} {b : Expr} {tb : TE} (ho : OpR X (compareOp op) r) (hb : PE X b tb) : PChT X [op] [b] (tLast r tb) := by
  refine ⟨fun pos pins s σ H Q x v I rx h => ?_⟩
  refine test_last (thn (hb.run pins s σ H _ I h) fun u s2 ⟨y, H2, I2, r2, q2⟩ => thn (ho pins s2 σ H2 x y v u _ I2 rx r2 q2) fun d s3 ⟨z, H3, I3, r3, k, e, q3⟩ => ?_)
  subst e
  cases r3
  exact wpAny_truthy_bool ⟨H3, I3, q3⟩
theorem pchT_link {op op' : CmpOp} {ops : List CmpOp} {r : R2} {b b' : Expr} {bs : List Expr} {tb : TE} {rest : V → TE} (ho : OpR X (compareOp op) r) (hb : PE X b tb) (hr : PChT X (op' :: ops) (b' :: bs) rest) : PChT X (op :: op' :: ops) (b :: b' :: bs) (tLink r tb rest) := by
  refine ⟨fun pos pins s σ H Q x v I rx h => ?_⟩
  refine test_link (thn (hb.run pins s σ H _ I h) fun u s2 ⟨y, H2, I2, r2, q2⟩ => thn (ho pins s2 σ H2 x y v u _ I2 rx r2 q2) fun d s3 ⟨z, H3, I3, r3, k, e, q3⟩ => ?_)
  subst e
  cases r3
  refine wpAny_truthy_bool ?_
  cases k with
  | false =>
    obtain ⟨k', e', q'⟩ := q3
    cases e'
    exact ite_ff ⟨H3, I3, q'⟩
  | true => exact ite_tt (hr.run pos pins s3 σ H3 Q y u I3 r2 q3)
theorem pt_chN {op op' : CmpOp} {ops : List CmpOp} {a b b' : Expr} {bs : List Expr} {pos : Pos} {ta : TE} {rest : V → TE} (ha : PE X a ta) (hr : PChT X (op :: op' :: ops) (b :: b' :: bs) rest)
    (hm : lastMarks (op :: op' :: ops) (b :: b' :: bs) = false := by with_unfolding_all rfl) : PT X (.Compare a (op :: op' :: ops) (b :: b' :: bs) pos) (tTest (tCh ta rest)) :=
  ⟨fun pins s σ H Q I h => isTrue_chain (thn (ha.run pins s σ H _ I h) fun v s1 ⟨x, H1, I1, r1, q1⟩ => hr.run pos pins s1 σ H1 Q x v I1 r1 q1) hm⟩
end

theorem pi_listK {X : Cx} {K : PySem.W.Frag} {tg l : Expr} {tl : TE} (hK : X.K = K) (hl : PE X l tl) : PI X tg l (iList K tl) := hK ▸ pi_list hl
theorem pi_tupK {X : Cx} {K : PySem.W.Frag} {tg l : Expr} {tl : TE} (hK : X.K = K) (hl : PE X l tl) : PI X tg l (iTup K tl) := hK ▸ pi_tup hl

/-! ### enumerate of a tuple -/
section
open Sem (wp)
set_option maxHeartbeats 4000000 in
theorem enum_of_tuple (t : Addr) (items : Array Value) : Meets (Builtin.«enumerate.__new__» ⟨[.type "enumerate", .ref t], []⟩) (fun _ R s => s.heap.IsTuple t items ∧
    R (.ok (.ret (.ref (s.heap.push { cls := .type "tuple_iterator", data := .fields #[.ref t, .int 0 0] }).objs.size)))
      { s with heap := (s.heap.push { cls := .type "tuple_iterator", data := .fields #[.ref t, .int 0 0] }).push { cls := .type "enumerate", data := .fields #[.none, .bool false, .ref s.heap.objs.size, rawInt 0, .none, .none] } }) := by
  refine .of_wp fun prog w A R s h => ?_
  obtain ⟨hp, g, d, tk, os⟩ := s
  obtain ⟨isT, h⟩ := h
  have sub := sub_enumerate
  have start : ∀ {A' : Around} {E : Value → Shared → Prop} {Q : Value → Shared → Prop}, Q (.ref hp.objs.size) ⟨hp.push { cls := .type "tuple_iterator", data := .fields #[.ref t, .int 0 0] }, g, d, tk, os⟩ → wpAny (model prog w) A' (pyIter (.ref t)) Q E ⟨hp, g, d, tk, os⟩ := by
    intro A' E Q q
    exact (begins_tuple t items).iter prog w A' E ⟨hp, g, d, tk, os⟩ Q isT q
  wp_walk using start
  refine wpAny_stack_any fun st => wpAny_pure ?_
  split
  · rename_i cc _ _ _ _ _
    cases (cc == Value.type "enumerate") <;> (wp_walk using start; exact Exists.intro _ ⟨rfl, h⟩)
  · wp_walk using start
    exact Exists.intro _ ⟨rfl, h⟩
end
theorem call_enumT {prog : Program} {w : World} {A : Around} {E : Value → Shared → Prop} {s : Shared} {t : Addr} {items : Array Value} {Q : Value → Shared → Prop} (isT : s.heap.IsTuple t items)
    (h : ∀ h', IsEnum h' (s.heap.objs.size + 1) s.heap.objs.size 0 .none → h'.IsTupleIter s.heap.objs.size t 0 → (∀ b o, s.heap.get? b = some o → h'.get? b = some o) → Q (.ref (s.heap.objs.size + 1)) { s with heap := h' }) :
    wpAny (model prog w) A (call (.type "enumerate") [.ref t]) Q E s := by
  refine callType_new F.called_enumerate (by decide) (F.typeCall_enumerate_1 _) (F.newCall_enumerate_1 _) (fun obj => F.args_object_init_2 obj _) F.entry_enumerate_new (enum_of_tuple t items) (And.intro isT ?_)
  have size : (s.heap.push { cls := .type "tuple_iterator", data := .fields #[.ref t, .int 0 0] }).objs.size = s.heap.objs.size + 1 := Heap.size_push ..
  show _ ∧ _
  rw [size]
  have made := Heap.get?_push_size (s.heap.push { cls := .type "tuple_iterator", data := .fields #[.ref t, .int 0 0] }) (o := { cls := .type "enumerate", data := .fields #[.none, .bool false, .ref s.heap.objs.size, rawInt 0, .none, .none] }) rfl
  rw [size] at made
  refine ⟨⟨_, made, rfl⟩, h _ made ⟨_, Heap.get?_push_of_some _ (Heap.get?_push_size _ rfl), rfl, rfl⟩ ?_⟩
  intro b o e
  exact Heap.get?_push_of_some _ (Heap.get?_push_of_some _ e)
/-- the tuple at a, each item in a new pair with its place -/
def IteT (K : PySem.W.Frag) (a : Addr) (N : Nat) : It where
  go := fun i H => ∃ (xs : List V) (x : V), SqT K H a xs ∧ xs[i]? = some x ∧ xs.length = N
  yld := fun i H v H' => ∃ t x, v = .ref t ∧ H t = none ∧ H' = upd H t (.tup [.int (i : Nat), x]) ∧ ∀ xs, SqT K H a xs → xs[i]? = some x
  stop := fun i H => ∃ xs : List V, SqT K H a xs ∧ xs.length = N ∧ N ≤ i
theorem turn_enumT {P : Program} {w : World} {K : PySem.W.Frag} {elts : List Expr} {kk : Nat} {tpos : Pos} (a e it : Addr) (N : Nat) :
    Turn P w K (.Tuple elts kk tpos) (IteT K a N) [e, it] e (fun i h => (∃ old, IsEnum h e it ((i : Nat) : Int) old) ∧ h.IsTupleIter it a i ∧ e ≠ it ∧ i ≤ N) := by
  have two : ∀ {b : Addr}, b ∈ [e, it] → b = e ∨ b = it := fun hb => by simpa using hb
  constructor
  · simp
  · rintro i h ⟨⟨old, he⟩, ⟨o, ho, hc, hd⟩, _, _⟩ b hb
    rcases two hb with rfl | rfl
    · exact ⟨_, he, fun v q => nomatch q⟩
    · refine ⟨o, ho, fun v q => ?_⟩
      rw [hd] at q
      cases q
  · rintro i h h' ⟨⟨old, he⟩, hi, hne, hN⟩ k
    exact ⟨⟨old, k e (by simp) _ he⟩, hi.at fun o q => k it (by simp) o q, hne, hN⟩
  · intro X hP hw hK hc i pins s σ H E I hf st hg
    subst hP hw hK
    obtain ⟨⟨old, he⟩, hit, hne, hN⟩ := st
    obtain ⟨xs, x, hq, hx, hxN⟩ := hg
    have inside := (List.getElem?_eq_some_iff.mp hx).1
    obtain ⟨its, rv, p, _⟩ := I.tuple hq
    obtain ⟨u, hu, ru⟩ := rv.get hx
    have isT : s.heap.IsTuple a its.toArray := p
    have apart : a ≠ it := by
      rintro rfl
      obtain ⟨o1, q1, c1, _⟩ := hit
      obtain ⟨o2, q2, c2, _⟩ := isT
      rw [q1] at q2
      cases q2
      rw [c1] at c2
      exact absurd (Value.type.inj c2) (by decide)
    have hea : e ≠ a := by
      rintro rfl
      obtain ⟨o2, q2, c2, _⟩ := isT
      rw [he] at q2
      cases q2
      exact absurd (Value.type.inj c2) (by decide)
    have lte : e < s.heap.objs.size := Heap.lt_size he
    have lti : it < s.heap.objs.size := hit.elim fun _ q => Heap.lt_size q.1
    have less : i < its.toArray.size := by
      have z := (List.getElem?_eq_some_iff.mp hu).1
      rw [List.size_toArray]
      exact z
    apply wpAny_pyNext_enum_itemD (Draws.tuple (A := X.A.in1) (I.ok.hd hc) it a apart its.toArray) he ⟨hit, isT⟩ less hne (by simp [hne, hea])
    intro y h' tk hy ho st' hT hsz hk
    have ey : y = u := by
      have z : its[i]? = some y := by simpa using hy
      rw [hu] at z
      exact (Option.some.inj z).symm
    subst ey
    refine ⟨_, rfl, wpAny_letOwnedTupleGo_enum (s := { s with heap := h', toks := tk + 1 }) ho fun h2 he2 sb => ?_⟩
    have kept : ∀ b o, b ∉ [e, it] → s.heap.get? b = some o → h2.get? b = some o := by
      intro b o nb q
      have n1 : b ≠ e := fun z => nb (by simp [z])
      have n2 : b ≠ it := fun z => nb (by simp [z])
      exact (sb.2 b n1).trans (hk b o n1 n2 q)
    have hT2 : h2.get? s.heap.objs.size = some { cls := .type "tuple", data := .seq #[.int i tk, y] } := (sb.2 _ (Nat.ne_of_gt lte)).trans hT
    have I1 : Inv X pins σ (upd H s.heap.objs.size (.tup [.int (i : Nat), x])) { s with heap := h2, toks := tk + 1 } := by
      refine I.turnedNew (ch := [e, it]) kept hf (Nat.le_refl _) ⟨by show 2 ≤ sizeLine; decide, [.int i tk, y], .cons ⟨_, rfl⟩ (.cons ru .nil), ?_⟩
      exact ⟨_, hT2, rfl, _, rfl⟩
    refine ⟨.ref s.heap.objs.size, _, I1, rfl, ⟨_, x, rfl, I.hok.fresh (Nat.le_refl _), rfl, fun ys hys => ?_⟩, ⟨⟨y, ?_⟩, ?_, hne, by omega⟩, fun b hb => ?_⟩
    · rw [I.tuple_inj hys hq]
      exact hx
    · have cast : ((i + 1 : Nat) : Int) = (i : Int) + 1 := by omega
      rw [cast]
      exact he2
    · exact st'.1.at fun o q => (sb.2 it hne.symm).trans q
    · have lt : b < s.heap.objs.size := by
        rcases two hb with rfl | rfl
        · exact lte
        · exact lti
      rw [upd_ne (Nat.ne_of_lt lt)]
      exact (hf b hb).1
  · intro X hP hw hK hc i pins s σ H E I hf st hg
    subst hP hw hK
    obtain ⟨⟨old, he⟩, hit, hne, hN⟩ := st
    obtain ⟨xs, hq, hxN, hx⟩ := hg
    obtain ⟨its, rv, p, _⟩ := I.tuple hq
    have isT : s.heap.IsTuple a its.toArray := p
    have apart : a ≠ it := by
      rintro rfl
      obtain ⟨o1, q1, c1, _⟩ := hit
      obtain ⟨o2, q2, c2, _⟩ := isT
      rw [q1] at q2
      cases q2
      rw [c1] at c2
      exact absurd (Value.type.inj c2) (by decide)
    obtain ⟨f0, f1, f2, f3, f4, f5⟩ := hf it (by simp)
    have len := rv.length
    have at1 : i = its.toArray.size := by
      rw [List.size_toArray]
      omega
    subst at1
    apply wpAny_pyNext_enum_endD (Draws.tuple (A := X.A.in1) (I.ok.hd hc) it a apart its.toArray) he ⟨hit, isT⟩
    intro h' eb
    exact And.intro rfl (I.turned (t' := s.toks) (fun b o hb q => eb b o hb q) f0 f1 f3 f4 f5)
  · rintro A i s Q E ⟨⟨_, he⟩, _⟩ h
    exact wpAny_pyIter_enum he h
def iEnumT (K : PySem.W.Frag) (ta : TA) : TI := fun σ H R => ta σ H fun vs H1 => ∃ a xs, vs = [.ref a] ∧ SqT K H1 a xs ∧ R (IteT K a xs.length) H1
theorem pi_enumT {X : Cx} {e : Expr} {ta : TA} {p pos tpos : Pos} {elts : List Expr} {kk : Nat} (hg : Gl X "enumerate") (hm : X.mg "enumerate" = none) (args : PA X [e] ta) (star : starEach [e] X.env = [(false, eval e X.env)] := by rfl) :
    PI X (.Tuple elts kk tpos) (.Call (.Name "enumerate" p) [e] [] pos) (iEnumT X.K ta) := by
  constructor
  intro pins s σ H R I h
  refine Call_ (ld_blt I hg hm boot_enumerate ?_)
  refine PyProof.Rows.callWith_type1 (thn (args.run pos pins s σ H _ I h) ?_) star rfl
  rintro us s1 ⟨vs, H1, I1, rel, a, xs, rfl, sq, q⟩
  obtain ⟨u, rfl, ru⟩ := vals1 rel
  cases ru
  obtain ⟨its, rv, isT, _⟩ := I1.tuple sq
  refine call_enumT (items := its.toArray) isT fun h' he hit hk => wpAny_pyIter_enum he ?_
  have fresh : ∀ b ∈ [s1.heap.objs.size + 1, s1.heap.objs.size], s1.heap.objs.size ≤ b := by
    intro b hb
    have z : b = s1.heap.objs.size + 1 ∨ b = s1.heap.objs.size := by simpa using hb
    rcases z with rfl | rfl
    · exact Nat.le_add_right _ _
    · exact Nat.le_refl _
  exact ⟨_, _, _, _, H1, rfl, I1.kept hk, turn_enumT a (s1.heap.objs.size + 1) s1.heap.objs.size xs.length, ⟨⟨.none, he⟩, hit, Nat.succ_ne_self _, Nat.zero_le _⟩, fun b hb => I1.fpOk (fresh b hb) (I1.hok.fresh (fresh b hb)), q⟩

/-! ### t[::-1] of a tuple; xs == [], xs != [] of a list that may hold anything -/
section
open HT
variable {prog : Program} {w : World} {A : Around} {E : Value → Shared → Prop} {s : Shared}
theorem adjust_rev (n : Nat) : Builtin.Slice.sliceAdjust none none (-1) (n : Int) = ((n : Int) - 1, -1) := by
  unfold Builtin.Slice.sliceAdjust
  have h1 : (-1 : Int) < 0 := by decide
  simp only [h1, if_true]
theorem places_rev (n : Nat) : Builtin.Slice.slicePlaces ((n : Int) - 1) (-1) (-1) = n := by
  unfold Builtin.Slice.slicePlaces
  have h1 : ¬ ((-1 : Int) > 0) := by decide
  simp only [h1, if_false]
  have h2 : (-(-1) : Int) = 1 := by decide
  rw [h2, Int.ediv_one]
  split <;> omega
theorem sliceApplied_rev {sl : Addr} {vl vu vs : Value} {n : Nat} {Q : Int × Int × Nat → Shared → Prop} (hs : s.heap.IsSliceOf sl vl vu vs) (pl : IsPart vl none) (pu : IsPart vu none) (pt : IsPart vs (some (-1)))
    (h : Q ((n : Int) - 1, -1, n) s) : wpAny (model prog w) A (Builtin.Slice.sliceApplied (.ref sl) (pure (n : Int))) Q E s := by
  obtain ⟨os, hos, hcs, hds⟩ := id hs
  unfold Builtin.Slice.sliceApplied Builtin.Slice.sliceFields
  refine wpAny_bind (wpAny_bind (wpAny_field hos hds (x := vl) rfl (wpAny_bind (wpAny_field hos hds (x := vu) rfl (wpAny_bind (wpAny_field hos hds (x := vs) rfl (wpAny_pure ?_)))))))
  refine wpAny_bind (slicePart_ pt ?_)
  show wpAny _ _ (if ((-1 : Int) == 0) = true then _ else _) _ _ s
  rw [if_neg (by decide)]
  refine wpAny_bind (slicePart_ pl (wpAny_bind (slicePart_ pu (wpAny_bind (wpAny_pure ?_)))))
  show wpAny _ _ (match Builtin.Slice.sliceAdjust none none (-1) (n : Int) with | (lo, hi) => pure (lo, (-1 : Int), Builtin.Slice.slicePlaces lo hi (-1))) _ _ s
  rw [adjust_rev]
  show wpAny _ _ (pure ((n : Int) - 1, (-1 : Int), Builtin.Slice.slicePlaces ((n : Int) - 1) (-1) (-1))) _ _ s
  rw [places_rev]
  exact wpAny_pure h
theorem pick_rev (xs : Array Value) : ((List.range xs.size).filterMap fun (k : Nat) => xs[((xs.size : Int) - 1 + (k : Int) * (-1)).toNat]?) = xs.toList.reverse := by
  have e : ∀ m : Nat, m ≤ xs.size → ((List.range m).filterMap fun (k : Nat) => xs[((xs.size : Int) - 1 + (k : Int) * (-1)).toNat]?) = xs.toList.reverse.take m := by
    intro m
    induction m with
    | zero => intro _; rfl
    | succ m ih =>
      intro hm
      rw [List.range_succ, List.filterMap_append, ih (by omega), List.take_add_one]
      congr 1
      have e1 : ((xs.size : Int) - 1 + (m : Int) * (-1)).toNat = xs.size - 1 - m := by omega
      have e2 : xs.toList.reverse[m]? = xs[xs.size - 1 - m]? := by
        rw [List.getElem?_reverse (by rw [Array.length_toList]; omega), Array.length_toList, Array.getElem?_toList]
      rw [e2]
      have lt : xs.size - 1 - m < xs.size := by omega
      simp only [List.filterMap_cons, List.filterMap_nil, e1]
      rw [Array.getElem?_eq_getElem lt]
      rfl
  rw [e _ (Nat.le_refl _), List.take_of_length_le (by rw [List.length_reverse, Array.length_toList]; exact Nat.le_refl _)]
theorem getItem_tuple_rev {t sl : Addr} {items : Array Value} {vl vu vs : Value} {Q : Value → Shared → Prop} (ht : IsTup s.heap t items) (hs : s.heap.IsSliceOf sl vl vu vs) (pl : IsPart vl none) (pu : IsPart vu none) (pt : IsPart vs (some (-1)))
    (h : Q (.ref s.heap.objs.size) { s with heap := s.heap.push { cls := .type "tuple", data := .seq items.toList.reverse.toArray } })
    (hsz : items.size ≤ sizeLine) : wpAny (model prog w) A (getItem (.ref t) (.ref sl)) Q E s := by
  have htake : sizeOk (.seq items.toList.reverse.toArray) := by
    show items.toList.reverse.toArray.size ≤ sizeLine
    rw [List.size_toArray, List.length_reverse, Array.length_toList]
    omega
  obtain ⟨os, hos, hcs, hds⟩ := id hs
  have hTs : s.TypeIs (.ref sl) "slice" := ⟨os, hos, hcs⟩
  unfold getItem
  try with_reducible refine wpAny_holding ?_
  first | refine wpAny_bind (wpAny_pure ?_) | skip
  refine wpAny_bind (wpAny_sequenceKey ht.typeIs (by decide) ?_)
  refine wpAny_bind (wpAny_callSpecial?_slot (name := Str.ofString "__getitem__") ht.typeIs PyProof.Rows.slot_tuple_getitem
    (wpAny_call_entry PyProof.Rows.slot_tuple_getitem ht.typeIs entry_tuple_getitem ?_ (args_tuple_getitem _ _)))
  show wpAny _ _ (Builtin.Tuple.tupleItemsOf (.ref t) >>= _) _ _ s
  refine wpAny_bind (tupleItemsOf_ ht ?_)
  refine wpAny_bind (wpAny_typeOf hTs ?_)
  rw [if_pos (by decide)]
  refine wpAny_bind (sliceApplied_rev hs pl pu pt ?_)
  have hno : ¬ ((((items.size : Int) - 1) == 0 && (-1 : Int) == 1 && items.size == items.size) = true) := by
    intro q
    rw [Bool.and_eq_true, Bool.and_eq_true] at q
    exact absurd q.1.2 (by decide)
  show wpAny _ _ (if (((items.size : Int) - 1) == 0 && (-1 : Int) == 1 && items.size == items.size) = true then _ else _) _ _ s
  rw [if_neg hno, pick_rev]
  first
    | exact wpAny_bind (m := Builtin.Tuple.tupleExact _) (wpAny_newObj_type (wpAny_pure ⟨_, rfl, wpAny_pure h⟩) htake)
    | exact wpAny_bind (m := Builtin.Tuple.tupleExact _) (wpAny_newObj_type (wpAny_bind (wpAny_pure (wpAny_pure ⟨_, rfl, wpAny_pure h⟩))) htake)
    | exact wpAny_bind (wpAny_bind (m := Builtin.Tuple.tupleExact _) (wpAny_newObj_type (wpAny_pure (wpAny_pure ⟨_, rfl, wpAny_pure h⟩)) htake))
    | exact wpAny_bind (wpAny_bind (m := Builtin.Tuple.tupleExact _) (wpAny_newObj_type (wpAny_pure ⟨_, rfl, wpAny_pure h⟩) htake))
end
section
variable {X : Cx}
def tRevT (K : PySem.W.Frag) (te : TE) : TE := fun σ H Q => te σ H fun x H1 => ∃ a xs, x = .ref a ∧ SqT K H1 a xs ∧ ∀ p, H1 p = none → Q (.ref p) (upd H1 p (.tup xs.reverse))
theorem pe_revT {e : Expr} {te : TE} {k : Nat} {p1 p2 p3 pos : Pos} (he : PE X e te) : PE X (.Subscript e (.Slice none none (some (.UnaryOp .USub (.Constant (.int 1) k p1) p2)) p3) pos) (tRevT X.K te) := by
  refine ⟨fun pins s σ H Q I h => ?_⟩
  refine Subscript_ (thn (he.run pins s σ H _ I h) fun v s1 ⟨x, H1, I1, r1, q1⟩ => ?_)
  obtain ⟨a, xs, ex, hx, q⟩ := q1
  subst ex
  cases r1
  have hst : PO X (some (.UnaryOp .USub (.Constant (.int 1) k p1) p2)) (tPart (tUn (rU fun i => .int (-i)) (tC (.int 1)))) := po_some (pe_un un_neg pe_int)
  refine wpAny_Slice (thn (po_none.run pins s1 σ H1 (fun o H2 => o = none ∧ H2 = H1) I1 ⟨rfl, rfl⟩) fun vl s2 ⟨l, H2, I2, pl, el, e2⟩ => ?_)
  subst el e2
  refine thn (po_none.run pins s2 σ H2 (fun o H3 => o = none ∧ H3 = H2) I2 ⟨rfl, rfl⟩) fun vu s3 ⟨u, H3, I3, pu, eu, e3⟩ => ?_
  subst eu e3
  refine thn (hst.run pins s3 σ H3 (fun o H4 => o = some (-1) ∧ H4 = H3) I3 ⟨1, rfl, -1, rfl, rfl, rfl⟩) fun vs s4 ⟨o, H4, I4, ps, eo, e4⟩ => ?_
  subst eo e4
  have I5 : Inv X pins σ H4 { s4 with heap := s4.heap.push { cls := .type "slice", data := .fields #[vl, vu, vs] } } := I4.kept (t' := s4.toks) fun b ob q => Heap.get?_push_of_some _ q
  obtain ⟨its, r, ht, hz⟩ := I5.tuple hx
  have hlen := r.length
  show wpAny (model X.prog X.w) X.A (subscriptTail e (.Slice none none (some (.UnaryOp .USub (.Constant (.int 1) k p1) p2)) p3) (.ref a) (.ref s4.heap.objs.size)) (EP X pins σ Q) X.xe { s4 with heap := s4.heap.push { cls := .type "slice", data := .fields #[vl, vu, vs] } }
  refine tail_any (ops := [.ref a, .ref s4.heap.objs.size]) ht.typeIs (PyProof.Rows.slot_tuple_getitem.lookup) ?_ (by with_unfolding_all rfl)
  refine getItem_tuple_rev ht (Heap.IsSliceOf.new _ vl vu vs) pl pu ps ?_ (by rw [List.size_toArray]; omega)
  refine ⟨.ref _, _, I5.laid (t' := s4.toks) (o := .tup xs.reverse) (fun b ob q => Heap.get?_push_of_some _ q) (Nat.le_refl _) ?_, rfl, q _ (I5.hok.fresh (Nat.le_refl _))⟩
  exact ⟨by rw [List.length_reverse]; exact hz, _, r.reverse, IsTup.new _ _⟩
def rEqL (K : PySem.W.Frag) : R2 := fun x y H Q => ∃ (a b : Addr) (xs : List V), x = .ref a ∧ y = .ref b ∧ SqL K H a xs ∧ SqL K H b [] ∧ Q (.bl xs.isEmpty) H
def rNeL (K : PySem.W.Frag) : R2 := fun x y H Q => ∃ (a b : Addr) (xs : List V), x = .ref a ∧ y = .ref b ∧ SqL K H a xs ∧ SqL K H b [] ∧ Q (.bl (!xs.isEmpty)) H
theorem op_eqL (units : X.A.units < cLine) : OpR X (compareOp .Eq) (rEqL X.K) := by
  intro pins s σ H x y v u Q I rx ry h
  obtain ⟨a, b, xs, rfl, rfl, ha, hb, q⟩ := h
  cases rx
  cases ry
  obtain ⟨its, r1, p1, _⟩ := I.list ha
  obtain ⟨its2, r2, p2, _⟩ := I.list hb
  cases r2
  cases r1 with
  | nil =>
    exact SeqAt.eq_listAt (e := fun _ => true) p1.isList p2.isList rfl units (fun j h1 h2 => absurd h2 (Nat.not_lt_zero j)) ⟨.bl true, H, I, rfl, q⟩
  | cons r t =>
    exact SeqAt.eq_list_lengthsAt p1.isList p2.isList (by simp) units ⟨.bl false, H, I, rfl, q⟩
theorem op_neL (units : X.A.units < cLine) : OpR X (compareOp .NotEq) (rNeL X.K) := by
  intro pins s σ H x y v u Q I rx ry h
  obtain ⟨a, b, xs, rfl, rfl, ha, hb, q⟩ := h
  cases rx
  cases ry
  obtain ⟨its, r1, p1, _⟩ := I.list ha
  obtain ⟨its2, r2, p2, _⟩ := I.list hb
  cases r2
  cases r1 with
  | nil =>
    exact SeqAt.RcNeAt.lists (e := fun _ => true) p1.isList p2.isList rfl units (fun j h1 h2 => absurd h2 (Nat.not_lt_zero j)) X.prog X.w X.xe (EP X pins σ Q) ⟨.bl false, H, I, rfl, q⟩
  | cons r t =>
    exact SeqAt.RcNeAt.lists_lengths p1.isList p2.isList (by simp) units X.prog X.w X.xe (EP X pins σ Q) ⟨.bl true, H, I, rfl, q⟩
end

/-! ### x in t, x not in t, for a tuple of data -/
theorem units65 {k : Nat} {A : Around} (r : Room k A) : A.units + 65 < cLine := by
  have := r.un
  omega
section
variable {X : Cx}
def rInT (K : PySem.W.Frag) : R2 := fun x y H Q => ∃ d ds, Dp K H x d ∧ Dp K H y (.tuple ds) ∧ SeqAt.shaped d = true ∧ SeqAt.shaped (.tuple ds) = true ∧ Q (.bl (ds.any fun z => PyData.eqv z d)) H
def rNotInT (K : PySem.W.Frag) : R2 := fun x y H Q => ∃ d ds, Dp K H x d ∧ Dp K H y (.tuple ds) ∧ SeqAt.shaped d = true ∧ SeqAt.shaped (.tuple ds) = true ∧ Q (.bl (!ds.any fun z => PyData.eqv z d)) H
theorem op_inT (units : X.A.units + 65 < cLine) : OpR X (compareOp .In) (rInT X.K) := by
  intro pins s σ H x y v u Q I rx ry ⟨d, ds, dx, dy, sx, sy, q⟩
  obtain ⟨_, r1⟩ := Dp.reads I d x v dx rx
  obtain ⟨_, r2⟩ := Dp.reads I (.tuple ds) y u dy ry
  have l2 : PyData.canLayAll0 ds = true := SeqAt.canLay_of_shaped sy
  exact SeqAt.in_tuple_reads r2 r1 l2 (SeqAt.canLay_of_shaped sx) (room_in_shaped sx units) (Exists.intro (V.bl _) ⟨H, I, rfl, q⟩)
theorem op_notInT (units : X.A.units + 65 < cLine) : OpR X (compareOp .NotIn) (rNotInT X.K) := by
  intro pins s σ H x y v u Q I rx ry ⟨d, ds, dx, dy, sx, sy, q⟩
  obtain ⟨_, r1⟩ := Dp.reads I d x v dx rx
  obtain ⟨_, r2⟩ := Dp.reads I (.tuple ds) y u dy ry
  have l2 : PyData.canLayAll0 ds = true := SeqAt.canLay_of_shaped sy
  exact SeqAt.notIn_tuple_reads r2 r1 l2 (SeqAt.canLay_of_shaped sx) (room_in_shaped sx units) (Exists.intro (V.bl _) ⟨H, I, rfl, q⟩)
end
theorem for_zipU {K : PySem.W.Frag} {a b : Addr} {xs ys : List V} {g : TG} {tb : TS} {D : Ends} {σ : L2.St} {H : Hp} (Pv : Nat → L2.St → Hp → Prop) (h0 : Pv 0 σ H) (hq : ∀ i σ H, Pv i σ H → SqT K H a xs ∧ SqT K H b ys)
    (hs : ∀ (i : Nat) (x y : V) (T : Addr) (σ : L2.St) (H : Hp), xs[i]? = some x → ys[i]? = some y → Pv i σ H → H T = none → g (.ref T) σ (upd H T (.tup [x, y])) fun σ2 H2 => tb { D with nx := Pv (i + 1), ct := Pv (i + 1), bk := D.nx } σ2 H2) (hd : ∀ i σ H, i ≤ xs.length → Pv i σ H → D.nx σ H) :
    ∃ W : Nat → Nat → L2.St → Hp → Prop, (∃ m, W 0 m σ H) ∧ ∀ i m σ H, W i m σ H →
      ((RZ.ItzT K a b).stop i H ∧ D.nx σ H) ∨ ((RZ.ItzT K a b).go i H ∧ ∃ N : L2.St → Hp → Prop, (∀ σ' H', N σ' H' → ∃ m', m' < m ∧ W (i + 1) m' σ' H') ∧ ∀ v H', (RZ.ItzT K a b).yld i H v H' → g v σ H' fun σ2 H2 => tb { D with nx := N, ct := N, bk := D.nx } σ2 H2) := by
  refine ⟨fun i m σ H => m = xs.length - i ∧ i ≤ xs.length ∧ Pv i σ H, ⟨_, rfl, Nat.zero_le _, h0⟩, ?_⟩
  rintro i m σ H ⟨rfl, hi, p⟩
  obtain ⟨q1, q2⟩ := hq i σ H p
  by_cases c : i < xs.length ∧ i < ys.length
  · refine .inr ⟨⟨xs, ys, xs[i]'c.1, ys[i]'c.2, q1, q2, List.getElem?_eq_getElem c.1, List.getElem?_eq_getElem c.2⟩, Pv (i + 1), fun σ' H' p' => ⟨xs.length - (i + 1), by omega, rfl, by omega, p'⟩, fun v H' hy => ?_⟩
    obtain ⟨T, x, y, rfl, nT, rfl, f1, f2⟩ := hy
    exact hs i x y T σ H (f1 xs q1) (f2 ys q2) p nT
  · exact .inl ⟨⟨xs, ys, q1, q2, by omega⟩, hd i σ H hi p⟩

/-- a statement that is never come to -/
theorem ps_never {X : Cx} {st : Stmt} : PS X st (fun _ _ _ => False) := ⟨fun _ _ _ _ _ _ h => h.elim⟩

/-! ### a walk over a tuple, whatever its body is (comprehensions with two for) -/
theorem walkT {K : PySem.W.Frag} {a : Addr} {xs : List V} {B : V → Hp → (Hp → Prop) → Prop} {H0 : Hp} {Qd : Hp → Prop} (Pv : Nat → Hp → Prop) (h0 : Pv 0 H0) (hl : ∀ i H, i ≤ xs.length → Pv i H → SqT K H a xs)
    (hs : ∀ i x H, xs[i]? = some x → Pv i H → B x H (Pv (i + 1))) (hd : ∀ H, Pv xs.length H → Qd H) :
    ∃ W : Nat → Nat → Hp → Prop, (∃ m, W 0 m H0) ∧ ∀ i m H, W i m H →
      ((Itt K a).stop i H ∧ Qd H) ∨ ((Itt K a).go i H ∧ ∃ Nx : Hp → Prop, (∀ H', Nx H' → ∃ m', m' < m ∧ W (i + 1) m' H') ∧ ∀ x H', (Itt K a).yld i H x H' → B x H' Nx) := by
  refine ⟨fun i m H => m = xs.length - i ∧ i ≤ xs.length ∧ Pv i H, ⟨xs.length, by simp, Nat.zero_le _, h0⟩, ?_⟩
  rintro i m H ⟨rfl, hi, p⟩
  have q := hl i H hi p
  by_cases hlt : i < xs.length
  · refine .inr ⟨⟨xs, xs[i], q, by simp [hlt]⟩, Pv (i + 1), fun H' p' => ⟨xs.length - (i + 1), by omega, rfl, hlt, p'⟩, fun x H' y => ?_⟩
    obtain ⟨e, y⟩ := y
    subst e
    exact hs i x _ (y xs q) p
  · have e : i = xs.length := by omega
    subst e
    exact .inl ⟨⟨xs, q, by omega⟩, hd H p⟩

/-! ### max(xs, key=f), f a built-in that makes an int of an item and changes nothing -/
section
variable {prog : Program} {w : World} {A : Around} {E : Value → Shared → Prop} {s : Shared} {l : Addr} {kid : String} {vs : List Value} {Q : Value → Shared → Prop}
/-- all objects stay -/
abbrev Stay (h h' : Heap) : Prop := ∀ b o, h.get? b = some o → h'.get? b = some o
theorem isL_stay {h h' : Heap} {a : Addr} {xs : Array Value} (k : Stay h h') (x : h.IsList a xs) : h'.IsList a xs := let ⟨o, e, r⟩ := x; ⟨o, k _ _ e, r⟩
theorem isT_stay {h h' : Heap} {a : Addr} {xs : Array Value} (k : Stay h h') (x : IsTup h a xs) : IsTup h' a xs := let ⟨o, e, r⟩ := x; ⟨o, k _ _ e, r⟩
def KeyAt (prog : Program) (w : World) (A : Around) (s : Shared) (f : Value) (vs : List Value) (kf : Nat → Int) : Prop :=
  ∀ (i : Nat) (v : Value), vs[i]? = some v → ∀ (h : Heap) (tk : Nat), Stay s.heap h →
    wpAny (model prog w) A (call f [v]) (fun x s' => ∃ h' tk' t, s' = { s with heap := h', toks := tk' } ∧ x = .int (kf i) t ∧ Stay h h') (fun _ _ => False) { s with heap := h, toks := tk }
/-- the first of the greatest keys -/
def Topmost (kf : Nat → Int) (n i : Nat) : Prop := ∀ j, j < n → kf j ≤ kf i ∧ (j < i → kf j < kf i)
theorem maxKey_loop {I S : Addr} {R : Result → Shared → Prop} (kf : Nat → Int) (hh : A.handled = none) (isL : s.heap.IsList l vs.toArray) (lI : l ≠ I) (SI : S ≠ I) (nI : s.heap.get? I = none) (nS : s.heap.get? S = none) (key : KeyAt prog w A.in1 s (.builtin kid) vs kf)
    (fin : ∀ i v h' tk', vs[i]? = some v → Topmost kf vs.length i → Stay s.heap h' → R (.ok (.ret v)) { s with heap := h', toks := tk' }) :
    ∀ (r j i : Nat) (h : Heap) (tk : Nat) (vb : Value) (tb : Tok) (c : Nat), vs.length - (j + 1) = r → j + 1 ≤ vs.length → Stay s.heap h →
      h.get? S = some (seqObj "list" #[vb, .int (kf i) tb] c) → h.IsListIter I l (j + 1) → vs[i]? = some vb → i ≤ j → Topmost kf (j + 1) i →
      codeAny (model prog w) A (.builtin "max.loop" ⟨[.ref I, .builtin kid, .ref S], []⟩) R { s with heap := h, toks := tk } := by
  have nm : (toString "max" ++ toString ".loop" : String) = "max.loop" := by decide
  have wk := Walks.list (prog := prog) (w := w) (A := A.in1) hh I l lI vs.toArray
  have sz : vs.toArray.size = vs.length := List.size_toArray ..
  have off : ∀ {h h' : Heap} {x : Addr}, s.heap.get? x = none → Stay s.heap h → (∀ b o, b ≠ x → h.get? b = some o → h'.get? b = some o) → Stay s.heap h' := fun nx st k b o e => k b o (fun z => by rw [z, nx] at e; cases e) (st b o e)
  intro r
  induction r with
  | zero =>
    intro j i h tk vb tb c er jl st gS it ev ij top
    have last : j + 1 = vs.length := by omega
    refine codeAny_builtin (b := _) PySem.F.entry_max_loop ?_
    rw [Around.under_plainId (PySem.F.plain_max_loop) _]
    show wpAny _ A.in1 (seqItems? (Value.ref S) >>= _) _ _ _
    refine wpAny_bind (wpAny_seqItems (gS) rfl ?_)
    show wpAny _ A.in1 (tryCatch (pyNext (Value.ref I)) _ >>= _) _ _ _
    refine wpAny_bind (wpAny_tryCatch (wk.done _ _ _ ⟨by rw [sz, ← last]; exact it, isL_stay st isL⟩ fun h1 tk1 k1 => ?_))
    have st1 := off nI st (fun b o nb e => k1 b o (fun z => nb (List.mem_singleton.mp z)) e)
    have gS1 := k1 S _ (fun z => SI (List.mem_singleton.mp z)) gS
    have u1 := Heap.SameBut.update h1 S (Obj.mapSeq (fun _ => (#[] : Array Value)))
    show wpAny _ A.in1 (updateSeq S (fun _ => #[]) >>= fun _ => _) _ _ _
    refine wpAny_bind (wpAny_updateSeq gS1 rfl (wpAny_bind (wpAny_letGo (wpAny_pure ?_))))
    exact fin i vb _ _ ev (by rw [← last]; exact top) (off nS st1 fun b o nb e => (u1.2 b nb).trans e)
  | succ r ih =>
    intro j i h tk vb tb c er jl st gS it ev ij top
    have more : j + 1 < vs.length := by omega
    refine codeAny_builtin (b := _) PySem.F.entry_max_loop ?_
    rw [Around.under_plainId (PySem.F.plain_max_loop) _]
    show wpAny _ A.in1 (seqItems? (Value.ref S) >>= _) _ _ _
    refine wpAny_bind (wpAny_seqItems (gS) rfl ?_)
    show wpAny _ A.in1 (tryCatch (pyNext (Value.ref I)) _ >>= _) _ _ _
    refine wpAny_bind (wpAny_tryCatch (wk.item (j + 1) _ _ _ (by rw [sz]; exact more) ⟨it, isL_stay st isL⟩ fun v h1 tk1 pv it1 k1 => ?_))
    have ev1 : vs[j + 1]? = some v := by simpa using pv
    obtain ⟨oI, gI, cI, dI⟩ := it1.1
    have st1 := off nI st (fun b o nb e => k1 b o (fun z => nb (List.mem_singleton.mp z)) e)
    have gS1 := k1 S _ (fun z => SI (List.mem_singleton.mp z)) gS
    show wpAny _ A.in1 (tryCatch (holding [v] (call (Value.builtin kid) [v])) _ >>= _) _ _ _
    refine wpAny_bind (wpAny_tryCatch (wpAny_holding (wpAny_mono (key (j + 1) v ev1 h1 tk1 st1) (fun x s2 hx => ?_) (fun _ _ no => no.elim))))
    obtain ⟨h2, tk2, t2, rfl, rfl, k2⟩ := hx
    have st2 : Stay s.heap h2 := fun b o e => k2 b o (st1 b o e)
    have gS2 := k2 _ _ gS1
    have gI2 := k2 _ _ gI
    show wpAny _ A.in1 (tryCatch (holding [v, Value.int (kf (j + 1)) t2] (richCompare .Gt (.int (kf (j + 1)) t2) (.int (kf i) tb) >>= _)) _ >>= _) _ _ _
    refine wpAny_bind (wpAny_tryCatch (wpAny_holding (wpAny_bind (CmpOf.ints_gt (prog := prog) (w := w) (A := A.in1) (P := fun n u => ∃ t, u = .int (kf n) t) kf (fun n u z => z) (j + 1) i _ _ _ _ _ ⟨t2, rfl⟩ ⟨tb, rfl⟩ ?_))))
    refine wpAny_bind (wpAny_holding (wpAny_truthy_bool (wpAny_bind (wpAny_letGo (wpAny_pure ?_)))))
    by_cases up : kf (j + 1) > kf i
    · have u1 := Heap.SameBut.update h2 S (Obj.mapSeq (fun _ => #[v, .int (kf (j + 1)) t2]))
      obtain ⟨c2, gS3⟩ : ∃ c2, (h2.update S (Obj.mapSeq fun _ => #[v, .int (kf (j + 1)) t2])).get? S = some (seqObj "list" #[v, .int (kf (j + 1)) t2] c2) := ⟨_, get?_update_seq gS2 fun _ => _⟩
      simp only [up, decide_true, if_true]
      refine wpAny_bind (wpAny_updateSeq gS2 rfl (wpAny_bind (wpAny_letGo ?_)))
      rw [nm]
      refine wpAny_pure ⟨plainId_quiet (PySem.F.plain_max_loop) _, ih (j + 1) (j + 1) _ _ v t2 c2 (by omega) more (off nS st2 fun b o nb e => (u1.2 b nb).trans e) gS3 ⟨oI, (u1.2 I SI.symm).trans gI2, cI, dI⟩ ev1 (Nat.le_refl _) fun n hn => ?_⟩
      by_cases e : n = j + 1
      · subst e
        exact ⟨Int.le_refl _, fun z => absurd z (Nat.lt_irrefl _)⟩
      · have := (top n (by omega)).1
        exact ⟨by omega, fun _ => by omega⟩
    · simp only [up, decide_false, Bool.false_eq_true, if_false]
      refine wpAny_bind (wpAny_letGo ?_)
      rw [nm]
      refine wpAny_pure ⟨plainId_quiet (PySem.F.plain_max_loop) _, ih (j + 1) i _ _ vb tb c (by omega) more st2 gS2 ⟨oI, gI2, cI, dI⟩ ev (by omega) fun n hn => ?_⟩
      by_cases e : n = j + 1
      · subst e
        exact ⟨by omega, fun z => absurd z (by omega)⟩
      · exact top n (by omega)
theorem maxKey (kf : Nat → Int) (hh : A.handled = none) (isL : s.heap.IsList l vs.toArray) (some1 : 0 < vs.length) (key : KeyAt prog w A.in1 s (.builtin kid) vs kf)
    (fin : ∀ i v h' tk', vs[i]? = some v → Topmost kf vs.length i → Stay s.heap h' → Q v { s with heap := h', toks := tk' }) :
    wpAny (model prog w) A (call (.builtin "max") [.ref l] [(Str.ofString "key", .builtin kid)]) Q E s := by
  have nm : (toString "max" ++ toString ".loop" : String) = "max.loop" := by decide
  have isL0 := isL
  obtain ⟨ol, gl, _⟩ := isL0
  have ll : l < s.heap.objs.size := Heap.lt_size gl
  refine kmb_tree PySem.F.kind_max PySem.F.plain_max PySem.F.entry_max (kmb_max_key _ _) ?_
  show wpAny _ A.in1 (Builtin.Builtins.bindParams "max" ["key", "default"] 0 ⟨[], [(Str.ofString "key", Value.builtin kid)]⟩ >>= _) _ _ s
  refine wpAny_bind (wpAny_of_eq (show Builtin.Builtins.bindParams "max" ["key", "default"] 0 ⟨[], [(Str.ofString "key", Value.builtin kid)]⟩ = pure [some (.builtin kid), none] from rfl) ?_)
  refine wpAny_bind (wpAny_pure (wpAny_bind (wpAny_pyIter_list isL (wpAny_bind (wpAny_newList ?_ (Nat.zero_le _))))))
  rw [nm]
  have it0 := Heap.get?_push_size s.heap (o := { cls := .type "list_iterator", data := .fields #[.ref l, .int 0 0] }) rfl
  have z1 : (s.heap.push { cls := .type "list_iterator", data := .fields #[.ref l, .int 0 0] }).objs.size = s.heap.objs.size + 1 := Heap.size_push ..
  have k1 : Stay s.heap (s.heap.push { cls := .type "list_iterator", data := .fields #[.ref l, .int 0 0] }) := fun b o e => Heap.get?_push_of_some _ e
  generalize s.heap.push { cls := .type "list_iterator", data := .fields #[.ref l, .int 0 0] } = g1 at *
  have gS := Heap.get?_push_size g1 (o := seqObj "list" #[] 0) rfl
  have k2 : Stay g1 (g1.push (seqObj "list" #[] 0)) := fun b o e => Heap.get?_push_of_some _ e
  have gI := k2 _ _ it0
  generalize g1.push (seqObj "list" #[] 0) = g2 at *
  rw [z1] at gS ⊢
  have st2 : Stay s.heap g2 := fun b o e => k2 b o (k1 b o e)
  have nI : s.heap.get? s.heap.objs.size = none := Heap.get?_none_of_le (Nat.le_refl _)
  have nS : s.heap.get? (s.heap.objs.size + 1) = none := Heap.get?_none_of_le (Nat.le_succ _)
  have SI : s.heap.objs.size + 1 ≠ s.heap.objs.size := Nat.succ_ne_self _
  have lI : l ≠ s.heap.objs.size := Nat.ne_of_lt ll
  have wk := Walks.list (prog := prog) (w := w) (A := A.in1) hh s.heap.objs.size l lI vs.toArray
  have sz : vs.toArray.size = vs.length := List.size_toArray ..
  have off : ∀ {h h' : Heap} {x : Addr}, s.heap.get? x = none → Stay s.heap h → (∀ b o, b ≠ x → h.get? b = some o → h'.get? b = some o) → Stay s.heap h' := fun nx st k b o e => k b o (fun z => by rw [z, nx] at e; cases e) (st b o e)
  refine wpAny_pure ⟨plainId_quiet (PySem.F.plain_max_loop) _, codeAny_builtin (b := _) PySem.F.entry_max_loop ?_⟩
  rw [Around.under_plainId (PySem.F.plain_max_loop) _]
  show wpAny _ A.in1 (seqItems? (Value.ref _) >>= _) _ _ _
  refine wpAny_bind (wpAny_seqItems (gS) rfl ?_)
  show wpAny _ A.in1 (tryCatch (pyNext (Value.ref s.heap.objs.size)) _ >>= _) _ _ _
  refine wpAny_bind (wpAny_tryCatch (wk.item 0 _ _ _ (by rw [sz]; exact some1) ⟨⟨_, gI, rfl, rfl⟩, isL_stay st2 isL⟩ fun v h1 tk1 pv it1 kk => ?_))
  have ev1 : vs[0]? = some v := by simpa using pv
  obtain ⟨oI, gI1, cI, dI⟩ := it1.1
  have st1 := off nI st2 (fun b o nb e => kk b o (fun z => nb (List.mem_singleton.mp z)) e)
  have gS1 := kk _ _ (fun z => SI (List.mem_singleton.mp z)) gS
  show wpAny _ A.in1 (tryCatch (holding [v] (call (Value.builtin kid) [v])) _ >>= _) _ _ _
  refine wpAny_bind (wpAny_tryCatch (wpAny_holding (wpAny_mono (key 0 v ev1 h1 tk1 st1) (fun x s2 hx => ?_) (fun _ _ no => no.elim))))
  obtain ⟨h2, tk2, t2, rfl, rfl, k3⟩ := hx
  have gS2 := k3 _ _ gS1
  have u1 := Heap.SameBut.update h2 (s.heap.objs.size + 1) (Obj.mapSeq (fun _ => #[v, .int (kf 0) t2]))
  obtain ⟨c2, gS3⟩ : ∃ c2, (h2.update (s.heap.objs.size + 1) (Obj.mapSeq fun _ => #[v, .int (kf 0) t2])).get? (s.heap.objs.size + 1) = some (seqObj "list" #[v, .int (kf 0) t2] c2) := ⟨_, get?_update_seq gS2 fun _ => _⟩
  show wpAny _ A.in1 (updateSeq (s.heap.objs.size + 1) (fun _ => #[v, .int (kf 0) t2]) >>= _) _ _ _
  refine wpAny_bind (wpAny_updateSeq gS2 rfl ?_)
  rw [nm]
  refine wpAny_pure ⟨plainId_quiet (PySem.F.plain_max_loop) _, maxKey_loop kf hh isL lI SI nI nS key fin _ 0 0 _ _ v t2 c2 rfl some1 (off nS (fun b o e => k3 b o (st1 b o e)) fun b o nb e => (u1.2 b nb).trans e) gS3 ⟨oI, (u1.2 _ SI.symm).trans (k3 _ _ gI1), cI, dI⟩ ev1 (Nat.le_refl _) fun n hn => ?_⟩
  have e : n = 0 := by omega
  subst e
  exact ⟨Int.le_refl _, fun z => absurd z (Nat.lt_irrefl _)⟩
end
/-- max([x, y], key=len), x and y tuples -/
def rMaxLen (K : PySem.W.Frag) : List V → Hp → VK → Prop := fun vs H Q => ∃ (a b c : Addr) (xs ys : List V), vs = [.ref a] ∧ SqL K H a [.ref b, .ref c] ∧ SqT K H b xs ∧ SqT K H c ys ∧ Q (.ref (if xs.length < ys.length then c else b)) H
theorem pe_maxLen {X : Cx} {e : Expr} {p q kp pos : Pos} {t : TA} (hc : X.calm = true) (hg : Gl X "max") (hm : X.mg "max" = none) (hg2 : Gl X "len") (hm2 : X.mg "len" = none) (ha : PA X [e] t)
    (he : backTo pos (starEach [e] X.env) = (false, eval e X.env) :: backTo pos (starEach [] X.env) := by rfl) (hpl : (backTo pos (starEach [e] X.env)).any (·.1) = false := by rfl) :
    PE X (.Call (.Name "max" p) [e] [⟨some "key", .Name "len" q, kp⟩] pos) (tCB (rMaxLen X.K) t) := by
  refine ⟨fun pins s σ H Q I h => ?_⟩
  refine wpAny_Call_Name_kw (ld_blt (u := .builtin "max") I hg hm (by decide +kernel) ?_)
  refine PyProof.Rows.callWith_kw (thn (ha.run pos pins s σ H _ I h) fun us s1 ⟨vs, H1, I1, r1, q1⟩ => ?_) he hpl (by rfl) (by rfl)
  show wpAny _ _ (evalAll [(do let v ← eval (.Name "len" q) X.env; standAt pos; pure v)]) _ _ s1
  refine wpAny_evalAll_cons (wpAny_bind (ld_blt (u := .builtin "len") I1 hg2 hm2 (by decide +kernel) (wpAny_bind (wpAny_standAt (wpAny_pure (wpAny_evalAll_nil ?_))))))
  obtain ⟨a, b, c, xs, ys, rfl, hl, hb, hc2, qq⟩ := q1
  rw [Vals.ref1 r1]
  obtain ⟨its, rv, isL, _⟩ := I1.list hl
  obtain ⟨u, u', rfl, ru, ru'⟩ := vals2 rv
  obtain rfl : u = Value.ref b := ru
  obtain rfl : u' = Value.ref c := ru'
  obtain ⟨i1, v1, t1, z1⟩ := I1.tuple hb
  obtain ⟨i2, v2, t2, z2⟩ := I1.tuple hc2
  have l1 := v1.length
  have l2 := v2.length
  have fit : ∀ {n : Nat}, n ≤ sizeLine → ((n : Nat) : Int) < 2 ^ 63 := fun {n} z => by
    rw [show sizeLine = 16777216 by decide] at z
    omega
  refine maxKey (vs := [Value.ref b, Value.ref c]) (fun i => if i = 0 then (i1.length : Int) else i2.length) (I1.ok.hd hc) isL.isList (Nat.zero_lt_succ _) (fun i v hv h' tk st => ?_) (fun i v h' tk' hv top st => ?_)
  · match i, hv with
    | 0, hv =>
      cases hv
      refine PyProof.Rows.len_tuple (isT_stay st t1) (fit (by rw [List.size_toArray, ← l1]; exact z1)) ⟨_, _, _, rfl, by rw [List.size_toArray]; rfl, fun _ _ e => e⟩
    | 1, hv =>
      cases hv
      refine PyProof.Rows.len_tuple (isT_stay st t2) (fit (by rw [List.size_toArray, ← l2]; exact z2)) ⟨_, _, _, rfl, by rw [List.size_toArray]; rfl, fun _ _ e => e⟩
  · match i, hv with
    | 0, hv =>
      cases hv
      have := (top 1 (Nat.lt_succ_self 1)).1
      replace this : (i2.length : Int) ≤ i1.length := this
      rw [if_neg (by omega)] at qq
      exact ⟨V.ref _, H1, I1.kept st, rfl, qq⟩
    | 1, hv =>
      cases hv
      have := (top 0 (Nat.zero_lt_succ _)).2 (by decide)
      replace this : (i1.length : Int) < i2.length := this
      rw [if_pos (by omega)] at qq
      exact ⟨V.ref _, H1, I1.kept st, rfl, qq⟩

/-! ### a min-max theorem: demands are rectangles, intervals are points -/
abbrev Dem := Int × Int × Int
def sv (z : Int × Int) (d : Dem) : Bool := decide (d.2.1 ≤ z.1 ∧ z.1 ≤ d.1 ∧ d.1 ≤ z.2 ∧ z.2 ≤ d.2.2)
def cf (d e : Dem) : Bool := decide ((e.2.1 ≤ d.1 ∧ d.1 ≤ e.2.2) ∧ d.2.1 ≤ e.1 ∧ e.1 ≤ d.2.2)
def Vd (d : Dem) : Prop := d.2.1 ≤ d.1 ∧ d.1 ≤ d.2.2
theorem sv_iff' {z : Int × Int} {d : Dem} : sv z d = true ↔ d.2.1 ≤ z.1 ∧ z.1 ≤ d.1 ∧ d.1 ≤ z.2 ∧ z.2 ≤ d.2.2 := decide_eq_true_iff
theorem cf_iff {d e : Dem} : cf d e = true ↔ (e.2.1 ≤ d.1 ∧ d.1 ≤ e.2.2) ∧ d.2.1 ≤ e.1 ∧ e.1 ≤ d.2.2 := decide_eq_true_iff
theorem cf_comm (d e : Dem) : cf d e = cf e d := by
  rw [Bool.eq_iff_iff, cf_iff, cf_iff]
  exact ⟨fun h => ⟨h.2, h.1⟩, fun h => ⟨h.2, h.1⟩⟩
theorem cf_of_sv {z : Int × Int} {d e : Dem} (h1 : sv z d = true) (h2 : sv z e = true) : cf d e = true := by
  rw [sv_iff'] at h1 h2
  rw [cf_iff]
  omega
theorem cf_self {d : Dem} (h : Vd d) : cf d d = true := by
  rw [cf_iff]
  exact ⟨h, h⟩
/-- how many of the demands the point serves -/
def cov (L : List Dem) (z : Int × Int) : Nat := L.countP (sv z)
theorem cov_nil (z : Int × Int) : cov [] z = 0 := rfl
theorem cov_cons (d : Dem) (L : List Dem) (z : Int × Int) : cov (d :: L) z = cov L z + (if sv z d = true then 1 else 0) := List.countP_cons
theorem cov_app (L M : List Dem) (z : Int × Int) : cov (L ++ M) z = cov L z + cov M z := List.countP_append
theorem cov_perm {L M : List Dem} (h : L.Perm M) (z : Int × Int) : cov L z = cov M z := h.countP_eq _
/-- no two of them conflict -/
def Ind (L : List Dem) : Prop := L.Pairwise fun d e => cf d e = false
theorem Ind.cov_le {L : List Dem} (h : Ind L) (z : Int × Int) : cov L z ≤ 1 := by
  induction L with
  | nil => exact Nat.zero_le _
  | cons d L ih =>
    have p := List.pairwise_cons.mp h
    rw [cov_cons]
    split
    · next s =>
      have e : cov L z = 0 := List.countP_eq_zero.mpr fun e he c => by
        have := p.1 e he
        rw [cf_of_sv s c] at this
        cases this
      omega
    · have := ih p.2
      omega
structure Fam (F : List Dem) : Prop where
  ok : ∀ d ∈ F, 0 ≤ d.2.1 ∧ Vd d
  ex : ∀ d ∈ F, ∀ e ∈ F, d.1 < e.1 → d.2.1 < e.2.1 → d.2.2 < e.2.2 → cf d e = true → (d.1, e.2) ∈ F ∧ (e.1, d.2) ∈ F
  cross : ∀ d ∈ F, ∀ e ∈ F, cf d e = true → d.2 = e.2 ∨ (d.2.1 < e.2.1 ∧ d.2.2 < e.2.2) ∨ (e.2.1 < d.2.1 ∧ e.2.2 < d.2.2)
theorem sv_exch {z : Int × Int} {d e : Dem} (h1 : d.1 < e.1) (h2 : d.2.1 < e.2.1) (h3 : d.2.2 < e.2.2) (c : cf d e = true) :
    (if sv z (d.1, e.2) = true then 1 else 0) + (if sv z (e.1, d.2) = true then 1 else 0) ≤ (if sv z d = true then 1 else 0) + (if sv z e = true then 1 else 0) := by
  have c := cf_iff.mp c
  simp only [sv_iff']
  split <;> split <;> split <;> split <;> omega
def pot (L : List Dem) : Int := (L.map fun d => d.1 * (d.2.1 + d.2.2)).sum
theorem pot_cons (d : Dem) (L : List Dem) : pot (d :: L) = d.1 * (d.2.1 + d.2.2) + pot L := by
  unfold pot
  rw [List.map_cons, List.sum_cons]
theorem pot_nonneg {L : List Dem} (h : ∀ d ∈ L, 0 ≤ d.2.1 ∧ Vd d) : 0 ≤ pot L := by
  induction L with
  | nil => exact Int.le_refl _
  | cons d L ih =>
    rw [pot_cons]
    have := ih fun e he => h e (List.mem_cons_of_mem _ he)
    have q := h d List.mem_cons_self
    unfold Vd at q
    have : 0 ≤ d.1 * (d.2.1 + d.2.2) := Int.mul_nonneg (by omega) (by omega)
    omega
theorem pot_perm {L M : List Dem} (h : L.Perm M) : pot L = pot M := by
  induction h with
  | nil => rfl
  | cons x _ ih => rw [pot_cons, pot_cons, ih]
  | swap x y l =>
    rw [pot_cons, pot_cons, pot_cons, pot_cons]
    omega
  | trans _ _ i1 i2 => rw [i1, i2]
def Corner (d e : Dem) : Prop := cf d e = true ∧ d.1 < e.1 ∧ d.2.1 < e.2.1 ∧ d.2.2 < e.2.2
theorem pull2 {L : List Dem} {d e : Dem} (hd : d ∈ L) (he : e ∈ L) (ne : d ≠ e) : ∃ R, L.Perm (d :: e :: R) := by
  have p1 := List.perm_cons_erase hd
  have he' : e ∈ L.erase d := (List.mem_erase_of_ne (Ne.symm ne)).mpr he
  exact ⟨(L.erase d).erase e, p1.trans ((List.perm_cons_erase he').cons d)⟩
theorem uncross {F : List Dem} (fam : Fam F) : ∀ (n : Nat) (L : List Dem), (∀ d ∈ L, d ∈ F) → (pot L).toNat < n → ∃ M : List Dem, (∀ d ∈ M, d ∈ F) ∧ M.length = L.length ∧ (∀ z, cov M z ≤ cov L z) ∧ ∀ d ∈ M, ∀ e ∈ M, ¬ Corner d e := by
  intro n
  induction n with
  | zero => exact fun _ _ h => absurd h (Nat.not_lt_zero _)
  | succ n ih =>
    intro L hL hn
    by_cases c : ∀ d ∈ L, ∀ e ∈ L, ¬ Corner d e
    · exact ⟨L, hL, rfl, fun _ => Nat.le_refl _, c⟩
    · have ⟨d, hd, e, he, k⟩ : ∃ d ∈ L, ∃ e ∈ L, Corner d e := by
        refine Classical.byContradiction fun z => c fun d hd e he k => z ⟨d, hd, e, he, k⟩
      obtain ⟨k1, k2, k3, k4⟩ := k
      have ne : d ≠ e := fun z => by
        subst z
        exact absurd k2 (Int.lt_irrefl _)
      obtain ⟨R, pm⟩ := pull2 hd he ne
      have x := fam.ex d (hL d hd) e (hL e he) k2 k3 k4 k1
      have hR : ∀ f ∈ R, f ∈ F := fun f hf => hL f (pm.mem_iff.mpr (List.mem_cons_of_mem _ (List.mem_cons_of_mem _ hf)))
      have hN : ∀ f ∈ (d.1, e.2) :: (e.1, d.2) :: R, f ∈ F := fun f hf => by
        rcases List.mem_cons.mp hf with rfl | hf
        · exact x.1
        rcases List.mem_cons.mp hf with rfl | hf
        · exact x.2
        · exact hR f hf
      have less : pot ((d.1, e.2) :: (e.1, d.2) :: R) < pot L := by
        rw [pot_perm pm, pot_cons, pot_cons, pot_cons, pot_cons]
        show d.1 * (e.2.1 + e.2.2) + (e.1 * (d.2.1 + d.2.2) + pot R) < d.1 * (d.2.1 + d.2.2) + (e.1 * (e.2.1 + e.2.2) + pot R)
        have : 0 < (e.1 - d.1) * ((e.2.1 + e.2.2) - (d.2.1 + d.2.2)) := Int.mul_pos (by omega) (by omega)
        rw [Int.sub_mul, Int.mul_sub, Int.mul_sub] at this
        omega
      have nn := pot_nonneg fun f hf => fam.ok f (hN f hf)
      obtain ⟨M, m1, m2, m3, m4⟩ := ih _ hN (by omega)
      refine ⟨M, m1, by rw [m2, pm.length_eq]; rfl, fun z => Nat.le_trans (m3 z) ?_, m4⟩
      rw [cov_perm pm, cov_cons, cov_cons, cov_cons, cov_cons]
      have := sv_exch (z := z) k2 k3 k4 k1
      omega
/-- e lies across d -/
def Und (e d : Dem) : Prop := d.2.1 ≤ e.2.1 ∧ e.1 ≤ d.1 ∧ d.2.2 ≤ e.2.2
theorem und_of {F : List Dem} (fam : Fam F) {d e : Dem} (hd : d ∈ F) (he : e ∈ F) (c : cf d e = true) (n1 : ¬ Corner d e) (n2 : ¬ Corner e d) : Und d e ∨ Und e d := by
  unfold Und
  rcases fam.cross d hd e he c with h | h | h
  · rw [h]
    omega
  · have : ¬ d.1 < e.1 := fun z => n1 ⟨c, z, h.1, h.2⟩
    omega
  · have : ¬ e.1 < d.1 := fun z => n2 ⟨by rw [cf_comm]; exact c, z, h.1, h.2⟩
    omega
def leD (d e : Dem) : Bool := decide (d.1 - d.2.1 < e.1 - e.2.1 ∨ (d.1 - d.2.1 = e.1 - e.2.1 ∧ e.2.2 ≤ d.2.2))
theorem leD_total (a b : Dem) : (leD a b || leD b a) = true := by
  unfold leD
  rw [Bool.or_eq_true, decide_eq_true_eq, decide_eq_true_eq]
  omega
theorem leD_trans (a b c : Dem) : leD a b = true → leD b c = true → leD a c = true := by
  unfold leD
  rw [decide_eq_true_eq, decide_eq_true_eq, decide_eq_true_eq]
  omega
theorem und_le {F : List Dem} (fam : Fam F) {f e : Dem} (hf : f ∈ F) (he : e ∈ F) (c : cf f e = true) (n1 : ¬ Corner f e) (n2 : ¬ Corner e f) (le : leD f e = true) : Und f e := by
  have le := of_decide_eq_true le
  rcases und_of fam hf he c n1 n2 with h | h
  · exact h
  · unfold Und at *
    omega
def gre : Nat → List Dem → List Dem
  | 0, _ => []
  | _, [] => []
  | n + 1, d :: R => d :: gre n (R.filter fun e => !cf d e)
def lef : Nat → List Dem → List Dem
  | 0, L => L
  | _, [] => []
  | n + 1, d :: R => (R.filter fun e => cf d e) ++ lef n (R.filter fun e => !cf d e)
theorem gre_lef : ∀ (n : Nat) (L : List Dem), L.Perm (gre n L ++ lef n L)
  | 0, L => List.Perm.refl _
  | n + 1, [] => List.Perm.refl _
  | n + 1, d :: R => by
    have ih := gre_lef n (R.filter fun e => !cf d e)
    show (d :: R).Perm (d :: (gre n (R.filter fun e => !cf d e) ++ ((R.filter fun e => cf d e) ++ lef n (R.filter fun e => !cf d e))))
    refine List.Perm.cons d ?_
    have p1 := (List.filter_append_perm (fun e => cf d e) R).symm
    refine p1.trans ?_
    refine ((List.Perm.refl (R.filter fun e => cf d e)).append ih).trans ?_
    rw [← List.append_assoc, ← List.append_assoc]
    exact List.perm_append_comm.append_right _
theorem gre_sub (n : Nat) (L : List Dem) : ∀ d ∈ gre n L, d ∈ L := fun d hd => (gre_lef n L).mem_iff.mpr (List.mem_append_left _ hd)
theorem lef_sub (n : Nat) (L : List Dem) : ∀ d ∈ lef n L, d ∈ L := fun d hd => (gre_lef n L).mem_iff.mpr (List.mem_append_right _ hd)
theorem gre_ind : ∀ (n : Nat) (L : List Dem), Ind (gre n L)
  | 0, _ => List.Pairwise.nil
  | n + 1, [] => List.Pairwise.nil
  | n + 1, d :: R => by
    refine List.pairwise_cons.mpr ⟨fun e he => ?_, gre_ind n _⟩
    have := (List.mem_filter.mp (gre_sub n _ e he)).2
    rw [Bool.not_eq_true'] at this
    exact this
theorem gre_in : ∀ (n : Nat) (A B : List Dem) (e : Dem), A.length < n → e ∈ gre n (A ++ e :: B) ∨ ∃ f ∈ A, cf f e = true
  | 0, _, _, _, h => absurd h (Nat.not_lt_zero _)
  | n + 1, [], B, e, _ => .inl List.mem_cons_self
  | n + 1, d :: A, B, e, h => by
    by_cases c : cf d e = true
    · exact .inr ⟨d, List.mem_cons_self, c⟩
    · have eq : (A ++ e :: B).filter (fun x => !cf d x) = A.filter (fun x => !cf d x) ++ e :: B.filter (fun x => !cf d x) := by
        rw [List.filter_append, List.filter_cons_of_pos (by rw [Bool.not_eq_true] at c; rw [c]; rfl)]
      have l : (A.filter fun x => !cf d x).length < n := Nat.lt_of_le_of_lt (List.length_filter_le _ _) (Nat.lt_of_succ_lt_succ h)
      rcases gre_in n (A.filter fun x => !cf d x) (B.filter fun x => !cf d x) e l with g | ⟨f, hf, k⟩
      · refine .inl (List.mem_cons_of_mem _ ?_)
        show e ∈ gre n ((A ++ e :: B).filter fun x => !cf d x)
        rw [eq]
        exact g
      · exact .inr ⟨f, List.mem_cons_of_mem _ (List.mem_filter.mp hf).1, k⟩
theorem cov_lt {z w : Int × Int} {f : Dem} : ∀ {L : List Dem}, f ∈ L → (∀ c ∈ L, sv z c = true → sv w c = true) → sv z f = false → sv w f = true → cov L z < cov L w
  | [], hf, _, _, _ => nomatch hf
  | d :: L, hf, h, n, y => by
    rw [cov_cons, cov_cons]
    have le : cov L z ≤ cov L w := List.countP_mono_left fun c hc => h c (List.mem_cons_of_mem _ hc)
    have h1 := h d List.mem_cons_self
    rcases List.mem_cons.mp hf with rfl | hf
    · rw [n, y]
      simp
      omega
    · have ih := cov_lt hf (fun c hc => h c (List.mem_cons_of_mem _ hc)) n y
      split
      · next s => rw [if_pos (h1 s)]; omega
      · split <;> omega
theorem first_of {p : Dem → Bool} : ∀ {L : List Dem}, (∃ d ∈ L, p d = true) → ∃ A e B, L = A ++ e :: B ∧ p e = true ∧ ∀ f ∈ A, p f = false
  | [], h => by
    obtain ⟨d, hd, _⟩ := h
    cases hd
  | d :: L, h => by
    by_cases c : p d = true
    · exact ⟨[], d, L, rfl, c, fun f hf => nomatch hf⟩
    · obtain ⟨x, hx, px⟩ := h
      rcases List.mem_cons.mp hx with rfl | hx
      · exact absurd px c
      · obtain ⟨A, e, B, r1, r2, r3⟩ := first_of ⟨x, hx, px⟩
        refine ⟨d :: A, e, B, by rw [r1]; rfl, r2, fun f hf => ?_⟩
        rcases List.mem_cons.mp hf with rfl | hf
        · exact Bool.not_eq_true _ ▸ c
        · exact r3 f hf
theorem lef_cov {F : List Dem} (fam : Fam F) {L : List Dem} (hL : ∀ d ∈ L, d ∈ F) (nc : ∀ d ∈ L, ∀ e ∈ L, ¬ Corner d e) (srt : L.Pairwise fun d e => leD d e = true) {m : Nat} (hm : ∀ z, cov L z ≤ m + 1) (z : Int × Int) : cov (lef L.length L) z ≤ m := by
  have sum := cov_perm (gre_lef L.length L) z
  rw [cov_app] at sum
  have top := hm z
  by_cases g : ∃ d ∈ gre L.length L, sv z d = true
  · have : 0 < cov (gre L.length L) z := List.countP_pos_iff.mpr g
    omega
  · by_cases s : ∃ d ∈ L, sv z d = true
    · obtain ⟨A, e, B, rfl, se, nA⟩ := first_of s
      have la : A.length < (A ++ e :: B).length := by
        rw [List.length_append, List.length_cons]
        omega
      rcases gre_in _ A B e la with q | ⟨f, hf, k⟩
      · exact absurd ⟨e, q, se⟩ g
      · have mf : f ∈ A ++ e :: B := List.mem_append_left _ hf
        have me : e ∈ A ++ e :: B := List.mem_append_right _ List.mem_cons_self
        have pw := List.pairwise_append.mp srt
        have u1 := und_le fam (hL f mf) (hL e me) k (nc f mf e me) (nc e me f mf) (pw.2.2 f hf e List.mem_cons_self)
        have w : cov (A ++ e :: B) z < cov (A ++ e :: B) (f.1, z.2) := by
          have vf := (fam.ok f (hL f mf)).2
          have ve := sv_iff'.mp se
          refine cov_lt mf (fun c hc sc => ?_) (nA f hf) ?_
          · have u2 : Und e c := by
              rcases List.mem_append.mp hc with h | h
              · rw [nA c h] at sc
                cases sc
              · rcases List.mem_cons.mp h with rfl | h
                · exact ⟨Int.le_refl _, Int.le_refl _, Int.le_refl _⟩
                · exact und_le fam (hL e me) (hL c hc) (cf_of_sv se sc) (nc e me c hc) (nc c hc e me) ((List.pairwise_cons.mp pw.2.1).1 c h)
            have sc := sv_iff'.mp sc
            rw [sv_iff']
            unfold Und Vd at *
            show c.2.1 ≤ f.1 ∧ f.1 ≤ c.1 ∧ c.1 ≤ z.2 ∧ z.2 ≤ c.2.2
            omega
          · rw [sv_iff']
            unfold Und Vd at *
            show f.2.1 ≤ f.1 ∧ f.1 ≤ f.1 ∧ f.1 ≤ z.2 ∧ z.2 ≤ f.2.2
            omega
        have := hm (f.1, z.2)
        omega
    · have : cov L z = 0 := List.countP_eq_zero.mpr fun d hd c => s ⟨d, hd, c⟩
      omega
theorem len_le {F : List Dem} (fam : Fam F) {k : Nat} (hk : ∀ I, Ind I → (∀ d ∈ I, d ∈ F) → I.length ≤ k) : ∀ (m : Nat) (L : List Dem), (∀ d ∈ L, d ∈ F) → (∀ d ∈ L, ∀ e ∈ L, ¬ Corner d e) → (∀ z, cov L z ≤ m) → L.length ≤ m * k
  | 0, L, hL, _, hm => by
    cases L with
    | nil => exact Nat.zero_le _
    | cons d L =>
      have v := (fam.ok d (hL d List.mem_cons_self)).2
      have := hm (d.1, d.1)
      rw [cov_cons, if_pos (sv_iff'.mpr (by unfold Vd at v; exact ⟨v.1, Int.le_refl _, Int.le_refl _, v.2⟩))] at this
      omega
  | m + 1, L, hL, nc, hm => by
    have pm := List.mergeSort_perm L leD
    have srt := List.pairwise_mergeSort leD_trans leD_total L
    generalize L.mergeSort leD = S at *
    have hS : ∀ d ∈ S, d ∈ L := fun d hd => pm.mem_iff.mp hd
    have hl := lef_cov fam (fun d hd => hL d (hS d hd)) (fun d hd e he => nc d (hS d hd) e (hS e he)) srt (m := m) (fun z => by rw [cov_perm pm]; exact hm z)
    have sub := lef_sub S.length S
    have ih := len_le fam hk m (lef S.length S) (fun d hd => hL d (hS d (sub d hd))) (fun d hd e he => nc d (hS d (sub d hd)) e (hS e (sub e he))) hl
    have g := hk _ (gre_ind S.length S) fun d hd => hL d (hS d (gre_sub _ _ d hd))
    have e := (gre_lef S.length S).length_eq
    have e2 := pm.length_eq
    rw [List.length_append] at e
    rw [Nat.add_mul]
    omega
theorem sum_lt {α : Type} {f : α → Nat} : ∀ {Z : List α} {w : α}, w ∈ Z → (∀ x ∈ Z, f x ≤ 1) → f w = 0 → (Z.map f).sum + 1 ≤ Z.length
  | [], _, h, _, _ => nomatch h
  | x :: Z, w, h, h1, h0 => by
    have le : ∀ Y : List α, (∀ x ∈ Y, f x ≤ 1) → (Y.map f).sum ≤ Y.length := by
      intro Y
      induction Y with
      | nil => exact fun _ => Nat.le_refl _
      | cons y Y ih =>
        intro hy
        have := ih fun x hx => hy x (List.mem_cons_of_mem _ hx)
        have := hy y List.mem_cons_self
        rw [List.map_cons, List.sum_cons, List.length_cons]
        omega
    have r := le Z fun x hx => h1 x (List.mem_cons_of_mem _ hx)
    have hx := h1 x List.mem_cons_self
    rw [List.map_cons, List.sum_cons, List.length_cons]
    rcases List.mem_cons.mp h with rfl | h
    · omega
    · have := sum_lt h (fun x hx => h1 x (List.mem_cons_of_mem _ hx)) h0
      omega
theorem cov_flat {α : Type} (I : α → List Dem) (z : Int × Int) : ∀ Z : List α, cov (Z.flatMap I) z = (Z.map fun w => cov (I w) z).sum
  | [] => rfl
  | x :: Z => by
    rw [List.flatMap_cons, cov_app, cov_flat I z Z, List.map_cons, List.sum_cons]
theorem len_flat {α β : Type} (I : α → List β) {k : Nat} : ∀ Z : List α, (∀ w ∈ Z, (I w).length = k) → (Z.flatMap I).length = Z.length * k
  | [], _ => by simp
  | x :: Z, h => by
    rw [List.flatMap_cons, List.length_append, len_flat I Z fun w hw => h w (List.mem_cons_of_mem _ hw), h x List.mem_cons_self, List.length_cons, Nat.add_mul]
    omega
theorem top_of (F : List Dem) : ∃ M : Nat, ∀ d ∈ F, d.2.2 ≤ M := by
  induction F with
  | nil => exact ⟨0, fun d hd => nomatch hd⟩
  | cons d F ih =>
    obtain ⟨M, h⟩ := ih
    refine ⟨M + d.2.2.toNat, fun e he => ?_⟩
    rcases List.mem_cons.mp he with rfl | he
    · omega
    · have := h e he
      omega
def box (M : Nat) : List (Int × Int) := (List.range (M + 1)).flatMap fun (x : Nat) => (List.range (M + 1)).map fun (y : Nat) => ((x : Int), (y : Int))
theorem mem_box {M : Nat} {z : Int × Int} (h : 0 ≤ z.1 ∧ z.1 ≤ M) (h2 : 0 ≤ z.2 ∧ z.2 ≤ M) : z ∈ box M := by
  unfold box
  refine List.mem_flatMap.mpr ⟨z.1.toNat, List.mem_range.mpr (by omega), List.mem_map.mpr ⟨z.2.toNat, List.mem_range.mpr (by omega), ?_⟩⟩
  exact Prod.ext (by show ((z.1.toNat : Nat) : Int) = z.1; omega) (by show ((z.2.toNat : Nat) : Int) = z.2; omega)
/-- a point that every largest selection has to pay for -/
theorem hits {F : List Dem} (fam : Fam F) {k : Nat} (hk : ∀ I, Ind I → (∀ d ∈ I, d ∈ F) → I.length ≤ k + 1) : ∃ z, ∀ I, Ind I → (∀ d ∈ I, d ∈ F) → I.length = k + 1 → ∃ d ∈ I, sv z d = true := by
  refine Classical.byContradiction fun no => ?_
  have miss : ∀ z, ∃ I, Ind I ∧ (∀ d ∈ I, d ∈ F) ∧ I.length = k + 1 ∧ ∀ d ∈ I, sv z d = false := fun z => by
    refine Classical.byContradiction fun h => no ⟨z, fun I i1 i2 i3 => Classical.byContradiction fun n => h ⟨I, i1, i2, i3, fun d hd => ?_⟩⟩
    rw [← Bool.not_eq_true]
    exact fun s => n ⟨d, hd, s⟩
  obtain ⟨I, hI⟩ := Classical.axiomOfChoice miss
  obtain ⟨M, hM⟩ := top_of F
  have hsub : ∀ d ∈ (box M).flatMap I, d ∈ F := fun d hd => by
    obtain ⟨w, _, h⟩ := List.mem_flatMap.mp hd
    exact (hI w).2.1 d h
  have hlen := len_flat I (k := k + 1) (box M) fun w _ => (hI w).2.2.1
  have pos : 0 < (box M).length := List.length_pos_of_mem (mem_box (M := M) (z := (0, 0)) ⟨by decide, by show (0 : Int) ≤ M; omega⟩ ⟨by decide, by show (0 : Int) ≤ M; omega⟩)
  have hc : ∀ z, cov ((box M).flatMap I) z ≤ (box M).length - 1 := fun z => by
    by_cases b : (0 ≤ z.1 ∧ z.1 ≤ M) ∧ 0 ≤ z.2 ∧ z.2 ≤ M
    · have s := sum_lt (f := fun w => cov (I w) z) (mem_box b.1 b.2) (fun x _ => (hI x).1.cov_le z) (List.countP_eq_zero.mpr fun d hd c => by
        rw [(hI z).2.2.2 d hd] at c
        cases c)
      rw [cov_flat]
      omega
    · have : cov ((box M).flatMap I) z = 0 := List.countP_eq_zero.mpr fun d hd c => b (by
        have c := sv_iff'.mp c
        have o := fam.ok d (hsub d hd)
        have t := hM d (hsub d hd)
        unfold Vd at o
        omega)
      omega
  obtain ⟨N, n1, n2, n3, n4⟩ := uncross fam _ _ hsub (Nat.lt_succ_self _)
  have := len_le fam hk ((box M).length - 1) N n1 n4 fun z => Nat.le_trans (n3 z) (hc z)
  rw [n2, hlen] at this
  obtain ⟨b, eb⟩ : ∃ b, (box M).length = b + 1 := ⟨(box M).length - 1, by omega⟩
  rw [eb, Nat.add_sub_cancel, Nat.add_mul, Nat.one_mul] at this
  omega
theorem Fam.rest {F : List Dem} (fam : Fam F) (z : Int × Int) : Fam (F.filter fun d => !sv z d) := by
  have hs : ∀ d, d ∈ F.filter (fun d => !sv z d) → d ∈ F ∧ sv z d = false := fun d hd => by
    have := List.mem_filter.mp hd
    exact ⟨this.1, by rw [← Bool.not_eq_true']; exact this.2⟩
  refine ⟨fun d hd => fam.ok d (hs d hd).1, fun d hd e he h1 h2 h3 c => ?_, fun d hd e he c => fam.cross d (hs d hd).1 e (hs e he).1 c⟩
  have x := fam.ex d (hs d hd).1 e (hs e he).1 h1 h2 h3 c
  have y := sv_exch (z := z) h1 h2 h3 c
  rw [(hs d hd).2, (hs e he).2] at y
  simp at y
  exact ⟨List.mem_filter.mpr ⟨x.1, by rw [y.1]; rfl⟩, List.mem_filter.mpr ⟨x.2, by rw [y.2]; rfl⟩⟩
/-- as many points as the largest selection has serve all -/
theorem min_max : ∀ (k : Nat) {F : List Dem}, Fam F → (∀ I, Ind I → (∀ d ∈ I, d ∈ F) → I.length ≤ k) → ∃ S : List (Int × Int), S.length ≤ k ∧ ∀ d ∈ F, ∃ z ∈ S, sv z d = true
  | 0, F, fam, hk => ⟨[], Nat.le_refl _, fun d hd => by
    have := hk [d] (List.pairwise_singleton _ _) fun e he => by
      rw [List.mem_singleton.mp he]
      exact hd
    exact absurd this (by simp)⟩
  | k + 1, F, fam, hk => by
    obtain ⟨z, hz⟩ := hits fam hk
    obtain ⟨S, s1, s2⟩ := min_max k (fam.rest z) fun I i1 i2 => by
      have sub : ∀ d ∈ I, d ∈ F ∧ sv z d = false := fun d hd => by
        have := List.mem_filter.mp (i2 d hd)
        exact ⟨this.1, by rw [← Bool.not_eq_true']; exact this.2⟩
      have le := hk I i1 fun d hd => (sub d hd).1
      by_cases e : I.length = k + 1
      · obtain ⟨d, hd, s⟩ := hz I i1 (fun d hd => (sub d hd).1) e
        rw [(sub d hd).2] at s
        cases s
      · omega
    refine ⟨z :: S, by rw [List.length_cons]; omega, fun d hd => ?_⟩
    by_cases s : sv z d = true
    · exact ⟨z, List.mem_cons_self, s⟩
    · obtain ⟨w, hw, q⟩ := s2 d (List.mem_filter.mpr ⟨hd, by rw [Bool.not_eq_true] at s; rw [s]; rfl⟩)
      exact ⟨w, List.mem_cons_of_mem _ hw, q⟩

/-! ### instances: len(o), str(o) by own defs; t += u; o.m(k = v) -/
section
variable {prog : Program} {w : World} {A : Around} {E : Value → Shared → Prop} {s : Shared}
theorem iconcat_meets {T id : String} {B : Builtin} {a b : Value} {S : PySem.Spec} {Q : Value → Shared → Prop} (ha : s.TypeIs a T) (hb : s.TypeIs b T) (hno : typeLookup (.type T) (dunderI "add") = pure none)
    (hfill : fillsNumberSlot (.type T) "add" = pure false) (hseq : seqSlot? (.type T) "__add__" = pure (some (.builtin id))) (slot : Slot T "__add__" id)
    (entry : entryFor table id = some B) (args : argsOk id ⟨[a, b], []⟩) (g : Meets (B ⟨[a, b], []⟩) S) (h : S A (wants Q E) s) : wpAny (model prog w) A (inplaceOp .Add a b) Q E s :=
  wpAny_inplaceOp_concat ha hb hno hfill hseq (call_meets slot ha entry args g h)
theorem noI_tuple_add : typeLookup (.type "tuple") (dunderI "add") = pure none := by rw [typeLookup_type, builtinLookup_eq_fast]; kernel_rfl
theorem icat_tup0 {t b : Addr} {ws : List Value} {Q : Value → Shared → Prop} (ht : IsTup s.heap t ([] : List Value).toArray) (hb : IsTup s.heap b ws.toArray) (h : Q (.ref b) s) : wpAny (model prog w) A (inplaceOp .Add (.ref t) (.ref b)) Q E s := by
  obtain ⟨⟨cls, dd, data, sl⟩, ho, hc, n, hd⟩ := id ht
  obtain ⟨⟨cls2, dd2, data2, sl2⟩, ho2, hc2, n2, hd2⟩ := id hb
  simp only at hc hd hc2 hd2
  subst hc hd hc2 hd2
  exact iconcat_meets ⟨_, ho, rfl⟩ ⟨_, ho2, rfl⟩ noI_tuple_add noFill_tuple_add seq_tuple_add PySem.F.slot_tuple_add PySem.F.entry_tuple_add (PySem.F.args_tuple_add_2 _ _)
    (tuple_addW0 t b ([] : List Value).toArray ws.toArray n n2 dd dd2 sl sl2 (by simp)) ⟨ho, ho2, h⟩
theorem icat_tup {t b : Addr} {vs ws : List Value} {Q : Value → Shared → Prop} (ht : IsTup s.heap t vs.toArray) (hb : IsTup s.heap b ws.toArray) (hv : vs ≠ [])
    (h1 : ws = [] → Q (.ref t) s) (h2 : ws ≠ [] → Q (.ref s.heap.objs.size) { s with heap := s.heap.push { cls := .type "tuple", data := .seq (vs ++ ws).toArray } })
    (hsz : vs.length + ws.length ≤ sizeLine) : wpAny (model prog w) A (inplaceOp .Add (.ref t) (.ref b)) Q E s := by
  obtain ⟨⟨cls, dd, data, sl⟩, ho, hc, n, hd⟩ := id ht
  obtain ⟨⟨cls2, dd2, data2, sl2⟩, ho2, hc2, n2, hd2⟩ := id hb
  simp only at hc hd hc2 hd2
  subst hc hd hc2 hd2
  have e : vs.toArray ++ ws.toArray = (vs ++ ws).toArray := by simp
  by_cases hw : ws = []
  · exact iconcat_meets ⟨_, ho, rfl⟩ ⟨_, ho2, rfl⟩ noI_tuple_add noFill_tuple_add seq_tuple_add PySem.F.slot_tuple_add PySem.F.entry_tuple_add (PySem.F.args_tuple_add_2 _ _)
      (tuple_addW1 t b vs.toArray ws.toArray n n2 dd dd2 sl sl2 (by simpa using hv) (by simp [hw])) ⟨ho, ho2, h1 hw⟩
  · refine iconcat_meets ⟨_, ho, rfl⟩ ⟨_, ho2, rfl⟩ noI_tuple_add noFill_tuple_add seq_tuple_add PySem.F.slot_tuple_add PySem.F.entry_tuple_add (PySem.F.args_tuple_add_2 _ _)
      (tuple_addW2 t b vs.toArray ws.toArray n n2 dd dd2 sl sl2 (by simpa using hv) (by simpa using hw) (by rw [List.size_toArray, List.size_toArray]; exact hsz)) ⟨ho, ho2, ?_⟩
    rw [e]
    exact h2 hw
end
section
variable {X : Cx}
/-- t += u (tuples) -/
theorem in_catA : InOp X .Add (rCatA X.K) := by
  intro pins s σ H x y v u Q I rx ry h
  obtain ⟨a, b, xs, ys, rfl, rfl, ha, hb, hz, q0, q1, q2⟩ := h
  by_cases hx : xs = []
  · subst hx
    cases rx
    cases ry
    obtain ⟨its, r1, p1, _⟩ := I.tuple ha
    obtain ⟨its2, r2, p2, _⟩ := I.tuple hb
    cases r1
    exact icat_tup0 p1 p2 ⟨.ref b, H, I, rfl, q0 rfl⟩
  · cases rx
    cases ry
    obtain ⟨its, r1, p1, _⟩ := I.tuple ha
    obtain ⟨its2, r2, p2, _⟩ := I.tuple hb
    refine icat_tup p1 p2 (fun z => hx (r1.nil_iff.mp z)) (fun z => ⟨.ref a, H, I, rfl, q1 hx (r2.nil_iff.mp z)⟩) (fun z => ?_) (by rw [← r1.length, ← r2.length]; exact hz)
    refine ⟨.ref s.heap.objs.size, _, I.laid (t' := s.toks) (o := .tup (xs ++ ys)) (fun b ob q => Heap.get?_push_of_some _ q) (Nat.le_refl _) ?_, rfl, q2 hx (fun w => z (r2.nil_iff.mpr w)) _ (I.hok.fresh (Nat.le_refl _))⟩
    exact ⟨by rw [List.length_append]; exact hz, _, r1.append r2, IsTup.new _ _⟩
/-- an own def called from within a builtin -/
theorem run_own {A : Around} {CX : CXT} {k : Nat} {f : Addr} {fd : FuncData} {ps : List Str} {sp : Sp} {E : XK} {pins : List (Addr × Obj)} {σ : L2.St} {H : Hp} {s : Shared} {Q : VK} {us : List Value} {vs : List V}
    (F : FnOk X.prog X.w X.K X.mg X.base CX k f fd ps sp) (hb : Binds X.K fd ps []) (hx : Passes CX X E) (hA : Room k A) (fr : A.frames = X.A.frames) (I : Inv X pins σ H s) (r : Vals vs us) (h : sp vs H Q E) :
    wpAny (model X.prog X.w) A (call (.ref f) us) (EP X pins σ Q) X.xe s := by
  have e0 : Env0 X.prog X.w X.K X.mg X.base A X.stack s H := by
    have e := I.env0
    exact ⟨by rw [fr]; exact e.frames, e.mod, e.bs, e.bsz, e.funs, e.frf, e.hok, e.bare⟩
  have hl := F.len _ _ _ _ h
  refine wpAny_call (codeAny_mono (F.run A X.stack s H ⟨us, []⟩ us vs Q E hA e0 (by
    have := hb s us I.kIn (by simpa using r.length.symm.trans hl)
    simpa using this) r h) fun r s' hq => ?_)
  cases r with
  | error e => exact hx pins σ H s e s' I hq
  | ok fl =>
    cases fl with
    | ret w => exact I.after hq
    | next => exact False.elim hq
    | brk => exact False.elim hq
    | cont => exact False.elim hq
theorem ins_inst {pins : List (Addr × Obj)} {σ : L2.St} {H : Hp} {s : Shared} {a C dx : Addr} {fs : List (Str × V)} (I : Inv X pins σ H s) (ha : H a = some (.ins C dx fs)) : ∃ ox od, PySem.W.InstAt s.heap a ox C od := by
  obtain ⟨mA, J, _⟩ := ins_get I.hok ha
  obtain ⟨od, J, _⟩ := J.look
  exact ⟨_, _, J⟩
/-- len(o), o's class with an own __len__ -/
def rLenOwn (C : Addr) (sp : Sp) (E : XK) : List V → Hp → VK → Prop := fun xs H Q => ∃ a dx fs, xs = [V.ref a] ∧ H a = some (.ins C dx fs) ∧ sp [.ref a] H (fun v H' => ∃ n : Int, v = .int n ∧ (0 ≤ n ∧ n < 2 ^ 63) ∧ Q (.int n) H') E
theorem cr_lenOwn {CX : CXT} {k : Nat} {C f : Addr} {fd : FuncData} {ps : List Str} {sp : Sp} {E : XK} (F : FnOk X.prog X.w X.K X.mg X.base CX k f fd ps sp) (hs : PySem.W.findIn X.K (.ref C) "__len__" = some (some (.ref f))) (hf : PySem.W.isFn X.K (.ref f) = true)
    (hb : Binds X.K fd ps []) (hx : Passes CX X E) (hr : Room (k + 1) X.A) : CallR X (.builtin "len") (rLenOwn C sp E) := by
  intro pins s σ H xs us Q I r h
  obtain ⟨a, dx, fs, rfl, ha, hsp⟩ := h
  rw [Vals.ref1 r]
  obtain ⟨ox, od, J⟩ := ins_inst I ha
  obtain ⟨m, hF⟩ := I.fr
  refine PySem.W.len_K hF I.ok.mod.kin J hs hf (wpAny_mono (run_own F hb hx hr.in1 rfl I (us := [.ref a]) (vs := [.ref a]) (.cons rfl .nil) hsp) (fun v s' z => ?_) fun _ _ x => x)
  obtain ⟨v', H', I', rv, n, rfl, hn, q⟩ := z
  obtain ⟨t, rfl⟩ := (show ∃ t, v = Value.int n t from rv)
  exact ⟨hn, .int n, H', I'.tok _, ⟨_, rfl⟩, q⟩
/-- str(o), o's class with an own __str__ -/
def rStrOwn (C : Addr) (sp : Sp) (E : XK) : List V → Hp → VK → Prop := fun xs H Q => ∃ a dx fs, xs = [V.ref a] ∧ H a = some (.ins C dx fs) ∧ sp [.ref a] H (fun v H' => ∃ n : Str, v = .str n ∧ Q (.str n) H') E
theorem cr_strOwn {CX : CXT} {k : Nat} {C f : Addr} {fd : FuncData} {ps : List Str} {sp : Sp} {E : XK} (F : FnOk X.prog X.w X.K X.mg X.base CX k f fd ps sp) (hs : PySem.W.findIn X.K (.ref C) "__str__" = some (some (.ref f))) (hf : PySem.W.isFn X.K (.ref f) = true)
    (hb : Binds X.K fd ps []) (hx : Passes CX X E) (hr : Room (k + 2) X.A) : CallR X (.type "str") (rStrOwn C sp E) := by
  intro pins s σ H xs us Q I r h
  obtain ⟨a, dx, fs, rfl, ha, hsp⟩ := h
  rw [Vals.ref1 r]
  obtain ⟨ox, od, J⟩ := ins_inst I ha
  have h2 : Room k X.A.in1.in1 := hr.in1.in1
  refine PySem.W.kso_call (h2.units0) I.kIn J hs hf (wpAny_mono (run_own F hb hx h2 rfl I (us := [.ref a]) (vs := [.ref a]) (.cons rfl .nil) hsp) (fun v s' z => ?_) fun _ _ x => x)
  obtain ⟨v', H', I', rv, n, rfl, q⟩ := z
  obtain ⟨t, rfl⟩ := (show ∃ t, v = Value.str n t from rv)
  exact ⟨.str n, H', I', ⟨_, rfl⟩, q⟩
/-- o.m(k = v, ..) -/
def tMethK (C : Addr) (m : Str) (n : Nat) (sp : Sp) (gV : List V → List V → List V) (E : XK) (ta : TE) (tk : TA) : TE := fun σ H Q => ta σ H fun x H1 => ∃ a dx fs, x = .ref a ∧ H1 a = some (.ins C dx fs) ∧ fs.lookup m = none ∧
  tk σ H1 fun zs H2 => zs.length = n ∧ sp (gV [.ref a] zs) H2 Q E
theorem pe_methK0 {CX : CXT} {k : Nat} {f C : Addr} {fd : FuncData} {ps ks : List Str} {sp : Sp} {E : XK} {m : Str} {pos apos : Pos} {o : Expr} {kws : List Keyword} {ta : TE} {tk : TA} {g : List Value → List Value → List Value} {gV : List V → List V → List V} {pl : Sem Bool}
    (he : PE X o ta) (c : Cls X.K C) (hm : Meth X.K C m f) (F : FnOk X.prog X.w X.K X.mg X.base CX k f fd ps sp) (hr : Room k X.A) (hb : KBn X.K fd ps 1 ks g gV) (hx : Passes CX X E) (hkw : PK X kws tk)
    (hall : (backToKw pos (keywordEach kws X.env)).all (·.1.isSome) = true := by rfl) (hks : (backToKw pos (keywordEach kws X.env)).filterMap (·.1) = ks := by rfl)
    (hpl : ((backTo pos (starEach [] X.env)).any (·.1) || (backToKw pos (keywordEach kws X.env)).any (·.1.isNone)) = false := by rfl)
    (ht : eval (.Call (.Attribute o m apos) [] kws pos) X.env = (do
      let ov ← eval o X.env
      standAt apos.atName
      let (f, first) ← holding [ov] (getMethod ov m pl)
      callWith pos f first (backTo pos (starEach [] X.env)) (backToKw pos (keywordEach kws X.env))) := by rfl) :
    PE X (.Call (.Attribute o m apos) [] kws pos) (tMethK C m ks.length sp gV E ta tk) := by
  refine ⟨fun pins s σ H Q I h => ?_⟩
  refine PySem.W.methodCall_KW (pl := pl) (thn (he.run pins s σ H _ I h) fun u s1 ⟨x, H1, I1, rx, a, dx, fs, ex, ea, l, q⟩ => ?_) ht
  subst ex
  obtain rfl : u = Value.ref a := rx
  refine getmeth_ok I1 ea c hm l ?_
  refine PySem.W.callWith_KW0 (first := [.ref a]) (h₀ := X.base) I.ok.mod.kin hm.kp hall (thn (hkw.run pos pins s1 σ H1 _ I1 q) fun ws s2 ⟨zs, H2, I2, rz, l2, q2⟩ => ⟨I2.kIn, ?_⟩) hpl
  rw [hks]
  exact run_fnN (us := [.ref a]) (vs := [.ref a]) F hr hb hx I2 (.cons rfl .nil) rz rfl l2 q2
end

/-! ### own errors without own __init__: raised without arguments, out of a method; isinstance of a caught one -/
abbrev bmVE : List Value := [.type "ValueError", .type "Exception", .type "BaseException", .type "object"]
/-- a class that a clause or isinstance names -/
structure XcN (K : PySem.W.Frag) (mg : Str → Option Value) (x : Str) (C : Addr) : Prop where
  g : mg x = some (.ref C)
  ic : PySem.W.isClsIn K C = true
  ty : PySem.W.typeIn K (.ref C) = some (.type "type")
  ba : PySem.W.subIn K (.ref C) (.type "BaseException") = some true
/-- a class that is raised -/
structure XcR (K : PySem.W.Frag) (C : Addr) : Prop where
  xP : PySem.W.excIn K C bmVE "ValueError.__new__" = true
  kP : PySem.W.keepIn K (.ref C) = true
  ex : ExcC K C
section
variable {K : PySem.W.Frag} {mg : Str → Option Value}
theorem XcN.exm {x : Str} {D C : Addr} {b : Bool} (N : XcN K mg x C) (s : PySem.W.subIn K (.ref D) (.ref C) = some b) : PySem.W.exmOne K (.ref D) (.ref C) = some b := by
  have e1 : (PySem.W.subIn K (.ref C) (.type "BaseException") == some true) = true := by rw [N.ba] <;> rfl
  have e2 : ((PySem.W.clsIn K C).isSome && PySem.W.typeIn K (.ref C) == some (.type "type")) = true := by
    have h : (PySem.W.clsIn K C).isSome = true := N.ic
    rw [h, N.ty] <;> rfl
  show (if (PySem.W.subIn K (.ref C) (.type "BaseException") == some true) = true then (if ((PySem.W.clsIn K C).isSome && PySem.W.typeIn K (.ref C) == some (.type "type")) = true then PySem.W.subIn K (.ref D) (.ref C) else none) else none) = some b
  rw [if_pos e1, if_pos e2]
  exact s
theorem XcN.kit {x : Str} {D C : Addr} {b : Bool} (N : XcN K mg x C) (s : PySem.W.subIn K (.ref D) (.ref C) = some b) (ne : D ≠ C) : PySem.W.kitOne K (.ref D) (.ref C) = some b := by
  have e2 : ((PySem.W.clsIn K C).isSome && PySem.W.typeIn K (.ref C) == some (.type "type")) = true := by
    have h : (PySem.W.clsIn K C).isSome = true := N.ic
    rw [h, N.ty] <;> rfl
  have e0 : ¬ ((Value.ref D == Value.ref C) = true) := fun h => ne (Value.ref.inj (beq_iff_eq.mp h))
  show (if (Value.ref D == Value.ref C) = true then some true else (if ((PySem.W.clsIn K C).isSome && PySem.W.typeIn K (.ref C) == some (.type "type")) = true then PySem.W.subIn K (.ref D) (.ref C) else none)) = some b
  rw [if_neg e0, if_pos e2]
  exact s
theorem kit_self {D : Addr} : PySem.W.kitOne K (.ref D) (.ref D) = some true := by
  show (if (Value.ref D == Value.ref D) = true then some true else _) = some true
  rw [if_pos (beq_self_eq_true _)]
theorem kit_bltn {D : Addr} {T : String} {b : Bool} (m : PySem.W.kitMeta T = true) (s : PySem.W.subIn K (.ref D) (.type T) = some b) : PySem.W.kitOne K (.ref D) (.type T) = some b := by
  have e0 : ¬ ((Value.ref D == Value.type T) = true) := fun h => nomatch beq_iff_eq.mp h
  show (if (Value.ref D == Value.type T) = true then some true else (if PySem.W.kitMeta T = true then PySem.W.subIn K (.ref D) (.type T) else none)) = some b
  rw [if_neg e0, if_pos m]
  exact s
theorem exc_self {C : Addr} {bmB : List Value} {n : String} (q : PySem.W.excIn K C bmB n = true) : PySem.W.subIn K (.ref C) (.ref C) = some true := by
  unfold PySem.W.excIn at q
  split at q
  · rename_i dd cd sl ho
    split at q
    · rename_i C' bm k0 k1 k2 k3 n' k5 hm hs
      simp only [Bool.and_eq_true, beq_iff_eq] at q
      obtain ⟨⟨⟨⟨⟨rfl, _⟩, _⟩, _⟩, _⟩, _⟩ := q
      have hc : PySem.W.clsIn K C' = some cd := by
        unfold PySem.W.clsIn
        rw [ho] <;> rfl
      show PySem.W.mroIn K C' (.ref C') = some true
      unfold PySem.W.mroIn
      rw [hc]
      show (if cd.mro.isEmpty = true then none else some (cd.mro.contains (.ref C'))) = some true
      rw [hm, List.contains_cons, beq_self_eq_true]
      rfl
    · cases q
  · cases q
theorem XcR.ne {C D : Addr} (R : XcR K D) (h : PySem.W.subIn K (.ref D) (.ref C) = some false) : D ≠ C := fun e => by
  have z := exc_self R.xP
  rw [e] at z h
  rw [z] at h
  cases h
/-- no instance of any of these -/
theorem kit_none {D : Addr} (R : XcR K D) : ∀ {l : List (Str × Addr)}, (∀ p ∈ l, XcN K mg p.1 p.2 ∧ PySem.W.subIn K (.ref D) (.ref p.2) = some false) → PySem.W.kitAny K (.ref D) (l.map fun p => Value.ref p.2) = some false
  | [], _ => rfl
  | p :: l, h => kitAny_cons ((h p List.mem_cons_self).1.kit (h p List.mem_cons_self).2 (R.ne (h p List.mem_cons_self).2)) (fun _ => kit_none R fun q hq => h q (List.mem_cons_of_mem _ hq)) (fun z => nomatch z)
end
section
variable {X : Cx}
theorem pmk_own0 {C : Addr} {bmB : List Value} {B newId initId : String} {x : Str} {p pos : Pos} (F : ExcBaseFacts B newId initId bmB) (q : PySem.W.excIn X.K C bmB newId = true) (gC : X.mg x = some (.ref C)) (kC : PySem.W.keepIn X.K (.ref C) = true) (r : Raises X (.ref C)) (hg : Gl X x)
    (hdb : (x == ("__debug__" : Str)) = false := by decide) : PMk X (.Call (.Name x p) [] [] pos) (fun _ H Q => Q (.ref C) none H) := by
  intro pins s σ H Q I h
  refine wpAny_Call_Name_kw (ld_glob I hg gC ?_ hdb)
  refine PySem.W.callWith_K0 (first := []) I.kIn kC ?_
  show wpAny _ _ (call (.ref C) []) _ _ _
  obtain ⟨bm, N, nm, qn, bs, hdct, sn, sub, ab, col, dd, k0, k1, k2, k3, k5, mN, hC, hN, hni, T⟩ := exc_obj I.kIn q
  refine wpAny_call_exc_subT F T hC hN hni (fun h' e hm => ?_) (by show 0 ≤ sizeLine; decide)
  exact mk_of I hm r h (I.hok.gone hm.new)
/-- raise C() -/
theorem ps_raise0 {W : WX} {C : Addr} {x : Str} {p pos pos2 : Pos} (hc : X.calm = true) (tk : Takes X W) (N : XcN X.K X.mg x C) (R : XcR X.K C) (hg : Gl X x) (hdb : (x == ("__debug__" : Str)) = false := by decide) :
    PS X (.Raise (some (.Call (.Name x p) [] [] pos)) none pos2) (fun _ σ H => W (.ref C) none σ H) :=
  ps_raise hc tk (pmk_own0 PySem.F.excBase_ValueError R.xP N.g R.kP (raises_own N.ba N.ty) hg hdb)
variable {CX : CXT} {k : Nat} {f C : Addr} {fd : FuncData} {ps : List Str} {sp : Sp} {E : L2.St → XK} {x m : Str} {p pos apos : Pos} {e o : Expr} {es : List Expr} {ta : TE} {t : TA}
def tMethL (C : Addr) (m : Str) (sp : Sp) (E : L2.St → XK) (ta : TE) (t : TA) : TE := fun σ H Q => ta σ H fun x H1 => ∃ a dx fs, x = .ref a ∧ H1 a = some (.ins C dx fs) ∧ fs.lookup m = none ∧ t σ H1 fun vs H2 => sp (.ref a :: vs) H2 Q (E σ)
/-- o.m(), which may raise -/
theorem pe_methL0 {pl : Sem Bool} (he : PE X o ta) (c : Cls X.K C) (hm : Meth X.K C m f) (F : FnOk X.prog X.w X.K X.mg X.base CX k f fd ps sp) (hr : Room k X.A) (hb : Binds X.K fd ps []) (hx : ∀ σ, PassesAt CX X σ (E σ))
    (ht : eval (.Call (.Attribute o m apos) [] [] pos) X.env = (do
      let ov ← eval o X.env
      standAt apos.atName
      let (f, first) ← holding [ov] (getMethod ov m pl)
      callWith pos f first (backTo pos (starEach [] X.env)) (backToKw pos (keywordEach [] X.env))) := by rfl) :
    PE X (.Call (.Attribute o m apos) [] [] pos) (tMethL C m sp E ta tNil) := by
  refine ⟨fun pins s σ H Q I h => ?_⟩
  refine PySem.W.methodCall_KW (pl := pl) (thn (he.run pins s σ H _ I h) fun u s1 ⟨x, H1, I1, rx, a, dx, fs, ex, ea, l, q⟩ => ?_) ht
  subst ex
  obtain rfl : u = Value.ref a := rx
  refine getmeth_ok I1 ea c hm l ?_
  exact PySem.W.callWith_K0 (first := [.ref a]) I1.kIn hm.kp (run_fnS (us := [.ref a]) (vs := [.ref a]) F hr hb (hx σ) I1 (.cons rfl .nil) q)
/-- o.m(e, ..), which may raise -/
theorem pe_methL {pl : Sem Bool} (he : PE X o ta) (c : Cls X.K C) (hm : Meth X.K C m f) (F : FnOk X.prog X.w X.K X.mg X.base CX k f fd ps sp) (hr : Room k X.A) (hb : Binds X.K fd ps []) (hx : ∀ σ, PassesAt CX X σ (E σ)) (ha : PA X (e :: es) t)
    (hst : starEach (e :: es) X.env = (false, eval e X.env) :: starEach es X.env := by rfl) (hpl : (backTo pos (starEach es X.env)).any (·.1) = false := by rfl)
    (ht : eval (.Call (.Attribute o m apos) (e :: es) [] pos) X.env = (do
      let ov ← eval o X.env
      standAt apos.atName
      let (f, first) ← holding [ov] (getMethod ov m pl)
      callWith pos f first (backTo pos (starEach (e :: es) X.env)) (backToKw pos (keywordEach [] X.env))) := by rfl) :
    PE X (.Call (.Attribute o m apos) (e :: es) [] pos) (tMethL C m sp E ta t) := by
  refine ⟨fun pins s σ H Q I h => ?_⟩
  refine PySem.W.methodCall_KW (pl := pl) (thn (he.run pins s σ H _ I h) fun u s1 ⟨x, H1, I1, rx, a, dx, fs, ex, ea, l, q⟩ => ?_) ht
  subst ex
  obtain rfl : u = Value.ref a := rx
  refine getmeth_ok I1 ea c hm l ?_
  refine PySem.W.callWith_K (first := [.ref a]) (h₀ := X.base) I.ok.mod.kin hm.kp (thn (ha.run pos pins s1 σ H1 _ I1 q) fun us s2 ⟨vs, H2, I2, r, q2⟩ => ⟨I2.kIn, ?_⟩) hst hpl
  exact run_fnS (us := .ref a :: us) (vs := .ref a :: vs) F hr hb (hx σ) I2 (.cons rfl r) q2
/-- isinstance(e, c), e the exception (without a dict) that the suite holds -/
def rIsX (K : PySem.W.Frag) (a : Addr) (cls : Value) (d : Option Addr) : List V → Hp → VK → Prop := fun xs H Q => ∃ (D : Addr) (c : V) (cv : Value) (b : Bool), xs = [.ref a, c] ∧ cls = .ref D ∧ d = none ∧ ExcC K D ∧ ClsV c cv ∧ PySem.W.kitOne K (.ref D) cv = some b ∧ Q (.bl b) H
/-- isinstance(e, (c1, c2, ..)) -/
def rIsXT (K : PySem.W.Frag) (a : Addr) (cls : Value) (d : Option Addr) : List V → Hp → VK → Prop := fun xs H Q => ∃ (D tp : Addr) (cs : List V) (us : List Value) (b : Bool), xs = [.ref a, .ref tp] ∧ cls = .ref D ∧ d = none ∧ ExcC K D ∧ H tp = some (.tup cs) ∧ Paired ClsV cs us ∧ PySem.W.kitAny K (.ref D) us = some b ∧ Q (.bl b) H
theorem held_inst {a D : Addr} {oe : Obj} {pn pins : List (Addr × Obj)} {σ : L2.St} {H : Hp} {s : Shared} (I : Inv (X.suite a ((a, oe) :: pn)) pins σ H s) (hz : Zc (.ref D) none oe) (hf : ∃ vs, oe.data = .fields vs) : PySem.W.InstAt s.heap a oe D none := by
  obtain ⟨hget, _⟩ := I.pin (a, oe) (List.mem_append.mpr (.inl List.mem_cons_self))
  obtain ⟨vs, hv⟩ := hf
  obtain ⟨oc, od, oda, osl⟩ := oe
  obtain ⟨h1, h2⟩ := hz
  dsimp only at h1 h2 hv
  subst h1 h2 hv
  exact ⟨hget, rfl, rfl, trivial⟩
theorem call_isX {a : Addr} {cls : Value} {d : Option Addr} {oe : Obj} {pn : List (Addr × Obj)} (hz : Zc cls d oe) (hf : ∃ vs, oe.data = .fields vs) : CallR (X.suite a ((a, oe) :: pn)) (.builtin "isinstance") (rIsX X.K a cls d) := by
  intro pins s σ H xs us Q I r h
  obtain ⟨D, c, cv, b, rfl, rfl, rfl, C, hcv, e, q⟩ := h
  cases r with
  | cons rx rr =>
    cases rr with
    | cons rt rr =>
      cases rr
      cases rx
      have ec := hcv.eq rt
      subst ec
      exact PySem.W.kia_one (PySem.W.handS_kitx_exc C.hg C.hk C.hs C.hd C.ha C.hn C.ht C.hm) I.kIn (held_inst I hz hf) e (fun z => nomatch z) fun tk => ⟨.bl b, H, I.kept (t' := tk) fun _ _ z => z, rfl, q⟩
theorem call_isXT {a : Addr} {cls : Value} {d : Option Addr} {oe : Obj} {pn : List (Addr × Obj)} (hz : Zc cls d oe) (hf : ∃ vs, oe.data = .fields vs) : CallR (X.suite a ((a, oe) :: pn)) (.builtin "isinstance") (rIsXT X.K a cls d) := by
  intro pins s σ H xs us Q I r h
  obtain ⟨D, tp, cs, ws, b, rfl, rfl, rfl, C, hT, k, e, q⟩ := h
  cases r with
  | cons rx rr =>
    cases rr with
    | cons rt rr =>
      cases rr
      cases rx
      cases rt
      obtain ⟨_, its, rv, o, h1, h2, n, h3⟩ := (show ObjOk X.prog X.w H s.heap tp (.tup cs) from I.hok tp _ hT)
      have e3 := ClsV.all k rv
      subst e3
      obtain ⟨oc, od, dt, sl⟩ := o
      simp only at h2 h3
      subst h2 h3
      exact PySem.W.kia_tup (PySem.W.handS_kitx_exc C.hg C.hk C.hs C.hd C.ha C.hn C.ht C.hm) I.kIn (held_inst I hz hf) h1 e (fun z => nomatch z) fun tk => ⟨.bl b, H, I.tok tk, rfl, q⟩
end

/-! ### own errors with an own __init__ of one field: raised, asked for their class, their field read -/
section
open PySem.W
variable {prog : Program} {w : World} {A : Around} {E : Value → Shared → Prop} {K : Frag} {D x : Addr} {ox : Obj} {od : Option Obj} {s : Shared}
/-- e.__class__ of an error that has a dict (the library has it of one without) -/
theorem cls_of_dict {Q : Option Value → Shared → Prop} (C : ExcC K D) (X : K.In s.heap) (I : InstAt s.heap x ox D od) (h : Q (some (.ref D)) { s with toks := s.toks + 1 }) : wpAny (model prog w) A (getAttr? (.ref x) "__class__") Q E s := by
  have some_cls : (clsIn K D).isSome = true := by
    obtain ⟨cd, hc, _⟩ := any_some C.hd
    rw [hc]
    rfl
  have found := looks_find (M := model prog w) X I (findObj_dataE (od := od) some_cls C.ha C.hn C.ht)
  obtain ⟨hp, g, d, t, os⟩ := s
  have own := I.type (M := model prog w)
  have isE : Looks (model prog w) hp (isInstance (.ref x) (.type "BaseException")) true := own.andThen (looks_subIn X C.hs)
  have notObj : (Value.builtin "BaseException.__getattribute__" == Value.builtin "object.__getattribute__") = false := by decide +kernel
  unfold getAttr? getAttrBy? getAttrBy
  refine wpAny_bind (wpAny_mkText (wpAny_bind (wpAny_attempt (wpAny_holding (wpAny_bind (own.at (wpAny_bind ((looks_findIn X C.hg).at ?_))))))))
  show wpAny _ _ (if (onTheHeap (Value.ref D) && Value.builtin "BaseException.__getattribute__" == Value.builtin "object.__getattribute__") = true then _ else _) _ _ _
  rw [show (onTheHeap (Value.ref D) && Value.builtin "BaseException.__getattribute__" == Value.builtin "object.__getattribute__") = false by rw [notObj]; rfl, if_neg Bool.false_ne_true]
  unfold getAttrByItsOwn hookBefore
  refine wpAny_bind ?_
  rw [if_pos (show onTheHeap (Value.ref D) = true from rfl)]
  refine (looks_findIn X C.hk).at (wpAny_bind (wpAny_attempt (wpAny_holding ?_)))
  unfold callGetattribute
  rw [show (false && onTheHeap (Value.builtin "BaseException.__getattribute__")) = false from rfl, if_neg Bool.false_ne_true]
  unfold boundAndCalled
  rw [PySem.F.excAttr_ValueError.ga.bind (.ref x)]
  refine wpAny_bind (wpAny_pure ?_)
  show wpAny _ _ (call (.builtin "BaseException.__getattribute__") [.ref x, .str "__class__" t]) _ _ _
  refine wpAny_call (codeAny_call_builtin PySem.F.excAttr_ValueError.ga.plain PySem.F.entry_bexc_ga ?_)
  refine @check_slot (model prog w) _ _ ⟨hp, g, d, t + 1, os⟩ "BaseException.__getattribute__" "BaseException" "__getattribute__" (.ref x) [.str "__class__" t] [] _ (by decide +kernel) (by decide +kernel) isE (PySem.F.args_bexc_ga (.ref x) (.str "__class__" t)) ?_
  unfold Builtin.«object.__getattribute__»
  refine wpAny_bind (wpAny_of_eq (a := ((Value.ref x : Value), [Value.str "__class__" t])) (by first | rfl | (simp only [slotArgs]; rfl)) ?_)
  refine wpAny_bind (wpAny_pure (wpAny_bind (own.at (wpAny_bind (found.at ?_)))))
  show wpAny _ _ (holding [Value.builtin "object.__class__"] (call (.builtin "getset_descriptor.__get__") [.builtin "object.__class__", .ref x, .ref D]) >>= ret) _ _ _
  refine wpAny_bind (wpAny_holding (wpAny_call (class_get (s := ⟨hp, g, d, t + 1, os⟩) X I C.hm (wpAny_pure ?_))))
  show wpAny _ _ (handedOut (.ref D)) _ _ _
  rw [handedOut_of (v := .ref D) rfl]
  first
    | exact wpAny_pure (wpAny_pure h)
    | exact wpAny_pure h
    | exact wpAny_pure (wpAny_bind (wpAny_pure (wpAny_pure h)))
theorem kitx_dict (C : ExcC K D) : KitX K (.ref x) (.ref D) (fun h => InstAt h x ox D od) where
  ty := fun _ _ _ I => I.type
  it := fun _ _ X _ => by
    obtain ⟨cd, hc, _⟩ := any_some C.hd
    unfold clsIn at hc
    split at hc
    · rename_i ho
      intro A' Q' E' s' k q
      unfold isType loadHead
      exact wpAny_bind (wpAny_loadPart (k _ _ (X _ _ ho)) (wpAny_pure q))
    · cases hc
  ne := fun h tp dd its n sl X htp => by
    obtain ⟨cd, hc, _⟩ := any_some C.hd
    refine Bool.eq_false_iff.mpr fun q => ?_
    obtain rfl : D = tp := Value.ref.inj (beq_iff_eq.mp q)
    unfold clsIn at hc
    split at hc
    · rename_i ho
      have z := (X _ _ ho).symm.trans htp
      cases z
    · cases hc
  ca := fun X I k => cls_of_dict C X I k
end
/-- an error's dict, if it has one -/
def ExD (H : Hp) (d : Option Addr) : Prop := d = none ∨ ∃ dd fs, d = some dd ∧ H dd = some (.xd fs)
/-- what the written part says of a class with an own __init__ that sets the field f -/
structure XcI (K : PySem.W.Frag) (C fI : Addr) (f : Str) : Prop where
  ox : OexC K C
  iC : PySem.W.findIn K (.ref C) "__init__" = some (some (.ref fI))
  tI : PySem.W.typeIn K (.ref fI) = some (.type "function")
  no : PySem.W.findIn K (.ref C) f = some none
  ex : ExcC K C
theorem XcI.xf {K : PySem.W.Frag} {C fI : Addr} {f : Str} (I : XcI K C fI f) : XfC K C := ⟨I.ex.hg, I.ex.hk, I.ex.hs, I.ex.hd⟩
theorem oex_self {K : PySem.W.Frag} {C : Addr} (O : OexC K C) : PySem.W.subIn K (.ref C) (.ref C) = some true := by
  obtain ⟨nm, q, N, bs, bm, sn, sub, ab, col, dd, k0, k1, k2, k3, k5, h, _⟩ := O.cls
  show PySem.W.mroIn K C (.ref C) = some true
  unfold PySem.W.mroIn PySem.W.clsIn
  rw [h]
  show (if (Value.ref C :: bm).isEmpty = true then none else some ((Value.ref C :: bm).contains (.ref C))) = some true
  rw [List.contains_cons, beq_self_eq_true]
  rfl
theorem XcI.ne {K : PySem.W.Frag} {C D fI : Addr} {f : Str} (R : XcI K D fI f) (h : PySem.W.subIn K (.ref D) (.ref C) = some false) : D ≠ C := fun e => by
  have z := oex_self R.ox
  rw [e] at z h
  rw [z] at h
  cases h
theorem kit_noneI {K : PySem.W.Frag} {mg : Str → Option Value} {D fI : Addr} {f : Str} (R : XcI K D fI f) : ∀ {l : List (Str × Addr)}, (∀ p ∈ l, XcN K mg p.1 p.2 ∧ PySem.W.subIn K (.ref D) (.ref p.2) = some false) → PySem.W.kitAny K (.ref D) (l.map fun p => Value.ref p.2) = some false
  | [], _ => rfl
  | p :: l, h => kitAny_cons ((h p List.mem_cons_self).1.kit (h p List.mem_cons_self).2 (R.ne (h p List.mem_cons_self).2)) (fun _ => kit_noneI R fun q hq => h q (List.mem_cons_of_mem _ hq)) (fun z => nomatch z)
def sp_exc_init (K : PySem.W.Frag) (C : Addr) (f : Str) : Sp := fun vs H Q _ => ∃ (a : Addr) (v : V), vs = [.ref a, v] ∧ H a = some (exo a C none) ∧ ∀ dx, H dx = none → dx ≠ a → Q .non (upd (upd H dx (exd dx [(f, v)])) a (exo a C (some dx)))
section
variable {X : Cx}
/-- the args, with more said of them than is asked -/
def tMono (ta : TA) : TA := fun σ H R => ∃ S, ta σ H S ∧ ∀ vs H1, S vs H1 → R vs H1
theorem pa_mono {es : List Expr} {ta : TA} (h : PA X es ta) : PA X es (tMono ta) := ⟨fun pos pins s σ H Q I q => by
  obtain ⟨S, h1, h2⟩ := q
  refine thn (h.run pos pins s σ H S I h1) fun us s1 hh => ?_
  obtain ⟨vs, H1, I1, r, z⟩ := hh
  exact ⟨vs, H1, I1, r, h2 _ _ z⟩⟩
def tMk1 (C : Addr) (f : Str) (ta : TA) : L2.St → Hp → XK → Prop := fun σ H Q => ta σ H fun vs H1 => ∃ v, vs = [v] ∧ ∀ d, H1 d = none → Q (.ref C) (some d) (upd H1 d (.xd [(f, v)]))
theorem pmk_1 {x f : Str} {C fI : Addr} {k : Nat} {fd : FuncData} {ps : List Str} {p pos : Pos} {e : Expr} {ta : TA} (N : XcN X.K X.mg x C) (I : XcI X.K C fI f) (F1 : FnOk X.prog X.w X.K X.mg X.base CX0 k fI fd ps (sp_exc_init X.K C f)) (hr : Room (k + 1) X.A) (hb : Binds X.K fd ps [])
    (hg : Gl X x) (ha : PA X [e] ta) (hdb : (x == ("__debug__" : Str)) = false := by decide) (he : starEach (e :: []) X.env = (false, eval e X.env) :: starEach [] X.env := by rfl) (hpl : (backTo pos (starEach [] X.env)).any (·.1) = false := by rfl) :
    PMk X (.Call (.Name x p) [e] [] pos) (tMk1 C f ta) := by
  intro pins s σ H Q J h
  refine pmk_oex (dvs := []) I.ox I.iC I.tI F1 hr hb .nil (fun _ _ _ _ _ _ _ h => h.elim) hg N.g (pa_mono ha) hdb he hpl pins s σ H Q J ⟨_, h, fun vs H1 h1 => ?_⟩
  obtain ⟨v, rfl, q⟩ := h1
  refine ⟨by show 1 ≤ 1000; decide, fun a na => ⟨a, v, rfl, upd_same, fun dx nd ne => ⟨rfl, dx, [(f, v)], upd_same, ?_, ?_, ?_⟩⟩⟩
  · rw [upd_ne ne]
    exact upd_same
  · rw [upd_ne ne] at nd
    exact nd
  · have nd1 : H1 dx = none := by
      rw [upd_ne ne] at nd
      exact nd
    have z := q dx nd1
    have e2 : upd H1 dx (.xd [(f, v)]) = upd (del (upd (upd (upd H1 a (exo a C none)) dx (exd dx [(f, v)])) a (exo a C (some dx))) a) dx (.xd [(f, v)]) := by
      funext b
      by_cases hb : b = dx
      · rw [hb, upd_same, upd_same]
      · rw [upd_ne hb, upd_ne hb]
        by_cases ha : b = a
        · rw [ha, del_same, na]
        · rw [del_ne ha, upd_ne ha, upd_ne hb, upd_ne ha]
    rw [← e2]
    exact z
/-- raise C(e) -/
theorem ps_raise1 {W : WX} {x f : Str} {C fI : Addr} {k : Nat} {fd : FuncData} {ps : List Str} {p pos pos2 : Pos} {e : Expr} {ta : TA} (hc : X.calm = true) (tk : Takes X W) (N : XcN X.K X.mg x C) (I : XcI X.K C fI f) (F1 : FnOk X.prog X.w X.K X.mg X.base CX0 k fI fd ps (sp_exc_init X.K C f)) (hr : Room (k + 1) X.A) (hb : Binds X.K fd ps [])
    (hg : Gl X x) (ha : PA X [e] ta) (hdb : (x == ("__debug__" : Str)) = false := by decide) (he : starEach (e :: []) X.env = (false, eval e X.env) :: starEach [] X.env := by rfl) (hpl : (backTo pos (starEach [] X.env)).any (·.1) = false := by rfl) :
    PS X (.Raise (some (.Call (.Name x p) [e] [] pos)) none pos2) (fun _ σ H => tMk1 C f ta σ H fun cls d H' => W cls d σ H') := ps_raise hc tk (pmk_1 N I F1 hr hb hg ha hdb he hpl)
/-- isinstance(e, c), e the error that the suite holds, with a dict or without -/
def rIsY (K : PySem.W.Frag) (a : Addr) (cls : Value) (d : Option Addr) : List V → Hp → VK → Prop := fun xs H Q => ∃ (D : Addr) (c : V) (cv : Value) (b : Bool), xs = [.ref a, c] ∧ cls = .ref D ∧ ExD H d ∧ ExcC K D ∧ ClsV c cv ∧ PySem.W.kitOne K (.ref D) cv = some b ∧ Q (.bl b) H
def rIsYT (K : PySem.W.Frag) (a : Addr) (cls : Value) (d : Option Addr) : List V → Hp → VK → Prop := fun xs H Q => ∃ (D tp : Addr) (cs : List V) (us : List Value) (b : Bool), xs = [.ref a, .ref tp] ∧ cls = .ref D ∧ ExD H d ∧ ExcC K D ∧ H tp = some (.tup cs) ∧ Paired ClsV cs us ∧ PySem.W.kitAny K (.ref D) us = some b ∧ Q (.bl b) H
theorem held_instD {a D : Addr} {oe : Obj} {d : Option Addr} {pn pins : List (Addr × Obj)} {σ : L2.St} {H : Hp} {s : Shared} (I : Inv (X.suite a ((a, oe) :: pn)) pins σ H s) (hz : Zc (.ref D) d oe) (hf : ∃ vs, oe.data = .fields vs) (hd : ExD H d) : ∃ od, PySem.W.InstAt s.heap a oe D od := by
  rcases hd with rfl | ⟨dd, fs, rfl, e⟩
  · exact ⟨none, held_inst I hz hf⟩
  · obtain ⟨hget, _⟩ := I.pin (a, oe) (List.mem_append.mpr (.inl List.mem_cons_self))
    obtain ⟨vs, hv⟩ := hf
    obtain ⟨mA, hns, _⟩ := (show ObjOk X.prog X.w H s.heap dd (.xd fs) from I.hok dd _ e)
    obtain ⟨od, ho, _⟩ := lookIn_ns hns
    exact ⟨some od, hget, hz.1, by unfold PySem.W.notCls; rw [hv] <;> rfl, by rw [hz.2]; exact ho⟩
theorem call_isY {a : Addr} {cls : Value} {d : Option Addr} {oe : Obj} {pn : List (Addr × Obj)} (hz : Zc cls d oe) (hf : ∃ vs, oe.data = .fields vs) : CallR (X.suite a ((a, oe) :: pn)) (.builtin "isinstance") (rIsY X.K a cls d) := by
  intro pins s σ H xs us Q I r h
  obtain ⟨D, c, cv, b, rfl, rfl, hd, C, hcv, e, q⟩ := h
  obtain ⟨od, J⟩ := held_instD I hz hf hd
  cases r with
  | cons rx rr =>
    cases rr with
    | cons rt rr =>
      cases rr
      cases rx
      have ec := hcv.eq rt
      subst ec
      exact PySem.W.kia_one (kitx_dict C) I.kIn J e (fun z => nomatch z) fun tk => ⟨.bl b, H, I.kept (t' := tk) fun _ _ z => z, rfl, q⟩
theorem call_isYT {a : Addr} {cls : Value} {d : Option Addr} {oe : Obj} {pn : List (Addr × Obj)} (hz : Zc cls d oe) (hf : ∃ vs, oe.data = .fields vs) : CallR (X.suite a ((a, oe) :: pn)) (.builtin "isinstance") (rIsYT X.K a cls d) := by
  intro pins s σ H xs us Q I r h
  obtain ⟨D, tp, cs, ws, b, rfl, rfl, hd, C, hT, k, e, q⟩ := h
  obtain ⟨od, J⟩ := held_instD I hz hf hd
  cases r with
  | cons rx rr =>
    cases rr with
    | cons rt rr =>
      cases rr
      cases rx
      cases rt
      obtain ⟨_, its, rv, o, h1, h2, n, h3⟩ := (show ObjOk X.prog X.w H s.heap tp (.tup cs) from I.hok tp _ hT)
      have e3 := ClsV.all k rv
      subst e3
      obtain ⟨oc, oD, dt, sl⟩ := o
      simp only at h2 h3
      subst h2 h3
      exact PySem.W.kia_tup (kitx_dict C) I.kIn J h1 e (fun z => nomatch z) fun tk => ⟨.bl b, H, I.tok tk, rfl, q⟩
end

/-! ### two promises of one def; a class of the program whose __init__ may raise -/
section
variable {P : Program} {w : World} {K : PySem.W.Frag} {mg : Str → Option Value} {base : Heap} {k : Nat} {f : Addr} {fd : FuncData} {ps : List Str} {sp0 sp1 : Sp}
/-- what a def does where all is well (no error leaves it), and what it raises elsewhere, shown apart -/
theorem fn_or (F0 : FnOk P w K mg base CX0 k f fd ps sp0) (F1 : FnOk P w K mg base (L2.CX P w) k f fd ps sp1) : FnOk P w K mg base (L2.CX P w) k f fd ps (fun vs H Q E => sp0 vs H Q E ∨ sp1 vs H Q E) where
  len := fun vs H Q E h => h.elim (F0.len vs H Q E) (F1.len vs H Q E)
  run := fun A outer s H args us vs Q E hr he hb hv h => by
    rcases h with h | h
    · refine codeAny_mono (F0.run A outer s H args us vs Q E hr he hb hv h) fun r s' q => ?_
      cases r with
      | error e => exact False.elim q
      | ok fl => cases fl <;> exact q
    · exact F1.run A outer s H args us vs Q E hr he hb hv h
end
section
variable {X : Cx} {CX : CXT} {k : Nat} {f C : Addr} {fd : FuncData} {ps : List Str} {sp : Sp} {E : L2.St → XK} {x : Str} {p pos : Pos} {e : Expr} {es : List Expr} {t : TA} {dvs : List V} {ds : List Value}
def tMakeL (C : Addr) (sp : Sp) (dvs : List V) (E : L2.St → XK) (t : TA) : TE := fun σ H Q => t σ H fun vs H1 => ∀ x dx, H1 x = none → H1 dx = none → dx ≠ x → sp (.ref x :: (vs ++ dvs)) (upd (upd H1 dx (.own x)) x (.ins C dx [])) (fun v H2 => v = .non ∧ Q (.ref x) H2) (E σ)
theorem run_makeL {pins : List (Addr × Obj)} {σ : L2.St} {H : Hp} {s : Shared} {Q : VK} {us : List Value} {vs : List V} (M : Mk X.K C f) (F : FnOk X.prog X.w X.K X.mg X.base CX k f fd ps sp) (hr : Room (k + 1) X.A) (hb : Binds X.K fd ps ds) (hd : Vals dvs ds) (hx : PassesAt CX X σ (E σ))
    (I : Inv X pins σ H s) (r : Vals vs us) (h : ∀ x dx, H x = none → H dx = none → dx ≠ x → sp (.ref x :: (vs ++ dvs)) (upd (upd H dx (.own x)) x (.ins C dx [])) (fun v H2 => v = .non ∧ Q (.ref x) H2) (E σ)) :
    wpAny (model X.prog X.w) X.A (call (.ref C) us) (EP X pins σ Q) X.xe s := by
  have hq := h (s.heap.objs.size + 1) s.heap.objs.size (I.hok.fresh (Nat.le_succ _)) (I.hok.fresh (Nat.le_refl _)) (Nat.ne_of_lt (Nat.lt_succ_self _))
  have I2 := Inv.made (C := C) I
  have r2 : Vals (V.ref (s.heap.objs.size + 1) :: (vs ++ dvs)) (Value.ref (s.heap.objs.size + 1) :: (us ++ ds)) := .cons rfl (r.append hd)
  have hl : (Value.ref (s.heap.objs.size + 1) :: us ++ ds).length = ps.length := by
    have e := r2.length
    rw [F.len _ _ _ _ hq] at e
    exact e.symm
  refine wpAny_call (make_map (f := f) I.kIn M.makes M.init (beq_iff_eq.mp M.fn) (codeAny_mono (F.run _ X.stack _ _ ⟨Value.ref (s.heap.objs.size + 1) :: us, []⟩ (Value.ref (s.heap.objs.size + 1) :: (us ++ ds)) _ _ (E σ) (hr.make C us [])
    (I2.env0.make C us []) (hb _ (Value.ref (s.heap.objs.size + 1) :: us) I2.kIn hl) r2 hq) fun r s' hq' => ?_))
  cases r with
  | error e => exact hx pins _ _ e s' I2 hq'
  | ok fl =>
    cases fl with
    | ret u =>
      obtain ⟨v, H', I3, rv, ev, q3⟩ := I2.after hq'
      subst ev
      exact ⟨rv, ⟨V.ref (s.heap.objs.size + 1), H', I3, rfl, q3⟩⟩
    | next => exact False.elim hq'
    | brk => exact False.elim hq'
    | cont => exact False.elim hq'
/-- C(e, ..), whose __init__ may raise -/
theorem pe_makeL (M : Mk X.K C f) (F : FnOk X.prog X.w X.K X.mg X.base CX k f fd ps sp) (hr : Room (k + 1) X.A) (hg : Gl X x) (hm : X.mg x = some (.ref C)) (hb : Binds X.K fd ps ds) (hd : Vals dvs ds) (hx : ∀ σ, PassesAt CX X σ (E σ))
    (ha : PA X (e :: es) t) (hdb : (x == ("__debug__" : Str)) = false := by decide) (he : starEach (e :: es) X.env = (false, eval e X.env) :: starEach es X.env := by rfl) (hpl : (backTo pos (starEach es X.env)).any (·.1) = false := by rfl) :
    PE X (.Call (.Name x p) (e :: es) [] pos) (tMakeL C sp dvs E t) := by
  refine ⟨fun pins s σ H Q I h => ?_⟩
  refine wpAny_Call_Name_kw (ld_glob I hg hm ?_ hdb)
  refine PySem.W.callWith_K (h₀ := X.base) I.ok.mod.kin M.kp (thn (ha.run pos pins s σ H _ I h) fun us s1 ⟨vs, H1, I1, r, q⟩ => ⟨I1.kIn, ?_⟩) he hpl
  exact run_makeL M F hr hb hd (hx σ) I1 r q
end

/-! ### errors with an own __init__ of one field over any built-in error (LookupError) -/
section
open PySem.W Builtin Builtin.ObjectAttr
variable {prog : Program} {w : World} {A : Around} {R : Result → Shared → Prop} {hp : Heap} {g : Array GenState} {d : Drawn} {tk0 : Nat} {os : OsState}
theorem osa_anyB {K : Frag} {name : Str} {tk : Tok} {v : Value} {x C t : Addr} {bmB : List Value} {B : String} (SF : StoreFacts B bmB "object.__setattr__" "object") (X : K.In hp) (hx : hp.get? x = some (excObj C t none .none)) (ho : excOver K C bmB = true) (hd : hasDictIn K C = true)
    (ha : findIn K (.ref C) name = some none)
    (hq : ∀ h' tk', (∀ b o, b ≠ x → hp.get? b = some o → h'.get? b = some o) → h'.get? x = some (excObj C t (some hp.objs.size) .none) → h'.Ns1 hp.objs.size (fun y => if y = name then some v else none) → R (.ok (.ret .none)) ⟨h', g, d, tk', os⟩) :
    codeAny (model prog w) A (.call (.builtin "object.__setattr__") ⟨[.ref x, .str name tk, v], []⟩) R ⟨hp, g, d, tk0, os⟩ := by
  have hxs : x ≠ hp.objs.size := Nat.ne_of_lt (Heap.lt_size hx)
  refine osa_openX (s := ⟨hp, g, d, tk0, os⟩) (od := none) (r := none) SF X ⟨hx, rfl, rfl, trivial⟩ ho (by unfold takerIn; rw [ha]; rfl) fun b => ?_
  obtain ⟨cd, hc, hd'⟩ := any_some hd
  refine wpAny_bind (wpAny_pure (wpAny_bind (instanceDict_exc hx (looks_clsIn X hc) hd' ?_)))
  show wpAny _ _ (storeInDict hp.objs.size (.str name tk) name v) _ _ _
  have at0 : (hp.push (dictOf [] 0)).get? hp.objs.size = some (dictOf [] 0) := Heap.get?_push_size _ rfl
  have x0 : (hp.push (dictOf [] 0)).get? x = some (excObj C t none .none) := Heap.get?_push_of_some _ hx
  refine HandSPX.store_in_new ⟨_, #[], _, (Heap.get?_update_ne _ _ _ _ hxs.symm).trans at0, rfl, fun e he => absurd he (by simp), fun _ => rfl⟩ fun h' tk' hn' hs => ?_
  refine hq h' tk' (fun b o hb e => ?_) ?_ hn'
  · exact (hs.2 b (Nat.ne_of_lt (Heap.lt_size e))).trans ((Heap.get?_update_ne _ _ _ _ hb).trans (Heap.get?_push_of_some _ e))
  · exact (hs.2 x hxs).trans (Heap.get?_update_self _ x0 rfl)
end
/-- a class of the program over the built-in error B, with an own __init__ that sets the field f -/
structure XcG (K : PySem.W.Frag) (bmB : List Value) (newId : String) (C fI : Addr) (f : Str) : Prop where
  ini : PySem.W.excInitIn K C bmB newId = true
  over : PySem.W.excOver K C bmB = true
  sa : PySem.W.findIn K (.ref C) "__setattr__" = some (some (.builtin "object.__setattr__"))
  kC : PySem.W.keepIn K (.ref C) = true
  ty : PySem.W.typeIn K (.ref C) = some (.type "type")
  iC : PySem.W.findIn K (.ref C) "__init__" = some (some (.ref fI))
  tI : PySem.W.typeIn K (.ref fI) = some (.type "function")
  no : PySem.W.findIn K (.ref C) f = some none
  ex : ExcC K C
section
variable {X : Cx} {pins : List (Addr × Obj)} {σ : L2.St} {H : Hp} {s : Shared} {bmB : List Value} {B newId initId : String} {C fI : Addr} {f : Str}
theorem set_field {a : Addr} {y : V} {u : Value} {Q : Unit → Shared → Prop} {E : Value → Shared → Prop} {A : Around} (SF : StoreFacts B bmB "object.__setattr__" "object") (G : XcG X.K bmB newId C fI f) (I : Inv X pins σ H s) (e : H a = some (exo a C none)) (ry : RelV y u)
    (h : ∀ dx s', H dx = none → dx ≠ a → Inv X pins σ (upd (upd H dx (exd dx [(f, y)])) a (exo a C (some dx))) s' → Q () s') : wpAny (model X.prog X.w) A (setAttr (.ref a) f u) Q E s := by
  obtain ⟨t1, ho⟩ := exo_at I.hok e
  have lt := Heap.lt_size ho
  have n0 : H s.heap.objs.size = none := I.hok.fresh (Nat.le_refl _)
  obtain ⟨hp, g, d, t, os⟩ := s
  refine PySem.W.set_plain I.kIn (ox := PySem.W.excObj C t1 none .none) (od := none) ⟨ho, rfl, rfl, trivial⟩ G.sa ?_
  refine osa_anyB SF I.kIn ho G.over G.ex.hd G.no fun h' tk' k hx hn => ?_
  have notA : ∀ {b : Addr}, H b = none → b ≠ a := fun n z => by
    rw [z, e] at n
    cases n
  have notN : ∀ {b : Addr} {o : Obj}, hp.get? b = some o → b ≠ hp.objs.size := fun q => Nat.ne_of_lt (Heap.lt_size q)
  have old : ∀ {b : Addr} {o : HO}, H b = some o → b ≠ a → upd (upd H hp.objs.size (exd hp.objs.size [(f, y)])) a (exo a C (some hp.objs.size)) b = some o := fun q n => by
    rw [upd_ne n, upd_ne (ne_of_none q n0)]
    exact q
  have U : Un X.fs [] H (upd (upd H hp.objs.size (exd hp.objs.size [(f, y)])) a (exo a C (some hp.objs.size))) hp h' :=
    ⟨fun b o q n _ _ => k b o (notA n) q, fun b o q n _ _ => ⟨_, k b o (notA n) q⟩, fun b o q n _ => by rw [upd_ne (notA n), upd_ne (notN q)]; exact n,
      fun b o q _ => by
        by_cases hb : b = a
        · subst hb
          exact ⟨_, hx⟩
        · exact ⟨o, k b o hb q⟩,
      fun b xs q => old q (at_ne e q exo_tup), fun b o v q => old q (at_ne e q exo_frz), fun b ps q => ⟨#[], by rw [old q (at_ne e q exo_tbl)]; simp⟩⟩
  refine h _ _ n0 (Nat.ne_of_gt lt) (I.un (t' := tk') U fun b o q => ?_)
  by_cases hb : b = a
  · subst hb
    rw [upd_same] at q
    cases q
    exact exo_ok hx
  · rw [upd_ne hb] at q
    by_cases hd : b = hp.objs.size
    · subst hd
      rw [upd_same] at q
      cases q
      exact exd_ok hn (relO_put (fs := []) ry fun g => True.intro)
    · rw [upd_ne hd] at q
      refine (I.hok b o q).stay (fun c v hc z => k c v ?_ z) (fun c hc => old hc (at_ne e hc exo_own)) (fun c xs hc => old hc (at_ne e hc exo_tup))
      rcases hc with rfl | hc
      · exact hb
      · exact at_ne e hc exo_own
/-- self.f = e in such an __init__ -/
theorem ps_field {o e : Expr} {to te : TE} {p' pos : Pos} (SF : StoreFacts B bmB "object.__setattr__" "object") (ho : PE X o to) (he : PE X e te) (hs : swapsWith e (some (.Attribute o f p')) pos.line X.env = pure false := by rfl) :
    PS X (.Assign [.Attribute o f p'] e pos) (fun D σ H => te σ H fun y H1 => to σ H1 fun x H2 => ∃ a C fI : Addr, x = .ref a ∧ XcG X.K bmB newId C fI f ∧ H2 a = some (exo a C none) ∧ ∀ dx, H2 dx = none → dx ≠ a → D.nx σ (upd (upd H2 dx (exd dx [(f, y)])) a (exo a C (some dx)))) := by
  refine ⟨fun pins s σ H D I h => ?_⟩
  refine plainObj_wpAny_Assign_Attribute (thn (he.run pins s σ H _ I h) fun v s1 hv => ?_) hs
  obtain ⟨y, H1, I1, r1, q1⟩ := hv
  refine thn (ho.run pins s1 σ H1 _ I1 q1) fun u s2 hu => ?_
  obtain ⟨x, H2, I2, r2, a, C, fI, rfl, G, ea, q⟩ := hu
  obtain rfl : u = Value.ref a := r2
  exact set_field SF G I2 ea r1 fun dx s' n ne J => ⟨σ, _, J, q dx n ne⟩
/-- C(e) -/
theorem pmk_G {x : Str} {k : Nat} {fd : FuncData} {ps : List Str} {p pos : Pos} {e : Expr} {ta : TA} (F : ExcBaseFacts B newId initId bmB) (N : XcN X.K X.mg x C) (G : XcG X.K bmB newId C fI f) (F1 : FnOk X.prog X.w X.K X.mg X.base CX0 k fI fd ps (sp_exc_init X.K C f)) (hr : Room (k + 1) X.A) (hb : Binds X.K fd ps [])
    (hg : Gl X x) (ha : PA X [e] ta) (hdb : (x == ("__debug__" : Str)) = false := by decide) (he : starEach (e :: []) X.env = (false, eval e X.env) :: starEach [] X.env := by rfl) (hpl : (backTo pos (starEach [] X.env)).any (·.1) = false := by rfl) :
    PMk X (.Call (.Name x p) [e] [] pos) (tMk1 C f ta) := by
  intro pins s σ H Q I h
  refine wpAny_Call_Name_kw (ld_glob I hg N.g ?_ hdb)
  refine PySem.W.callWith_K (h₀ := X.base) I.ok.mod.kin G.kC (thn (ha.run pos pins s σ H _ I h) fun us s1 hh => ?_) he hpl
  obtain ⟨vs, H1, I1, r1, v, rfl, q⟩ := hh
  refine ⟨I1.kIn, ?_⟩
  cases r1 with
  | cons rv rn =>
    rename_i u us'
    cases rn
    show wpAny _ _ (call (.ref C) [u]) _ _ _
    obtain ⟨nm, Nn, qn, bs, bm, hdct, sn, sub, ab, col, dd, k0, k1, k2, k3, k5, hC, hT⟩ := PySem.W.excInit_of I1.kIn G.ini
    obtain ⟨hp, g, dr, tk, os⟩ := s1
    have big : hp.objs.size ≤ hp.objs.size + 1 := Nat.le_succ _
    have na : H1 (hp.objs.size + 1) = none := I1.hok.fresh big
    have got : ((hp.push (PySem.W.kdv_tup [u])).push (PySem.HandSPX.excO C hp.objs.size)).get? (hp.objs.size + 1) = some (PySem.HandSPX.excO C hp.objs.size) := by heap_get
    have kk : ∀ b o, hp.get? b = some o → ((hp.push (PySem.W.kdv_tup [u])).push (PySem.HandSPX.excO C hp.objs.size)).get? b = some o := fun b o z => Heap.get?_push_of_some _ (Heap.get?_push_of_some _ z)
    have I2 := I1.laid (t' := tk) (a := hp.objs.size + 1) (o := exo (hp.objs.size + 1) C none) kk big (exo_ok got)
    have lay : ∀ dx, upd H1 (hp.objs.size + 1) (exo (hp.objs.size + 1) C none) dx = none → dx ≠ hp.objs.size + 1 → H1 dx = none := fun dx n ne => by
      rw [upd_ne ne] at n
      exact n
    refine wpAny_call (PySem.HandSPX.call_own F hT hC (PySem.W.looks_findIn I1.kIn G.iC) (fun self => PySem.W.bind_fn I1.kIn self G.tI) (by show 1 ≤ sizeLine; rw [sizeLine_eq]; decide)
      (codeAny_mono (F1.run _ X.stack _ _ ⟨[.ref (hp.objs.size + 1), u], []⟩ [.ref (hp.objs.size + 1), u] [.ref (hp.objs.size + 1), v] (fun r H2 => r = .non ∧ ∃ dx, H1 dx = none ∧ dx ≠ hp.objs.size + 1 ∧ H2 = upd (upd (upd H1 (hp.objs.size + 1) (exo (hp.objs.size + 1) C none)) dx (exd dx [(f, v)])) (hp.objs.size + 1) (exo (hp.objs.size + 1) C (some dx)))
        (fun _ _ _ => False) (hr.make C [u] []) (I2.env0.make C [u] []) (hb _ [.ref (hp.objs.size + 1), u] I2.kIn (F1.len [.ref (hp.objs.size + 1), v] (upd H1 (hp.objs.size + 1) (exo (hp.objs.size + 1) C none)) (fun _ _ => True) (fun _ _ _ => True) ⟨_, v, rfl, upd_same, fun _ _ _ => trivial⟩)) (.cons rfl (.cons rv .nil)) ⟨_, v, rfl, upd_same, fun dx n ne => ⟨rfl, dx, lay dx n ne, ne, rfl⟩⟩) fun r s' hq => ?_))
    cases r with
    | error er => exact hq.elim
    | ok fl =>
      cases fl with
      | next => exact False.elim hq
      | brk => exact False.elim hq
      | cont => exact False.elim hq
      | ret ur =>
        obtain ⟨z, H2, os2, bare2, un2, hok2, rz, ez, dx, nd, ne, eH⟩ := hq
        subst ez eH
        obtain ⟨h2, g2, d2, t2, os'⟩ := s'
        refine ⟨rz, mk_end (d := dx) (fs := [(f, v)]) (raises_own N.ba N.ty) I1 big kk un2 hok2 os2 bare2 upd_same (by rw [upd_ne ne]; exact upd_same) nd ?_⟩
        have eq : upd (del (upd (upd (upd H1 (hp.objs.size + 1) (exo (hp.objs.size + 1) C none)) dx (exd dx [(f, v)])) (hp.objs.size + 1) (exo (hp.objs.size + 1) C (some dx))) (hp.objs.size + 1)) dx (.xd [(f, v)]) = upd H1 dx (.xd [(f, v)]) := by
          funext b
          by_cases hb : b = dx
          · rw [hb, upd_same, upd_same]
          · rw [upd_ne hb, upd_ne hb]
            by_cases ha : b = hp.objs.size + 1
            · rw [ha, del_same, na]
            · rw [del_ne ha, upd_ne ha, upd_ne hb, upd_ne ha]
        rw [eq]
        exact q dx nd
end
abbrev bmLE : List Value := [.type "LookupError", .type "Exception", .type "BaseException", .type "object"]
section
variable {K : PySem.W.Frag} {mg : Str → Option Value} {bmB : List Value} {newId : String} {C D fI : Addr} {f : Str}
theorem XcG.xf (G : XcG K bmB newId C fI f) : XfC K C := ⟨G.ex.hg, G.ex.hk, G.ex.hs, G.ex.hd⟩
theorem init_self (q : PySem.W.excInitIn K C bmB newId = true) : PySem.W.subIn K (.ref C) (.ref C) = some true := by
  unfold PySem.W.excInitIn at q
  split at q
  · rename_i dd cd sl ho
    split at q
    · rename_i C' bm k0 k1 k2 k3 n' k5 hm hs
      simp only [Bool.and_eq_true, beq_iff_eq] at q
      obtain ⟨⟨⟨rfl, _⟩, _⟩, _⟩ := q
      have hc : PySem.W.clsIn K C' = some cd := by
        unfold PySem.W.clsIn
        rw [ho] <;> rfl
      show PySem.W.mroIn K C' (.ref C') = some true
      unfold PySem.W.mroIn
      rw [hc]
      show (if cd.mro.isEmpty = true then none else some (cd.mro.contains (.ref C'))) = some true
      rw [hm, List.contains_cons, beq_self_eq_true]
      rfl
    · cases q
  · cases q
theorem XcG.ne (G : XcG K bmB newId D fI f) (h : PySem.W.subIn K (.ref D) (.ref C) = some false) : D ≠ C := fun e => by
  have z := init_self G.ini
  rw [e] at z h
  rw [z] at h
  cases h
end
section
variable {X : Cx}
/-- raise C(e), C over the built-in error B -/
theorem ps_raiseG {bmB : List Value} {B newId initId : String} {W : WX} {x f : Str} {C fI : Addr} {k : Nat} {fd : FuncData} {ps : List Str} {p pos pos2 : Pos} {e : Expr} {ta : TA} (F : ExcBaseFacts B newId initId bmB) (hc : X.calm = true) (tk : Takes X W) (N : XcN X.K X.mg x C) (G : XcG X.K bmB newId C fI f)
    (F1 : FnOk X.prog X.w X.K X.mg X.base CX0 k fI fd ps (sp_exc_init X.K C f)) (hr : Room (k + 1) X.A) (hb : Binds X.K fd ps []) (hg : Gl X x) (ha : PA X [e] ta) (hdb : (x == ("__debug__" : Str)) = false := by decide)
    (he : starEach (e :: []) X.env = (false, eval e X.env) :: starEach [] X.env := by rfl) (hpl : (backTo pos (starEach [] X.env)).any (·.1) = false := by rfl) :
    PS X (.Raise (some (.Call (.Name x p) [e] [] pos)) none pos2) (fun _ σ H => tMk1 C f ta σ H fun cls d H' => W cls d σ H') := ps_raise hc tk (pmk_G F N G F1 hr hb hg ha hdb he hpl)
end

/-! ### several except clauses, each with a name -/
def wAsM (K : PySem.W.Frag) (Wout : WX) (D : Ends) : List (Value × Nat × (Addr → Value → Option Addr → TS)) → WX
  | [] => Wout
  | (c, i, ts) :: r => fun cls d σ H => ∃ b, PySem.W.exmOne K cls c = some b ∧
    (b = true → ∀ a, H a = none → ts a cls d { nx := fun σ' H' => D.nx (σ'.set i none) H', rt := D.rt, bk := fun σ' H' => D.bk (σ'.set i none) H', ct := fun σ' H' => D.ct (σ'.set i none) H' } (σ.set i (some (.ref a))) H) ∧ (b = false → wAsM K Wout D r cls d σ H)
inductive HdsAs (X : Cx) : List ExceptHandler → List (Value × Nat × (Addr → Value → Option Addr → TS)) → Prop
  | nil : HdsAs X [] []
  | cons {x n : Str} {c : Value} {i : Nat} {ts : Addr → Value → Option Addr → TS} {b₀ : Stmt} {suite : List Stmt} {np pos' : Pos} {hds : List ExceptHandler} {l : List (Value × Nat × (Addr → Value → Option Addr → TS))} (hc : Names X x c) (hi : X.N[i]? = some n) (hln : X.env.kindOf n = some .local)
      (hsu : ∀ (a : Addr) (oe : Obj) (cls : Value) (d : Option Addr) (pn : List (Addr × Obj)), Zc cls d oe → (∃ vs, oe.data = .fields vs) → PSs (X.suite a ((a, oe) :: pn)) (b₀ :: suite) (ts a cls d)) (r : HdsAs X hds l) :
      HdsAs X (.ExceptHandler (some (.Name x np)) (some n) (b₀ :: suite) pos' :: hds) ((c, i, ts) :: l)
section
variable {X : Cx} {body : List Stmt} {h₀ : ExceptHandler} {hds : List ExceptHandler} {l : List (Value × Nat × (Addr → Value → Option Addr → TS))} {pos : Pos} {tb : WX → TS} {Wout : WX}
theorem ps_try_ases (hs : X.stack = X.env :: X.outer) (hf : X.env.frame = some X.env.locals) (hN : X.N.Nodup) (tk : Takes X Wout)
    (hb : ∀ (W : WX) (pn : List (Addr × Obj)) (xe : Value → Shared → Prop), Takes (X.tr pn xe) W → PassesOwn (model X.prog X.w) X.A X.env xe → PSs (X.tr pn xe) body (tb W))
    (hh : HdsAs X (h₀ :: hds) l) : PS X (.Try body (h₀ :: hds) [] [] pos) (fun D σ H => tb (wAsM X.K Wout D l) D σ H) := by
  refine ⟨fun pins s σ H D I h => ?_⟩
  have ok := I.ok
  have hfr : X.A.frames = some (X.env :: X.outer) := by rw [ok.frames, hs]
  refine wpAny_Try_except ?_
  refine wpAny_mono ((hb (wAsM X.K Wout D l) (X.pn ++ pins) (fun e s₁ => wpAny (model X.prog X.w) X.A (noteFrame e X.env) (fun _ s₂ => wpAny (model X.prog X.w) X.A (setFlight e none) (fun _ s₃ =>
    wpAny (model X.prog X.w) X.A (handleBy e X.env (h₀ :: hds)) (SP X pins D) X.xe s₃) X.xe s₂) X.xe s₁) (fun u s' xx => ?_) PassesOwn.looking).run [] s σ H D (I.toTry _) h) (fun f s1 hsp => ?_) (fun e s1 he => he)
  · obtain ⟨a, B, sI, pins', σ', H', cls, d, rfl, J', nb, up, sky, na, os, ag, w⟩ := xx
    have J : Inv X pins σ' H' sI := J'.ofTry ok
    have sky' : Sky B (X.env :: X.outer) a (Zc cls d) X.env.locals s'.heap := by rw [← hs]; exact sky
    show wpAny (model X.prog X.w) X.A (noteFrame (.ref a) X.env) _ _ _
    refine Sky.land Zc.steady hfr hf sky' fun h3 fl3 up3 => ?_
    have J3 : Inv X pins σ' H' { s' with heap := h3 } := J.landed nb fl3.1 (up.trans up3) os ag
    obtain ⟨oe3, vs3, he3, hz3, hd3⟩ := fl3.there
    have nfr : a ∉ frs (X.env :: X.outer) := fun hm => by
      obtain ⟨_, o', e', hnf⟩ := fl3.2.2.1.mem hm
      rw [he3] at e'
      cases e'
      exact hnf _ hd3
    have nL : a ≠ X.env.locals := fun z => nfr (List.mem_filterMap.mpr ⟨X.env, List.mem_cons_self, by rw [hf, z]⟩)
    have nF : a ∉ X.fs := fun hm => by
      obtain ⟨e, he, q⟩ := List.mem_filterMap.mp hm
      exact nfr (List.mem_filterMap.mpr ⟨e, List.mem_cons_of_mem _ he, q⟩)
    have S3 := J3.suite he3 hd3 na nL nF
    have go : ∀ {hds' : List ExceptHandler} {l' : List (Value × Nat × (Addr → Value → Option Addr → TS))}, HdsAs X hds' l' → wAsM X.K Wout D l' cls d σ' H' →
        wpAny (model X.prog X.w) X.A (handleBy (.ref a) X.env hds') (SP X pins D) X.xe { s' with heap := h3 } := by
      intro hds' l' hk
      induction hk with
      | nil =>
        intro w
        refine wpAny_handleBy_nil ?_
        obtain ⟨_, _, _, _, _, T, _, _, he, _, hd, h1, _⟩ := id fl3
        unfold PySem.passOn
        refine wpAny_bind (wpAny_field he hd h1 ?_)
        rw [if_neg (show ¬ ((Value.ref T == Value.none) = true) from by simp)]
        have fin : wpAny (model X.prog X.w) X.A (setFlight (.ref a) X.env.frame) (fun _ s4 => wpAny (model X.prog X.w) X.A (throw (.ref a) : Sem Flow) (SP X pins D) X.xe s4) X.xe { s' with heap := h3 } := by
          rw [hf]
          refine HandSPX.setFlight_upZ fl3 fun h4 hh4 up4 => wpAny_throw (tk _ _ ?_)
          exact ⟨a, B, sI, pins, σ', H', cls, d, rfl, J, nb, (up.trans up3).trans up4, .inr (.inr (by rw [hs]; exact hh4)), na, os, ag, w⟩
        first
          | exact wpAny_bind (wpAny_pure (wpAny_bind fin))
          | exact wpAny_bind fin
      | @cons x n c i ts b₀ suite np pos' hds2 l2 hc hi hln hsu r ih =>
        intro w
        obtain ⟨b, hb1, hyes, hno⟩ := w
        refine wpAny_handleBy_cons (codeAny_handlers_test ?_) (by intro q; cases q)
        have LM := PySem.W.exm_one (M := model X.prog X.w) (J3.kIn) (fun A Q E s k q => wpAny_typeOf_ref (k _ _ he3) (by rw [hz3.1]; exact q) : PySem.W.Looks (model X.prog X.w) h3 (typeOf (.ref a)) cls) hb1
        have test : ∀ {Q : Value → Shared → Prop} {E : Value → Shared → Prop}, Q c { s' with heap := h3 } → wpAny (model X.prog X.w) (X.A.mark (some (.ref a))) (eval (.Name x np) X.env) Q E { s' with heap := h3 } := fun {Q E} q => by
          obtain ⟨hg, hdbg, hm | ⟨hm, hv, hnn⟩⟩ := hc
          · exact ld_glob (X := X.suite a ((a, oe3) :: (X.pn ++ pins))) S3 hg hm q hdbg
          · exact ld_blt (X := X.suite a ((a, oe3) :: (X.pn ++ pins))) S3 hg hm hv q hnn hdbg
        refine test (LM.here ?_)
        cases b with
        | true =>
          refine codeAny_handlers_suite_as ?_
          refine HandSPX.lands_againZ fl3 fun h4 fl4 up4 => ?_
          have J4 : Inv X pins σ' H' { s' with heap := h4 } := J.landed nb fl4.1 ((up.trans up3).trans up4) os ag
          obtain ⟨oe4, vs4, he4, hz4, hd4⟩ := fl4.there
          have S4 := J4.suite he4 hd4 na nL nF
          refine store_ok (X := X.suite a ((a, oe4) :: (X.pn ++ pins))) (v := .ref a) S4 hN hi (.inl hln) rfl (fun s5 S5 => ?_) (.inr hln)
          refine wpAny_mono ((hsu a oe4 cls d (X.pn ++ pins) hz4 ⟨_, hd4⟩).run [] s5 _ H' _ S5 (hyes rfl a na)) (fun f s6 hsp => ?_) (fun _ _ z => False.elim z)
          have out : ∀ {σ6 : L2.St} {H6 : Hp} {Q : Shared → Prop}, Inv (X.suite a ((a, oe4) :: (X.pn ++ pins))) [] σ6 H6 s6 → (∀ s7, Inv X pins (σ6.set i none) H6 s7 → Q s7) →
              wpAny (model X.prog X.w) X.A (do bindName X.env n .none; unbindBehindTheSuite X.env n pos') (fun _ s7 => Q s7) X.xe s6 := fun {σ6 H6 Q} S6 hq => gone_ok (S6.unsuite ok) hN hi hln hq
          cases f with
          | next =>
            obtain ⟨σ6, H6, S6, q6⟩ := hsp
            exact out S6 fun s7 J7 => ⟨_, _, J7, q6⟩
          | brk =>
            obtain ⟨σ6, H6, S6, q6⟩ := hsp
            exact out S6 fun s7 J7 => ⟨_, _, J7, q6⟩
          | cont =>
            obtain ⟨σ6, H6, S6, q6⟩ := hsp
            exact out S6 fun s7 J7 => ⟨_, _, J7, q6⟩
          | ret u =>
            obtain ⟨v6, σ6, H6, S6, r6, q6⟩ := hsp
            exact out S6 fun s7 J7 => ⟨_, _, _, J7, r6, q6⟩
        | false => exact ih (hno rfl)
    exact go hh w
  · cases f with
    | next =>
      obtain ⟨σ', H', J', q⟩ := hsp
      exact wpAny_execs_nil ⟨σ', H', J'.ofTry ok, q⟩
    | brk =>
      obtain ⟨σ', H', J', q⟩ := hsp
      exact ⟨σ', H', J'.ofTry ok, q⟩
    | cont =>
      obtain ⟨σ', H', J', q⟩ := hsp
      exact ⟨σ', H', J'.ofTry ok, q⟩
    | ret u =>
      obtain ⟨v, σ', H', J', r, q⟩ := hsp
      exact ⟨v, σ', H', J'.ofTry ok, r, q⟩
end

/-! ### try: two statements, a return; finally: a suite. The first two never return. -/
section
variable {X : Cx} {st1 st2 f₀ : Stmt} {e : Expr} {fs : List Stmt} {rp pos : Pos}
/-- no way but on -/
def onE (nx : L2.St → Hp → Prop) : Ends := { nx := nx, rt := fun _ _ => False, bk := fun _ _ => False, ct := fun _ _ => False }
def tFin3 (t1 t2 : TS) (te : TE) (tf : TS) : TS := fun D σ H => t1 (onE fun σ1 H1 => t2 (onE fun σ2 H2 => te σ2 H2 fun v H3 => tf { D with nx := fun _ H4 => D.rt v H4 } σ2 H3) σ1 H1) σ H
theorem ps_fin3 {t1 t2 tf : TS} {te : TE} (h1 : PS X.nox st1 t1) (h2 : PS X.nox st2 t2) (he : PE X.nox e te) (hf : PSs X.nox (f₀ :: fs) tf) : PS X (.Try [st1, st2, .Return (some e) rp] [] [] (f₀ :: fs) pos) (tFin3 t1 t2 te tf) := by
  refine ⟨fun pins s σ H D I h => ?_⟩
  refine wpAny_Try_finally (wpAny_execs_cons (wpAny_mono (h1.run pins s σ H _ (I.wish _) h) (fun f s1 z => ?_) fun _ _ z => z.elim))
  cases f with
  | ret u =>
    obtain ⟨_, _, _, _, _, z⟩ := z
    exact z.elim
  | brk =>
    obtain ⟨_, _, _, z⟩ := z
    exact z.elim
  | cont =>
    obtain ⟨_, _, _, z⟩ := z
    exact z.elim
  | next =>
    obtain ⟨σ1, H1, I1, q1⟩ := z
    refine wpAny_execs_cons (wpAny_mono (h2.run pins s1 σ1 H1 _ I1 q1) (fun f s2 z => ?_) fun _ _ z => z.elim)
    cases f with
    | ret u =>
      obtain ⟨_, _, _, _, _, z⟩ := z
      exact z.elim
    | brk =>
      obtain ⟨_, _, _, z⟩ := z
      exact z.elim
    | cont =>
      obtain ⟨_, _, _, z⟩ := z
      exact z.elim
    | next =>
      obtain ⟨σ2, H2, I2, q2⟩ := z
      refine wpAny_execs_cons (wpAny_Return_some (wpAny_mono (he.run pins s2 σ2 H2 _ I2 q2) (fun u s3 z => ?_) fun _ _ z => z.elim))
      obtain ⟨v, H3, I3, r3, q3⟩ := z
      exact fin_ret hf I3.unwish r3 q3
/-- an exception out of any of the three: the suite is run, on it goes -/
theorem ps_fin3X {t1 t2 : WX → TS} {te : WX → TE} {tf tfs : TS} {Wout : WX} (hs : X.stack = X.env :: X.outer) (hf : X.env.frame = some X.env.locals) (hex : X.ex = []) (tk : Takes X Wout)
    (h1 : ∀ (W : WX) (pn : List (Addr × Obj)) (xe : Value → Shared → Prop), Takes (X.tr pn xe) W → PassesOwn (model X.prog X.w) X.A X.env xe → PS (X.tr pn xe) st1 (t1 W))
    (h2 : ∀ (W : WX) (pn : List (Addr × Obj)) (xe : Value → Shared → Prop), Takes (X.tr pn xe) W → PassesOwn (model X.prog X.w) X.A X.env xe → PS (X.tr pn xe) st2 (t2 W))
    (he : ∀ (W : WX) (pn : List (Addr × Obj)) (xe : Value → Shared → Prop), Takes (X.tr pn xe) W → PassesOwn (model X.prog X.w) X.A X.env xe → PE (X.tr pn xe) e (te W))
    (hfin : PSs X.nox (f₀ :: fs) tf) (hsu : ∀ (a : Addr) (pn : List (Addr × Obj)), PSs (X.suite a pn) (f₀ :: fs) tfs) :
    PS X (.Try [st1, st2, .Return (some e) rp] [] [] (f₀ :: fs) pos) (tFin3 (t1 (wFin tfs Wout)) (t2 (wFin tfs Wout)) (te (wFin tfs Wout)) tf) := by
  refine ⟨fun pins s σ H D I h => ?_⟩
  have ok := I.ok
  obtain ⟨xe, exe⟩ : ∃ xe : Value → Shared → Prop, xe = fun x s₁ => wpAny (model X.prog X.w) X.A (noteFrame x X.env) (fun _ s₂ => FinallyRaised X.prog X.w X.A X.xe X.env (f₀ :: fs) (SP X pins D) x s₂) (FinallyRaised X.prog X.w X.A X.xe X.env (f₀ :: fs) (SP X pins D)) s₁ := ⟨_, rfl⟩
  have tk2 : Takes (X.tr (X.pn ++ pins) xe) (wFin tfs Wout) := fun u s' xx => by
    subst exe
    exact fin_exc hs hf hex ok tk hsu xx
  have po : PassesOwn (model X.prog X.w) X.A X.env xe := by
    subst exe
    exact PassesOwn.looking
  have k1 := h1 _ _ _ tk2 po
  have k2 := h2 _ _ _ tk2 po
  have k3 := he _ _ _ tk2 po
  have ex : ∀ x s1, xe x s1 → wpAny (model X.prog X.w) X.A (noteFrame x X.env) (fun _ s₂ => FinallyRaised X.prog X.w X.A X.xe X.env (f₀ :: fs) (SP X pins D) x s₂) (FinallyRaised X.prog X.w X.A X.xe X.env (f₀ :: fs) (SP X pins D)) s1 := fun x s1 z => by
    rw [exe] at z
    exact z
  refine wpAny_Try_finally (wpAny_execs_cons (wpAny_mono (k1.run [] s σ H _ (I.toTry _) h) (fun f s1 z => ?_) ex))
  cases f with
  | ret u =>
    obtain ⟨_, _, _, _, _, z⟩ := z
    exact z.elim
  | brk =>
    obtain ⟨_, _, _, z⟩ := z
    exact z.elim
  | cont =>
    obtain ⟨_, _, _, z⟩ := z
    exact z.elim
  | next =>
    obtain ⟨σ1, H1, I1, q1⟩ := z
    refine wpAny_execs_cons (wpAny_mono (k2.run [] s1 σ1 H1 _ I1 q1) (fun f s2 z => ?_) ex)
    cases f with
    | ret u =>
      obtain ⟨_, _, _, _, _, z⟩ := z
      exact z.elim
    | brk =>
      obtain ⟨_, _, _, z⟩ := z
      exact z.elim
    | cont =>
      obtain ⟨_, _, _, z⟩ := z
      exact z.elim
    | next =>
      obtain ⟨σ2, H2, I2, q2⟩ := z
      refine wpAny_execs_cons (wpAny_Return_some (wpAny_mono (k3.run [] s2 σ2 H2 _ I2 q2) (fun u s3 z => ?_) ex))
      obtain ⟨v, H3, I3, r3, q3⟩ := z
      exact fin_ret hfin (I3.ofTry ok) r3 q3
/-- try: one statement, an except clause of any form, and nothing is raised -/
theorem ps_tryQuiet {h₀ : ExceptHandler} {hd : List ExceptHandler} {t1 : TS} (h1 : PS X.nox st1 t1) : PS X (.Try [st1] (h₀ :: hd) [] [] pos) t1 := by
  refine ⟨fun pins s σ H D I h => ?_⟩
  refine wpAny_Try_except (wpAny_execs_cons (wpAny_mono (h1.run pins s σ H D (I.wish _) h) (fun f s1 z => ?_) fun _ _ z => z.elim))
  have z' : SP X pins D f s1 := z.unwish
  cases f with
  | next => exact wpAny_execs_nil (wpAny_execs_nil z')
  | ret u => exact z'
  | brk => exact z'
  | cont => exact z'
end

/-! ### an attribute as a target -/
def gFld (K : PySem.W.Frag) (to : TE) (f : Str) : TG := fun v σ H Q => to σ H fun x H1 => ∃ a C dx fs, x = .ref a ∧ H1 a = some (.ins C dx fs) ∧ Cls K C ∧ NoAttr K C f ∧ fs.length < 1000 ∧ Q σ (upd H1 a (.ins C dx (putF f v fs)))
theorem pg_fld {X : Cx} {o : Expr} {f : Str} {pos : Pos} {to : TE} (ho : PE X o to) : PG X (.Attribute o f pos) (gFld X.K to f) := by
  refine ⟨fun pins s σ H v u Q I r h => ?_⟩
  rw [assign]
  refine wpAny_bind (wpAny_holding (thn (ho.run pins s σ H (fun x H1 => ∃ a C dx fs, x = V.ref a ∧ H1 a = some (.ins C dx fs) ∧ Cls X.K C ∧ NoAttr X.K C f ∧ fs.length < 1000 ∧ Q σ (upd H1 a (.ins C dx (putF f v fs)))) I h) fun ov s1 z => ?_))
  obtain ⟨x, H1, I1, rx, a, C, dx, fs, ex, ea, c, n, l, q⟩ := z
  subst ex
  obtain rfl : ov = Value.ref a := rx
  refine wpAny_bind (wpAny_standAt (wpAny_bind (wpAny_holding (setattr_ok I1 ea c n l r fun s3 I3 => ?_))))
  exact wpAny_release ⟨σ, _, I3, q⟩
/-! ### statements whose return tells the slots too -/
structure Ends2 where
  nx : L2.St → Hp → Prop
  rt : V → L2.St → Hp → Prop
  bk : L2.St → Hp → Prop := fun _ _ => False
  ct : L2.St → Hp → Prop := fun _ _ => False
abbrev TS2 := Ends2 → L2.St → Hp → Prop
def SP2 (X : Cx) (pins : List (Addr × Obj)) (D : Ends2) : Flow → Shared → Prop := fun f s' => match f with
  | .next => ∃ σ' H', Inv X pins σ' H' s' ∧ D.nx σ' H'
  | .brk => ∃ σ' H', Inv X pins σ' H' s' ∧ D.bk σ' H'
  | .cont => ∃ σ' H', Inv X pins σ' H' s' ∧ D.ct σ' H'
  | .ret u => ∃ v σ' H', Inv X pins σ' H' s' ∧ RelV v u ∧ D.rt v σ' H'
structure PS2 (X : Cx) (st : Stmt) (t : TS2) : Prop where
  run : ∀ (pins : List (Addr × Obj)) (s : Shared) (σ : L2.St) (H : Hp) (D : Ends2), Inv X pins σ H s → t D σ H → wpAny (model X.prog X.w) X.A (exec st X.env) (SP2 X pins D) X.xe s
structure PSs2 (X : Cx) (st : List Stmt) (t : TS2) : Prop where
  run : ∀ (pins : List (Addr × Obj)) (s : Shared) (σ : L2.St) (H : Hp) (D : Ends2), Inv X pins σ H s → t D σ H → wpAny (model X.prog X.w) X.A (execs st X.env) (SP2 X pins D) X.xe s
/-- a statement that does not return -/
def tOf (t : TS) : TS2 := fun D σ H => t { nx := D.nx, rt := fun _ _ => False, bk := D.bk, ct := D.ct } σ H
def tRet2 (te : TE) : TS2 := fun D σ H => te σ H fun v H1 => D.rt v σ H1
def tIf2 (tc : TT) (t u : TS2) : TS2 := fun D σ H => tc σ H fun b H1 => if b = true then t D σ H1 else u D σ H1
def tSeq2 (t u : TS2) : TS2 := fun D σ H => t { nx := u D, rt := D.rt, bk := D.bk, ct := D.ct } σ H
def tNext2 : TS2 := fun D σ H => D.nx σ H
def tFor2 (wi : TI) (g : TG) (tb : TS2) : TS2 := fun D σ H =>
  wi σ H fun J H1 => ∃ W : Nat → Nat → L2.St → Hp → Prop, (∃ m, W 0 m σ H1) ∧ ∀ (i m : Nat) (σ : L2.St) (H : Hp), W i m σ H →
    (J.stop i H ∧ D.nx σ H) ∨ (J.go i H ∧ ∃ N : L2.St → Hp → Prop, (∀ σ' H', N σ' H' → ∃ m', m' < m ∧ W (i + 1) m' σ' H') ∧
      ∀ (x : V) (H' : Hp), J.yld i H x H' → g x σ H' fun σ2 H2 => tb { nx := N, rt := D.rt, bk := D.nx, ct := N } σ2 H2)
section
variable {X : Cx}
theorem PS2.of {st : Stmt} {t : TS} (h : PS X st t) : PS2 X st (tOf t) := by
  refine ⟨fun pins s σ H D I z => wpAny_mono (h.run pins s σ H _ I z) (fun f s' q => ?_) fun _ _ e => e⟩
  cases f with
  | next => exact q
  | brk => exact q
  | cont => exact q
  | ret u =>
    obtain ⟨_, _, _, _, _, q⟩ := q
    exact q.elim
theorem ps2_ret {e : Expr} {te : TE} {pos : Pos} (he : PE X e te) : PS2 X (.Return (some e) pos) (tRet2 te) := by
  refine ⟨fun pins s σ H D I h => wpAny_Return_some (thn (he.run pins s σ H (fun v H1 => D.rt v σ H1) I h) fun v s1 z => ?_)⟩
  obtain ⟨x, H1, I1, r1, q1⟩ := z
  exact ⟨x, σ, H1, I1, r1, q1⟩
theorem ps2_if {t u : TS2} {pos : Pos} {c : Expr} {a b : List Stmt} {tc : TT} (hc : PT X c tc) (ha : PSs2 X a t) (hb : PSs2 X b u) : PS2 X (.If c a b pos) (tIf2 tc t u) := by
  refine ⟨fun pins s σ H D I h => wpAny_If (thn (hc.run pins s σ H (fun b H1 => if b = true then t D σ H1 else u D σ H1) I h) fun d s1 z => ?_)⟩
  obtain ⟨H1, I1, q1⟩ := z
  cases d with
  | true =>
    rw [if_pos rfl] at q1 ⊢
    exact ha.run pins s1 σ H1 D I1 q1
  | false =>
    rw [if_neg Bool.false_ne_true] at q1 ⊢
    exact hb.run pins s1 σ H1 D I1 q1
theorem pss2_nil : PSs2 X [] tNext2 := ⟨fun _ _ σ H _ I h => wpAny_execs_nil ⟨σ, H, I, h⟩⟩
theorem pss2_cons {st : Stmt} {rest : List Stmt} {t u : TS2} (h1 : PS2 X st t) (h2 : PSs2 X rest u) : PSs2 X (st :: rest) (tSeq2 t u) := by
  refine ⟨fun pins s σ H D I h => wpAny_execs_cons (thn (h1.run pins s σ H { nx := u D, rt := D.rt, bk := D.bk, ct := D.ct } I h) fun f s1 q => ?_)⟩
  cases f with
  | next =>
    obtain ⟨σ', H', I', q⟩ := q
    exact h2.run pins s1 σ' H' D I' q
  | brk => exact q
  | cont => exact q
  | ret u => exact q
theorem pss2_one {st : Stmt} {t : TS2} (h1 : PS2 X st t) : PSs2 X [st] t := by
  refine ⟨fun pins s σ H D I h => wpAny_execs_cons (thn (h1.run pins s σ H D I h) fun f s1 q => ?_)⟩
  cases f with
  | next => exact wpAny_execs_nil q
  | brk => exact q
  | cont => exact q
  | ret u => exact q
theorem SP2.unpinned {pins q : List (Addr × Obj)} {D : Ends2} {f : Flow} {s : Shared} (h : SP2 X (pins ++ q) D f s) : SP2 X pins D f s := by
  cases f with
  | next =>
    obtain ⟨σ', H', I, k⟩ := h
    exact ⟨σ', H', I.unpinned, k⟩
  | brk =>
    obtain ⟨σ', H', I, k⟩ := h
    exact ⟨σ', H', I.unpinned, k⟩
  | cont =>
    obtain ⟨σ', H', I, k⟩ := h
    exact ⟨σ', H', I.unpinned, k⟩
  | ret u =>
    obtain ⟨v, σ', H', I, r, k⟩ := h
    exact ⟨v, σ', H', I.unpinned, r, k⟩
theorem ps2_for {tg iter : Expr} {body : List Stmt} {wi : TI} {g : TG} {tb : TS2} {pos : Pos} (hp : PassesOwn (model X.prog X.w) X.A X.env X.xe) (hc : X.calm = true) (hi : PI X tg iter wi) (hg : PG X tg g) (hb : PSs2 X body tb) (hs : ∀ x, foldedSetIterable iter X.env x = pure x := by intro _; rfl) :
    PS2 X (.For tg iter body [] pos) (tFor2 wi g tb) := by
  refine ⟨fun pins s σ H D I h => wpAny_For (thn (hi.run pins s σ H _ I h) fun v s1 h1 => thn h1 fun itv s2 h2 => ?_) hs⟩
  obtain ⟨it, fp, tn, J, H2, e, I2, T, st2, f2, W, ⟨m0, w0⟩, turn⟩ := h2
  subst e
  have stat : ∀ {H' : Hp}, (∀ b ∈ fp, H' b = none) → ∀ b ∈ fp, FpOk X pins H' b := fun hn b hb => ⟨hn b hb, (f2 b hb).2⟩
  refine codeAny_forLoop_any (fun n s' => ∃ i σ' H', Inv X pins σ' H' s' ∧ tn i s'.heap ∧ (∀ b ∈ fp, H' b = none) ∧ W i n σ' H') ?_ m0 ⟨0, σ, H2, I2, st2, fun b hb => (f2 b hb).1, w0⟩
  rintro n s3 ⟨i, σ3, H3, I3, st3, fr3, w3⟩
  rcases turn i n σ3 H3 w3 with ⟨stop, qn⟩ | ⟨go, N, hN, step⟩
  · refine wpAny_passesOwn hp (thn (T.done X rfl rfl rfl hc i pins s3 σ3 H3 X.xe I3 (stat fr3) st3 stop) fun r s4 z => ?_)
    obtain ⟨hr, I4⟩ := z
    subst hr
    exact wpAny_execs_nil ⟨σ3, H3, I4, qn⟩
  · refine wpAny_passesOwn hp (thn (T.item X rfl rfl rfl hc i pins s3 σ3 H3 X.xe I3 (stat fr3) st3 go) fun r s4 z => ?_)
    obtain ⟨u, hr, h4⟩ := z
    subst hr
    refine wpAny_passesOwn hp (thn h4 fun _ s5 z => ?_)
    obtain ⟨x, H5, I5, r5, y5, st5, n5⟩ := z
    refine wpAny_passesOwn hp (thn (hg.run _ s5 _ H5 x u _ (I5.pinned (stat n5) (T.obj _ _ st5)) r5 (step x H5 y5)) fun _ s6 z => ?_)
    obtain ⟨σ6, H6, I6, q6⟩ := z
    refine wpAny_passesOwn hp (thn (hb.run _ s6 σ6 H6 _ I6 q6) fun f s7 q7 => ?_)
    have fin : ∀ {σ7 : L2.St} {H7 : Hp}, Inv X (pins ++ pinsAt fp s5.heap) σ7 H7 s7 → N σ7 H7 → ∃ m, m < n ∧ ∃ i σ' H', Inv X pins σ' H' s7 ∧ tn i s7.heap ∧ (∀ b ∈ fp, H' b = none) ∧ W i m σ' H' := fun {σ7 H7} I7 nx => by
      obtain ⟨m', hm, w'⟩ := hN σ7 H7 nx
      have pin' : ∀ b ∈ fp, ∀ o, s5.heap.get? b = some o → s7.heap.get? b = some o ∧ H7 b = none := fun b hb o e => by
        have z := I7.pin (b, o) (List.mem_append_right _ (List.mem_append_right _ (mem_pinsAt hb e)))
        exact ⟨z.1, z.2.1⟩
      refine ⟨m', hm, i + 1, σ7, H7, I7.unpinned, T.keep _ _ _ st5 fun b hb o e => (pin' b hb o e).1, fun b hb => ?_, w'⟩
      obtain ⟨o, e, _⟩ := T.obj _ _ st5 b hb
      exact (pin' b hb o e).2
    cases f with
    | next =>
      obtain ⟨σ7, H7, I7, q7⟩ := q7
      exact fin I7 q7
    | cont =>
      obtain ⟨σ7, H7, I7, q7⟩ := q7
      exact fin I7 q7
    | brk =>
      obtain ⟨σ7, H7, I7, q7⟩ := q7
      exact ⟨σ7, H7, I7.unpinned, q7⟩
    | ret u =>
      obtain ⟨x7, σ7, H7, I7, r7, q7⟩ := q7
      exact ⟨x7, σ7, H7, I7.unpinned, r7, q7⟩
end
/-! ### try: any statements that may return, an exception may fly; finally: a suite that raises nothing -/
section
variable {X : Cx} {body : List Stmt} {f₀ : Stmt} {fs : List Stmt} {pos : Pos}
/-- the suite behind the body's ways -/
def tFin4 (tb : TS2) (tf : TS) : TS := fun D σ H => tb { nx := fun σ1 H1 => tf D σ1 H1, rt := fun v σ1 H1 => tf { D with nx := fun _ H2 => D.rt v H2 } σ1 H1 } σ H
theorem ps_fin4X {tb : WX → TS2} {tf tfs : TS} {Wout : WX} (hs : X.stack = X.env :: X.outer) (hf : X.env.frame = some X.env.locals) (hex : X.ex = []) (tk : Takes X Wout)
    (hb : ∀ (W : WX) (pn : List (Addr × Obj)) (xe : Value → Shared → Prop), Takes (X.tr pn xe) W → PassesOwn (model X.prog X.w) X.A X.env xe → PSs2 (X.tr pn xe) body (tb W))
    (hfin : PSs X.nox (f₀ :: fs) tf) (hsu : ∀ (a : Addr) (pn : List (Addr × Obj)), PSs (X.suite a pn) (f₀ :: fs) tfs) :
    PS X (.Try body [] [] (f₀ :: fs) pos) (tFin4 (tb (wFin tfs Wout)) tf) := by
  refine ⟨fun pins s σ H D I h => ?_⟩
  have ok := I.ok
  obtain ⟨xe, exe⟩ : ∃ xe : Value → Shared → Prop, xe = fun x s₁ => wpAny (model X.prog X.w) X.A (noteFrame x X.env) (fun _ s₂ => FinallyRaised X.prog X.w X.A X.xe X.env (f₀ :: fs) (SP X pins D) x s₂) (FinallyRaised X.prog X.w X.A X.xe X.env (f₀ :: fs) (SP X pins D)) s₁ := ⟨_, rfl⟩
  have tk2 : Takes (X.tr (X.pn ++ pins) xe) (wFin tfs Wout) := fun u s' xx => by
    subst exe
    exact fin_exc hs hf hex ok tk hsu xx
  have po : PassesOwn (model X.prog X.w) X.A X.env xe := by
    subst exe
    exact PassesOwn.looking
  refine wpAny_Try_finally (wpAny_mono ((hb _ _ _ tk2 po).run [] s σ H _ (I.toTry _) h) (fun g s1 z => ?_) fun x s1 z => ?_)
  · cases g with
    | brk =>
      obtain ⟨_, _, _, q⟩ := z
      exact q.elim
    | cont =>
      obtain ⟨_, _, _, q⟩ := z
      exact q.elim
    | ret u =>
      obtain ⟨v, σ1, H1, J1, r1, q1⟩ := z
      exact fin_ret hfin (J1.ofTry ok) r1 q1
    | next =>
      obtain ⟨σ1, H1, J1, q1⟩ := z
      refine wpAny_execs_nil ?_
      refine wpAny_mono (hfin.run pins s1 σ1 H1 D ((J1.ofTry ok).wish _) q1) (fun g2 s2 q2 => ?_) fun _ _ e => e.elim
      have q3 : SP X pins D g2 s2 := q2.unwish
      cases g2 <;> exact q3
  · rw [exe] at z
    exact z
/-- the same where nothing is raised -/
theorem ps_fin4 {tb : TS2} {tf : TS} (hb : PSs2 X.nox body tb) (hfin : PSs X.nox (f₀ :: fs) tf) : PS X (.Try body [] [] (f₀ :: fs) pos) (tFin4 tb tf) := by
  refine ⟨fun pins s σ H D I h => ?_⟩
  refine wpAny_Try_finally (wpAny_mono (hb.run pins s σ H _ (I.wish _) h) (fun g s1 z => ?_) fun _ _ z => z.elim)
  cases g with
  | brk =>
    obtain ⟨_, _, _, q⟩ := z
    exact q.elim
  | cont =>
    obtain ⟨_, _, _, q⟩ := z
    exact q.elim
  | ret u =>
    obtain ⟨v, σ1, H1, J1, r1, q1⟩ := z
    exact fin_ret hfin J1.unwish r1 q1
  | next =>
    obtain ⟨σ1, H1, J1, q1⟩ := z
    refine wpAny_execs_nil ?_
    refine wpAny_mono (hfin.run pins s1 σ1 H1 D (J1.unwish.wish _) q1) (fun g2 s2 q2 => ?_) fun _ _ e => e.elim
    have q3 : SP X pins D g2 s2 := q2.unwish
    cases g2 <;> exact q3
end

/-! ### a local read, the state as it was -/
theorem ld_var {X : Cx} {pins : List (Addr × Obj)} {σ : L2.St} {H : Hp} {s : Shared} {E : Value → Shared → Prop} {Q : Value → Shared → Prop} {i : Nat} {x : Str} {pos : Pos} {v : V} (I : Inv X pins σ H s) (hN : X.N[i]? = some x) (hv : Vis X.env.scope x) (e : σ[i]? = some (some v)) (q : ∀ u, RelV v u → Q u s)
    (hd : (x == ("__debug__" : Str)) = false) (hcd : (x == ("__classdict__" : Str)) = false) : wpAny (model X.prog X.w) X.A (eval (.Name x pos) X.env) Q E s := by
  obtain ⟨m, hn, hl⟩ := I.loc
  obtain ⟨u, r, l⟩ := hl i x v hN e hv
  have fin := q u r
  rcases l with ⟨hk, hm⟩ | ⟨hk, c, hc, hcell⟩
  · exact wpAny_Name (wpAny_loadName_local I.ok.kind hk hn hm fin) hd
  · rcases hk with hk | hk
    · exact wpAny_Name (wpAny_loadName_cell I.ok.kind hk hc hcell fin) hd
    · exact wpAny_Name (wpAny_loadName_free I.ok.kind hk hc hcell fin hcd) hd
/-! ### raise .. from the error that is handled -/
section
variable {prog : Program} {w : World} {A : Around} {E : Value → Shared → Prop} {s : Shared}
theorem not_type {a : Addr} {oe : Obj} {vs : Array Value} {Q : Bool → Shared → Prop} (ha : s.heap.get? a = some oe) (hd : oe.data = .fields vs) (q : Q false s) : wpAny (model prog w) A (isType (.ref a)) Q E s := by
  unfold PySem.isType
  refine wpAny_bind (wpAny_loadPart ha ?_)
  rw [hd]
  exact wpAny_pure q
theorem exc_value {a : Addr} {oe : Obj} {vs : Array Value} {cls : Value} {msg : String} {Q : Value → Shared → Prop} (ha : s.heap.get? a = some oe) (hd : oe.data = .fields vs) (hc : oe.cls = cls) (L : PySem.W.Looks (model prog w) s.heap (isSubtype cls (.type "BaseException")) true) (q : Q (.ref a) s) :
    wpAny (model prog w) A (excFromValue (.ref a) msg) Q E s := by
  unfold PySem.excFromValue
  refine wpAny_bind ?_
  unfold PySem.isExcClass
  refine wpAny_bind (not_type ha hd ?_)
  rw [if_neg Bool.false_ne_true]
  refine wpAny_pure ?_
  rw [if_neg Bool.false_ne_true]
  unfold PySem.isInstance
  refine wpAny_bind (wpAny_bind (wpAny_typeOf_ref ha ?_))
  rw [hc]
  refine L.here ?_
  rw [if_pos rfl]
  exact wpAny_pure q
def fromH (h : Heap) (a c : Addr) : Heap := (h.update a (Obj.mapFields fun x => x.setIfInBounds 3 (.ref c))).update a (Obj.mapFields fun x => x.setIfInBounds 4 (.bool true))
theorem fromH_at {h : Heap} {a c : Addr} {oe : Obj} {vs : Array Value} (ha : h.get? a = some oe) (hd : oe.data = .fields vs) :
    (fromH h a c).get? a = some (Obj.mapFields (fun x => x.setIfInBounds 4 (.bool true)) (Obj.mapFields (fun x => x.setIfInBounds 3 (.ref c)) oe)) ∧ (Obj.mapFields (fun x => x.setIfInBounds 4 (.bool true)) (Obj.mapFields (fun x => x.setIfInBounds 3 (.ref c)) oe)).data = .fields ((vs.setIfInBounds 3 (.ref c)).setIfInBounds 4 (.bool true)) := by
  have hd3 := Obj.data_mapFields hd fun x => x.setIfInBounds 3 (.ref c)
  have ha3 := Heap.get?_update_self (Obj.mapFields fun x => x.setIfInBounds 3 (.ref c)) ha (Obj.isFreed_of_fields hd3)
  have hd4 := Obj.data_mapFields hd3 fun x => x.setIfInBounds 4 (.bool true)
  exact ⟨Heap.get?_update_self (Obj.mapFields fun x => x.setIfInBounds 4 (.bool true)) ha3 (Obj.isFreed_of_fields hd4), hd4⟩
theorem fromH_other {h : Heap} {a b c : Addr} (n : a ≠ b) : (fromH h a c).get? b = h.get? b := by
  unfold fromH
  rw [Heap.get?_update_other _ _ n, Heap.get?_update_other _ _ n]
theorem raise_made_from {env : Env} {x c : Sem Value} {Q : Flow → Shared → Prop} {x1 : Addr}
    (h : wpAny (model prog w) A x (fun v s₁ => ∃ a oe vs cls o1 vs1, v = .ref a ∧ s₁.heap.get? a = some oe ∧ oe.cls = cls ∧ oe.data = .fields vs ∧ vs[1]? = some .none ∧ 4 < vs.size ∧ x1 ≠ a ∧ HotX.HotAt A x1 s₁.heap ∧
      s₁.heap.get? x1 = some o1 ∧ o1.data = .fields vs1 ∧ PySem.W.Looks (model prog w) s₁.heap (isSubtype o1.cls (.type "BaseException")) true ∧ wpAny (model prog w) A c (fun cv s2 => cv = .ref x1 ∧ s2 = s₁) E s₁ ∧
      PySem.W.Looks (model prog w) s₁.heap (isSubtype cls (.type "BaseException")) true ∧ PySem.W.Looks (model prog w) (fromH s₁.heap a x1) (typeOf cls) (.type "type") ∧
      E (.ref a) { s₁ with heap := (fromH s₁.heap a x1).update a (Obj.mapFields fun x => x.setIfInBounds 2 (.ref x1)) }) E s) :
    wpAny (model prog w) A (raiseStmt env (some x) (some c)) Q E s := by
  unfold PySem.raiseStmt
  refine wpAny_bind (wpAny_mono h (fun v s₁ h₁ => ?_) fun _ _ z => z)
  obtain ⟨a, oe, vs, cls, o1, vs1, rfl, ha, hcls, hd, h1, hi, hne, hot, hx1, hd1, L1x, hcw, L1, L3, hE⟩ := h₁
  have hc4 := fromH_at (c := x1) ha hd
  obtain ⟨ha4, hd4⟩ := hc4
  have hd3 := Obj.data_mapFields hd fun x => x.setIfInBounds 3 (.ref x1)
  have ha3 := Heap.get?_update_self (Obj.mapFields fun x => x.setIfInBounds 3 (.ref x1)) ha (Obj.isFreed_of_fields hd3)
  have hcls4 : (Obj.mapFields (fun x => x.setIfInBounds 4 (.bool true)) (Obj.mapFields (fun x => x.setIfInBounds 3 (.ref x1)) oe)).cls = cls := by
    rw [Obj.cls_mapFields, Obj.cls_mapFields]
    exact hcls
  have h14 : ((vs.setIfInBounds 3 (.ref x1)).setIfInBounds 4 (.bool true))[1]? = some .none := HotX.set_other (by decide) (HotX.set_other (by decide) h1)
  have hot4 : HotX.HotAt A x1 (fromH s₁.heap a x1) := by
    obtain ⟨q1, o, vs', q2, q3, q4⟩ := hot
    exact ⟨q1, o, vs', by rw [fromH_other (Ne.symm hne)]; exact q2, q3, q4⟩
  refine wpAny_bind (wpAny_holding (wpAny_mono hcw (fun cv s2 z => ?_) fun _ _ z => z))
  obtain ⟨rfl, rfl⟩ := z
  refine wpAny_bind (wpAny_pure ?_)
  dsimp only
  refine wpAny_bind (wpAny_holding (exc_value ha hd hcls L1 ?_))
  rw [if_neg (by simp)]
  refine wpAny_bind (wpAny_holding (exc_value hx1 hd1 rfl L1x ?_))
  refine wpAny_bind (wpAny_setField ha hd (by omega) ?_)
  refine wpAny_bind (wpAny_setField ha3 hd3 (by rw [HotX.set_size]; exact hi) ?_)
  refine wpAny_bind (not_type ha4 hd4 ?_)
  rw [if_neg Bool.false_ne_true]
  unfold PySem.raisedInstance
  refine wpAny_bind (wpAny_bind (wpAny_typeOf_ref ha4 ?_))
  rw [hcls4]
  refine wpAny_bind (L3.here ?_)
  rw [if_pos (beq_self_eq_true _)]
  refine wpAny_pure ?_
  refine wpAny_bind ?_
  unfold PySem.setFlight
  refine wpAny_bind (wpAny_field ha4 hd4 h14 ?_)
  rw [if_neg (by simp)]
  refine wpAny_pure ?_
  exact HotX.raiseNew_hot hot4 (Ne.symm (Ne.symm hne)) ha4 hd4 (by rw [HotX.set_size, HotX.set_size]; omega) hE
end
section
variable {X : Cx}
theorem ps_raiseHF {W : WX} {n : Str} {e : Expr} {t : L2.St → Hp → XK → Prop} {i : Nat} {np pos : Pos} {p : Addr × Obj} (hp : p ∈ X.pn) (hh : L2H.Hot1 X.A p) (hR : Raises X p.2.cls) (tk : Takes X W) (he : L2H.PMk5 X e t) (hN : X.N[i]? = some n) (hv : Vis X.env.scope n)
    (hd : (n == ("__debug__" : Str)) = false := by decide) (hcd : (n == ("__classdict__" : Str)) = false := by decide) :
    PS X (.Raise (some e) (some (.Name n np)) pos) (fun (_ : Ends) (σ : L2.St) (H : Hp) => σ[i]? = some (some (V.ref p.1)) ∧ t σ H fun cls d H' => W cls d σ H') := by
  refine ⟨fun pins s σ H D I h => ?_⟩
  obtain ⟨hs, h⟩ := h
  obtain ⟨hh1, v1, e1, c1⟩ := id hh
  show wpAny (model X.prog X.w) X.A (do standAt pos; raiseStmt X.env (some (do let v ← eval e X.env; standAt pos; pure v)) (some (do let v ← eval (.Name n np) X.env; standAt pos; pure v))) (SP X pins D) X.xe s
  refine wpAny_bind (wpAny_standAt ?_)
  refine raise_made_from (x1 := p.1) ?_
  refine wpAny_bind (wpAny_mono (he pins s σ H (fun cls d H' => W cls d σ H') I h) (fun u s1 hu => ?_) fun _ _ z => z)
  refine wpAny_bind (wpAny_standAt (wpAny_pure ?_))
  obtain ⟨⟨a, oe, vs, sI, H', cls, d, rfl, J, k, hne, ha, hz, hdt, h1, na, os, ag, r, q⟩, h5⟩ := hu
  have hi := h5 a oe vs rfl ha hdt
  have nab : ∀ {b : Addr} {u : Obj}, sI.heap.get? b = some u → a ≠ b := fun z y => by
    rw [← y, hne] at z
    cases z
  have k4 : ∀ b o, sI.heap.get? b = some o → (fromH s1.heap a p.1).get? b = some o := fun b o z => by
    rw [fromH_other (nab z)]
    exact k b o z
  have r1 := (r (model X.prog X.w) s1.heap (J.kIn.keeps k)).1
  have r2 := (r (model X.prog X.w) (fromH s1.heap a p.1) (J.kIn.keeps k4)).2
  have P1 := (J.pin p (List.mem_append_left pins hp)).1
  have hc4 := fromH_at (c := p.1) ha hdt
  have h12 : (((vs.setIfInBounds 3 (.ref p.1)).setIfInBounds 4 (.bool true)).setIfInBounds 2 (.ref p.1))[1]? = some .none := HotX.set_other (by decide) (HotX.set_other (by decide) (HotX.set_other (by decide) h1))
  have J1 : Inv X pins σ H' s1 := J.landed (B := sI.heap) (fun _ _ z _ => z) k (Heap.UpToSlots.of_keeps k) os ag
  refine ⟨a, oe, vs, cls, p.2, v1, rfl, ha, hz.1, hdt, h1, hi, (nab P1).symm, ⟨hh1, p.2, v1, k _ _ P1, e1, c1⟩, k _ _ P1, e1, (hR (model X.prog X.w) s1.heap (J.kIn.keeps k)).1, ?_, r1, r2, ?_⟩
  · refine wpAny_bind (ld_var J1 hN hv hs (fun u ru => ?_) hd hcd)
    obtain rfl : u = Value.ref p.1 := ru
    exact wpAny_bind (wpAny_standAt (wpAny_pure ⟨rfl, rfl⟩))
  · refine tk _ _ (XE.new (vs := ((vs.setIfInBounds 3 (.ref p.1)).setIfInBounds 4 (.bool true)).setIfInBounds 2 (.ref p.1)) J (fun b u z => ?_) hne (Heap.get?_update_self (Obj.mapFields fun x => x.setIfInBounds 2 (.ref p.1)) hc4.1 (Obj.isFreed_of_fields (Obj.data_mapFields hc4.2 fun x => x.setIfInBounds 2 (.ref p.1)))) ⟨?_, ?_⟩ (Obj.data_mapFields hc4.2 fun x => x.setIfInBounds 2 (.ref p.1)) h12 na os ag q)
    · show Heap.get? _ b = some u
      rw [Heap.get?_update_other _ _ (nab z)]
      exact k4 b u z
    · rw [Obj.cls_mapFields, Obj.cls_mapFields, Obj.cls_mapFields]
      exact hz.1
    · rw [HandSPX.dict_mapFields, HandSPX.dict_mapFields, HandSPX.dict_mapFields]
      exact hz.2.1
end
/-! ### an error that leaves a suite with a name -/
theorem frames_upd {h k B B' : Heap} {C : Addr} (sb : Heap.SameBut C h k) {oC : Obj} (eC : k.get? C = some oC) (dC : ∀ vs, oC.data ≠ .fields vs) : ∀ {l : List Env}, (∀ b ∈ frs l, B'.get? b = none) → h.FunFrames B l → k.FunFrames B' l
  | [], _, _ => trivial
  | e :: l, nb, ⟨kd, ⟨L, o, f, b, g, r⟩, z⟩ => by
    have mL : L ∈ frs (e :: l) := List.mem_filterMap.mpr ⟨e, List.mem_cons_self, f⟩
    have rest := frames_upd sb eC dC (l := l) (fun b hb => nb b (by
      obtain ⟨e', m', q'⟩ := List.mem_filterMap.mp hb
      exact List.mem_filterMap.mpr ⟨e', List.mem_cons_of_mem _ m', q'⟩)) z
    by_cases c : L = C
    · exact ⟨kd, ⟨L, oC, f, nb L mL, by rw [c]; exact eC, dC⟩, rest⟩
    · exact ⟨kd, ⟨L, o, f, nb L mL, (sb.2 L c).trans g, r⟩, rest⟩
theorem sky_look {s : Shared} {B : Heap} {M : Model} {A : Around} {E : Value → Shared → Prop} {env : Env} {outer : List Env} {L a : Addr} {Z : Obj → Prop} {Q : Unit → Shared → Prop} (hZ : HandSPX.Steady Z) (hfr : A.frames = some (env :: outer)) (hf : env.frame = some L) (sky : Sky B (env :: outer) a Z L s.heap)
    (hQ : ∀ h', HandSPX.HeldZ B (env :: outer) a Z L h' → s.heap.UpToSlots h' → Q () { s with heap := h' }) : wpAny M A (noteFrame (.ref a) env) Q E s := by
  rcases sky with ⟨hB, hn, hl, oe, vs, he, hz, hd, h1⟩ | fl | hh
  · exact HandSPX.look_newZ hZ hfr hl hf he hB hn hd h1 hz hQ
  · exact HandSPX.looks_onZ hZ hfr hf fl hQ
  · exact HandSPX.againZ hf hh.2.2.2 (hQ s.heap hh (Heap.UpToSlots.refl _))
section
variable {X : Cx}
theorem gone_ok2 {pins : List (Addr × Obj)} {σ : L2.St} {H : Hp} {s : Shared} {M : Model} {A : Around} {E : Value → Shared → Prop} {i : Nat} {n : Str} {pos : Pos} {Q : Unit → Shared → Prop} (I : Inv X pins σ H s) (hN : X.N.Nodup) (hi : X.N[i]? = some n) (hl : X.env.kindOf n = some .local)
    (h : ∀ s', Inv X pins (σ.set i none) H s' → Heap.SameBut X.env.locals s.heap s'.heap → s'.gens = s.gens → s'.os = s.os → Q () s') : wpAny M A (do bindName X.env n .none; unbindBehindTheSuite X.env n pos) Q E s := by
  obtain ⟨m, hn, hlk⟩ := id I.loc
  have hcls : (X.env.scope.kind == .class || X.env.scope.kind == .module && X.env.locals != X.env.globals) = false := by
    rw [I.ok.kind]
    rfl
  refine wpAny_nameGoes_keeps hl hn hcls fun h' v hn' hs => ?_
  have neL : ∀ b o, X.s_0.heap.get? b = some o → b ≠ X.env.locals := fun b o e => Nat.ne_of_lt (Nat.lt_of_lt_of_le (Heap.lt_size e) I.ok.above)
  refine h { s with heap := h', toks := s.toks + 1 } ⟨I.ok, I.os, I.bare, ⟨fun b o e n hb hx => (hs.2 b (neL b o e)).trans (I.base.keep b o e n hb hx), fun b o e n hb hx => ?_, I.base.free, fun b o e hx => ?_, I.base.tups, I.base.frzs, I.base.tbls⟩, ⟨_, hn', fun j y v' e1 e2 e3 => ?_⟩, fun y c e => ?_, I.free, I.freeC, fun p hp => ?_, fun b ob e => ?_, ?_⟩ hs rfl rfl
  · obtain ⟨sl, e1⟩ := I.base.slot b o e n hb hx
    exact ⟨sl, (hs.2 b (neL b o e)).trans e1⟩
  · obtain ⟨o', e1⟩ := I.base.there b o e hx
    exact ⟨o', (hs.2 b (neL b o e)).trans e1⟩
  · by_cases hj : j = i
    · subst hj
      rw [List.getElem?_set] at e2
      simp at e2
    · rw [List.getElem?_set_ne (Ne.symm hj)] at e2
      obtain ⟨u', r', q⟩ := hlk j y v' e1 e2 e3
      refine ⟨u', r', ?_⟩
      rcases q with ⟨k, e⟩ | ⟨k, c, e, z⟩
      · have ny : ¬ y = n := fun e => hj (nodup_ix hN e1 (e.symm ▸ hi))
        exact .inl ⟨k, (if_neg ny).trans e⟩
      · exact .inr ⟨k, c, e, z.sameBut hs (I.cne y c e)⟩
  · obtain ⟨w', z⟩ := I.cell y c e
    exact ⟨w', z.sameBut hs (I.cne y c e)⟩
  · obtain ⟨e, n, ne, nf, d⟩ := I.pin p hp
    exact ⟨(hs.2 p.1 ne).trans e, n, ne, nf, d⟩
  · refine (I.hok b ob e).stay (fun c w' hc q => (hs.2 c fun z => ?_).trans q) (fun _ q => q) fun _ _ q => q
    have fr := I.free
    rw [← z] at fr
    rcases hc with hc | hc
    · rw [hc, e] at fr
      cases fr
    · rw [hc] at fr
      cases fr
  · rw [List.length_set]
    exact I.len
/-- the ground without some objects that nobody knows -/
theorem Inv.drop {pins : List (Addr × Obj)} {σ : L2.St} {H : Hp} {s : Shared} (I : Inv X pins σ H s) {S : List Addr} {G : Heap} (g1 : ∀ b, b ∉ S → G.get? b = s.heap.get? b) (hok : HOk X.prog X.w H G) (hS : ∀ b ∈ S, X.s_0.heap.get? b = none ∧ b ≠ X.env.locals ∧ (∃ o vs, s.heap.get? b = some o ∧ o.data = .fields vs) ∧ ∀ p ∈ X.pn ++ pins, p.1 ≠ b) :
    Inv X pins σ H { s with heap := G } := by
  have old : ∀ {b o}, X.s_0.heap.get? b = some o → b ∉ S := fun {b o} e m => by
    rw [(hS b m).1] at e
    cases e
  have keepC : ∀ {c v}, s.heap.IsCell c v → G.IsCell c v := fun {c v} z => by
    have nc : c ∉ S := fun m => by
      obtain ⟨_, _, ⟨o, vs, e, d⟩, _⟩ := hS c m
      obtain ⟨o', e', d'⟩ := z
      rw [e] at e'
      cases e'
      rw [d] at d'
      cases d'
    obtain ⟨o', e', d'⟩ := z
    exact ⟨o', (g1 c nc).trans e', d'⟩
  obtain ⟨m, hn, hlk⟩ := id I.loc
  have nL : X.env.locals ∉ S := fun z => (hS _ z).2.1 rfl
  refine ⟨I.ok, I.os, I.bare, ⟨fun b o e n hb hx => (g1 b (old e)).trans (I.base.keep b o e n hb hx), fun b o e n hb hx => ?_, I.base.free, fun b o e hx => ?_, I.base.tups, I.base.frzs, I.base.tbls⟩, ⟨m, (by obtain ⟨o, es, ep, e, d, r⟩ := hn; exact ⟨o, es, ep, (g1 _ nL).trans e, d, r⟩), fun j y v' e1 e2 e3 => ?_⟩, fun y c e => ?_, I.free, I.freeC, fun p hp => ?_, hok, I.len⟩
  · obtain ⟨sl, e1⟩ := I.base.slot b o e n hb hx
    exact ⟨sl, (g1 b (old e)).trans e1⟩
  · obtain ⟨o', e1⟩ := I.base.there b o e hx
    exact ⟨o', (g1 b (old e)).trans e1⟩
  · obtain ⟨u', r', q⟩ := hlk j y v' e1 e2 e3
    refine ⟨u', r', ?_⟩
    rcases q with ⟨k, e⟩ | ⟨k, c, e, z⟩
    · exact .inl ⟨k, e⟩
    · exact .inr ⟨k, c, e, keepC z⟩
  · obtain ⟨w', z⟩ := I.cell y c e
    exact ⟨w', keepC z⟩
  · obtain ⟨e, n, ne, nf, d⟩ := I.pin p hp
    exact ⟨(g1 p.1 fun z => (hS _ z).2.2.2 p hp rfl).trans e, n, ne, nf, d⟩
/-- it leaves: the frame is noted, the name goes, on it flies -/
theorem named_out {Wout : WX} {i : Nat} {n : Str} {hpos : Pos} {a : Addr} {q : Addr × Obj} {pins : List (Addr × Obj)} {u2 : Value} {s2 : Shared} {E1 E2 : Value → Shared → Prop} {α : Type} {F : α → Shared → Prop} (hs : X.stack = X.env :: X.outer) (hf : X.env.frame = some X.env.locals) (hex : X.ex = []) (ok : X.Ok) (hN : X.N.Nodup) (hi : X.N[i]? = some n) (hln : X.env.kindOf n = some .local) (tk : Takes X Wout)
    (xx : XE (L2H.suiteX X a (q :: (X.pn ++ pins))) (fun cls d σ H => Wout cls d (σ.set i none) H) u2 s2) :
    wpAny (model X.prog X.w) (X.A.mark (some (.ref a))) (noteFrame u2 X.env) (fun _ s3 => wpAny (model X.prog X.w) (X.A.mark (some (.ref a))) (do bindName X.env n .none; unbindBehindTheSuite X.env n hpos) (fun _ s4 => wpAny (model X.prog X.w) (X.A.mark (some (.ref a))) (PySem.passOn "try.except-as" u2 X.env : Sem α) F
      (notedBy (model X.prog X.w) (X.A.mark (some (.ref a))) X.env fun x s' => cameBackBy (model X.prog X.w) X.A X.env X.xe x s') s4) E1 s3) E2 s2 := by
  obtain ⟨a2, B, sI, pn2, σ2, H2, cls, d, rfl, I2, nb, up, sky, na, os, ag, w⟩ := xx
  have J : Inv X pins σ2 H2 sI := L2H.unsuiteX I2 ok
  have hfr : (X.A.mark (some (.ref a))).frames = some (X.env :: X.outer) := ok.frames.trans (congrArg some hs)
  have sky : Sky B (X.env :: X.outer) a2 (Zc cls d) X.env.locals s2.heap := by
    have z : Sky B X.stack a2 (Zc cls d) X.env.locals s2.heap := sky
    rw [hs] at z
    exact z
  have nb : ∀ b o, sI.heap.get? b = some o → b ∉ frs X.stack → B.get? b = some o := nb
  have mLf : X.env.locals ∈ frs X.stack := by
    rw [hs]
    exact List.mem_filterMap.mpr ⟨X.env, List.mem_cons_self, hf⟩
  refine sky_look Zc.steady hfr hf sky fun h3 hh3 up3 => ?_
  obtain ⟨stB, nB, ff, oe, vs, T, oT, ts, r1, r2, r3, r4, r5, r6, r7, r8, r9⟩ := hh3
  have J3 : Inv X pins σ2 H2 { s2 with heap := h3 } := J.landed nb stB (up.trans up3) os ag
  -- neither of the two is known
  have ff2 := ff
  rw [← hs] at ff2
  have notFr : ∀ {b : Addr} {o : Obj} {us : Array Value}, h3.get? b = some o → o.data = .fields us → b ∉ frs X.stack := fun {b o us} e dd m => by
    obtain ⟨_, o', e', nf⟩ := Heap.FunFrames.mem ff2 m
    rw [e] at e'
    cases e'
    exact nf us dd
  have na3 : a2 ∉ frs X.stack := notFr r1 r3
  have nT3 : T ∉ frs X.stack := notFr r7 r8
  have newI : ∀ {b : Addr}, b ∉ frs X.stack → B.get? b = none → sI.heap.get? b = none := fun {b} n z => by
    cases e : sI.heap.get? b with
    | none => rfl
    | some o =>
      rw [nb b o e n] at z
      cases z
  have old : ∀ {b : Addr}, sI.heap.get? b = none → X.s_0.heap.get? b = none ∧ (∀ p ∈ X.pn ++ pins, p.1 ≠ b) := fun {b} z => by
    refine ⟨?_, fun p hp e => ?_⟩
    · cases e : X.s_0.heap.get? b with
      | none => rfl
      | some o =>
        obtain ⟨o', e'⟩ := J.base.there b o e (by rw [hex]; exact List.not_mem_nil)
        rw [z] at e'
        cases e'
    · have := (J.pin p hp).1
      rw [e, z] at this
      cases this
  have oa := old (newI na3 nB)
  have oT' := old (newI nT3 r5)
  have nLa : a2 ≠ X.env.locals := fun z => na3 (z ▸ mLf)
  have nLT : T ≠ X.env.locals := fun z => nT3 (z ▸ mLf)
  refine gone_ok2 J3 hN hi hln fun s4 J4 sb eg eo => ?_
  have sb : Heap.SameBut X.env.locals h3 s4.heap := sb
  have e1 : s4.heap.get? a2 = some oe := (sb.2 a2 nLa).trans r1
  have e2 : s4.heap.get? T = some oT := (sb.2 T nLT).trans r7
  obtain ⟨mL, ⟨oL, es, ep, eL, dL, _⟩, _⟩ := id J4.loc
  have dL' : ∀ us, oL.data ≠ .fields us := fun us z => by
    rw [dL] at z
    cases z
  -- the ground without them, and without the frames
  obtain ⟨G, g1, g2⟩ := restrict s4.heap fun b => decide (b ∉ [a2, T])
  obtain ⟨B', b1, b2⟩ := restrict s4.heap fun b => decide (b ∉ [a2, T]) && decide (b ∉ frs X.stack)
  have hG : ∀ b, b ∉ [a2, T] → G.get? b = s4.heap.get? b := fun b n => g1 b (decide_eq_true n)
  have JG : Inv X pins (σ2.set i none) H2 { s4 with heap := G } := Inv.drop J4 hG (HOk.kept (Inv.inGround J nb) fun b u e => (hG b (fun m => by
    rcases List.mem_cons.mp m with rfl | m
    · rw [nB] at e
      cases e
    · rw [List.mem_singleton.mp m, r5] at e
      cases e)).trans ((sb.2 b (fun z => by
    rw [z, (Heap.FunFrames.mem ff2 mLf).1] at e
    cases e)).trans (stB b u e))) fun b hb => by
    rcases List.mem_cons.mp hb with rfl | hb
    · exact ⟨oa.1, nLa, ⟨_, _, e1, r3⟩, oa.2⟩
    · rw [List.mem_singleton.mp hb]
      exact ⟨oT'.1, nLT, ⟨_, _, e2, r8⟩, oT'.2⟩
  have subG : ∀ b o, G.get? b = some o → s4.heap.get? b = some o ∧ b ∉ [a2, T] := fun b o e => by
    by_cases c : b ∉ [a2, T]
    · exact ⟨(hG b c).symm.trans e, c⟩
    · rw [g2 b (decide_eq_false c)] at e
      cases e
  have subB : ∀ b o, B'.get? b = some o → s4.heap.get? b = some o := fun b o e => by
    cases c : decide (b ∉ [a2, T]) && decide (b ∉ frs X.stack) with
    | true => exact (b1 b c).symm.trans e
    | false =>
      rw [b2 b c] at e
      cases e
  have nB' : ∀ b o, G.get? b = some o → b ∉ frs X.stack → B'.get? b = some o := fun b o e n => by
    obtain ⟨e', m⟩ := subG b o e
    exact (b1 b (by rw [decide_eq_true m, decide_eq_true n]; rfl)).trans e'
  have outB : ∀ {b : Addr}, b ∈ [a2, T] → B'.get? b = none := fun {b} m => b2 b (by rw [decide_eq_false (fun z => z m)]; rfl)
  have frB : ∀ b ∈ frs X.stack, B'.get? b = none := fun b m => b2 b (by rw [decide_eq_false (p := b ∉ frs X.stack) (fun z => z m), Bool.and_false])
  have ff4 : s4.heap.FunFrames B' (X.env :: X.outer) := frames_upd sb eL dL' (by rw [← hs]; exact frB) ff
  have nbT : B'.get? T = none := outB (List.mem_cons_of_mem _ List.mem_cons_self)
  have nba : B'.get? a2 = none := outB List.mem_cons_self
  have upG : G.UpToSlots s4.heap := Heap.UpToSlots.of_keeps fun b o e => (subG b o e).1
  unfold PySem.passOn
  refine wpAny_bind (wpAny_field e1 r3 r4 ?_)
  rw [if_neg (show ¬ ((Value.ref T == Value.none) = true) from by simp)]
  have fin : wpAny (model X.prog X.w) (X.A.mark (some (.ref a))) (setFlight (.ref a2) X.env.frame) (fun _ t4 => wpAny (model X.prog X.w) (X.A.mark (some (.ref a))) (throw (.ref a2) : Sem α) F
      (notedBy (model X.prog X.w) (X.A.mark (some (.ref a))) X.env fun x s' => cameBackBy (model X.prog X.w) X.A X.env X.xe x s') t4)
      (notedBy (model X.prog X.w) (X.A.mark (some (.ref a))) X.env fun x s' => cameBackBy (model X.prog X.w) X.A X.env X.xe x s') s4 := by
    rw [hf]
    refine HandSPX.setFlight_anyZ (base := B') (l := X.env :: X.outer) (Z := Zc cls d) subB ff4 ⟨oe, vs, T, oT, ts, e1, r2, r3, r4, nbT, r6, e2, r8, r9⟩ fun h5 k1 k2 k3 up5 => wpAny_throw ?_
    refine HandSPX.againZ hf k3 ?_
    obtain ⟨oe5, vs5, T5, oT5, ts5, f1, f2, f3, f4, f5, f6, f7, f8, f9⟩ := id k3
    unfold PySem.cameBackBy
    refine wpAny_bind (wpAny_field f1 f3 f4 ?_)
    rw [if_neg (show ¬ ((Value.ref T5 == Value.none) = true) from by simp)]
    rw [hf]
    have last : wpAny (model X.prog X.w) X.A (setFlight (.ref a2) (some X.env.locals)) (fun _ s'' => X.xe (.ref a2) s'') X.xe { s4 with heap := h5 } := by
      refine HandSPX.setFlight_anyZ (base := B') (l := X.env :: X.outer) (Z := Zc cls d) k1 k2 k3 fun h6 l1 l2 l3 up6 => ?_
      refine tk _ _ ⟨a2, B', { s4 with heap := G }, pins, σ2.set i none, H2, cls, d, rfl, JG, nB', (upG.trans up5).trans up6, .inr (.inr ?_), na, rfl, J4.bare, w⟩
      rw [hs]
      exact ⟨l1, nba, l2, l3⟩
    first
      | exact last
      | exact wpAny_bind (wpAny_pure last)
  first
    | exact wpAny_bind (wpAny_pure (wpAny_bind fin))
    | exact wpAny_bind fin
end
/-! ### try: .. except (A, B) as e: a suite that may raise -/
theorem frames_keep {h k B : Heap} (kp : ∀ b o, h.get? b = some o → k.get? b = some o) : ∀ {l : List Env}, h.FunFrames B l → k.FunFrames B l
  | [], _ => trivial
  | _ :: _, ⟨kd, ⟨L, o, f, b, g, r⟩, z⟩ => ⟨kd, ⟨L, o, f, b, kp _ _ g, r⟩, frames_keep kp z⟩
theorem fly_keep {h k B : Heap} {l : List Env} {a : Addr} {Z : Obj → Prop} (kp : ∀ b o, h.get? b = some o → k.get? b = some o) (fl : HandSPX.FlyingZ B l a Z h) : HandSPX.FlyingZ B l a Z k := by
  obtain ⟨f1, f2, f3, oe, vs, T, oT, ts, r1, r2, r3, r4, r5, r6, r7, r8, r9⟩ := fl
  exact ⟨fun b o e => kp _ _ (f1 b o e), f2, frames_keep kp f3, oe, vs, T, oT, ts, kp _ _ r1, r2, r3, r4, r5, r6, kp _ _ r7, r8, r9⟩
def wAs2 (K : PySem.W.Frag) (cs : List Value) (i : Nat) (ts : Addr → Value → Option Addr → TS) (D : Ends) : WX := fun cls d σ H => PySem.W.exmAny K cls cs = some true ∧ ∀ a, H a = none → ts a cls d { nx := fun σ' H' => D.nx (σ'.set i none) H', rt := D.rt, bk := fun σ' H' => D.bk (σ'.set i none) H', ct := fun σ' H' => D.ct (σ'.set i none) H' } (σ.set i (some (.ref a))) H
section
variable {X : Cx}
theorem named_test {x : Str} {c : Value} {np : Pos} {pins : List (Addr × Obj)} {σ : L2.St} {H : Hp} {s : Shared} {Q : Value → Shared → Prop} {E : Value → Shared → Prop} (nx : Names X x c) (I : Inv X pins σ H s) (q : Q c s) : wpAny (model X.prog X.w) X.A (eval (.Name x np) X.env) Q E s := by
  obtain ⟨hg, hdbg, hm | ⟨hm, hv, hnn⟩⟩ := nx
  · exact ld_glob I hg hm q hdbg
  · exact ld_blt I hg hm hv q hnn hdbg
theorem ps_try_asX2 {xA xB n : Str} {cA cB : Value} {i : Nat} {body suite : List Stmt} {b₀ : Stmt} {pa pb pt hpos pos : Pos} {kt : Nat} {tb : WX → TS} {ts : Addr → Value → Option Addr → TS} {Wout : WX} (hs : X.stack = X.env :: X.outer) (hf : X.env.frame = some X.env.locals) (hex : X.ex = []) (hN : X.N.Nodup) (hi : X.N[i]? = some n) (hln : X.env.kindOf n = some .local)
    (nA : Names X xA cA) (nB : Names X xB cB) (tk : Takes X Wout)
    (hb : ∀ (W : WX) (pn : List (Addr × Obj)) (xe : Value → Shared → Prop), L2N.Takes (X.tr pn xe) W → PassesOwn (model X.prog X.w) X.A X.env xe → PSs (X.tr pn xe) body (tb W))
    (hsu : ∀ (a : Addr) (oe : Obj) (cls : Value) (d : Option Addr) (pn : List (Addr × Obj)) (xe : Value → Shared → Prop), L2N.Zn cls d oe → (∃ vs, oe.data = .fields vs) → Takes ((L2H.suiteX X a ((a, oe) :: pn)).wish xe) (fun cls d σ H => Wout cls d (σ.set i none) H) → PSs ((L2H.suiteX X a ((a, oe) :: pn)).wish xe) (b₀ :: suite) (ts a cls d)) :
    PS X (.Try body [.ExceptHandler (some (.Tuple [.Name xA pa, .Name xB pb] kt pt)) (some n) (b₀ :: suite) hpos] [] [] pos) (fun D σ H => tb (wAs2 X.K [cA, cB] i ts D) D σ H) := by
  refine ⟨fun pins s σ H D I h => ?_⟩
  have ok := I.ok
  have hfr : X.A.frames = some (X.env :: X.outer) := ok.frames.trans (congrArg some hs)
  refine wpAny_Try_except (wpAny_mono ((hb (wAs2 X.K [cA, cB] i ts D) (X.pn ++ pins) (fun e s₁ => wpAny (model X.prog X.w) X.A (noteFrame e X.env) (fun _ s₂ => wpAny (model X.prog X.w) X.A (setFlight e none) (fun _ s₃ => wpAny (model X.prog X.w) X.A (handleBy e X.env [.ExceptHandler (some (.Tuple [.Name xA pa, .Name xB pb] kt pt)) (some n) (b₀ :: suite) hpos]) (SP X pins D) X.xe s₃) X.xe s₂) X.xe s₁)
    (fun u s' xx => ?_) PassesOwn.looking).run [] s σ H D (I.toTry _) h) (fun f s1 hsp => ?_) fun e s1 he => he)
  · obtain ⟨a, B, sI, pins', σ', H', cls, d, rfl, J', nb, up, sky, na, os, ag, hb1, hyes⟩ := xx
    have J := J'.ofTry ok
    have sky' : Sky B (X.env :: X.outer) a (L2N.Zn cls d) X.env.locals s'.heap := by
      have z : Sky B X.stack a (L2N.Zn cls d) X.env.locals s'.heap := sky
      rw [hs] at z
      exact z
    refine L2N.Sky.land L2N.Zn.steady hfr hf sky' fun h3 fl3 up3 => ?_
    have J3 : Inv X pins σ' H' { s' with heap := h3 } := J.landed nb fl3.1 (up.trans up3) os ag
    obtain ⟨oe3, vs3, he3, hz3, hd3⟩ := fl3.there
    have nfr : a ∉ frs (X.env :: X.outer) := fun m => by
      obtain ⟨_, o', e', nf⟩ := Heap.FunFrames.mem fl3.2.2.1 m
      have he3' : h3.get? a = some oe3 := he3
      rw [he3'] at e'
      cases e'
      exact nf _ hd3
    have nL : a ≠ X.env.locals := fun z => nfr (List.mem_filterMap.mpr ⟨X.env, List.mem_cons_self, by rw [hf, z]⟩)
    have nF : a ∉ X.fs := fun hm => by
      obtain ⟨e, he, q⟩ := List.mem_filterMap.mp hm
      exact nfr (List.mem_filterMap.mpr ⟨e, List.mem_cons_of_mem _ he, q⟩)
    have S3 := J3.suite he3 hd3 na nL nF
    refine wpAny_handleBy_cons (codeAny_handlers_test ?_) (ref_ne_byPass a)
    refine Tuple_ ?_
    show wpAny _ _ (spliced (backTo pt ((false, eval (.Name xA pa) X.env) :: (false, eval (.Name xB pb) X.env) :: []))) _ _ _
    refine Calls.spliced_cons (named_test (X := X.suite a ((a, oe3) :: (X.pn ++ pins))) nA S3 ?_)
    refine Calls.spliced_cons (named_test (X := X.suite a ((a, oe3) :: (X.pn ++ pins))) nB S3 ?_)
    refine Calls.spliced_nil ?_
    refine wpAny_newTuple ?_ (by show 2 ≤ sizeLine; decide)
    have kp : ∀ b o, h3.get? b = some o → (h3.push { cls := .type "tuple", data := .seq [cA, cB].toArray }).get? b = some o := fun b o e => Heap.get?_push_of_some _ e
    have et : (h3.push { cls := .type "tuple", data := .seq [cA, cB].toArray }).get? h3.objs.size = some { cls := .type "tuple", data := .seq [cA, cB].toArray } := by
      exact Heap.get?_push_size _ rfl
    have flp := fly_keep kp fl3
    have upp : h3.UpToSlots (h3.push { cls := .type "tuple", data := .seq [cA, cB].toArray }) := Heap.UpToSlots.of_keeps kp
    have he3p := kp _ _ he3
    have kin := J3.kIn.keeps kp
    show wpAny _ _ (excMatches (.ref a) (.ref h3.objs.size)) _ _ { s' with heap := h3.push { cls := .type "tuple", data := .seq [cA, cB].toArray } }
    generalize h3.push { cls := .type "tuple", data := .seq [cA, cB].toArray } = h3p at *
    have LT : PySem.W.Looks (model X.prog X.w) h3p (typeOf (.ref a)) cls := fun A Q E s k q => wpAny_typeOf_ref (k a oe3 he3p) (by rw [hz3.1]; exact q)
    refine PySem.W.Looks.here (s := { s' with heap := h3p }) (PySem.W.exm_tup2 kin LT et hb1) ?_
    rw [if_pos rfl]
    show codeAny _ _ _ _ _
    refine codeAny_handlers_suite_as ?_
    refine HandSPX.lands_againZ (s := { s' with heap := h3p }) flp fun h4 fl4 up4 => ?_
    have J4 : Inv X pins σ' H' { s' with heap := h4 } := J.landed nb fl4.1 (((up.trans up3).trans upp).trans up4) os ag
    obtain ⟨oe4, vs4, he4, hz4, hd4⟩ := fl4.there
    have S4 := J4.suite he4 hd4 na nL nF
    refine store_ok (X := X.suite a ((a, oe4) :: (X.pn ++ pins))) S4 hN hi (.inl hln) (v := V.ref a) rfl (fun s5 S5 => ?_) (.inr hln)
    refine wpAny_mono ((hsu a oe4 cls d (X.pn ++ pins) _ hz4 ⟨vs4, hd4⟩ (fun u2 s2 x2 => ?_)).run [] s5 (σ'.set i (some (.ref a))) H' { nx := fun σ' H' => D.nx (σ'.set i none) H', rt := D.rt, bk := fun σ' H' => D.bk (σ'.set i none) H', ct := fun σ' H' => D.ct (σ'.set i none) H' } ((L2H.suiteX_of S5).wish _) (hyes a na)) (fun f s6 hsp => ?_) fun x s6 z => z
    · obtain ⟨a2, B2, sI2, pn2, σ2, H2, cls2, d2, e2, I2, r2⟩ := x2
      exact named_out hs hf hex ok hN hi hln tk ⟨a2, B2, sI2, pn2, σ2, H2, cls2, d2, e2, I2.unwish, r2⟩
    · have hsp := SP.unwish hsp
      cases f with
      | next =>
        obtain ⟨σ6, H6, S6, q6⟩ := hsp
        exact gone_ok (L2H.unsuiteX S6 ok) hN hi hln fun s7 J7 => ⟨_, H6, J7, q6⟩
      | brk =>
        obtain ⟨σ6, H6, S6, q6⟩ := hsp
        exact gone_ok (L2H.unsuiteX S6 ok) hN hi hln fun s7 J7 => ⟨_, H6, J7, q6⟩
      | cont =>
        obtain ⟨σ6, H6, S6, q6⟩ := hsp
        exact gone_ok (L2H.unsuiteX S6 ok) hN hi hln fun s7 J7 => ⟨_, H6, J7, q6⟩
      | ret u =>
        obtain ⟨v6, σ6, H6, S6, r6, q6⟩ := hsp
        exact gone_ok (L2H.unsuiteX S6 ok) hN hi hln fun s7 J7 => ⟨v6, _, H6, J7, r6, q6⟩
  · cases f with
    | next =>
      obtain ⟨σ', H', J', q⟩ := hsp
      exact wpAny_execs_nil ⟨σ', H', J'.ofTry ok, q⟩
    | brk =>
      obtain ⟨σ', H', J', q⟩ := hsp
      exact ⟨σ', H', J'.ofTry ok, q⟩
    | cont =>
      obtain ⟨σ', H', J', q⟩ := hsp
      exact ⟨σ', H', J'.ofTry ok, q⟩
    | ret u =>
      obtain ⟨v, σ', H', J', r, q⟩ := hsp
      exact ⟨v, σ', H', J'.ofTry ok, r, q⟩
end

/-! ### errors whose context is None (L2N); an error that takes the place of the one that is handled -/
section
variable {P : Program} {w : World} {K : PySem.W.Frag} {mg : Str → Option Value} {base : Heap} {k : Nat} {f : Addr} {fd : FuncData} {ps : List Str}
theorem fun_okN {x qual : Str} {st : Stmt} {N : List Str} {sp : Sp} (F : Fun K x qual st f fd) (S : FnScope N ps (defScope st)) (len : ∀ vs H Q E, sp vs H Q E → vs.length = ps.length)
    (hbody : ∀ (cdv : Value) (A : Around) (outer : List Env) (s : Shared) (H : Hp) (vs : List V) (Q : VK) (E : XK), Room k (A.deeper (envOfC qual (defScope st) s.heap.objs.size f cdv)) → sp vs H Q E →
      ∃ t, PSs (cxOf (L2N.CX P w) P w K mg base N qual (defScope st) f cdv A outer s H E) (defBody st) t ∧ t { nx := fun _ H' => Q .non H', rt := Q } (L2.start N vs) H) : FnOk P w K mg base (L2N.CX P w) (k + 1) f fd ps sp := by
  obtain ⟨_, _, _, _, _, _, cd, _, _, rfl, lk, hc⟩ := F.ex
  exact fn_of lk hc S len (hbody cd)
theorem fun_okH {x qual : Str} {st : Stmt} {N : List Str} {sp : Sp} (F : Fun K x qual st f fd) (S : FnScope N ps (defScope st)) (len : ∀ vs H Q E, sp vs H Q E → vs.length = ps.length)
    (hbody : ∀ (cdv : Value) (A : Around) (outer : List Env) (s : Shared) (H : Hp) (vs : List V) (Q : VK) (E : XK) (p : Addr × Obj), L2H.Hot1 A p → L2H.RoomH k (A.deeper (envOfC qual (defScope st) s.heap.objs.size f cdv)) → sp vs H Q E →
      ∃ t, PSs (L2H.cxH CX0 P w K mg base N qual (defScope st) f cdv A outer s H E p) (defBody st) t ∧ t { nx := fun _ H' => Q .non H', rt := Q } (L2.start N vs) H) : L2H.FnH P w K mg base CX0 (k + 1) f fd ps sp := by
  obtain ⟨_, _, _, _, _, _, cd, _, _, rfl, lk, hc⟩ := F.ex
  exact L2H.fn_ofH lk hc S len (hbody cd)
/-- less is said of what flies -/
theorem fn_ofN {sp : Sp} (F : FnOk P w K mg base (L2N.CX P w) k f fd ps sp) : FnOk P w K mg base (L2.CX P w) k f fd ps sp where
  len := F.len
  run := fun A outer s H args us vs Q E hr he hb hv h => by
    refine codeAny_mono (F.run A outer s H args us vs Q E hr he hb hv h) fun r s' q => ?_
    cases r with
    | error e =>
      obtain ⟨a, B, H', cls, d, e1, fl, rest⟩ := q
      exact ⟨a, B, H', cls, d, e1, L2H.flyingZ_imp (fun o z => z.zc) fl, rest⟩
    | ok fl => cases fl <;> exact q
theorem fn_orN {sp0 sp1 : Sp} (F0 : FnOk P w K mg base CX0 k f fd ps sp0) (F1 : FnOk P w K mg base (L2N.CX P w) k f fd ps sp1) : FnOk P w K mg base (L2N.CX P w) k f fd ps (fun vs H Q E => sp0 vs H Q E ∨ sp1 vs H Q E) where
  len := fun vs H Q E h => h.elim (F0.len vs H Q E) (F1.len vs H Q E)
  run := fun A outer s H args us vs Q E hr he hb hv h => by
    rcases h with h | h
    · refine codeAny_mono (F0.run A outer s H args us vs Q E hr he hb hv h) fun r s' q => ?_
      cases r with
      | error e => exact False.elim q
      | ok fl => cases fl <;> exact q
    · exact F1.run A outer s H args us vs Q E hr he hb hv h
end
section
variable {X : Cx}
theorem pmk_05 {C : Addr} {bmB : List Value} {B newId initId : String} {x : Str} {p pos : Pos} (F : ExcBaseFacts B newId initId bmB) (q : PySem.W.excIn X.K C bmB newId = true) (gC : X.mg x = some (.ref C)) (kC : PySem.W.keepIn X.K (.ref C) = true) (r : Raises X (.ref C)) (hg : Gl X x)
    (hdb : (x == ("__debug__" : Str)) = false := by decide) : L2H.PMk5 X (.Call (.Name x p) [] [] pos) (fun _ H Q => Q (.ref C) none H) := by
  intro pins s σ H Q I h
  refine wpAny_Call_Name_kw (ld_glob I hg gC (PySem.W.callWith_K0 (first := []) I.kIn kC ?_) hdb)
  show wpAny _ _ (call (.ref C) []) _ _ _
  obtain ⟨bm, N, nm, qn, bs, hdct, sn, sub, ab, col, dd, k0, k1, k2, k3, k5, mN, hC, hN, hni, T⟩ := exc_obj I.kIn q
  exact wpAny_call_exc_subT F T hC hN hni (fun h' e hm => L2H.mk_of5 I hm r h (I.hok.gone hm.new)) (by show 0 ≤ sizeLine; decide)
/-- raise C() -/
theorem ps_raise0N {W : WX} {C : Addr} {x : Str} {p pos pos2 : Pos} (hc : X.calm = true) (tk : L2N.Takes X W) (N : XcN X.K X.mg x C) (R : XcR X.K C) (hg : Gl X x) (hdb : (x == ("__debug__" : Str)) = false := by decide) :
    PS X (.Raise (some (.Call (.Name x p) [] [] pos)) none pos2) (fun _ σ H => W (.ref C) none σ H) :=
  L2N.ps_raise hc tk (pmk_05 PySem.F.excBase_ValueError R.xP N.g R.kP (raises_own N.ba N.ty) hg hdb).pmk
/-- C(e) while an error is handled -/
theorem pmk_1H {x f : Str} {C fI : Addr} {k : Nat} {fd : FuncData} {ps : List Str} {p pos : Pos} {e : Expr} {ta : TA} (N : XcN X.K X.mg x C) (I : XcI X.K C fI f) (F1 : L2H.FnH X.prog X.w X.K X.mg X.base CX0 k fI fd ps (sp_exc_init X.K C f)) (hr : L2H.RoomH (k + 1) X.A) (hc : L2H.HotC X) (hb : Binds X.K fd ps [])
    (hg : Gl X x) (ha : PA X [e] ta) (hdb : (x == ("__debug__" : Str)) = false := by decide) (he : starEach (e :: []) X.env = (false, eval e X.env) :: starEach [] X.env := by rfl) (hpl : (backTo pos (starEach [] X.env)).any (·.1) = false := by rfl) :
    L2H.PMk5 X (.Call (.Name x p) [e] [] pos) (tMk1 C f ta) := by
  intro pins s σ H Q J h
  refine L2H.pmk5_oexH I.ox I.iC I.tI F1 hr hc hb (fun _ _ _ _ _ _ _ h => h.elim) hg N.g (pa_mono ha) hdb he hpl pins s σ H Q J ⟨_, h, fun vs H1 h1 => ?_⟩
  obtain ⟨v, rfl, q⟩ := h1
  refine ⟨by show 1 ≤ 1000; decide, fun a na => ⟨a, v, rfl, upd_same, fun dx nd ne => ⟨rfl, dx, [(f, v)], upd_same, ?_, ?_, ?_⟩⟩⟩
  · rw [upd_ne ne, upd_same]
  · rw [upd_ne ne] at nd
    exact nd
  · rw [upd_ne ne] at nd
    have e2 : upd H1 dx (.xd [(f, v)]) = upd (del (upd (upd (upd H1 a (exo a C none)) dx (exd dx [(f, v)])) a (exo a C (some dx))) a) dx (.xd [(f, v)]) := by
      funext b
      by_cases hb : b = dx
      · rw [hb, upd_same, upd_same]
      · by_cases hA : b = a
        · rw [upd_ne hb, upd_ne hb, hA, del_same, na]
        · rw [upd_ne hb, upd_ne hb, del_ne hA, upd_ne hA, upd_ne hb, upd_ne hA]
    rw [← e2]
    exact q dx nd
theorem ps_with {st : Stmt} {t : TS} {p : Prop} (h : p → PS X st t) : PS X st (fun D σ H => p ∧ t D σ H) := ⟨fun pins s σ H D I q => (h q.1).run pins s σ H D I q.2⟩
def tFrom (K : PySem.W.Frag) (C : Addr) (f : Str) (i : Nat) (ta : TA) (Wout : WX) (a : Addr) (cls : Value) (_ : Option Addr) : TS := fun _ σ H => (PySem.W.subIn K cls (.type "BaseException") = some true ∧ PySem.W.typeIn K cls = some (.type "type")) ∧
  σ[i]? = some (some (V.ref a)) ∧ tMk1 C f ta σ H fun cls' d' H' => Wout cls' d' (σ.set i none) H'
/-- try: body; except (A, B) as n: raise C(e) from n -/
theorem ps_reject {xA xB n x f : Str} {cA cB : Value} {C fI : Addr} {k i : Nat} {fd : FuncData} {ps : List Str} {body : List Stmt} {e : Expr} {pa pb pt hpos np p pos pos2 tpos : Pos} {kt : Nat} {tb : WX → TS} {ta : TA} {Wout : WX} (hs : X.stack = X.env :: X.outer) (hf : X.env.frame = some X.env.locals) (hex : X.ex = []) (hN : X.N.Nodup) (hi : X.N[i]? = some n) (hln : X.env.kindOf n = some .local)
    (nA : Names X xA cA) (nB : Names X xB cB) (tk : Takes X Wout) (hb : ∀ (W : WX) (pn : List (Addr × Obj)) (xe : Value → Shared → Prop), L2N.Takes (X.tr pn xe) W → PassesOwn (model X.prog X.w) X.A X.env xe → PSs (X.tr pn xe) body (tb W))
    (NN : XcN X.K X.mg x C) (I : XcI X.K C fI f) (F1 : L2H.FnH X.prog X.w X.K X.mg X.base CX0 k fI fd ps (sp_exc_init X.K C f)) (hr : Room (k + 1) X.A) (hbb : Binds X.K fd ps []) (hg : Gl X x)
    (ha : ∀ (a : Addr) (oe : Obj) (pn : List (Addr × Obj)) (xe : Value → Shared → Prop), PA ((L2H.suiteX X a ((a, oe) :: pn)).wish xe) [e] ta)
    (hv : Vis X.env.scope n) (hdn : (n == ("__debug__" : Str)) = false := by decide) (hcn : (n == ("__classdict__" : Str)) = false := by decide) (hdb : (x == ("__debug__" : Str)) = false := by decide) (he : starEach (e :: []) X.env = (false, eval e X.env) :: starEach [] X.env := by rfl) (hpl : (backTo pos (starEach [] X.env)).any (·.1) = false := by rfl) :
    PS X (.Try body [.ExceptHandler (some (.Tuple [.Name xA pa, .Name xB pb] kt pt)) (some n) [.Raise (some (.Call (.Name x p) [e] [] pos)) (some (.Name n np)) pos2] hpos] [] [] tpos) (fun D σ H => tb (wAs2 X.K [cA, cB] i (tFrom X.K C f i ta Wout) D) D σ H) := by
  refine ps_try_asX2 hs hf hex hN hi hln nA nB tk hb fun a oe cls d pn xe hz hd tk2 => ?_
  obtain ⟨vs, hd⟩ := hd
  refine pss_one (ps_with fun hR => ?_)
  have hot : L2H.Hot1 (X.A.mark (some (.ref a))) (a, oe) := ⟨rfl, vs, hd, hz.2.2 vs hd⟩
  refine ps_raiseHF (X := (L2H.suiteX X a ((a, oe) :: pn)).wish xe) (p := (a, oe)) List.mem_cons_self hot ?_ tk2 (pmk_1H NN I F1 (L2H.roomH_mark hr _) ⟨(a, oe), hot, List.mem_cons_self⟩ hbb hg (ha a oe pn xe) hdb he hpl) hi hv hdn hcn
  show Raises _ oe.cls
  rw [hz.1]
  exact raises_own hR.1 hR.2
end

/-! ### an error whose context is an error without a context: its way out of a def, its landing in a finally -/
def Zx (c : Addr) (cls : Value) (d : Option Addr) : Obj → Prop := fun o => o.cls = cls ∧ o.dict = d ∧ ∀ vs : Array Value, o.data = .fields vs → vs[2]? = some (.ref c)
theorem Zx.zc {c : Addr} {cls : Value} {d : Option Addr} {o : Obj} (h : Zx c cls d o) : Zc cls d o := ⟨h.1, h.2.1⟩
theorem Zx.steady {c : Addr} {cls : Value} {d : Option Addr} : PXN.Steady1 (Zx c cls d) := fun o v h => by
  refine ⟨PXN.steady_cls o v h.1, PXN.steady_dict o v h.2.1, ?_⟩
  obtain ⟨oc, od, dt, sl⟩ := o
  have h2 := h.2.2
  cases dt with
  | fields vs0 =>
    intro vs e
    obtain rfl : vs0.setIfInBounds 1 v = vs := Data.fields.inj e
    exact HotX.set_other (by decide) (h2 vs0 rfl)
  | _ =>
    intro vs e
    first
      | exact Data.noConfusion e
      | cases e
/-- c's error stands on the ground, nobody knows it, its context is None -/
def Two (B : Heap) (H : Hp) (c : Addr) : Prop := H c = none ∧ ∃ (oc : Obj) (vs : Array Value), B.get? c = some oc ∧ oc.data = .fields vs ∧ vs[2]? = some .none
def XE2 (X : Cx) (W : WX) (u : Value) (s' : Shared) : Prop :=
  ∃ (a : Addr) (B : Heap) (sI : Shared) (pins : List (Addr × Obj)) (σ : L2.St) (H : Hp) (cls : Value) (d : Option Addr) (c : Addr),
    u = .ref a ∧ Inv X pins σ H sI ∧ (∀ b o, sI.heap.get? b = some o → b ∉ frs X.stack → B.get? b = some o) ∧ sI.heap.UpToSlots s'.heap ∧
      Sky B X.stack a (Zx c cls d) X.env.locals s'.heap ∧ H a = none ∧ s'.os = sI.os ∧ AllBare s'.gens ∧ Two B H c ∧ W cls d σ H
def Takes2 (X : Cx) (W : WX) : Prop := ∀ u s', XE2 X W u s' → X.xe u s'
def CX2 (P : Program) (w : World) (outer : List Env) (H : Hp) (s : Shared) (E : XK) (u : Value) (s' : Shared) : Prop :=
  ∃ (a : Addr) (B : Heap) (H' : Hp) (cls : Value) (d : Option Addr) (c : Addr), u = .ref a ∧ HandSPX.FlyingZ B outer a (Zx c cls d) s'.heap ∧ HOk P w H' B ∧ UB (frs outer) H H' s.heap B s'.heap ∧ H' a = none ∧ s'.os = s.os ∧ AllBare s'.gens ∧ Two B H' c ∧ E cls d H'
section
variable {X : Cx} {pins : List (Addr × Obj)} {σ : L2.St} {H : Hp} {sI s s' : Shared} {W : WX} {E : XK}
theorem XE2.new {a c : Addr} {oe oc : Obj} {vs vc : Array Value} {cls : Value} {d : Option Addr} (I : Inv X pins σ H sI) (k : ∀ b o, sI.heap.get? b = some o → s'.heap.get? b = some o) (hne : sI.heap.get? a = none) (he : s'.heap.get? a = some oe)
    (hz : Zx c cls d oe) (hd : oe.data = .fields vs) (h1 : vs[1]? = some .none) (na : H a = none) (os : s'.os = sI.os) (ag : AllBare s'.gens) (hc : sI.heap.get? c = some oc) (fc : c ∉ frs X.stack) (nc : H c = none) (dc : oc.data = .fields vc) (cc : vc[2]? = some .none) (w : W cls d σ H) : XE2 X W (.ref a) s' := by
  refine ⟨a, PySem.W.hideAll sI.heap (frs X.stack), sI, pins, σ, H, cls, d, c, rfl, I, fun b o e hb => PySem.W.hideAll_get _ e hb, Heap.UpToSlots.of_keeps k, .inl ⟨fun b o e => k b o (PySem.W.of_hideAll _ e), ?_, ?_, oe, vs, he, hz, hd, h1⟩, na, os, ag, ⟨nc, oc, vc, PySem.W.hideAll_get _ hc fc, dc, cc⟩, w⟩
  · cases q : (PySem.W.hideAll sI.heap (frs X.stack)).get? a with
    | none => rfl
    | some o =>
      rw [PySem.W.of_hideAll _ q] at hne
      cases hne
  · exact Heap.FunFrames.of_keeps (fun b o e _ => ⟨o, k b o e, rfl⟩) (funFrames_none I.stack fun b hb => PySem.W.hideAll_none _ hb)
/-- a call let it out -/
theorem XE2.of_call (I : Inv X pins σ H s) (hW : ∀ cls d H', E cls d H' → W cls d σ H') {u : Value} (z : CX2 X.prog X.w X.stack H s E u s') : XE2 X W u s' := by
  obtain ⟨a, B, H', cls, d, c, rfl, fl, hok, ub, na, os, ag, two, hE⟩ := z
  obtain ⟨G, g1, g2⟩ := restrict s'.heap fun b => (B.get? b).isSome || decide (b ∈ frs X.stack)
  have st : B.StaysIn s'.heap := fl.1
  have gB : ∀ b o, B.get? b = some o → G.get? b = some o := fun b o e => by
    rw [g1 b (by rw [e]; rfl)]
    exact st b o e
  have gF : ∀ b, b ∈ frs X.stack → G.get? b = s'.heap.get? b := fun b hb => g1 b (by rw [decide_eq_true hb, Bool.or_true])
  have og : ∀ b o, G.get? b = some o → s'.heap.get? b = some o ∧ ((B.get? b).isSome = true ∨ b ∈ frs X.stack) := fun b o e => by
    cases q : ((B.get? b).isSome || decide (b ∈ frs X.stack)) with
    | false =>
      rw [g2 b q] at e
      cases e
    | true =>
      rw [g1 b q] at e
      rcases Bool.or_eq_true_iff.mp q with q | q
      · exact ⟨e, .inl q⟩
      · exact ⟨e, .inr (of_decide_eq_true q)⟩
  refine ⟨a, B, { s with heap := G, gens := s'.gens, drawn := s'.drawn, toks := s'.toks }, pins, σ, H', cls, d, c, rfl, ?_, fun b o e hb => ?_, Heap.UpToSlots.of_keeps fun b o e => (og b o e).1, .inr (.inl fl), na, os, ag, two, hW _ _ _ hE⟩
  · refine I.call (ch := []) ⟨fun b o e n hb _ => gB b o (ub.keep b o e n hb), fun b o e n hb _ => ?_, fun b o e n _ => ub.free b o e n, fun b o e _ => ?_, ub.tups, ub.frzs, ub.tbls⟩ (hok.kept gB) ag (fun _ z => nomatch z)
    · obtain ⟨sl, q⟩ := ub.slot b o e hb
      exact ⟨sl, (gF b hb).trans q⟩
    · by_cases hb : b ∈ frs X.stack
      · obtain ⟨sl, q⟩ := ub.slot b o e hb
        exact ⟨_, (gF b hb).trans q⟩
      · obtain ⟨o', q⟩ := ub.there b o e hb
        exact ⟨o', gB b o' q⟩
  · obtain ⟨e', h⟩ := og b o e
    rcases h with h | h
    · obtain ⟨o', q⟩ := Option.isSome_iff_exists.mp h
      have z := st b o' q
      rw [e'] at z
      cases z
      exact q
    · exact absurd h hb
/-- it leaves a def -/
theorem XE2.leave (hs : X.stack = X.env :: X.outer) (hf : X.env.frame = some X.env.locals) (hex : X.ex = []) {E₁ : Value → Shared → Prop} (hW : ∀ cls d σ H, W cls d σ H → E cls d H) {u : Value} (x : XE2 X W u s') :
    wpAny (model X.prog X.w) X.A (leaving X.env u) (fun _ s'' => CX2 X.prog X.w X.outer X.H_0 X.s_0 E u s'') E₁ s' := by
  obtain ⟨a, B, sI, pins, σ, H, cls, d, c, rfl, I, nb, up, sky, na, os, ag, two, w⟩ := x
  have hfr : X.A.frames = some (X.env :: X.outer) := I.ok.frames.trans (congrArg some hs)
  have nx : ∀ b, b ∉ X.ex := fun b hb => by
    rw [hex] at hb
    cases hb
  have nst : ∀ b o, X.s_0.heap.get? b = some o → b ∉ X.fs → b ∉ frs X.stack := fun b o e hb hm => by
    rcases List.mem_cons.mp (I.stkSub b hm) with z | z
    · have h1 := Heap.lt_size e
      rw [z] at h1
      exact Nat.lt_irrefl _ (Nat.lt_of_lt_of_le h1 I.ok.above)
    · exact hb z
  have fin : ∀ h', HandSPX.FlyingZ B X.outer a (Zx c cls d) h' → s'.heap.UpToSlots h' → CX2 X.prog X.w X.outer X.H_0 X.s_0 E (.ref a) { s' with heap := h' } := fun h' fl up' => by
    refine ⟨a, B, H, cls, d, c, rfl, fl, I.inGround nb, ⟨fun b o e n hb => nb b o (I.base.keep b o e n hb (nx b)) (nst b o e hb), fun b o e hb => ?_, fun b o e n => I.base.free b o e n (nx b), fun b o e hb => ?_, I.base.tups, I.base.frzs, I.base.tbls⟩, na, os.trans I.os, ag, two, hW _ _ _ _ w⟩
    · obtain ⟨_, o₀, e₀, nf⟩ := I.ok.funs.mem hb
      rw [e] at e₀
      cases e₀
      obtain ⟨_, e1⟩ := I.base.slot b o e (I.ok.frf b hb) hb (nx b)
      obtain ⟨_, e2⟩ := up b _ e1 nf
      obtain ⟨s3, e3⟩ := up' b _ e2 nf
      exact ⟨s3, e3⟩
    · obtain ⟨o', e1⟩ := I.base.there b o e (nx b)
      exact ⟨o', nb b o' e1 (nst b o e hb)⟩
  rw [hs] at sky
  rcases sky with ⟨hB, hn, hl, oe, vs, he, hz, hd, h1⟩ | fl | hd
  · exact PXN.leaving_firstZ Zx.steady hfr hl hf he hB hn hd h1 hz fin
  · exact PXN.leaves_onZ Zx.steady hfr hf fl fin
  · exact HandSPX.leaves_heldZ hf hd fin
theorem takes2_of (hs : X.stack = X.env :: X.outer) (hf : X.env.frame = some X.env.locals) (hex : X.ex = []) {E₁ : Value → Shared → Prop}
    (hx : X.xe = fun e s' => wpAny (model X.prog X.w) X.A (leaving X.env e) (fun _ s'' => CX2 X.prog X.w X.outer X.H_0 X.s_0 E e s'') E₁ s') : Takes2 X (fun cls d _ H => E cls d H) := fun u s' x => by
  rw [hx]
  exact XE2.leave (W := fun cls d _ H => E cls d H) (E := E) hs hf hex (fun _ _ _ _ h => h) x
theorem passAt2 (tk : Takes2 X W) (σ : L2.St) : PassesAt (CX2 X.prog X.w) X σ (WE W σ) := fun _ _ _ e s' I z => tk e s' (XE2.of_call I (fun _ _ _ h => h) z)
theorem sky_look1 {B : Heap} {M : Model} {A : Around} {E : Value → Shared → Prop} {env : Env} {outer : List Env} {L a : Addr} {Z : Obj → Prop} {Q : Unit → Shared → Prop} (hZ : PXN.Steady1 Z) (hfr : A.frames = some (env :: outer)) (hf : env.frame = some L) (sky : Sky B (env :: outer) a Z L s.heap)
    (hQ : ∀ h', HandSPX.HeldZ B (env :: outer) a Z L h' → s.heap.UpToSlots h' → Q () { s with heap := h' }) : wpAny M A (noteFrame (.ref a) env) Q E s := by
  rcases sky with ⟨hB, hn, hl, oe, vs, he, hz, hd, h1⟩ | fl | hh
  · exact PXN.look_newZ hZ hfr hl hf he hB hn hd h1 hz hQ
  · exact PXN.looks_onZ hZ hfr hf fl hQ
  · exact HandSPX.againZ hf hh.2.2.2 (hQ s.heap hh (Heap.UpToSlots.refl _))
end
/-- FnOk over CX2 -/
theorem fun_ok2 {P : Program} {w : World} {K : PySem.W.Frag} {mg : Str → Option Value} {base : Heap} {k : Nat} {f : Addr} {fd : FuncData} {ps : List Str} {x qual : Str} {st : Stmt} {N : List Str} {sp : Sp} (F : Fun K x qual st f fd) (S : FnScope N ps (defScope st)) (len : ∀ vs H Q E, sp vs H Q E → vs.length = ps.length)
    (hbody : ∀ (cdv : Value) (A : Around) (outer : List Env) (s : Shared) (H : Hp) (vs : List V) (Q : VK) (E : XK), Room k (A.deeper (envOfC qual (defScope st) s.heap.objs.size f cdv)) → sp vs H Q E →
      ∃ t, PSs (cxOf (CX2 P w) P w K mg base N qual (defScope st) f cdv A outer s H E) (defBody st) t ∧ t { nx := fun _ H' => Q .non H', rt := Q } (L2.start N vs) H) : FnOk P w K mg base (CX2 P w) (k + 1) f fd ps sp := by
  obtain ⟨_, _, _, _, _, _, cd, _, _, rfl, lk, hc⟩ := F.ex
  exact fn_of lk hc S len (hbody cd)
section
variable {X : Cx}
theorem ps_raiseHF2 {W : WX} {n : Str} {e : Expr} {t : L2.St → Hp → XK → Prop} {i : Nat} {np pos : Pos} {p : Addr × Obj} (hp : p ∈ X.pn) (hh : L2H.Hot1 X.A p) (hR : Raises X p.2.cls) (tk : Takes2 X W) (he : L2H.PMk5 X e t) (hN : X.N[i]? = some n) (hv : Vis X.env.scope n)
    (hd : (n == ("__debug__" : Str)) = false := by decide) (hcd : (n == ("__classdict__" : Str)) = false := by decide) :
    PS X (.Raise (some e) (some (.Name n np)) pos) (fun (_ : Ends) (σ : L2.St) (H : Hp) => σ[i]? = some (some (V.ref p.1)) ∧ t σ H fun cls d H' => W cls d σ H') := by
  refine ⟨fun pins s σ H D I h => ?_⟩
  obtain ⟨hs, h⟩ := h
  obtain ⟨hh1, v1, e1, c1⟩ := id hh
  show wpAny (model X.prog X.w) X.A (do standAt pos; raiseStmt X.env (some (do let v ← eval e X.env; standAt pos; pure v)) (some (do let v ← eval (.Name n np) X.env; standAt pos; pure v))) (SP X pins D) X.xe s
  refine wpAny_bind (wpAny_standAt ?_)
  refine raise_made_from (x1 := p.1) ?_
  refine wpAny_bind (wpAny_mono (he pins s σ H (fun cls d H' => W cls d σ H') I h) (fun u s1 hu => ?_) fun _ _ z => z)
  refine wpAny_bind (wpAny_standAt (wpAny_pure ?_))
  obtain ⟨⟨a, oe, vs, sI, H', cls, d, rfl, J, k, hne, ha, hz, hdt, h1, na, os, ag, r, q⟩, h5⟩ := hu
  have hi := h5 a oe vs rfl ha hdt
  have nab : ∀ {b : Addr} {u : Obj}, sI.heap.get? b = some u → a ≠ b := fun z y => by
    rw [← y, hne] at z
    cases z
  have k4 : ∀ b o, sI.heap.get? b = some o → (fromH s1.heap a p.1).get? b = some o := fun b o z => by
    rw [fromH_other (nab z)]
    exact k b o z
  have r1 := (r (model X.prog X.w) s1.heap (J.kIn.keeps k)).1
  have r2 := (r (model X.prog X.w) (fromH s1.heap a p.1) (J.kIn.keeps k4)).2
  have PP := J.pin p (List.mem_append_left pins hp)
  have P1 := PP.1
  have P2 := PP.2.1
  have fcP : p.1 ∉ frs X.stack := fun hm => (List.mem_cons.mp (J.stkSub p.1 hm)).elim PP.2.2.1 PP.2.2.2.1
  have hc4 := fromH_at (c := p.1) ha hdt
  have h12 : (((vs.setIfInBounds 3 (.ref p.1)).setIfInBounds 4 (.bool true)).setIfInBounds 2 (.ref p.1))[1]? = some .none := HotX.set_other (by decide) (HotX.set_other (by decide) (HotX.set_other (by decide) h1))
  have J1 : Inv X pins σ H' s1 := J.landed (B := sI.heap) (fun _ _ z _ => z) k (Heap.UpToSlots.of_keeps k) os ag
  refine ⟨a, oe, vs, cls, p.2, v1, rfl, ha, hz.1, hdt, h1, hi, (nab P1).symm, ⟨hh1, p.2, v1, k _ _ P1, e1, c1⟩, k _ _ P1, e1, (hR (model X.prog X.w) s1.heap (J.kIn.keeps k)).1, ?_, r1, r2, ?_⟩
  · refine wpAny_bind (ld_var J1 hN hv hs (fun u ru => ?_) hd hcd)
    obtain rfl : u = Value.ref p.1 := ru
    exact wpAny_bind (wpAny_standAt (wpAny_pure ⟨rfl, rfl⟩))
  · refine tk _ _ (XE2.new (c := p.1) (oc := p.2) (vc := v1) (vs := ((vs.setIfInBounds 3 (.ref p.1)).setIfInBounds 4 (.bool true)).setIfInBounds 2 (.ref p.1)) J (fun b u z => ?_) hne (Heap.get?_update_self (Obj.mapFields fun x => x.setIfInBounds 2 (.ref p.1)) hc4.1 (Obj.isFreed_of_fields (Obj.data_mapFields hc4.2 fun x => x.setIfInBounds 2 (.ref p.1)))) ⟨?_, ?_, fun zs ez => ?_⟩ (Obj.data_mapFields hc4.2 fun x => x.setIfInBounds 2 (.ref p.1)) h12 na os ag P1 fcP P2 e1 c1 q)
    · show Heap.get? _ b = some u
      rw [Heap.get?_update_other _ _ (nab z)]
      exact k4 b u z
    · rw [Obj.cls_mapFields, Obj.cls_mapFields, Obj.cls_mapFields]
      exact hz.1
    · rw [HandSPX.dict_mapFields, HandSPX.dict_mapFields, HandSPX.dict_mapFields]
      exact hz.2.1
    · rw [Obj.data_mapFields hc4.2 fun x => x.setIfInBounds 2 (.ref p.1)] at ez
      cases ez
      rw [Array.getElem?_setIfInBounds_self_of_lt (by rw [HotX.set_size, HotX.set_size]; omega)]
end
section
variable {X : Cx}
/-- it leaves: the frame is noted, the name goes, on it flies -/
theorem named_out2 {Wout : WX} {i : Nat} {n : Str} {hpos : Pos} {a : Addr} {q : Addr × Obj} {pins : List (Addr × Obj)} {u2 : Value} {s2 : Shared} {E1 E2 : Value → Shared → Prop} {α : Type} {F : α → Shared → Prop} (hs : X.stack = X.env :: X.outer) (hf : X.env.frame = some X.env.locals) (hex : X.ex = []) (ok : X.Ok) (hN : X.N.Nodup) (hi : X.N[i]? = some n) (hln : X.env.kindOf n = some .local) (tk : Takes2 X Wout)
    (xx : XE2 (L2H.suiteX X a (q :: (X.pn ++ pins))) (fun cls d σ H => Wout cls d (σ.set i none) H) u2 s2) :
    wpAny (model X.prog X.w) (X.A.mark (some (.ref a))) (noteFrame u2 X.env) (fun _ s3 => wpAny (model X.prog X.w) (X.A.mark (some (.ref a))) (do bindName X.env n .none; unbindBehindTheSuite X.env n hpos) (fun _ s4 => wpAny (model X.prog X.w) (X.A.mark (some (.ref a))) (PySem.passOn "try.except-as" u2 X.env : Sem α) F
      (notedBy (model X.prog X.w) (X.A.mark (some (.ref a))) X.env fun x s' => cameBackBy (model X.prog X.w) X.A X.env X.xe x s') s4) E1 s3) E2 s2 := by
  obtain ⟨a2, B, sI, pn2, σ2, H2, cls, d, cc, rfl, I2, nb, up, sky, na, os, ag, two, w⟩ := xx
  obtain ⟨ncc, occ, vcc, Bcc, dcc, kcc⟩ := two
  have J : Inv X pins σ2 H2 sI := L2H.unsuiteX I2 ok
  have hfr : (X.A.mark (some (.ref a))).frames = some (X.env :: X.outer) := ok.frames.trans (congrArg some hs)
  have sky : Sky B (X.env :: X.outer) a2 (Zx cc cls d) X.env.locals s2.heap := by
    have z : Sky B X.stack a2 (Zx cc cls d) X.env.locals s2.heap := sky
    rw [hs] at z
    exact z
  have nb : ∀ b o, sI.heap.get? b = some o → b ∉ frs X.stack → B.get? b = some o := nb
  have mLf : X.env.locals ∈ frs X.stack := by
    rw [hs]
    exact List.mem_filterMap.mpr ⟨X.env, List.mem_cons_self, hf⟩
  refine sky_look1 Zx.steady hfr hf sky fun h3 hh3 up3 => ?_
  obtain ⟨stB, nB, ff, oe, vs, T, oT, ts, r1, r2, r3, r4, r5, r6, r7, r8, r9⟩ := hh3
  have J3 : Inv X pins σ2 H2 { s2 with heap := h3 } := J.landed nb stB (up.trans up3) os ag
  -- neither of the two is known
  have ff2 := ff
  rw [← hs] at ff2
  have notFr : ∀ {b : Addr} {o : Obj} {us : Array Value}, h3.get? b = some o → o.data = .fields us → b ∉ frs X.stack := fun {b o us} e dd m => by
    obtain ⟨_, o', e', nf⟩ := Heap.FunFrames.mem ff2 m
    rw [e] at e'
    cases e'
    exact nf us dd
  have na3 : a2 ∉ frs X.stack := notFr r1 r3
  have nT3 : T ∉ frs X.stack := notFr r7 r8
  have newI : ∀ {b : Addr}, b ∉ frs X.stack → B.get? b = none → sI.heap.get? b = none := fun {b} n z => by
    cases e : sI.heap.get? b with
    | none => rfl
    | some o =>
      rw [nb b o e n] at z
      cases z
  have old : ∀ {b : Addr}, sI.heap.get? b = none → X.s_0.heap.get? b = none ∧ (∀ p ∈ X.pn ++ pins, p.1 ≠ b) := fun {b} z => by
    refine ⟨?_, fun p hp e => ?_⟩
    · cases e : X.s_0.heap.get? b with
      | none => rfl
      | some o =>
        obtain ⟨o', e'⟩ := J.base.there b o e (by rw [hex]; exact List.not_mem_nil)
        rw [z] at e'
        cases e'
    · have := (J.pin p hp).1
      rw [e, z] at this
      cases this
  have oa := old (newI na3 nB)
  have oT' := old (newI nT3 r5)
  have nLa : a2 ≠ X.env.locals := fun z => na3 (z ▸ mLf)
  have nLT : T ≠ X.env.locals := fun z => nT3 (z ▸ mLf)
  refine gone_ok2 J3 hN hi hln fun s4 J4 sb eg eo => ?_
  have sb : Heap.SameBut X.env.locals h3 s4.heap := sb
  have e1 : s4.heap.get? a2 = some oe := (sb.2 a2 nLa).trans r1
  have e2 : s4.heap.get? T = some oT := (sb.2 T nLT).trans r7
  obtain ⟨mL, ⟨oL, es, ep, eL, dL, _⟩, _⟩ := id J4.loc
  have dL' : ∀ us, oL.data ≠ .fields us := fun us z => by
    rw [dL] at z
    cases z
  -- the ground without them, and without the frames
  obtain ⟨G, g1, g2⟩ := restrict s4.heap fun b => decide (b ∉ [a2, T])
  obtain ⟨B', b1, b2⟩ := restrict s4.heap fun b => decide (b ∉ [a2, T]) && decide (b ∉ frs X.stack)
  have hG : ∀ b, b ∉ [a2, T] → G.get? b = s4.heap.get? b := fun b n => g1 b (decide_eq_true n)
  have JG : Inv X pins (σ2.set i none) H2 { s4 with heap := G } := Inv.drop J4 hG (HOk.kept (Inv.inGround J nb) fun b u e => (hG b (fun m => by
    rcases List.mem_cons.mp m with rfl | m
    · rw [nB] at e
      cases e
    · rw [List.mem_singleton.mp m, r5] at e
      cases e)).trans ((sb.2 b (fun z => by
    rw [z, (Heap.FunFrames.mem ff2 mLf).1] at e
    cases e)).trans (stB b u e))) fun b hb => by
    rcases List.mem_cons.mp hb with rfl | hb
    · exact ⟨oa.1, nLa, ⟨_, _, e1, r3⟩, oa.2⟩
    · rw [List.mem_singleton.mp hb]
      exact ⟨oT'.1, nLT, ⟨_, _, e2, r8⟩, oT'.2⟩
  have subG : ∀ b o, G.get? b = some o → s4.heap.get? b = some o ∧ b ∉ [a2, T] := fun b o e => by
    by_cases c : b ∉ [a2, T]
    · exact ⟨(hG b c).symm.trans e, c⟩
    · rw [g2 b (decide_eq_false c)] at e
      cases e
  have subB : ∀ b o, B'.get? b = some o → s4.heap.get? b = some o := fun b o e => by
    cases c : decide (b ∉ [a2, T]) && decide (b ∉ frs X.stack) with
    | true => exact (b1 b c).symm.trans e
    | false =>
      rw [b2 b c] at e
      cases e
  have nB' : ∀ b o, G.get? b = some o → b ∉ frs X.stack → B'.get? b = some o := fun b o e n => by
    obtain ⟨e', m⟩ := subG b o e
    exact (b1 b (by rw [decide_eq_true m, decide_eq_true n]; rfl)).trans e'
  have outB : ∀ {b : Addr}, b ∈ [a2, T] → B'.get? b = none := fun {b} m => b2 b (by rw [decide_eq_false (fun z => z m)]; rfl)
  have frB : ∀ b ∈ frs X.stack, B'.get? b = none := fun b m => b2 b (by rw [decide_eq_false (p := b ∉ frs X.stack) (fun z => z m), Bool.and_false])
  have ccF : cc ∉ frs X.stack := fun m => by
    have z := (Heap.FunFrames.mem ff2 m).1
    rw [Bcc] at z
    cases z
  have ccS : cc ∉ [a2, T] := fun m => by
    rcases List.mem_cons.mp m with z | m
    · rw [z, nB] at Bcc
      cases Bcc
    · rw [List.mem_singleton.mp m, r5] at Bcc
      cases Bcc
  have B2cc : B'.get? cc = some occ := (b1 cc (by rw [decide_eq_true ccS, decide_eq_true ccF]; rfl)).trans ((sb.2 cc (fun z => ccF (z ▸ mLf))).trans (stB _ _ Bcc))
  have ff4 : s4.heap.FunFrames B' (X.env :: X.outer) := frames_upd sb eL dL' (by rw [← hs]; exact frB) ff
  have nbT : B'.get? T = none := outB (List.mem_cons_of_mem _ List.mem_cons_self)
  have nba : B'.get? a2 = none := outB List.mem_cons_self
  have upG : G.UpToSlots s4.heap := Heap.UpToSlots.of_keeps fun b o e => (subG b o e).1
  unfold PySem.passOn
  refine wpAny_bind (wpAny_field e1 r3 r4 ?_)
  rw [if_neg (show ¬ ((Value.ref T == Value.none) = true) from by simp)]
  have fin : wpAny (model X.prog X.w) (X.A.mark (some (.ref a))) (setFlight (.ref a2) X.env.frame) (fun _ t4 => wpAny (model X.prog X.w) (X.A.mark (some (.ref a))) (throw (.ref a2) : Sem α) F
      (notedBy (model X.prog X.w) (X.A.mark (some (.ref a))) X.env fun x s' => cameBackBy (model X.prog X.w) X.A X.env X.xe x s') t4)
      (notedBy (model X.prog X.w) (X.A.mark (some (.ref a))) X.env fun x s' => cameBackBy (model X.prog X.w) X.A X.env X.xe x s') s4 := by
    rw [hf]
    refine HandSPX.setFlight_anyZ (base := B') (l := X.env :: X.outer) (Z := Zx cc cls d) subB ff4 ⟨oe, vs, T, oT, ts, e1, r2, r3, r4, nbT, r6, e2, r8, r9⟩ fun h5 k1 k2 k3 up5 => wpAny_throw ?_
    refine HandSPX.againZ hf k3 ?_
    obtain ⟨oe5, vs5, T5, oT5, ts5, f1, f2, f3, f4, f5, f6, f7, f8, f9⟩ := id k3
    unfold PySem.cameBackBy
    refine wpAny_bind (wpAny_field f1 f3 f4 ?_)
    rw [if_neg (show ¬ ((Value.ref T5 == Value.none) = true) from by simp)]
    rw [hf]
    have last : wpAny (model X.prog X.w) X.A (setFlight (.ref a2) (some X.env.locals)) (fun _ s'' => X.xe (.ref a2) s'') X.xe { s4 with heap := h5 } := by
      refine HandSPX.setFlight_anyZ (base := B') (l := X.env :: X.outer) (Z := Zx cc cls d) k1 k2 k3 fun h6 l1 l2 l3 up6 => ?_
      refine tk _ _ ⟨a2, B', { s4 with heap := G }, pins, σ2.set i none, H2, cls, d, cc, rfl, JG, nB', (upG.trans up5).trans up6, .inr (.inr ?_), na, rfl, J4.bare, ⟨ncc, occ, vcc, B2cc, dcc, kcc⟩, w⟩
      rw [hs]
      exact ⟨l1, nba, l2, l3⟩
    first
      | exact last
      | exact wpAny_bind (wpAny_pure last)
  first
    | exact wpAny_bind (wpAny_pure (wpAny_bind fin))
    | exact wpAny_bind fin
end
section
variable {X : Cx}
theorem ps_try_asX3 {xA xB n : Str} {cA cB : Value} {i : Nat} {body suite : List Stmt} {b₀ : Stmt} {pa pb pt hpos pos : Pos} {kt : Nat} {tb : WX → TS} {ts : Addr → Value → Option Addr → TS} {Wout : WX} (hs : X.stack = X.env :: X.outer) (hf : X.env.frame = some X.env.locals) (hex : X.ex = []) (hN : X.N.Nodup) (hi : X.N[i]? = some n) (hln : X.env.kindOf n = some .local)
    (nA : Names X xA cA) (nB : Names X xB cB) (tk : Takes2 X Wout)
    (hb : ∀ (W : WX) (pn : List (Addr × Obj)) (xe : Value → Shared → Prop), L2N.Takes (X.tr pn xe) W → PassesOwn (model X.prog X.w) X.A X.env xe → PSs (X.tr pn xe) body (tb W))
    (hsu : ∀ (a : Addr) (oe : Obj) (cls : Value) (d : Option Addr) (pn : List (Addr × Obj)) (xe : Value → Shared → Prop), L2N.Zn cls d oe → (∃ vs, oe.data = .fields vs) → Takes2 ((L2H.suiteX X a ((a, oe) :: pn)).wish xe) (fun cls d σ H => Wout cls d (σ.set i none) H) → PSs ((L2H.suiteX X a ((a, oe) :: pn)).wish xe) (b₀ :: suite) (ts a cls d)) :
    PS X (.Try body [.ExceptHandler (some (.Tuple [.Name xA pa, .Name xB pb] kt pt)) (some n) (b₀ :: suite) hpos] [] [] pos) (fun D σ H => tb (wAs2 X.K [cA, cB] i ts D) D σ H) := by
  refine ⟨fun pins s σ H D I h => ?_⟩
  have ok := I.ok
  have hfr : X.A.frames = some (X.env :: X.outer) := ok.frames.trans (congrArg some hs)
  refine wpAny_Try_except (wpAny_mono ((hb (wAs2 X.K [cA, cB] i ts D) (X.pn ++ pins) (fun e s₁ => wpAny (model X.prog X.w) X.A (noteFrame e X.env) (fun _ s₂ => wpAny (model X.prog X.w) X.A (setFlight e none) (fun _ s₃ => wpAny (model X.prog X.w) X.A (handleBy e X.env [.ExceptHandler (some (.Tuple [.Name xA pa, .Name xB pb] kt pt)) (some n) (b₀ :: suite) hpos]) (SP X pins D) X.xe s₃) X.xe s₂) X.xe s₁)
    (fun u s' xx => ?_) PassesOwn.looking).run [] s σ H D (I.toTry _) h) (fun f s1 hsp => ?_) fun e s1 he => he)
  · obtain ⟨a, B, sI, pins', σ', H', cls, d, rfl, J', nb, up, sky, na, os, ag, hb1, hyes⟩ := xx
    have J := J'.ofTry ok
    have sky' : Sky B (X.env :: X.outer) a (L2N.Zn cls d) X.env.locals s'.heap := by
      have z : Sky B X.stack a (L2N.Zn cls d) X.env.locals s'.heap := sky
      rw [hs] at z
      exact z
    refine L2N.Sky.land L2N.Zn.steady hfr hf sky' fun h3 fl3 up3 => ?_
    have J3 : Inv X pins σ' H' { s' with heap := h3 } := J.landed nb fl3.1 (up.trans up3) os ag
    obtain ⟨oe3, vs3, he3, hz3, hd3⟩ := fl3.there
    have nfr : a ∉ frs (X.env :: X.outer) := fun m => by
      obtain ⟨_, o', e', nf⟩ := Heap.FunFrames.mem fl3.2.2.1 m
      have he3' : h3.get? a = some oe3 := he3
      rw [he3'] at e'
      cases e'
      exact nf _ hd3
    have nL : a ≠ X.env.locals := fun z => nfr (List.mem_filterMap.mpr ⟨X.env, List.mem_cons_self, by rw [hf, z]⟩)
    have nF : a ∉ X.fs := fun hm => by
      obtain ⟨e, he, q⟩ := List.mem_filterMap.mp hm
      exact nfr (List.mem_filterMap.mpr ⟨e, List.mem_cons_of_mem _ he, q⟩)
    have S3 := J3.suite he3 hd3 na nL nF
    refine wpAny_handleBy_cons (codeAny_handlers_test ?_) (ref_ne_byPass a)
    refine Tuple_ ?_
    show wpAny _ _ (spliced (backTo pt ((false, eval (.Name xA pa) X.env) :: (false, eval (.Name xB pb) X.env) :: []))) _ _ _
    refine Calls.spliced_cons (named_test (X := X.suite a ((a, oe3) :: (X.pn ++ pins))) nA S3 ?_)
    refine Calls.spliced_cons (named_test (X := X.suite a ((a, oe3) :: (X.pn ++ pins))) nB S3 ?_)
    refine Calls.spliced_nil ?_
    refine wpAny_newTuple ?_ (by show 2 ≤ sizeLine; decide)
    have kp : ∀ b o, h3.get? b = some o → (h3.push { cls := .type "tuple", data := .seq [cA, cB].toArray }).get? b = some o := fun b o e => Heap.get?_push_of_some _ e
    have et : (h3.push { cls := .type "tuple", data := .seq [cA, cB].toArray }).get? h3.objs.size = some { cls := .type "tuple", data := .seq [cA, cB].toArray } := by
      exact Heap.get?_push_size _ rfl
    have flp := fly_keep kp fl3
    have upp : h3.UpToSlots (h3.push { cls := .type "tuple", data := .seq [cA, cB].toArray }) := Heap.UpToSlots.of_keeps kp
    have he3p := kp _ _ he3
    have kin := J3.kIn.keeps kp
    show wpAny _ _ (excMatches (.ref a) (.ref h3.objs.size)) _ _ { s' with heap := h3.push { cls := .type "tuple", data := .seq [cA, cB].toArray } }
    generalize h3.push { cls := .type "tuple", data := .seq [cA, cB].toArray } = h3p at *
    have LT : PySem.W.Looks (model X.prog X.w) h3p (typeOf (.ref a)) cls := fun A Q E s k q => wpAny_typeOf_ref (k a oe3 he3p) (by rw [hz3.1]; exact q)
    refine PySem.W.Looks.here (s := { s' with heap := h3p }) (PySem.W.exm_tup2 kin LT et hb1) ?_
    rw [if_pos rfl]
    show codeAny _ _ _ _ _
    refine codeAny_handlers_suite_as ?_
    refine HandSPX.lands_againZ (s := { s' with heap := h3p }) flp fun h4 fl4 up4 => ?_
    have J4 : Inv X pins σ' H' { s' with heap := h4 } := J.landed nb fl4.1 (((up.trans up3).trans upp).trans up4) os ag
    obtain ⟨oe4, vs4, he4, hz4, hd4⟩ := fl4.there
    have S4 := J4.suite he4 hd4 na nL nF
    refine store_ok (X := X.suite a ((a, oe4) :: (X.pn ++ pins))) S4 hN hi (.inl hln) (v := V.ref a) rfl (fun s5 S5 => ?_) (.inr hln)
    refine wpAny_mono ((hsu a oe4 cls d (X.pn ++ pins) _ hz4 ⟨vs4, hd4⟩ (fun u2 s2 x2 => ?_)).run [] s5 (σ'.set i (some (.ref a))) H' { nx := fun σ' H' => D.nx (σ'.set i none) H', rt := D.rt, bk := fun σ' H' => D.bk (σ'.set i none) H', ct := fun σ' H' => D.ct (σ'.set i none) H' } ((L2H.suiteX_of S5).wish _) (hyes a na)) (fun f s6 hsp => ?_) fun x s6 z => z
    · obtain ⟨a2, B2, sI2, pn2, σ2, H2, cls2, d2, c2, e2, I2, r2⟩ := x2
      exact named_out2 hs hf hex ok hN hi hln tk ⟨a2, B2, sI2, pn2, σ2, H2, cls2, d2, c2, e2, I2.unwish, r2⟩
    · have hsp := SP.unwish hsp
      cases f with
      | next =>
        obtain ⟨σ6, H6, S6, q6⟩ := hsp
        exact gone_ok (L2H.unsuiteX S6 ok) hN hi hln fun s7 J7 => ⟨_, H6, J7, q6⟩
      | brk =>
        obtain ⟨σ6, H6, S6, q6⟩ := hsp
        exact gone_ok (L2H.unsuiteX S6 ok) hN hi hln fun s7 J7 => ⟨_, H6, J7, q6⟩
      | cont =>
        obtain ⟨σ6, H6, S6, q6⟩ := hsp
        exact gone_ok (L2H.unsuiteX S6 ok) hN hi hln fun s7 J7 => ⟨_, H6, J7, q6⟩
      | ret u =>
        obtain ⟨v6, σ6, H6, S6, r6, q6⟩ := hsp
        exact gone_ok (L2H.unsuiteX S6 ok) hN hi hln fun s7 J7 => ⟨v6, _, H6, J7, r6, q6⟩
  · cases f with
    | next =>
      obtain ⟨σ', H', J', q⟩ := hsp
      exact wpAny_execs_nil ⟨σ', H', J'.ofTry ok, q⟩
    | brk =>
      obtain ⟨σ', H', J', q⟩ := hsp
      exact ⟨σ', H', J'.ofTry ok, q⟩
    | cont =>
      obtain ⟨σ', H', J', q⟩ := hsp
      exact ⟨σ', H', J'.ofTry ok, q⟩
    | ret u =>
      obtain ⟨v, σ', H', J', r, q⟩ := hsp
      exact ⟨v, σ', H', J'.ofTry ok, r, q⟩
end
section
variable {X : Cx}
/-- try: body; except (A, B) as n: raise C(e) from n -/
theorem ps_reject2 {xA xB n x f : Str} {cA cB : Value} {C fI : Addr} {k i : Nat} {fd : FuncData} {ps : List Str} {body : List Stmt} {e : Expr} {pa pb pt hpos np p pos pos2 tpos : Pos} {kt : Nat} {tb : WX → TS} {ta : TA} {Wout : WX} (hs : X.stack = X.env :: X.outer) (hf : X.env.frame = some X.env.locals) (hex : X.ex = []) (hN : X.N.Nodup) (hi : X.N[i]? = some n) (hln : X.env.kindOf n = some .local)
    (nA : Names X xA cA) (nB : Names X xB cB) (tk : Takes2 X Wout) (hb : ∀ (W : WX) (pn : List (Addr × Obj)) (xe : Value → Shared → Prop), L2N.Takes (X.tr pn xe) W → PassesOwn (model X.prog X.w) X.A X.env xe → PSs (X.tr pn xe) body (tb W))
    (NN : XcN X.K X.mg x C) (I : XcI X.K C fI f) (F1 : L2H.FnH X.prog X.w X.K X.mg X.base CX0 k fI fd ps (sp_exc_init X.K C f)) (hr : Room (k + 1) X.A) (hbb : Binds X.K fd ps []) (hg : Gl X x)
    (ha : ∀ (a : Addr) (oe : Obj) (pn : List (Addr × Obj)) (xe : Value → Shared → Prop), PA ((L2H.suiteX X a ((a, oe) :: pn)).wish xe) [e] ta)
    (hv : Vis X.env.scope n) (hdn : (n == ("__debug__" : Str)) = false := by decide) (hcn : (n == ("__classdict__" : Str)) = false := by decide) (hdb : (x == ("__debug__" : Str)) = false := by decide) (he : starEach (e :: []) X.env = (false, eval e X.env) :: starEach [] X.env := by rfl) (hpl : (backTo pos (starEach [] X.env)).any (·.1) = false := by rfl) :
    PS X (.Try body [.ExceptHandler (some (.Tuple [.Name xA pa, .Name xB pb] kt pt)) (some n) [.Raise (some (.Call (.Name x p) [e] [] pos)) (some (.Name n np)) pos2] hpos] [] [] tpos) (fun D σ H => tb (wAs2 X.K [cA, cB] i (tFrom X.K C f i ta Wout) D) D σ H) := by
  refine ps_try_asX3 hs hf hex hN hi hln nA nB tk hb fun a oe cls d pn xe hz hd tk2 => ?_
  obtain ⟨vs, hd⟩ := hd
  refine pss_one (ps_with fun hR => ?_)
  have hot : L2H.Hot1 (X.A.mark (some (.ref a))) (a, oe) := ⟨rfl, vs, hd, hz.2.2 vs hd⟩
  refine ps_raiseHF2 (X := (L2H.suiteX X a ((a, oe) :: pn)).wish xe) (p := (a, oe)) List.mem_cons_self hot ?_ tk2 (pmk_1H NN I F1 (L2H.roomH_mark hr _) ⟨(a, oe), hot, List.mem_cons_self⟩ hbb hg (ha a oe pn xe) hdb he hpl) hi hv hdn hcn
  show Raises _ oe.cls
  rw [hz.1]
  exact raises_own hR.1 hR.2
end

/-! ### unpacking while an error is handled whose context is an error without a context -/
def HotAt2 (A : Around) (x c : Addr) (h : Heap) : Prop := A.handled = some (.ref x) ∧ (∃ (o : Obj) (vs : Array Value), h.get? x = some o ∧ o.data = .fields vs ∧ vs[2]? = some (.ref c)) ∧ ∃ (o : Obj) (vs : Array Value), h.get? c = some o ∧ o.data = .fields vs ∧ vs[2]? = some .none
section
variable {prog : Program} {w : World} {A : Around} {E : Value → Shared → Prop} {s : Shared}
theorem HotAt2.keep {x c : Addr} {h h' : Heap} (z : HotAt2 A x c h) (k : ∀ o, (h.get? x = some o → h'.get? x = some o) ∧ (h.get? c = some o → h'.get? c = some o)) : HotAt2 A x c h' := by
  obtain ⟨hh, ⟨o, vs, e, d, p⟩, ⟨o2, vs2, e2, d2, p2⟩⟩ := z
  exact ⟨hh, ⟨o, vs, (k o).1 e, d, p⟩, ⟨o2, vs2, (k o2).2 e2, d2, p2⟩⟩
theorem HotAt2.ne {x c : Addr} {h : Heap} (z : HotAt2 A x c h) : c ≠ x := fun e => by
  obtain ⟨_, ⟨o, vs, e1, d, p⟩, ⟨o2, vs2, e2, d2, p2⟩⟩ := z
  rw [e, e1] at e2
  cases e2
  rw [d] at d2
  cases d2
  rw [p] at p2
  cases p2
theorem unchained2 {x c a : Addr} {Q : Value → Shared → Prop} (hot : HotAt2 A x c s.heap) (nc : c ≠ a) (q : Q .none s) :
    wpAny (model prog w) A (holding [Value.ref a] (runValue (.builtin "proto.unchain" ⟨[.ref a, .ref x, .ref x, .bool false], []⟩))) Q E s := by
  have ncx := hot.ne
  obtain ⟨hh, ⟨o, vs, e, d, p⟩, ⟨o2, vs2, e2, d2, p2⟩⟩ := hot
  refine wpAny_holding (wpAny_runValue (codeAny_builtin HotX.entry_unchain ?_))
  show wpAny _ _ (field (.ref x) 2 >>= _) _ _ s
  refine wpAny_bind (wpAny_field e d p ?_)
  rw [if_neg (show ¬ ((Value.ref c == Value.none) = true) from Bool.false_ne_true)]
  show wpAny _ _ (if (Value.ref c == Value.ref a) = true then _ else _) _ _ s
  rw [if_neg (fun z => nc (Value.ref.inj (beq_iff_eq.mp z)))]
  show wpAny _ _ (if (Value.ref c == Value.ref x) = true then _ else _) _ _ s
  rw [if_neg (fun z => ncx (Value.ref.inj (beq_iff_eq.mp z)))]
  show wpAny _ _ (again (.builtin "proto.unchain" ⟨[.ref a, .ref c, .ref x, .bool true], []⟩)) _ _ s
  refine wpAny_pure ⟨plainId_quiet (by decide +kernel) _, codeAny_builtin HotX.entry_unchain ?_⟩
  show wpAny _ _ (field (.ref c) 2 >>= _) _ _ s
  refine wpAny_bind (wpAny_field e2 d2 p2 ?_)
  rw [if_pos (show (Value.none == Value.none) = true from rfl)]
  first
  | exact wpAny_bind (wpAny_pure (wpAny_pure q))
  | exact wpAny_pure q
theorem raiseNew_hot2 {α : Type} {a x c : Addr} {oe : Obj} {vs : Array Value} {Q : α → Shared → Prop} (hot : HotAt2 A x c s.heap) (hne : x ≠ a) (hnc : c ≠ a) (ha : s.heap.get? a = some oe) (da : oe.data = .fields vs) (hi : 2 < vs.size)
    (hE : E (.ref a) { s with heap := s.heap.update a (Obj.mapFields fun z => z.setIfInBounds 2 (.ref x)) }) : wpAny (model prog w) A (raiseNew (.ref a) : Sem α) Q E s := by
  have hh := hot.1
  unfold raiseNew
  refine wpAny_bind (wpAny_handled ?_)
  rw [hh]
  have hb : (Value.ref x != Value.ref a) = true := HotX.ref_bne hne
  first
  | (show wpAny _ _ (if (Value.ref x != Value.ref a) = true then _ else _) _ _ _
     rw [if_pos hb]
     first
     | exact wpAny_bind (unchained2 hot hnc (wpAny_bind (HotX.chained ha da hi (wpAny_throw hE))))
     | exact wpAny_bind (wpAny_bind (unchained2 hot hnc (HotX.chained ha da hi (wpAny_throw hE)))))
  | (refine wpAny_bind ?_
     show wpAny _ _ (if (Value.ref x != Value.ref a) = true then _ else _) _ _ _
     rw [if_pos hb]
     exact wpAny_bind (unchained2 hot hnc (HotX.chained ha da hi (wpAny_throw hE))))
/-- the end of a tuple -/
theorem tup_end2 {it t x c : Addr} {i : Nat} {items : Array Value} {Q : Option Value → Shared → Prop} (hot : HotAt2 A x c s.heap) (nx : x ≠ it) (nc : c ≠ it) (hit : IsTupIter s.heap it t i) (ht : IsTup s.heap t items) (hx : items[i]? = none)
    (hQ : ∀ h', Heap.ExtBut it s.heap h' → Q none { s with heap := h' }) : wpAny (model prog w) A (pyNext (.ref it)) Q E s := by
  obtain ⟨o, ho, hc, hd⟩ := id hit
  obtain ⟨ol, hol, _, nl, hdl⟩ := ht
  unfold pyNext
  refine wpAny_bind (wpAny_attempt (wpAny_callSpecial?_slot (name := Str.ofString "__next__") hit.typeIs slot_tupleiter_next (wpAny_call_entry slot_tupleiter_next hit.typeIs entry_tupleiter_next ?_ (args_tupleiter_next _))))
  show wpAny _ _ (field (.ref it) 0 >>= _) _ _ s
  refine wpAny_bind (wpAny_field ho hd (x := .ref t) rfl ?_)
  show wpAny _ _ (if (Value.ref t == Value.none) = true then _ else _) _ _ s
  rw [if_neg (show ¬ ((Value.ref t == Value.none) = true) from Bool.false_ne_true)]
  show wpAny _ _ (field (.ref it) 1 >>= _) _ _ s
  refine wpAny_bind (wpAny_field ho hd (x := .int i 0) rfl ?_)
  show wpAny _ _ (seqItems? (.ref t) >>= _) _ _ s
  refine wpAny_bind (wpAny_seqItems hol hdl ?_)
  simp only [Int.toNat_natCast, hx]
  refine wpAny_bind (wpAny_rule (wpAny_bind (wpAny_setField ho hd (by simp) ?_)))
  show wpAny _ _ (newExc (.type "StopIteration") [] >>= _) _ _ _
  refine wpAny_bind ?_
  simp only [newExc, newTuple]
  refine wpAny_bind (wpAny_newObj_type ?_ (by size_fits))
  refine wpAny_bind (m := firstArgMember _ _) (wpAny_of_eq (a := Value.none) (by first | rfl | (simp only [firstArgMember]; rfl)) ?_)
  refine wpAny_newObj_type ?_ (by size_fits)
  have old : ∀ b u, b ≠ it → s.heap.get? b = some u → ∀ f : Obj → Obj, (s.heap.update it f).get? b = some u := fun b u n e f => (Heap.get?_update_other _ _ (Ne.symm n)).trans e
  have hot1 := hot.keep (h' := s.heap.update it (Obj.mapFields fun z => z.setIfInBounds 0 .none)) fun u => ⟨fun e => old _ _ nx e _, fun e => old _ _ nc e _⟩
  have hot2 := (hot1.keep fun u => ⟨fun e => Heap.get?_push_of_some { cls := .type "tuple", data := .seq #[] } e, fun e => Heap.get?_push_of_some { cls := .type "tuple", data := .seq #[] } e⟩)
  obtain ⟨ox, _, ex, _⟩ := hot2.2.1
  obtain ⟨oc, _, ec, _⟩ := hot2.2.2
  refine raiseNew_hot2 (x := x) (c := c) (hot2.keep fun u => ⟨fun e => Heap.get?_push_of_some _ e, fun e => Heap.get?_push_of_some _ e⟩) (Nat.ne_of_lt (Heap.lt_size ex)) (Nat.ne_of_lt (Heap.lt_size ec)) (Heap.get?_push_size _ rfl) rfl (by first | (simp; done) | (simp; omega) | (simp only [Array.size_append]; simp; omega)) ?_
  refine wpAny_bind (wpAny_isInstance (T := "StopIteration") (b := true) ⟨_, Heap.get?_update_self _ (Heap.get?_push_size _ rfl) rfl, rfl⟩ isSubtype_stop ?_)
  refine wpAny_pure (hQ _ fun b u n e => ?_)
  have e1 := Heap.get?_push_of_some { cls := .type "tuple", data := .seq #[] } (old b u n e (Obj.mapFields fun z => z.setIfInBounds 0 .none))
  rw [Heap.get?_update_other _ _ (Nat.ne_of_gt (Heap.lt_size e1))]
  exact Heap.get?_push_of_some _ e1
theorem unpack2 {t x c : Addr} {items : Array Value} {targets : List (Bool × (Value → Sem Unit))} {Q : Unit → Shared → Prop} (hot : HotAt2 A x c s.heap) (ht : IsTup s.heap t items) (hn : targets.length = items.size) (hstar : targets.findIdx? (·.1) = none)
    (h : ∀ h', Heap.ExtBut s.heap.objs.size s.heap h' → wpAny (model prog w) A (assignInOrder (targets.map (·.2)) items.toList) Q E { s with heap := h' }) :
    wpAny (model prog w) A (unpack (.ref t) targets) Q E s := by
  have hlt : t ≠ s.heap.objs.size := by
    obtain ⟨o, ho, _⟩ := ht
    exact Nat.ne_of_lt (Heap.lt_size ho)
  unfold unpack
  rw [hn, hstar]
  refine wpAny_bind (wpAny_holding ?_)
  unfold unpackItems
  refine wpAny_bind ?_
  unfold notIterableAtAll
  refine wpAny_bind (wpAny_specialOf ht.typeIs slot_tuple_iter.lookup (wpAny_pure ?_))
  rw [if_neg Bool.false_ne_true]
  refine wpAny_bind (wpAny_holding (iter_tuple ht ?_))
  have hx : x ≠ s.heap.objs.size := by
    obtain ⟨o, _, e, _⟩ := hot.2.1
    exact Nat.ne_of_lt (Heap.lt_size e)
  have hc : c ≠ s.heap.objs.size := by
    obtain ⟨o, _, e, _⟩ := hot.2.2
    exact Nat.ne_of_lt (Heap.lt_size e)
  refine wpAny_bind (wpAny_holding (draw_tuple hlt items.size 0 _ _ ⟨_, Heap.get?_push_size _ rfl, rfl, rfl⟩ (ht.push _) (by omega) fun h₁ hit₁ hs₁ => ?_))
  rw [List.drop_zero, List.take_of_length_le (by simp), if_neg (by simp)]
  have hot1 : HotAt2 A x c h₁ := hot.keep fun u => ⟨fun e => hs₁.extBut _ _ hx (Heap.get?_push_of_some _ e), fun e => hs₁.extBut _ _ hc (Heap.get?_push_of_some _ e)⟩
  refine wpAny_bind (wpAny_holding (tup_end2 (s := { s with heap := h₁ }) hot1 hx hc hit₁ ((ht.push _).extBut hs₁.extBut hlt) (by simp) fun h₂ he₂ => ?_))
  rw [Option.isSome_none, if_neg Bool.false_ne_true]
  exact wpAny_pure (h h₂ fun b o hb e => he₂ b o hb (hs₁.extBut b o hb (Heap.get?_push_of_some _ e)))
end
/-- the context bears an error that is handled, and the error that is its context -/
def HotC2 (X : Cx) : Prop := ∃ p q : Addr × Obj, X.A.handled = some (.ref p.1) ∧ p ∈ X.pn ∧ q ∈ X.pn ∧ (∃ vs : Array Value, p.2.data = .fields vs ∧ vs[2]? = some (.ref q.1)) ∧ ∃ vs : Array Value, q.2.data = .fields vs ∧ vs[2]? = some .none
theorem HotC2.at {X : Cx} {pins : List (Addr × Obj)} {σ : L2.St} {H : Hp} {s : Shared} (z : HotC2 X) (I : Inv X pins σ H s) : ∃ x c, HotAt2 X.A x c s.heap := by
  obtain ⟨p, q, hh, hp, hq, ⟨vs, d, e⟩, ⟨vs2, d2, e2⟩⟩ := z
  exact ⟨p.1, q.1, hh, ⟨p.2, vs, (I.pin p (List.mem_append_left _ hp)).1, d, e⟩, ⟨q.2, vs2, (I.pin q (List.mem_append_left _ hq)).1, d2, e2⟩⟩
/-- a tuple of targets there -/
theorem pg_tup2 {X : Cx} {es : List Expr} {k : Nat} {t : TGs} {n : Nat} {pos : Pos} (hc : HotC2 X) (h : PGs X es t)
    (hn : (assignEach es X.env).length = n := by rfl) (hst : (assignEach es X.env).findIdx? (·.1) = none := by rfl) : PG X (.Tuple es k pos) (gTup X.K n t) := by
  refine ⟨fun pins s σ H v u Q I r hw => ?_⟩
  obtain ⟨a, xs, rfl, hq, hl, hw⟩ := hw
  cases r
  obtain ⟨its, rv, ht, hz⟩ := I.tuple hq
  obtain ⟨x, c, hot⟩ := hc.at I
  rw [assign_Tuple]
  refine wpAny_bind (wpAny_standAt (unpack2 hot ht (by rw [hn, ← hl, rv.length, List.size_toArray]) hst fun h' hx => ?_))
  have I1 : Inv X pins σ H { s with heap := h' } := I.kept (t' := s.toks) fun b o e => hx b o (Nat.ne_of_lt (Heap.lt_size e)) e
  exact h.run pins _ σ H xs _ Q I1 rv hw

/-! ### try: .., an error with a context flies; finally: a suite that raises nothing -/
section
variable {X : Cx} {body : List Stmt} {f₀ : Stmt} {fs : List Stmt} {pos : Pos} {tfs : TS} {Wout : WX}
theorem fin_exc2 {pins : List (Addr × Obj)} {D : Ends} {u : Value} {s' : Shared} (hs : X.stack = X.env :: X.outer) (hf : X.env.frame = some X.env.locals) (hex : X.ex = []) (ok : X.Ok) (tk : Takes X Wout)
    (hsu : ∀ (a c : Addr) (oe oc : Obj) (pn : List (Addr × Obj)), HotC2 (X.suite a ((a, oe) :: (c, oc) :: pn)) → PSs (X.suite a ((a, oe) :: (c, oc) :: pn)) (f₀ :: fs) tfs)
    (xx : XE2 (X.tr (X.pn ++ pins) (fun x s₁ => wpAny (model X.prog X.w) X.A (noteFrame x X.env) (fun _ s₂ => FinallyRaised X.prog X.w X.A X.xe X.env (f₀ :: fs) (SP X pins D) x s₂) (FinallyRaised X.prog X.w X.A X.xe X.env (f₀ :: fs) (SP X pins D)) s₁)) (wFin tfs Wout) u s') :
    wpAny (model X.prog X.w) X.A (noteFrame u X.env) (fun _ s₂ => FinallyRaised X.prog X.w X.A X.xe X.env (f₀ :: fs) (SP X pins D) u s₂) (FinallyRaised X.prog X.w X.A X.xe X.env (f₀ :: fs) (SP X pins D)) s' := by
  have hfr : X.A.frames = some (X.env :: X.outer) := ok.frames.trans (congrArg some hs)
  obtain ⟨a, B, sI, pins', σ', H', cls, d, c, rfl, J', nb, up, sky, na, os, ag, ⟨nc, oc, vc, Bc, dc, cc⟩, hw⟩ := xx
  have J : Inv X pins σ' H' sI := J'.ofTry ok
  have sky' : Sky B (X.env :: X.outer) a (Zx c cls d) X.env.locals s'.heap := by
    rw [← hs]
    exact sky
  have fin : ∀ h1, HandSPX.HeldZ B (X.env :: X.outer) a (Zx c cls d) X.env.locals h1 → s'.heap.UpToSlots h1 → FinallyRaised X.prog X.w X.A X.xe X.env (f₀ :: fs) (SP X pins D) (.ref a) { s' with heap := h1 } := fun h1 hh1 up1 => by
    refine ⟨ref_ne_byPass a, HandSPX.againZ hf hh1.2.2.2 (HandSPX.landsZ hh1 fun h3 fl3 up3 => ?_)⟩
    have J3 : Inv X pins σ' H' { s' with heap := h3 } := J.landed nb fl3.1 ((up.trans up1).trans up3) os ag
    obtain ⟨k1, k2, k3, oe, vs, T, oT, ts, he3, hz, hd, hv1, hnT, hTe, hT, hdT, ht3⟩ := id fl3
    have nT : H' T = none := (J.inGround nb).gone hnT
    have notFr : ∀ {b : Addr} {o : Obj} {fv : Array Value}, h3.get? b = some o → o.data = .fields fv → b ∉ frs (X.env :: X.outer) := fun {b o fv} e dd hm => by
      obtain ⟨_, o', e', nf⟩ := k3.mem hm
      rw [e] at e'
      cases e'
      exact nf _ dd
    have locF : X.env.locals ∈ frs (X.env :: X.outer) := List.mem_filterMap.mpr ⟨X.env, List.mem_cons_self, hf⟩
    have fsF : ∀ b, b ∈ X.fs → b ∈ frs (X.env :: X.outer) := fun b hm => by
      obtain ⟨e, he, q⟩ := List.mem_filterMap.mp hm
      exact List.mem_filterMap.mpr ⟨e, List.mem_cons_of_mem _ he, q⟩
    have hc3 : h3.get? c = some oc := k1 _ _ Bc
    have fa := notFr he3 hd
    have fT := notFr hT hdT
    have fc := notFr hc3 dc
    have pinOf : ∀ {b : Addr} {o : Obj} {fv : Array Value}, h3.get? b = some o → o.data = .fields fv → b ∉ frs (X.env :: X.outer) → H' b = none → (h3.get? b = some o ∧ H' b = none ∧ b ≠ X.env.locals ∧ b ∉ X.fs ∧ ∀ v, o.data ≠ .cell v) := fun {b o fv} e dd nf nh =>
      ⟨e, nh, fun z => nf (z ▸ locF), fun z => nf (fsF _ z), fun v z => by
        rw [dd] at z
        cases z⟩
    have S3 : Inv (X.suite a ((a, oe) :: (c, oc) :: (T, oT) :: (X.pn ++ pins))) [] σ' H' { s' with heap := h3 } :=
      ⟨J3.ok.suite _ _, J3.os, J3.bare, J3.base, J3.loc, J3.cell, J3.free, J3.freeC, fun p hp => by
        rw [List.append_nil] at hp
        rcases List.mem_cons.mp hp with rfl | hp
        · exact pinOf he3 hd fa na
        rcases List.mem_cons.mp hp with rfl | hp
        · exact pinOf hc3 dc fc nc
        rcases List.mem_cons.mp hp with rfl | hp
        · exact pinOf hT hdT fT nT
        exact J3.pin p hp, J3.hok, J3.len⟩
    have hot : HotC2 (X.suite a ((a, oe) :: (c, oc) :: (T, oT) :: (X.pn ++ pins))) := ⟨(a, oe), (c, oc), rfl, List.mem_cons_self, List.mem_cons_of_mem _ List.mem_cons_self, ⟨vs, hd, hz.2.2 vs hd⟩, ⟨vc, dc, cc⟩⟩
    refine wpAny_mono ((hsu a c oe oc _ hot).run [] { s' with heap := h3 } σ' H' { nx := fun σ2 H2 => Wout cls d σ2 H2, rt := fun _ _ => False } S3 hw) (fun g s6 hsp => ?_) fun _ _ z => False.elim z
    cases g with
    | ret u =>
      obtain ⟨_, _, _, _, _, q⟩ := hsp
      exact q.elim
    | brk =>
      obtain ⟨_, _, _, q⟩ := hsp
      exact q.elim
    | cont =>
      obtain ⟨_, _, _, q⟩ := hsp
      exact q.elim
    | next =>
      obtain ⟨σ6, H6, S6, q6⟩ := hsp
      have up3m : ∀ {p : Addr × Obj}, p ∈ X.pn ++ pins → p ∈ (a, oe) :: (c, oc) :: (T, oT) :: (X.pn ++ pins) := fun h => List.mem_cons_of_mem _ (List.mem_cons_of_mem _ (List.mem_cons_of_mem _ h))
      have J6 : Inv X pins σ6 H6 s6 := ⟨ok, S6.os, S6.bare, S6.base, S6.loc, S6.cell, S6.free, S6.freeC, fun p hp => S6.pin p (List.mem_append_left _ (up3m hp)), S6.hok, S6.len⟩
      have pa := S6.pin (a, oe) (List.mem_append_left _ List.mem_cons_self)
      have pT := S6.pin (T, oT) (List.mem_append_left _ (List.mem_cons_of_mem _ (List.mem_cons_of_mem _ List.mem_cons_self)))
      have ga : s6.heap.get? a = some oe := pa.1
      have gT : s6.heap.get? T = some oT := pT.1
      have na6 : H6 a = none := pa.2.1
      have nT6 : H6 T = none := pT.2.1
      have far : ∀ b o, sI.heap.get? b = some o → b ≠ a ∧ b ≠ T := fun b o e => by
        by_cases hb : b ∈ frs X.stack
        · rw [hs] at hb
          exact ⟨fun z => fa (z ▸ hb), fun z => fT (z ▸ hb)⟩
        · have q := nb b o e hb
          refine ⟨fun z => ?_, fun z => ?_⟩
          · rw [z, k2] at q
            cases q
          · rw [z, hnT] at q
            cases q
      have far0 : ∀ b o, X.s_0.heap.get? b = some o → b ≠ a ∧ b ≠ T := fun b o e => by
        obtain ⟨o', q⟩ := J.base.there b o e (by rw [hex]; exact List.not_mem_nil)
        exact far b o' q
      have farP : ∀ p ∈ X.pn ++ pins, p.1 ≠ a ∧ p.1 ≠ T := fun p hp => far p.1 p.2 (J.pin p hp).1
      obtain ⟨G, g1, g2⟩ := restrict s6.heap fun b => !(decide (b = a) || decide (b = T))
      have gIn : ∀ b o, G.get? b = some o → s6.heap.get? b = some o ∧ b ≠ a ∧ b ≠ T := fun b o e => by
        cases q : (!(decide (b = a) || decide (b = T))) with
        | false =>
          rw [g2 b q] at e
          cases e
        | true =>
          rw [g1 b q] at e
          simp only [Bool.not_eq_true', Bool.or_eq_false_iff, decide_eq_false_iff_not] at q
          exact ⟨e, q.1, q.2⟩
      have gOf : ∀ b o, b ≠ a → b ≠ T → s6.heap.get? b = some o → G.get? b = some o := fun b o h1 h2 e => by
        rw [g1 b (by simp [h1, h2])]
        exact e
      have I6 : Inv X pins σ6 H6 { s6 with heap := G } := J6.less (fun b o e => (gIn b o e).1) gOf ⟨oe, vs, ga, hd⟩ ⟨oT, ts, gT, hdT⟩ na6 nT6 far0 farP
      have Bno : ∀ b, (b = a ∨ b = T) → (PySem.W.hideAll G (frs X.stack)).get? b = none := fun b hb => by
        cases q : (PySem.W.hideAll G (frs X.stack)).get? b with
        | none => rfl
        | some o =>
          obtain ⟨_, n1, n2⟩ := gIn b o (PySem.W.of_hideAll _ q)
          exact hb.elim (fun z => absurd z n1) fun z => absurd z n2
      have fl6 : HandSPX.FlyingZ (PySem.W.hideAll G (frs X.stack)) (X.env :: X.outer) a (Zc cls d) s6.heap := by
        refine ⟨fun b o e => (gIn b o (PySem.W.of_hideAll _ e)).1, Bno a (.inl rfl), ?_, oe, vs, T, oT, ts, ga, hz.zc, hd, hv1, Bno T (.inr rfl), hTe, gT, hdT, ht3⟩
        rw [← hs]
        exact funFrames_none (B := PySem.W.hideAll G (frs X.stack)) J6.stack fun b hb => PySem.W.hideAll_none _ hb
      show wpAny (model X.prog X.w) X.A (PySem.passOn "try.finally" (.ref a) X.env) (SP X pins D) X.xe s6
      unfold PySem.passOn
      refine wpAny_bind (wpAny_field ga hd hv1 ?_)
      rw [if_neg (show ¬ ((Value.ref T == Value.none) = true) from by simp)]
      have goOn : wpAny (model X.prog X.w) X.A (setFlight (.ref a) X.env.frame) (fun _ s7 => wpAny (model X.prog X.w) X.A (throw (.ref a) : Sem Flow) (SP X pins D) X.xe s7) X.xe s6 := by
        rw [hf]
        refine HandSPX.setFlight_upZ fl6 fun h7 hh7 up7 => wpAny_throw (tk _ _ ?_)
        refine ⟨a, PySem.W.hideAll G (frs X.stack), { s6 with heap := G }, pins, σ6, H6, cls, d, rfl, I6, fun b o e hb => PySem.W.hideAll_get _ e hb, ?_, .inr (.inr (by rw [← hs] at hh7; exact hh7)), na6, rfl, J6.bare, q6⟩
        exact Heap.UpToSlots.trans (Heap.UpToSlots.of_keeps fun b o e => (gIn b o e).1) up7
      first
        | exact wpAny_bind (wpAny_pure (wpAny_bind goOn))
        | exact wpAny_bind goOn
  exact sky_look1 Zx.steady hfr hf sky' fun h1 hh1 up1 => fin h1 hh1 up1
theorem ps_fin4Y {tb : WX → TS2} {tf : TS} (hs : X.stack = X.env :: X.outer) (hf : X.env.frame = some X.env.locals) (hex : X.ex = []) (tk : Takes X Wout)
    (hb : ∀ (W : WX) (pn : List (Addr × Obj)) (xe : Value → Shared → Prop), Takes2 (X.tr pn xe) W → PassesOwn (model X.prog X.w) X.A X.env xe → PSs2 (X.tr pn xe) body (tb W))
    (hfin : PSs X.nox (f₀ :: fs) tf) (hsu : ∀ (a c : Addr) (oe oc : Obj) (pn : List (Addr × Obj)), HotC2 (X.suite a ((a, oe) :: (c, oc) :: pn)) → PSs (X.suite a ((a, oe) :: (c, oc) :: pn)) (f₀ :: fs) tfs) :
    PS X (.Try body [] [] (f₀ :: fs) pos) (tFin4 (tb (wFin tfs Wout)) tf) := by
  refine ⟨fun pins s σ H D I h => ?_⟩
  have ok := I.ok
  obtain ⟨xe, exe⟩ : ∃ xe : Value → Shared → Prop, xe = fun x s₁ => wpAny (model X.prog X.w) X.A (noteFrame x X.env) (fun _ s₂ => FinallyRaised X.prog X.w X.A X.xe X.env (f₀ :: fs) (SP X pins D) x s₂) (FinallyRaised X.prog X.w X.A X.xe X.env (f₀ :: fs) (SP X pins D)) s₁ := ⟨_, rfl⟩
  have tk2 : Takes2 (X.tr (X.pn ++ pins) xe) (wFin tfs Wout) := fun u s' xx => by
    subst exe
    exact fin_exc2 hs hf hex ok tk hsu xx
  have po : PassesOwn (model X.prog X.w) X.A X.env xe := by
    subst exe
    exact PassesOwn.looking
  refine wpAny_Try_finally (wpAny_mono ((hb _ _ _ tk2 po).run [] s σ H _ (I.toTry _) h) (fun g s1 z => ?_) fun x s1 z => ?_)
  · cases g with
    | brk =>
      obtain ⟨_, _, _, q⟩ := z
      exact q.elim
    | cont =>
      obtain ⟨_, _, _, q⟩ := z
      exact q.elim
    | ret u =>
      obtain ⟨v, σ1, H1, J1, r1, q1⟩ := z
      exact fin_ret hfin (J1.ofTry ok) r1 q1
    | next =>
      obtain ⟨σ1, H1, J1, q1⟩ := z
      refine wpAny_execs_nil ?_
      refine wpAny_mono (hfin.run pins s1 σ1 H1 D ((J1.ofTry ok).wish _) q1) (fun g2 s2 q2 => ?_) fun _ _ e => e.elim
      have q3 : SP X pins D g2 s2 := q2.unwish
      cases g2 <;> exact q3
  · rw [exe] at z
    exact z
end
/-! ### o.m(e, ..) with defaults, which may raise -/
section
variable {X : Cx} {CX : CXT} {k : Nat} {f C : Addr} {fd : FuncData} {ps : List Str} {sp : Sp} {E : L2.St → XK} {x m : Str} {pos apos : Pos} {e o : Expr} {es : List Expr} {ta : TE} {t : TA} {ds : List Value} {dvs : List V}
def tMethLD (C : Addr) (m : Str) (sp : Sp) (dvs : List V) (E : L2.St → XK) (ta : TE) (t : TA) : TE := fun σ H Q => ta σ H fun x H1 => ∃ a dx fs, x = .ref a ∧ H1 a = some (.ins C dx fs) ∧ fs.lookup m = none ∧ t σ H1 fun vs H2 => sp (.ref a :: vs ++ dvs) H2 Q (E σ)
theorem pe_methLD {pl : Sem Bool} (he : PE X o ta) (c : Cls X.K C) (hm : Meth X.K C m f) (F : FnOk X.prog X.w X.K X.mg X.base CX k f fd ps sp) (hr : Room k X.A) (hb : Binds X.K fd ps ds) (hd : Vals dvs ds) (hx : ∀ σ, PassesAt CX X σ (E σ)) (ha : PA X (e :: es) t)
    (hst : starEach (e :: es) X.env = (false, eval e X.env) :: starEach es X.env := by rfl) (hpl : (backTo pos (starEach es X.env)).any (·.1) = false := by rfl)
    (ht : eval (.Call (.Attribute o m apos) (e :: es) [] pos) X.env = (do
      let ov ← eval o X.env
      standAt apos.atName
      let (f, first) ← holding [ov] (getMethod ov m pl)
      callWith pos f first (backTo pos (starEach (e :: es) X.env)) (backToKw pos (keywordEach [] X.env))) := by rfl) :
    PE X (.Call (.Attribute o m apos) (e :: es) [] pos) (tMethLD C m sp dvs E ta t) := by
  refine ⟨fun pins s σ H Q I h => ?_⟩
  refine PySem.W.methodCall_KW (pl := pl) (thn (he.run pins s σ H _ I h) fun u s1 hu => ?_) ht
  obtain ⟨y, H1, I1, ry, a, dx, fs, rfl, ea, l, q⟩ := hu
  obtain rfl : u = Value.ref a := ry
  refine getmeth_ok I1 ea c hm l ?_
  refine PySem.W.callWith_K (first := [.ref a]) (h₀ := X.base) I.ok.mod.kin hm.kp (thn (ha.run pos pins s1 σ H1 _ I1 q) fun us s2 hv => ?_) hst hpl
  obtain ⟨vs, H2, I2, r, q2⟩ := hv
  exact ⟨I2.kIn, run_fnSD (us := .ref a :: us) (vs := .ref a :: vs) F hr hb hd (hx σ) I2 (.cons rfl r) q2⟩
end

/-! ### C(e) over any built-in error, in a def whose errors have no context -/
section
variable {X : Cx} {pins : List (Addr × Obj)} {σ : L2.St} {H : Hp} {s : Shared} {bmB : List Value} {B newId initId : String} {C fI : Addr} {f : Str}
/-- C(e), its object told whole -/
theorem pmk_G5 {x : Str} {k : Nat} {fd : FuncData} {ps : List Str} {p pos : Pos} {e : Expr} {ta : TA} (F : ExcBaseFacts B newId initId bmB) (N : XcN X.K X.mg x C) (G : XcG X.K bmB newId C fI f) (F1 : FnOk X.prog X.w X.K X.mg X.base CX0 k fI fd ps (sp_exc_init X.K C f)) (hr : Room (k + 1) X.A) (hb : Binds X.K fd ps [])
    (hg : Gl X x) (ha : PA X [e] ta) (hdb : (x == ("__debug__" : Str)) = false := by decide) (he : starEach (e :: []) X.env = (false, eval e X.env) :: starEach [] X.env := by rfl) (hpl : (backTo pos (starEach [] X.env)).any (·.1) = false := by rfl) :
    L2H.PMk5 X (.Call (.Name x p) [e] [] pos) (tMk1 C f ta) := by
  intro pins s σ H Q I h
  refine wpAny_Call_Name_kw (ld_glob I hg N.g ?_ hdb)
  refine PySem.W.callWith_K (h₀ := X.base) I.ok.mod.kin G.kC (thn (ha.run pos pins s σ H _ I h) fun us s1 hh => ?_) he hpl
  obtain ⟨vs, H1, I1, r1, v, rfl, q⟩ := hh
  refine ⟨I1.kIn, ?_⟩
  cases r1 with
  | cons rv rn =>
    rename_i u us'
    cases rn
    show wpAny _ _ (call (.ref C) [u]) _ _ _
    obtain ⟨nm, Nn, qn, bs, bm, hdct, sn, sub, ab, col, dd, k0, k1, k2, k3, k5, hC, hT⟩ := PySem.W.excInit_of I1.kIn G.ini
    obtain ⟨hp, g, dr, tk, os⟩ := s1
    have big : hp.objs.size ≤ hp.objs.size + 1 := Nat.le_succ _
    have na : H1 (hp.objs.size + 1) = none := I1.hok.fresh big
    have got : ((hp.push (PySem.W.kdv_tup [u])).push (PySem.HandSPX.excO C hp.objs.size)).get? (hp.objs.size + 1) = some (PySem.HandSPX.excO C hp.objs.size) := by heap_get
    have kk : ∀ b o, hp.get? b = some o → ((hp.push (PySem.W.kdv_tup [u])).push (PySem.HandSPX.excO C hp.objs.size)).get? b = some o := fun b o z => Heap.get?_push_of_some _ (Heap.get?_push_of_some _ z)
    have I2 := I1.laid (t' := tk) (a := hp.objs.size + 1) (o := exo (hp.objs.size + 1) C none) kk big (exo_ok got)
    have lay : ∀ dx, upd H1 (hp.objs.size + 1) (exo (hp.objs.size + 1) C none) dx = none → dx ≠ hp.objs.size + 1 → H1 dx = none := fun dx n ne => by
      rw [upd_ne ne] at n
      exact n
    refine wpAny_call (PySem.HandSPX.call_own F hT hC (PySem.W.looks_findIn I1.kIn G.iC) (fun self => PySem.W.bind_fn I1.kIn self G.tI) (by show 1 ≤ sizeLine; rw [sizeLine_eq]; decide)
      (codeAny_mono (F1.run _ X.stack _ _ ⟨[.ref (hp.objs.size + 1), u], []⟩ [.ref (hp.objs.size + 1), u] [.ref (hp.objs.size + 1), v] (fun r H2 => r = .non ∧ ∃ dx, H1 dx = none ∧ dx ≠ hp.objs.size + 1 ∧ H2 = upd (upd (upd H1 (hp.objs.size + 1) (exo (hp.objs.size + 1) C none)) dx (exd dx [(f, v)])) (hp.objs.size + 1) (exo (hp.objs.size + 1) C (some dx)))
        (fun _ _ _ => False) (hr.make C [u] []) (I2.env0.make C [u] []) (hb _ [.ref (hp.objs.size + 1), u] I2.kIn (F1.len [.ref (hp.objs.size + 1), v] (upd H1 (hp.objs.size + 1) (exo (hp.objs.size + 1) C none)) (fun _ _ => True) (fun _ _ _ => True) ⟨_, v, rfl, upd_same, fun _ _ _ => trivial⟩)) (.cons rfl (.cons rv .nil)) ⟨_, v, rfl, upd_same, fun dx n ne => ⟨rfl, dx, lay dx n ne, ne, rfl⟩⟩) fun r s' hq => ?_))
    cases r with
    | error er => exact hq.elim
    | ok fl =>
      cases fl with
      | next => exact False.elim hq
      | brk => exact False.elim hq
      | cont => exact False.elim hq
      | ret ur =>
        obtain ⟨z, H2, os2, bare2, un2, hok2, rz, ez, dx, nd, ne, eH⟩ := hq
        subst ez eH
        obtain ⟨h2, g2, d2, t2, os'⟩ := s'
        obtain ⟨t0, G2, J, kG, ge, hoe, na2⟩ := mk_end0 (d2 := d2) (t2 := t2) (d := dx) (fs := [(f, v)]) I1 big kk un2 hok2 os2 bare2 upd_same (by rw [upd_ne ne]; exact upd_same) nd
        refine ⟨rz, ⟨hp.objs.size + 1, _, _, ⟨G2, g2, d2, t2, os'⟩, _, .ref C, some dx, rfl, J, kG, ge, hoe, ⟨rfl, rfl, fun vs hv => by cases hv; rfl⟩, rfl, rfl, na2, rfl, bare2, raises_own N.ba N.ty, ?_⟩, fun a oe vs ea2 hg2 hd2 => ?_⟩
        rotate_left
        · cases ea2
          have hg3 : h2.get? (hp.objs.size + 1) = some oe := hg2
          rw [hoe] at hg3
          cases hg3
          cases hd2
          show (4 : Nat) < 6
          decide
        have eq : upd (del (upd (upd (upd H1 (hp.objs.size + 1) (exo (hp.objs.size + 1) C none)) dx (exd dx [(f, v)])) (hp.objs.size + 1) (exo (hp.objs.size + 1) C (some dx))) (hp.objs.size + 1)) dx (.xd [(f, v)]) = upd H1 dx (.xd [(f, v)]) := by
          funext b
          by_cases hb : b = dx
          · rw [hb, upd_same, upd_same]
          · rw [upd_ne hb, upd_ne hb]
            by_cases ha : b = hp.objs.size + 1
            · rw [ha, del_same, na]
            · rw [del_ne ha, upd_ne ha, upd_ne hb, upd_ne ha]
        rw [eq]
        exact q dx nd
end
section
variable {X : Cx}
/-- raise C(e) -/
theorem ps_raiseGN {bmB : List Value} {B newId initId : String} {W : WX} {x f : Str} {C fI : Addr} {k : Nat} {fd : FuncData} {ps : List Str} {p pos pos2 : Pos} {e : Expr} {ta : TA} (F : ExcBaseFacts B newId initId bmB) (hc : X.calm = true) (tk : L2N.Takes X W) (N : XcN X.K X.mg x C) (G : XcG X.K bmB newId C fI f)
    (F1 : FnOk X.prog X.w X.K X.mg X.base CX0 k fI fd ps (sp_exc_init X.K C f)) (hr : Room (k + 1) X.A) (hb : Binds X.K fd ps []) (hg : Gl X x) (ha : PA X [e] ta) (hdb : (x == ("__debug__" : Str)) = false := by decide)
    (he : starEach (e :: []) X.env = (false, eval e X.env) :: starEach [] X.env := by rfl) (hpl : (backTo pos (starEach [] X.env)).any (·.1) = false := by rfl) :
    PS X (.Raise (some (.Call (.Name x p) [e] [] pos)) none pos2) (fun _ σ H => tMk1 C f ta σ H fun cls d H' => W cls d σ H') := L2N.ps_raise hc tk (pmk_G5 F N G F1 hr hb hg ha hdb he hpl).pmk
end

def topS (i : Nat) : Stmt := PySem.Challenge.pw_fewspans_k74_batches_applied.main.body.getD i (.Pass ⟨0, 0, 0, 0⟩)
abbrev s_is_number : Stmt := topS 22
abbrev N_is_number : List Str := ["value"]
theorem sc_is_number : FnScope N_is_number ["value"] (defScope s_is_number) := ⟨rfl, rfl, rfl, by decide +kernel, rfl, by decide +kernel, by decide +kernel⟩
abbrev s_is_position : Stmt := topS 23
abbrev N_is_position : List Str := ["value"]
theorem sc_is_position : FnScope N_is_position ["value"] (defScope s_is_position) := ⟨rfl, rfl, rfl, by decide +kernel, rfl, by decide +kernel, by decide +kernel⟩
abbrev s_is_tuple_of : Stmt := topS 24
abbrev N_is_tuple_of : List Str := ["value", "length"]
theorem sc_is_tuple_of : FnScope N_is_tuple_of ["value", "length"] (defScope s_is_tuple_of) := ⟨rfl, rfl, rfl, by decide +kernel, rfl, by decide +kernel, by decide +kernel⟩
abbrev s_is_interval : Stmt := topS 25
abbrev N_is_interval : List Str := ["value", "low", "high"]
theorem sc_is_interval : FnScope N_is_interval ["value"] (defScope s_is_interval) := ⟨rfl, rfl, rfl, by decide +kernel, rfl, by decide +kernel, by decide +kernel⟩
abbrev s_ascending_error : Stmt := topS 26
abbrev N_ascending_error : List Str := ["value", "most", "index", "item"]
theorem sc_ascending_error : FnScope N_ascending_error ["value", "most"] (defScope s_ascending_error) := ⟨rfl, rfl, rfl, by decide +kernel, rfl, by decide +kernel, by decide +kernel⟩
abbrev s_targets_error : Stmt := topS 27
abbrev N_targets_error : List Str := ["value"]
theorem sc_targets_error : FnScope N_targets_error ["value"] (defScope s_targets_error) := ⟨rfl, rfl, rfl, by decide +kernel, rfl, by decide +kernel, by decide +kernel⟩
abbrev s_is_pieces : Stmt := topS 28
abbrev N_is_pieces : List Str := ["value"]
theorem sc_is_pieces : FnScope N_is_pieces ["value"] (defScope s_is_pieces) := ⟨rfl, rfl, rfl, by decide +kernel, rfl, by decide +kernel, by decide +kernel⟩
abbrev s_without_item : Stmt := topS 30
abbrev N_without_item : List Str := ["items", "item", "other"]
theorem sc_without_item : FnScope N_without_item ["items", "item"] (defScope s_without_item) := ⟨rfl, rfl, rfl, by decide +kernel, rfl, by decide +kernel, by decide +kernel⟩
abbrev s_is_edit : Stmt := topS 33
abbrev N_is_edit : List Str := ["value"]
theorem sc_is_edit : FnScope N_is_edit ["value"] (defScope s_is_edit) := ⟨rfl, rfl, rfl, by decide +kernel, rfl, by decide +kernel, by decide +kernel⟩
abbrev s_copied_batch : Stmt := topS 34
abbrev N_copied_batch : List Str := ["value", "index", "item"]
theorem sc_copied_batch : FnScope N_copied_batch ["value"] (defScope s_copied_batch) := ⟨rfl, rfl, rfl, by decide +kernel, rfl, by decide +kernel, by decide +kernel⟩
abbrev s_with_interval : Stmt := topS 35
abbrev N_with_interval : List Str := ["intervals", "value", "bound"]
theorem sc_with_interval : FnScope N_with_interval ["intervals", "value", "bound"] (defScope s_with_interval) := ⟨rfl, rfl, rfl, by decide +kernel, rfl, by decide +kernel, by decide +kernel⟩
abbrev s_without_interval : Stmt := topS 36
abbrev N_without_interval : List Str := ["intervals", "value"]
theorem sc_without_interval : FnScope N_without_interval ["intervals", "value"] (defScope s_without_interval) := ⟨rfl, rfl, rfl, by decide +kernel, rfl, by decide +kernel, by decide +kernel⟩
abbrev s_edited_state : Stmt := topS 37
abbrev N_edited_state : List Str := ["state", "word", "value", "targets", "pieces"]
theorem sc_edited_state : FnScope N_edited_state ["state", "word", "value"] (defScope s_edited_state) := ⟨rfl, rfl, rfl, by decide +kernel, rfl, by decide +kernel, by decide +kernel⟩
abbrev s_law_deck : Stmt := topS 41
abbrev N_law_deck : List Str := ["_law_script", "_law_cell"]
theorem sc_law_deck : FnScope N_law_deck ["_law_script"] (defScope s_law_deck) := ⟨rfl, rfl, rfl, by decide +kernel, rfl, by decide +kernel, by decide +kernel⟩
abbrev s_law_draw : Stmt := topS 42
abbrev N_law_draw : List Str := ["_law_deck_here", "_law_many", "_law_cell", "_law_place"]
theorem sc_law_draw : FnScope N_law_draw ["_law_deck_here", "_law_many"] (defScope s_law_draw) := ⟨rfl, rfl, rfl, by decide +kernel, rfl, by decide +kernel, by decide +kernel⟩
abbrev s_law_line : Stmt := topS 43
abbrev N_law_line : List Str := ["_law_deck_here", "_law_most", "_law_low", "_law_found", "_law_k", "_law_size"]
theorem sc_law_line : FnScope N_law_line ["_law_deck_here", "_law_most"] (defScope s_law_line) := ⟨rfl, rfl, rfl, by decide +kernel, rfl, by decide +kernel, by decide +kernel⟩
abbrev s_law_interval : Stmt := topS 44
abbrev N_law_interval : List Str := ["_law_deck_here", "_law_line_here", "_law_first", "_law_last"]
theorem sc_law_interval : FnScope N_law_interval ["_law_deck_here", "_law_line_here"] (defScope s_law_interval) := ⟨rfl, rfl, rfl, by decide +kernel, rfl, by decide +kernel, by decide +kernel⟩
abbrev s_law_intervals : Stmt := topS 45
abbrev N_law_intervals : List Str := ["_law_deck_here", "_law_line_here", "_law_most", "_law_found", "_law_k"]
theorem sc_law_intervals : FnScope N_law_intervals ["_law_deck_here", "_law_line_here", "_law_most"] (defScope s_law_intervals) := ⟨rfl, rfl, rfl, by decide +kernel, rfl, by decide +kernel, by decide +kernel⟩
abbrev s_law_edit : Stmt := topS 46
abbrev N_law_edit : List Str := ["_law_deck_here", "_law_line_here", "_law_state", "_law_way", "_law_side", "_law_words", "_law_value", "_law_there"]
theorem sc_law_edit : FnScope N_law_edit ["_law_deck_here", "_law_line_here", "_law_state"] (defScope s_law_edit) := ⟨rfl, rfl, rfl, by decide +kernel, rfl, by decide +kernel, by decide +kernel⟩
abbrev s_law_after : Stmt := topS 47
abbrev N_law_after : List Str := ["_law_state", "_law_edit_here", "_law_word", "_law_value", "_law_side", "_law_there", "_law_one", "_law_found"]
theorem sc_law_after : FnScope N_law_after ["_law_state", "_law_edit_here"] (defScope s_law_after) := ⟨rfl, rfl, rfl, by decide +kernel, rfl, by decide +kernel, by decide +kernel⟩
abbrev s_law_right : Stmt := topS 48
abbrev N_law_right : List Str := ["_law_plan", "_law_state", "_law_edits", "_law_words"]
theorem sc_law_right : FnScope N_law_right ["_law_plan", "_law_state", "_law_edits"] (defScope s_law_right) := ⟨rfl, rfl, rfl, by decide +kernel, rfl, by decide +kernel, by decide +kernel⟩
abbrev s_law_begun : Stmt := topS 49
abbrev N_law_begun : List Str := ["_law_deck_here", "_law_most", "_law_line_here"]
theorem sc_law_begun : FnScope N_law_begun ["_law_deck_here", "_law_most"] (defScope s_law_begun) := ⟨rfl, rfl, rfl, by decide +kernel, rfl, by decide +kernel, by decide +kernel⟩
abbrev s_law_applied : Stmt := topS 50
abbrev N_law_applied : List Str := ["_law_plan", "_law_batch_here", "e", "_law_flags"]
theorem sc_law_applied : FnScope N_law_applied ["_law_plan", "_law_batch_here"] (defScope s_law_applied) := ⟨rfl, rfl, rfl, by decide +kernel, rfl, by decide +kernel, by decide +kernel⟩
abbrev s_law_failing : Stmt := topS 51
abbrev N_law_failing : List Str := ["_law_deck_here", "_law_state", "_law_value", "_law_some", "_law_one"]
theorem sc_law_failing : FnScope N_law_failing ["_law_deck_here", "_law_state"] (defScope s_law_failing) := ⟨rfl, rfl, rfl, by decide +kernel, rfl, by decide +kernel, by decide +kernel⟩
abbrev s_law_bad : Stmt := topS 52
abbrev N_law_bad : List Str := ["_law_deck_here", "_law_some"]
theorem sc_law_bad : FnScope N_law_bad ["_law_deck_here"] (defScope s_law_bad) := ⟨rfl, rfl, rfl, by decide +kernel, rfl, by decide +kernel, by decide +kernel⟩
abbrev s_law_batch : Stmt := topS 53
abbrev N_law_batch : List Str := ["_law_deck_here", "_law_line_here", "_law_state", "_law_states", "_law_batch_here", "_law_k", "_law_due", "_law_place", "_law_way"]
theorem sc_law_batch : FnScope N_law_batch ["_law_deck_here", "_law_line_here", "_law_state"] (defScope s_law_batch) := ⟨rfl, rfl, rfl, by decide +kernel, rfl, by decide +kernel, by decide +kernel⟩
abbrev s_law : Stmt := topS 54
abbrev N_law : List Str := ["_law_script", "_law_deck_here", "_law_line_here", "_law_state", "_law_plan", "_law_edits", "_law_turn", "_law_batch_here", "_law_states", "_law_due", "_law_held", "_law_odd"]
theorem sc_law : FnScope N_law ["_law_script"] (defScope s_law) := ⟨rfl, rfl, rfl, by decide +kernel, rfl, by decide +kernel, by decide +kernel⟩
abbrev s_Plan_init : Stmt := inClass (topS 39) 0
abbrev N_Plan_init : List Str := ["self", "targets", "pieces", "error"]
theorem sc_Plan_init : FnScope N_Plan_init ["self", "targets", "pieces"] (defScope s_Plan_init) := ⟨rfl, rfl, rfl, by decide +kernel, rfl, by decide +kernel, by decide +kernel⟩
abbrev s_Plan_apply : Stmt := inClass (topS 39) 6
abbrev N_Plan_apply : List Str := ["self", "edits", "check", "batch", "states", "done", "index", "word", "interval"]
theorem sc_Plan_apply : FnScope N_Plan_apply ["self", "edits", "check"] (defScope s_Plan_apply) := ⟨rfl, rfl, rfl, by decide +kernel, rfl, by decide +kernel, by decide +kernel⟩
abbrev s_Plan_targets : Stmt := inClass (topS 39) 7
abbrev N_Plan_targets : List Str := ["self", "version"]
theorem sc_Plan_targets : FnScope N_Plan_targets ["self", "version"] (defScope s_Plan_targets) := ⟨rfl, rfl, rfl, by decide +kernel, rfl, by decide +kernel, by decide +kernel⟩
abbrev s_Plan_pieces : Stmt := inClass (topS 39) 8
abbrev N_Plan_pieces : List Str := ["self", "version"]
theorem sc_Plan_pieces : FnScope N_Plan_pieces ["self", "version"] (defScope s_Plan_pieces) := ⟨rfl, rfl, rfl, by decide +kernel, rfl, by decide +kernel, by decide +kernel⟩
abbrev s_Plan_edits : Stmt := inClass (topS 39) 12
abbrev N_Plan_edits : List Str := ["self"]
theorem sc_Plan_edits : FnScope N_Plan_edits ["self"] (defScope s_Plan_edits) := ⟨rfl, rfl, rfl, by decide +kernel, rfl, by decide +kernel, by decide +kernel⟩
abbrev s_Plan_record : Stmt := inClass (topS 39) 15
abbrev N_Plan_record : List Str := ["self", "word", "value", "state"]
theorem sc_Plan_record : FnScope N_Plan_record ["self", "word", "value"] (defScope s_Plan_record) := ⟨rfl, rfl, rfl, by decide +kernel, rfl, by decide +kernel, by decide +kernel⟩
abbrev s_Plan_record_or_reject : Stmt := inClass (topS 39) 16
abbrev N_Plan_record_or_reject : List Str := ["self", "index", "word", "value", "error"]
theorem sc_Plan_record_or_reject : FnScope N_Plan_record_or_reject ["self", "index", "word", "value"] (defScope s_Plan_record_or_reject) := ⟨rfl, rfl, rfl, by decide +kernel, rfl, by decide +kernel, by decide +kernel⟩
abbrev s_Plan_passes : Stmt := inClass (topS 39) 17
abbrev N_Plan_passes : List Str := ["self", "check"]
theorem sc_Plan_passes : FnScope N_Plan_passes ["self", "check"] (defScope s_Plan_passes) := ⟨rfl, rfl, rfl, by decide +kernel, rfl, by decide +kernel, by decide +kernel⟩
abbrev s_Plan_require_idle : Stmt := inClass (topS 39) 18
abbrev N_Plan_require_idle : List Str := ["self"]
theorem sc_Plan_require_idle : FnScope N_Plan_require_idle ["self"] (defScope s_Plan_require_idle) := ⟨rfl, rfl, rfl, by decide +kernel, rfl, by decide +kernel, by decide +kernel⟩
abbrev s_Plan_state_at : Stmt := inClass (topS 39) 19
abbrev N_Plan_state_at : List Str := ["self", "version"]
theorem sc_Plan_state_at : FnScope N_Plan_state_at ["self", "version"] (defScope s_Plan_state_at) := ⟨rfl, rfl, rfl, by decide +kernel, rfl, by decide +kernel, by decide +kernel⟩
abbrev s_Plan_len : Stmt := inClass (topS 39) 20
abbrev N_Plan_len : List Str := ["self"]
theorem sc_Plan_len : FnScope N_Plan_len ["self"] (defScope s_Plan_len) := ⟨rfl, rfl, rfl, by decide +kernel, rfl, by decide +kernel, by decide +kernel⟩
abbrev s_Plan_str : Stmt := inClass (topS 39) 21
abbrev N_Plan_str : List Str := ["self"]
theorem sc_Plan_str : FnScope N_Plan_str ["self"] (defScope s_Plan_str) := ⟨rfl, rfl, rfl, by decide +kernel, rfl, by decide +kernel, by decide +kernel⟩
abbrev s_BadInterval_init : Stmt := inClass (topS 11) 0
abbrev N_BadInterval_init : List Str := ["self", "value"]
theorem sc_BadInterval_init : FnScope N_BadInterval_init ["self", "value"] (defScope s_BadInterval_init) := ⟨rfl, rfl, rfl, by decide +kernel, rfl, by decide +kernel, by decide +kernel⟩
abbrev s_Duplicate_init : Stmt := inClass (topS 12) 0
abbrev N_Duplicate_init : List Str := ["self", "value"]
theorem sc_Duplicate_init : FnScope N_Duplicate_init ["self", "value"] (defScope s_Duplicate_init) := ⟨rfl, rfl, rfl, by decide +kernel, rfl, by decide +kernel, by decide +kernel⟩
abbrev s_BadEdit_init : Stmt := inClass (topS 16) 0
abbrev N_BadEdit_init : List Str := ["self", "index"]
theorem sc_BadEdit_init : FnScope N_BadEdit_init ["self", "index"] (defScope s_BadEdit_init) := ⟨rfl, rfl, rfl, by decide +kernel, rfl, by decide +kernel, by decide +kernel⟩
abbrev s_Rejected_init : Stmt := inClass (topS 17) 0
abbrev N_Rejected_init : List Str := ["self", "index"]
theorem sc_Rejected_init : FnScope N_Rejected_init ["self", "index"] (defScope s_Rejected_init) := ⟨rfl, rfl, rfl, by decide +kernel, rfl, by decide +kernel, by decide +kernel⟩
abbrev s_Unknown_init : Stmt := inClass (topS 19) 0
abbrev N_Unknown_init : List Str := ["self", "value"]
theorem sc_Unknown_init : FnScope N_Unknown_init ["self", "value"] (defScope s_Unknown_init) := ⟨rfl, rfl, rfl, by decide +kernel, rfl, by decide +kernel, by decide +kernel⟩
/-! ### the deck and its draws -/
structure Dk (H : Hp) (d c : Addr) (n : Int) : Prop where
  top : H d = some (.lst [.ref c, .int n])
  cells : ∃ xs : List Int, H c = some (.lst (xs.map V.int)) ∧ xs.length ≤ 63 ∧ ∀ x ∈ xs, 0 ≤ x
theorem Dk.ne {H : Hp} {d c : Addr} {n : Int} (h : Dk H d c n) : c ≠ d := by
  obtain ⟨xs, e, _⟩ := h.cells
  intro z
  subst z
  have q := e.symm.trans h.top
  cases xs with
  | nil => cases q
  | cons x r => cases q
/-- nothing but the deck has changed -/
def Kp (d c : Addr) (H H' : Hp) : Prop := ∀ b o, b ≠ d → b ≠ c → H b = some o → H' b = some o
theorem Kp.trans {d c : Addr} {H H1 H2 : Hp} (h1 : Kp d c H H1) (h2 : Kp d c H1 H2) : Kp d c H H2 := fun b o n1 n2 e => h2 b o n1 n2 (h1 b o n1 n2 e)
theorem Kp.same {d c : Addr} {H H1 : Hp} (h : Same H H1) : Kp d c H H1 := fun b o _ _ e => h b o e
theorem Kp.none {d c : Addr} {H H' : Hp} (k : Kp d c H H') {n m : Int} (h : Dk H d c n) (h' : Dk H' d c m) {t : Addr} (e : H' t = none) : H t = none := by
  by_cases e1 : t = d
  · rw [e1, h'.top] at e
    cases e
  · by_cases e2 : t = c
    · obtain ⟨xs, z, _⟩ := h'.cells
      rw [e2, z] at e
      cases e
    · cases q : H t with
      | none => rfl
      | some o =>
        rw [k t o e1 e2 q] at e
        cases e
theorem Dk.kept {H H' : Hp} {d c : Addr} {n : Int} (h : Dk H d c n) (s : Same H H') : Dk H' d c n :=
  let ⟨xs, e, a⟩ := h.cells
  ⟨s _ _ h.top, xs, s _ _ e, a⟩
theorem Dk.eq {H : Hp} {d c : Addr} {n m : Int} (h : Dk H d c n) (e : n = m) : Dk H d c m := e ▸ h
def sp_law_deck (K : PySem.W.Frag) : Sp := fun vs H Q _ => ∃ (a : Addr) (ns : List Int), vs = [.ref a] ∧ SqL K H a (ns.map V.int) ∧ ns.length ≤ 63 ∧
  ∀ H' d c, Same H H' → H d = none → H c = none → Dk H' d c 0 → Q (.ref d) H'
def sp_law_draw : Sp := fun vs H Q _ => ∃ (d c : Addr) (n lim : Int), vs = [.ref d, .int lim] ∧ Dk H d c n ∧ 0 ≤ n ∧ n < 1000000 ∧ 0 < lim ∧ lim < 2 ^ 63 ∧
  ∀ H' r, Kp d c H H' → Dk H' d c (n + 1) → 0 ≤ r → r < lim → Q (.int r) H'
theorem same_new {H : Hp} {p : Addr} {o : HO} (h : H p = none) : Same H (upd H p o) := fun b x e => by
  rw [upd_ne (ne_of_none e h)]
  exact e
theorem cutTo (xs : List V) (j : Nat) : cutV xs none (some (j : Int)) = xs.take j := by
  unfold cutV
  rw [HT.sIx_none, show HT.sIx xs.length xs.length (some (j : Int)) = min j xs.length from HT.sIx_nat xs.length xs.length j]
  rw [Nat.sub_zero, List.drop_zero]
  rcases Nat.le_total j xs.length with h | h
  · rw [Nat.min_eq_left h]
  · rw [Nat.min_eq_right h, List.take_length, List.take_of_length_le h]
section
structure Tx (K : PySem.W.Frag) (mg : Str → Option Value) (f_is_number f_is_position f_is_tuple_of f_is_interval f_ascending_error f_targets_error f_is_pieces f_without_item f_is_edit f_copied_batch f_with_interval f_without_interval f_edited_state f_law_deck f_law_draw f_law_line f_law_interval f_law_intervals f_law_edit f_law_after f_law_right f_law_begun f_law_applied f_law_failing f_law_bad f_law_batch f_law f_Plan_init f_Plan_apply f_Plan_targets f_Plan_pieces f_Plan_edits f_Plan_record f_Plan_record_or_reject f_Plan_passes f_Plan_require_idle f_Plan_state_at f_Plan_len f_Plan_str f_BadInterval_init f_Duplicate_init f_BadEdit_init f_Rejected_init f_Unknown_init C_Plan X_BadInterval X_SpanError X_Unknown X_Duplicate X_Rejected X_BadEdit X_BadEdits X_Busy : Addr) (d_is_number d_is_position d_is_tuple_of d_is_interval d_ascending_error d_targets_error d_is_pieces d_without_item d_is_edit d_copied_batch d_with_interval d_without_interval d_edited_state d_law_deck d_law_draw d_law_line d_law_interval d_law_intervals d_law_edit d_law_after d_law_right d_law_begun d_law_applied d_law_failing d_law_bad d_law_batch d_law d_Plan_init d_Plan_apply d_Plan_targets d_Plan_pieces d_Plan_edits d_Plan_record d_Plan_record_or_reject d_Plan_passes d_Plan_require_idle d_Plan_state_at d_Plan_len d_Plan_str d_BadInterval_init d_Duplicate_init d_BadEdit_init d_Rejected_init d_Unknown_init : FuncData) (t_LAST_POSITION t_MAX_TARGETS t_MAX_PIECES t_MAX_EDITS t_BATCH : Tok) (t_WORDS : Addr) : Prop where
  F_is_number : Fun K "is_number" "is_number" s_is_number f_is_number d_is_number
  b_is_number : Binds K d_is_number ["value"] []
  g_is_number : mg "is_number" = some (.ref f_is_number)
  F_is_position : Fun K "is_position" "is_position" s_is_position f_is_position d_is_position
  b_is_position : Binds K d_is_position ["value"] []
  g_is_position : mg "is_position" = some (.ref f_is_position)
  F_is_tuple_of : Fun K "is_tuple_of" "is_tuple_of" s_is_tuple_of f_is_tuple_of d_is_tuple_of
  b_is_tuple_of : Binds K d_is_tuple_of ["value", "length"] []
  g_is_tuple_of : mg "is_tuple_of" = some (.ref f_is_tuple_of)
  F_is_interval : Fun K "is_interval" "is_interval" s_is_interval f_is_interval d_is_interval
  b_is_interval : Binds K d_is_interval ["value"] []
  g_is_interval : mg "is_interval" = some (.ref f_is_interval)
  F_ascending_error : Fun K "ascending_error" "ascending_error" s_ascending_error f_ascending_error d_ascending_error
  b_ascending_error : Binds K d_ascending_error ["value", "most"] []
  g_ascending_error : mg "ascending_error" = some (.ref f_ascending_error)
  F_targets_error : Fun K "targets_error" "targets_error" s_targets_error f_targets_error d_targets_error
  b_targets_error : Binds K d_targets_error ["value"] []
  g_targets_error : mg "targets_error" = some (.ref f_targets_error)
  F_is_pieces : Fun K "is_pieces" "is_pieces" s_is_pieces f_is_pieces d_is_pieces
  b_is_pieces : Binds K d_is_pieces ["value"] []
  g_is_pieces : mg "is_pieces" = some (.ref f_is_pieces)
  F_without_item : Fun K "without_item" "without_item" s_without_item f_without_item d_without_item
  b_without_item : Binds K d_without_item ["items", "item"] []
  g_without_item : mg "without_item" = some (.ref f_without_item)
  F_is_edit : Fun K "is_edit" "is_edit" s_is_edit f_is_edit d_is_edit
  b_is_edit : Binds K d_is_edit ["value"] []
  g_is_edit : mg "is_edit" = some (.ref f_is_edit)
  F_copied_batch : Fun K "copied_batch" "copied_batch" s_copied_batch f_copied_batch d_copied_batch
  b_copied_batch : Binds K d_copied_batch ["value"] []
  g_copied_batch : mg "copied_batch" = some (.ref f_copied_batch)
  F_with_interval : Fun K "with_interval" "with_interval" s_with_interval f_with_interval d_with_interval
  b_with_interval : Binds K d_with_interval ["intervals", "value", "bound"] []
  g_with_interval : mg "with_interval" = some (.ref f_with_interval)
  F_without_interval : Fun K "without_interval" "without_interval" s_without_interval f_without_interval d_without_interval
  b_without_interval : Binds K d_without_interval ["intervals", "value"] []
  g_without_interval : mg "without_interval" = some (.ref f_without_interval)
  F_edited_state : Fun K "edited_state" "edited_state" s_edited_state f_edited_state d_edited_state
  b_edited_state : Binds K d_edited_state ["state", "word", "value"] []
  g_edited_state : mg "edited_state" = some (.ref f_edited_state)
  F_law_deck : Fun K "_law_deck" "_law_deck" s_law_deck f_law_deck d_law_deck
  b_law_deck : Binds K d_law_deck ["_law_script"] []
  g_law_deck : mg "_law_deck" = some (.ref f_law_deck)
  F_law_draw : Fun K "_law_draw" "_law_draw" s_law_draw f_law_draw d_law_draw
  b_law_draw : Binds K d_law_draw ["_law_deck_here", "_law_many"] []
  g_law_draw : mg "_law_draw" = some (.ref f_law_draw)
  F_law_line : Fun K "_law_line" "_law_line" s_law_line f_law_line d_law_line
  b_law_line : Binds K d_law_line ["_law_deck_here", "_law_most"] []
  g_law_line : mg "_law_line" = some (.ref f_law_line)
  F_law_interval : Fun K "_law_interval" "_law_interval" s_law_interval f_law_interval d_law_interval
  b_law_interval : Binds K d_law_interval ["_law_deck_here", "_law_line_here"] []
  g_law_interval : mg "_law_interval" = some (.ref f_law_interval)
  F_law_intervals : Fun K "_law_intervals" "_law_intervals" s_law_intervals f_law_intervals d_law_intervals
  b_law_intervals : Binds K d_law_intervals ["_law_deck_here", "_law_line_here", "_law_most"] []
  g_law_intervals : mg "_law_intervals" = some (.ref f_law_intervals)
  F_law_edit : Fun K "_law_edit" "_law_edit" s_law_edit f_law_edit d_law_edit
  b_law_edit : Binds K d_law_edit ["_law_deck_here", "_law_line_here", "_law_state"] []
  g_law_edit : mg "_law_edit" = some (.ref f_law_edit)
  F_law_after : Fun K "_law_after" "_law_after" s_law_after f_law_after d_law_after
  b_law_after : Binds K d_law_after ["_law_state", "_law_edit_here"] []
  g_law_after : mg "_law_after" = some (.ref f_law_after)
  F_law_right : Fun K "_law_right" "_law_right" s_law_right f_law_right d_law_right
  b_law_right : Binds K d_law_right ["_law_plan", "_law_state", "_law_edits"] []
  g_law_right : mg "_law_right" = some (.ref f_law_right)
  F_law_begun : Fun K "_law_begun" "_law_begun" s_law_begun f_law_begun d_law_begun
  b_law_begun : Binds K d_law_begun ["_law_deck_here", "_law_most"] []
  g_law_begun : mg "_law_begun" = some (.ref f_law_begun)
  F_law_applied : Fun K "_law_applied" "_law_applied" s_law_applied f_law_applied d_law_applied
  b_law_applied : Binds K d_law_applied ["_law_plan", "_law_batch_here"] []
  g_law_applied : mg "_law_applied" = some (.ref f_law_applied)
  F_law_failing : Fun K "_law_failing" "_law_failing" s_law_failing f_law_failing d_law_failing
  b_law_failing : Binds K d_law_failing ["_law_deck_here", "_law_state"] []
  g_law_failing : mg "_law_failing" = some (.ref f_law_failing)
  F_law_bad : Fun K "_law_bad" "_law_bad" s_law_bad f_law_bad d_law_bad
  b_law_bad : Binds K d_law_bad ["_law_deck_here"] []
  g_law_bad : mg "_law_bad" = some (.ref f_law_bad)
  F_law_batch : Fun K "_law_batch" "_law_batch" s_law_batch f_law_batch d_law_batch
  b_law_batch : Binds K d_law_batch ["_law_deck_here", "_law_line_here", "_law_state"] []
  g_law_batch : mg "_law_batch" = some (.ref f_law_batch)
  F_law : Fun K "law" "law" s_law f_law d_law
  b_law : Binds K d_law ["_law_script"] []
  g_law : mg "law" = some (.ref f_law)
  F_Plan_init : Fun K "__init__" "Plan.__init__" s_Plan_init f_Plan_init d_Plan_init
  b_Plan_init : Binds K d_Plan_init ["self", "targets", "pieces"] []
  m_Plan_init : Meth K C_Plan "__init__" f_Plan_init
  F_Plan_apply : FunD K "apply" "Plan.apply" (defArgs s_Plan_apply) (defBody s_Plan_apply) (defScope s_Plan_apply) [] [("check", V.non)] f_Plan_apply d_Plan_apply
  b_Plan_apply : ∃ ds, Vals [V.non] ds ∧ Binds K d_Plan_apply ["self", "edits", "check"] ds
  k_Plan_apply : KBn K d_Plan_apply ["self", "edits", "check"] 2 ["check"] (fun us ws => us ++ ws) (fun vs zs => vs ++ zs)
  m_Plan_apply : Meth K C_Plan "apply" f_Plan_apply
  F_Plan_targets : FunD K "targets" "Plan.targets" (defArgs s_Plan_targets) (defBody s_Plan_targets) (defScope s_Plan_targets) [] [("version", V.non)] f_Plan_targets d_Plan_targets
  b_Plan_targets : ∃ ds, Vals [V.non] ds ∧ Binds K d_Plan_targets ["self", "version"] ds
  k_Plan_targets : KBn K d_Plan_targets ["self", "version"] 1 ["version"] (fun us ws => us ++ ws) (fun vs zs => vs ++ zs)
  m_Plan_targets : Meth K C_Plan "targets" f_Plan_targets
  F_Plan_pieces : FunD K "pieces" "Plan.pieces" (defArgs s_Plan_pieces) (defBody s_Plan_pieces) (defScope s_Plan_pieces) [] [("version", V.non)] f_Plan_pieces d_Plan_pieces
  b_Plan_pieces : ∃ ds, Vals [V.non] ds ∧ Binds K d_Plan_pieces ["self", "version"] ds
  k_Plan_pieces : KBn K d_Plan_pieces ["self", "version"] 1 ["version"] (fun us ws => us ++ ws) (fun vs zs => vs ++ zs)
  m_Plan_pieces : Meth K C_Plan "pieces" f_Plan_pieces
  F_Plan_edits : Fun K "edits" "Plan.edits" s_Plan_edits f_Plan_edits d_Plan_edits
  b_Plan_edits : Binds K d_Plan_edits ["self"] []
  m_Plan_edits : Meth K C_Plan "edits" f_Plan_edits
  F_Plan_record : Fun K "record" "Plan.record" s_Plan_record f_Plan_record d_Plan_record
  b_Plan_record : Binds K d_Plan_record ["self", "word", "value"] []
  m_Plan_record : Meth K C_Plan "record" f_Plan_record
  F_Plan_record_or_reject : Fun K "record_or_reject" "Plan.record_or_reject" s_Plan_record_or_reject f_Plan_record_or_reject d_Plan_record_or_reject
  b_Plan_record_or_reject : Binds K d_Plan_record_or_reject ["self", "index", "word", "value"] []
  m_Plan_record_or_reject : Meth K C_Plan "record_or_reject" f_Plan_record_or_reject
  F_Plan_passes : Fun K "passes" "Plan.passes" s_Plan_passes f_Plan_passes d_Plan_passes
  b_Plan_passes : Binds K d_Plan_passes ["self", "check"] []
  m_Plan_passes : Meth K C_Plan "passes" f_Plan_passes
  F_Plan_require_idle : Fun K "require_idle" "Plan.require_idle" s_Plan_require_idle f_Plan_require_idle d_Plan_require_idle
  b_Plan_require_idle : Binds K d_Plan_require_idle ["self"] []
  m_Plan_require_idle : Meth K C_Plan "require_idle" f_Plan_require_idle
  F_Plan_state_at : Fun K "state_at" "Plan.state_at" s_Plan_state_at f_Plan_state_at d_Plan_state_at
  b_Plan_state_at : Binds K d_Plan_state_at ["self", "version"] []
  m_Plan_state_at : Meth K C_Plan "state_at" f_Plan_state_at
  F_Plan_len : Fun K "__len__" "Plan.__len__" s_Plan_len f_Plan_len d_Plan_len
  b_Plan_len : Binds K d_Plan_len ["self"] []
  m_Plan_len : Meth K C_Plan "__len__" f_Plan_len
  F_Plan_str : Fun K "__str__" "Plan.__str__" s_Plan_str f_Plan_str d_Plan_str
  b_Plan_str : Binds K d_Plan_str ["self"] []
  m_Plan_str : Meth K C_Plan "__str__" f_Plan_str
  F_BadInterval_init : Fun K "__init__" "BadInterval.__init__" s_BadInterval_init f_BadInterval_init d_BadInterval_init
  b_BadInterval_init : Binds K d_BadInterval_init ["self", "value"] []
  F_Duplicate_init : Fun K "__init__" "Duplicate.__init__" s_Duplicate_init f_Duplicate_init d_Duplicate_init
  b_Duplicate_init : Binds K d_Duplicate_init ["self", "value"] []
  F_BadEdit_init : Fun K "__init__" "BadEdit.__init__" s_BadEdit_init f_BadEdit_init d_BadEdit_init
  b_BadEdit_init : Binds K d_BadEdit_init ["self", "index"] []
  F_Rejected_init : Fun K "__init__" "Rejected.__init__" s_Rejected_init f_Rejected_init d_Rejected_init
  b_Rejected_init : Binds K d_Rejected_init ["self", "index"] []
  F_Unknown_init : Fun K "__init__" "Unknown.__init__" s_Unknown_init f_Unknown_init d_Unknown_init
  b_Unknown_init : Binds K d_Unknown_init ["self", "value"] []
  c_LAST_POSITION : mg "LAST_POSITION" = some (.int 1000000000000 t_LAST_POSITION)
  c_MAX_TARGETS : mg "MAX_TARGETS" = some (.int 24 t_MAX_TARGETS)
  c_MAX_PIECES : mg "MAX_PIECES" = some (.int 30 t_MAX_PIECES)
  c_MAX_EDITS : mg "MAX_EDITS" = some (.int 60 t_MAX_EDITS)
  c_BATCH : mg "BATCH" = some (.int 20 t_BATCH)
  c_WORDS : mg "WORDS" = some (.ref t_WORDS)
  q_WORDS : ∃ o its n, K.lookup t_WORDS = some o ∧ o.cls = .type "tuple" ∧ o.data = .seq its n ∧ its.size ≤ sizeLine ∧ Vals [.str "add_target", .str "add_piece", .str "remove_target", .str "remove_piece"] its.toList
  z_ValueError : mg "ValueError" = none
  z_abs : mg "abs" = none
  z_bool : mg "bool" = none
  z_enumerate : mg "enumerate" = none
  z_int : mg "int" = none
  z_isinstance : mg "isinstance" = none
  z_len : mg "len" = none
  z_list : mg "list" = none
  z_range : mg "range" = none
  z_repr : mg "repr" = none
  z_set : mg "set" = none
  z_sorted : mg "sorted" = none
  z_str : mg "str" = none
  z_tuple : mg "tuple" = none
  cl_Plan : Cls K C_Plan
  g_Plan : mg "Plan" = some (.ref C_Plan)
  mk_Plan : Mk K C_Plan f_Plan_init
  n_Plan_states : NoAttr K C_Plan "states"
  n_Plan_done : NoAttr K C_Plan "done"
  n_Plan_busy : NoAttr K C_Plan "busy"
  xn_BadInterval : XcN K mg "BadInterval" X_BadInterval
  xn_SpanError : XcN K mg "SpanError" X_SpanError
  xn_Unknown : XcN K mg "Unknown" X_Unknown
  xn_Duplicate : XcN K mg "Duplicate" X_Duplicate
  xn_Rejected : XcN K mg "Rejected" X_Rejected
  xn_BadEdit : XcN K mg "BadEdit" X_BadEdit
  xn_BadEdits : XcN K mg "BadEdits" X_BadEdits
  xn_Busy : XcN K mg "Busy" X_Busy
  xi_BadInterval : XcI K X_BadInterval f_BadInterval_init "value"
  xh_BadInterval : XcG K bmVE "ValueError.__new__" X_BadInterval f_BadInterval_init "value"
  xv_BadInterval : PySem.W.subIn K (.ref X_BadInterval) (.type "ValueError") = some true
  xl_BadInterval : PySem.W.subIn K (.ref X_BadInterval) (.type "LookupError") = some false
  xs_BadInterval_SpanError : PySem.W.subIn K (.ref X_BadInterval) (.ref X_SpanError) = some true
  xs_BadInterval_Unknown : PySem.W.subIn K (.ref X_BadInterval) (.ref X_Unknown) = some false
  xi_Duplicate : XcI K X_Duplicate f_Duplicate_init "value"
  xh_Duplicate : XcG K bmVE "ValueError.__new__" X_Duplicate f_Duplicate_init "value"
  xv_Duplicate : PySem.W.subIn K (.ref X_Duplicate) (.type "ValueError") = some true
  xl_Duplicate : PySem.W.subIn K (.ref X_Duplicate) (.type "LookupError") = some false
  xs_Duplicate_SpanError : PySem.W.subIn K (.ref X_Duplicate) (.ref X_SpanError) = some true
  xs_Duplicate_Unknown : PySem.W.subIn K (.ref X_Duplicate) (.ref X_Unknown) = some false
  xg_Unknown : XcG K bmLE "LookupError.__new__" X_Unknown f_Unknown_init "value"
  xv_Unknown : PySem.W.subIn K (.ref X_Unknown) (.type "ValueError") = some false
  xl_Unknown : PySem.W.subIn K (.ref X_Unknown) (.type "LookupError") = some true
  xs_Unknown_SpanError : PySem.W.subIn K (.ref X_Unknown) (.ref X_SpanError) = some false
  xs_Unknown_Unknown : PySem.W.subIn K (.ref X_Unknown) (.ref X_Unknown) = some true
  xi_Rejected : XcI K X_Rejected f_Rejected_init "index"
  xv_Rejected : PySem.W.subIn K (.ref X_Rejected) (.type "ValueError") = some true
  xl_Rejected : PySem.W.subIn K (.ref X_Rejected) (.type "LookupError") = some false
  xs_Rejected_SpanError : PySem.W.subIn K (.ref X_Rejected) (.ref X_SpanError) = some true
  xs_Rejected_Rejected : PySem.W.subIn K (.ref X_Rejected) (.ref X_Rejected) = some true
  xs_Rejected_BadEdit : PySem.W.subIn K (.ref X_Rejected) (.ref X_BadEdit) = some false
  xs_Rejected_BadEdits : PySem.W.subIn K (.ref X_Rejected) (.ref X_BadEdits) = some false
  xs_Rejected_Busy : PySem.W.subIn K (.ref X_Rejected) (.ref X_Busy) = some false
  xi_BadEdit : XcI K X_BadEdit f_BadEdit_init "index"
  xv_BadEdit : PySem.W.subIn K (.ref X_BadEdit) (.type "ValueError") = some true
  xl_BadEdit : PySem.W.subIn K (.ref X_BadEdit) (.type "LookupError") = some false
  xs_BadEdit_SpanError : PySem.W.subIn K (.ref X_BadEdit) (.ref X_SpanError) = some true
  xs_BadEdit_Rejected : PySem.W.subIn K (.ref X_BadEdit) (.ref X_Rejected) = some false
  xs_BadEdit_BadEdit : PySem.W.subIn K (.ref X_BadEdit) (.ref X_BadEdit) = some true
  xs_BadEdit_BadEdits : PySem.W.subIn K (.ref X_BadEdit) (.ref X_BadEdits) = some false
  xs_BadEdit_Busy : PySem.W.subIn K (.ref X_BadEdit) (.ref X_Busy) = some false
  xr_BadEdits : XcR K X_BadEdits
  xv_BadEdits : PySem.W.subIn K (.ref X_BadEdits) (.type "ValueError") = some true
  xs_BadEdits_SpanError : PySem.W.subIn K (.ref X_BadEdits) (.ref X_SpanError) = some true
  xs_BadEdits_Rejected : PySem.W.subIn K (.ref X_BadEdits) (.ref X_Rejected) = some false
  xs_BadEdits_BadEdit : PySem.W.subIn K (.ref X_BadEdits) (.ref X_BadEdit) = some false
  xs_BadEdits_BadEdits : PySem.W.subIn K (.ref X_BadEdits) (.ref X_BadEdits) = some true
  xs_BadEdits_Busy : PySem.W.subIn K (.ref X_BadEdits) (.ref X_Busy) = some false
variable {P : Program} {w : World} {K : PySem.W.Frag} {mg : Str → Option Value} {base : Heap} {f_is_number f_is_position f_is_tuple_of f_is_interval f_ascending_error f_targets_error f_is_pieces f_without_item f_is_edit f_copied_batch f_with_interval f_without_interval f_edited_state f_law_deck f_law_draw f_law_line f_law_interval f_law_intervals f_law_edit f_law_after f_law_right f_law_begun f_law_applied f_law_failing f_law_bad f_law_batch f_law f_Plan_init f_Plan_apply f_Plan_targets f_Plan_pieces f_Plan_edits f_Plan_record f_Plan_record_or_reject f_Plan_passes f_Plan_require_idle f_Plan_state_at f_Plan_len f_Plan_str f_BadInterval_init f_Duplicate_init f_BadEdit_init f_Rejected_init f_Unknown_init C_Plan X_BadInterval X_SpanError X_Unknown X_Duplicate X_Rejected X_BadEdit X_BadEdits X_Busy : Addr} {d_is_number d_is_position d_is_tuple_of d_is_interval d_ascending_error d_targets_error d_is_pieces d_without_item d_is_edit d_copied_batch d_with_interval d_without_interval d_edited_state d_law_deck d_law_draw d_law_line d_law_interval d_law_intervals d_law_edit d_law_after d_law_right d_law_begun d_law_applied d_law_failing d_law_bad d_law_batch d_law d_Plan_init d_Plan_apply d_Plan_targets d_Plan_pieces d_Plan_edits d_Plan_record d_Plan_record_or_reject d_Plan_passes d_Plan_require_idle d_Plan_state_at d_Plan_len d_Plan_str d_BadInterval_init d_Duplicate_init d_BadEdit_init d_Rejected_init d_Unknown_init : FuncData} {t_LAST_POSITION t_MAX_TARGETS t_MAX_PIECES t_MAX_EDITS t_BATCH : Tok} {t_WORDS : Addr}
abbrev TxA (K : PySem.W.Frag) (mg : Str → Option Value) (f_is_number f_is_position f_is_tuple_of f_is_interval f_ascending_error f_targets_error f_is_pieces f_without_item f_is_edit f_copied_batch f_with_interval f_without_interval f_edited_state f_law_deck f_law_draw f_law_line f_law_interval f_law_intervals f_law_edit f_law_after f_law_right f_law_begun f_law_applied f_law_failing f_law_bad f_law_batch f_law f_Plan_init f_Plan_apply f_Plan_targets f_Plan_pieces f_Plan_edits f_Plan_record f_Plan_record_or_reject f_Plan_passes f_Plan_require_idle f_Plan_state_at f_Plan_len f_Plan_str f_BadInterval_init f_Duplicate_init f_BadEdit_init f_Rejected_init f_Unknown_init C_Plan X_BadInterval X_SpanError X_Unknown X_Duplicate X_Rejected X_BadEdit X_BadEdits X_Busy : Addr) (d_is_number d_is_position d_is_tuple_of d_is_interval d_ascending_error d_targets_error d_is_pieces d_without_item d_is_edit d_copied_batch d_with_interval d_without_interval d_edited_state d_law_deck d_law_draw d_law_line d_law_interval d_law_intervals d_law_edit d_law_after d_law_right d_law_begun d_law_applied d_law_failing d_law_bad d_law_batch d_law d_Plan_init d_Plan_apply d_Plan_targets d_Plan_pieces d_Plan_edits d_Plan_record d_Plan_record_or_reject d_Plan_passes d_Plan_require_idle d_Plan_state_at d_Plan_len d_Plan_str d_BadInterval_init d_Duplicate_init d_BadEdit_init d_Rejected_init d_Unknown_init : FuncData) (t_LAST_POSITION t_MAX_TARGETS t_MAX_PIECES t_MAX_EDITS t_BATCH : Tok) (t_WORDS : Addr) := Tx K mg f_is_number f_is_position f_is_tuple_of f_is_interval f_ascending_error f_targets_error f_is_pieces f_without_item f_is_edit f_copied_batch f_with_interval f_without_interval f_edited_state f_law_deck f_law_draw f_law_line f_law_interval f_law_intervals f_law_edit f_law_after f_law_right f_law_begun f_law_applied f_law_failing f_law_bad f_law_batch f_law f_Plan_init f_Plan_apply f_Plan_targets f_Plan_pieces f_Plan_edits f_Plan_record f_Plan_record_or_reject f_Plan_passes f_Plan_require_idle f_Plan_state_at f_Plan_len f_Plan_str f_BadInterval_init f_Duplicate_init f_BadEdit_init f_Rejected_init f_Unknown_init C_Plan X_BadInterval X_SpanError X_Unknown X_Duplicate X_Rejected X_BadEdit X_BadEdits X_Busy d_is_number d_is_position d_is_tuple_of d_is_interval d_ascending_error d_targets_error d_is_pieces d_without_item d_is_edit d_copied_batch d_with_interval d_without_interval d_edited_state d_law_deck d_law_draw d_law_line d_law_interval d_law_intervals d_law_edit d_law_after d_law_right d_law_begun d_law_applied d_law_failing d_law_bad d_law_batch d_law d_Plan_init d_Plan_apply d_Plan_targets d_Plan_pieces d_Plan_edits d_Plan_record d_Plan_record_or_reject d_Plan_passes d_Plan_require_idle d_Plan_state_at d_Plan_len d_Plan_str d_BadInterval_init d_Duplicate_init d_BadEdit_init d_Rejected_init d_Unknown_init t_LAST_POSITION t_MAX_TARGETS t_MAX_PIECES t_MAX_EDITS t_BATCH t_WORDS
theorem ok_law_deck (T : Tx K mg f_is_number f_is_position f_is_tuple_of f_is_interval f_ascending_error f_targets_error f_is_pieces f_without_item f_is_edit f_copied_batch f_with_interval f_without_interval f_edited_state f_law_deck f_law_draw f_law_line f_law_interval f_law_intervals f_law_edit f_law_after f_law_right f_law_begun f_law_applied f_law_failing f_law_bad f_law_batch f_law f_Plan_init f_Plan_apply f_Plan_targets f_Plan_pieces f_Plan_edits f_Plan_record f_Plan_record_or_reject f_Plan_passes f_Plan_require_idle f_Plan_state_at f_Plan_len f_Plan_str f_BadInterval_init f_Duplicate_init f_BadEdit_init f_Rejected_init f_Unknown_init C_Plan X_BadInterval X_SpanError X_Unknown X_Duplicate X_Rejected X_BadEdit X_BadEdits X_Busy d_is_number d_is_position d_is_tuple_of d_is_interval d_ascending_error d_targets_error d_is_pieces d_without_item d_is_edit d_copied_batch d_with_interval d_without_interval d_edited_state d_law_deck d_law_draw d_law_line d_law_interval d_law_intervals d_law_edit d_law_after d_law_right d_law_begun d_law_applied d_law_failing d_law_bad d_law_batch d_law d_Plan_init d_Plan_apply d_Plan_targets d_Plan_pieces d_Plan_edits d_Plan_record d_Plan_record_or_reject d_Plan_passes d_Plan_require_idle d_Plan_state_at d_Plan_len d_Plan_str d_BadInterval_init d_Duplicate_init d_BadEdit_init d_Rejected_init d_Unknown_init t_LAST_POSITION t_MAX_TARGETS t_MAX_PIECES t_MAX_EDITS t_BATCH t_WORDS) : FnOk P w K mg base CX0 1 f_law_deck d_law_deck ["_law_script"] (sp_law_deck K) := by
  refine T.F_law_deck.ok sc_law_deck (fun vs H Q E h => ?_) (fun cdv A outer s H vs Q E hr h => ?_)
  · obtain ⟨a, ns, rfl, _⟩ := h
    rfl
  · obtain ⟨a, ns0, rfl, hS, hlen, q⟩ := h
    refine ⟨_, (pss_one (ps_ret (pe_lst (pa_cons (pe_lc (own := [("_law_cell", 1)]) (g := (gName 1)) (tt := tYes) (by rfl) sc_law_deck.nd (pi_list (pe_slice sl_list (pv 0) po_none (po_some pe_int))) (blkOk_by (own := [("_law_cell", 1)]) (N := N_law_deck) (sc := defScope s_law_deck) (by decide +kernel)) (fun _ _ _ _ _ => (pg_name (i := 1) sc_law_deck.nd rfl (Or.inl rfl))) (fun _ _ _ _ _ => pts_nil) (fun _ _ _ _ _ => (pe_callB call_abs (by rfl) T.z_abs (by decide +kernel) (pa_cons (pv 1) pa_nil)))) (pa_cons pe_int pa_nil))))), ?_⟩
    refine ⟨.ref a, rfl, 63, rfl, a, ns0.map V.int, rfl, hS, fun p np => ?_⟩
    rw [show cutV (ns0.map V.int) none (some 63) = (ns0.take 63).map V.int by rw [List.map_take]; exact cutTo _ 63]
    have hlen : (ns0.take 63).length ≤ 63 := Nat.le_trans (List.length_take_le' _ _) hlen
    generalize ns0.take 63 = ns at *
    have s1 : Same H (upd H p (.lst (ns.map V.int))) := same_new np
    refine ⟨p, rfl, ⟨_, SqL.of upd_same⟩, fun D nD => ?_⟩
    have nDp : D ≠ p := fun e => by
      rw [e, upd_same] at nD
      cases nD
    have nD0 : H D = none := by
      rw [upd_ne nDp] at nD
      exact nD
    refine lc_list (K := K) (a := p) (xs := ns.map V.int) (fun i H' => Same (upd H p (.lst (ns.map V.int))) H' ∧ H' D = some (.lst (((ns.take i).map fun (x : Int) => if x < 0 then -x else x).map V.int))) ⟨same_new nD, upd_same⟩ (fun i H' _ h => h.1.seq (SqL.of upd_same)) ?_ ?_
    · rintro i x H' hi ⟨sm, eD⟩
      rw [List.getElem?_map] at hi
      obtain ⟨n, en, rfl⟩ := Option.map_eq_some_iff.mp hi
      refine ⟨rfl, .int n, rfl, n, rfl, _, eD, ?_, ?_, ?_⟩
      · have : (List.take i ns).length ≤ ns.length := List.length_take_le' i ns
        simp only [List.length_map]
        exact small1000 (by omega)
      · intro b o e
        have nb : b ≠ D := ne_of_none e nD
        rw [upd_ne nb]
        exact sm b o e
      · rw [upd_same, List.take_add_one, en]
        simp
    · rintro H' ⟨sm, eD⟩
      rw [List.length_map, List.take_length] at eD
      refine ⟨by show 2 ≤ sizeLine; decide, fun d nd => ?_⟩
      have nDd : D ≠ d := ne_of_none eD nd
      have nd0 : H d = none := s1.free (sm.free nd)
      refine q _ d D (s1.trans (sm.trans (same_new nd))) nd0 nD0 ⟨upd_same, _, by rw [upd_ne nDd]; exact eD, by rw [List.length_map]; exact hlen, fun x hx => ?_⟩
      obtain ⟨y, _, rfl⟩ := List.mem_map.mp hx
      split <;> omega
theorem ok_law_draw (T : Tx K mg f_is_number f_is_position f_is_tuple_of f_is_interval f_ascending_error f_targets_error f_is_pieces f_without_item f_is_edit f_copied_batch f_with_interval f_without_interval f_edited_state f_law_deck f_law_draw f_law_line f_law_interval f_law_intervals f_law_edit f_law_after f_law_right f_law_begun f_law_applied f_law_failing f_law_bad f_law_batch f_law f_Plan_init f_Plan_apply f_Plan_targets f_Plan_pieces f_Plan_edits f_Plan_record f_Plan_record_or_reject f_Plan_passes f_Plan_require_idle f_Plan_state_at f_Plan_len f_Plan_str f_BadInterval_init f_Duplicate_init f_BadEdit_init f_Rejected_init f_Unknown_init C_Plan X_BadInterval X_SpanError X_Unknown X_Duplicate X_Rejected X_BadEdit X_BadEdits X_Busy d_is_number d_is_position d_is_tuple_of d_is_interval d_ascending_error d_targets_error d_is_pieces d_without_item d_is_edit d_copied_batch d_with_interval d_without_interval d_edited_state d_law_deck d_law_draw d_law_line d_law_interval d_law_intervals d_law_edit d_law_after d_law_right d_law_begun d_law_applied d_law_failing d_law_bad d_law_batch d_law d_Plan_init d_Plan_apply d_Plan_targets d_Plan_pieces d_Plan_edits d_Plan_record d_Plan_record_or_reject d_Plan_passes d_Plan_require_idle d_Plan_state_at d_Plan_len d_Plan_str d_BadInterval_init d_Duplicate_init d_BadEdit_init d_Rejected_init d_Unknown_init t_LAST_POSITION t_MAX_TARGETS t_MAX_PIECES t_MAX_EDITS t_BATCH t_WORDS) : FnOk P w K mg base CX0 1 f_law_draw d_law_draw ["_law_deck_here", "_law_many"] sp_law_draw := by
  refine T.F_law_draw.ok sc_law_draw (fun vs H Q E h => ?_) (fun cdv A outer s H vs Q E hr h => ?_)
  · obtain ⟨d, c, n, lim, rfl, _⟩ := h
    rfl
  · obtain ⟨d, c, n, lim, rfl, dk, n0, n1, l0, l1, q⟩ := h
    obtain ⟨xs, ec, xl, xp⟩ := dk.cells
    have ncd := dk.ne
    have ed := dk.top
    have l64 : lim.natAbs < 2 ^ 64 := by omega
    have n64 : (n + 1).natAbs < 2 ^ 64 := by omega
    refine ⟨_, (pss_cons (ps_asg (pe_op op_add (pe_ix ix_list (pv 0) pe_int (fun _ _ => rfl)) pe_int) (pg_sub (pv 0) pe_int set_list))
      (pss_cons (ps_set (i := 2) sc_law_draw.nd rfl (Or.inl rfl) pe_int)
      (pss_cons (ps_set (i := 3) sc_law_draw.nd rfl (Or.inl rfl) (pe_un un_neg pe_int))
      (pss_cons (ps_if (pt_cmpR op_gt (pe_callB call_len_seq (by rfl) T.z_len PySem.boot_len (pa_cons (pe_ix ix_list (pv 0) pe_int (fun _ _ => rfl)) pa_nil)) pe_int (nomark _))
      (pss_cons (ps_set (i := 3) sc_law_draw.nd rfl (Or.inl rfl) (pe_op op_mod (pe_ix ix_list (pv 0) pe_int (fun _ _ => rfl)) (pe_callB call_len_seq (by rfl) T.z_len PySem.boot_len (pa_cons (pe_ix ix_list (pv 0) pe_int (fun _ _ => rfl)) pa_nil))))
      (pss_one (ps_set (i := 2) sc_law_draw.nd rfl (Or.inl rfl) (pe_ix ix_list (pe_ix ix_list (pv 0) pe_int (fun _ _ => rfl)) (pv 3) (fun _ _ => rfl)))))
      pss_nil)
      (pss_cons (ps_if (pt_cmpR op_ge (pv 2) (pe_op op_pow pe_int pe_int) (nomark _))
      (pss_cons (ps_asg (pe_op op_fdivW (pv 2) (pv 1)) (pg_sub (pe_ix ix_list (pv 0) pe_int (fun _ _ => rfl)) (pv 3) set_list))
      (pss_one (ps_ret (pe_op op_mod (pv 2) (pv 1)))))
      pss_nil)
      (pss_one (ps_ret (pe_op op_mod (pe_op op_mod (pe_op op_pow (pe_op op_add (pe_op op_add (pe_op op_mod (pv 2) pe_int) (pe_op op_mulW pe_int (pe_ix ix_list (pv 0) pe_int (fun _ _ => rfl)))) pe_int) pe_int) pe_int) (pv 1))))))))), ?_⟩
    refine ⟨.ref d, rfl, d, _, 1, .int n, rfl, rfl, SqL.of ed, rfl, n, 1, rfl, rfl, .ref d, rfl, d, _, 1, 1, rfl, rfl, ed, rfl, ?_⟩
    generalize eH : upd H d (.lst ([V.ref c, V.int n].set 1 (.int (n + 1)))) = H1
    have ed1 : H1 d = some (.lst [.ref c, .int (n + 1)]) := by
      rw [← eH, upd_same]
      rfl
    have ec1 : H1 c = some (.lst (xs.map V.int)) := by
      rw [← eH, upd_ne ncd]
      exact ec
    have kp1 : Kp d c H H1 := fun b o nb _ e => by
      rw [← eH, upd_ne nb]
      exact e
    have dk1 : Dk H1 d c (n + 1) := ⟨ed1, xs, ec1, xl, xp⟩
    refine ⟨1, rfl, ?_⟩
    refine ⟨.ref d, rfl, d, _, 0, .ref c, rfl, rfl, SqL.of ed1, rfl, c, _, rfl, .inl (SqL.of ec1), _, _, rfl, rfl, _, rfl, ite2 (fun e => ?_) (fun e => ?_)⟩
    · have e1 := of_decide_eq_true e
      rw [List.length_map] at e1
      have lp : (0 : Int) < (xs.map V.int).length := by rw [List.length_map]; exact e1
      have rem0 : 0 ≤ (n + 1) % ((xs.map V.int).length : Int) := Int.emod_nonneg _ (by omega)
      have rem1 : (n + 1) % ((xs.map V.int).length : Int) < (xs.map V.int).length := Int.emod_lt_of_pos _ lp
      obtain ⟨j, ej⟩ : ∃ j : Nat, (n + 1) % ((xs.map V.int).length : Int) = j := ⟨_, (Int.toNat_of_nonneg rem0).symm⟩
      have hj : j < xs.length := by
        rw [ej, List.length_map] at rem1
        omega
      have gj : (xs.map V.int)[j]? = some (.int xs[j]) := by
        rw [List.getElem?_map, List.getElem?_eq_getElem hj]
        rfl
      have x0 : 0 ≤ xs[j] := xp _ (List.getElem_mem hj)
      refine ⟨.ref d, rfl, d, _, 1, .int (n + 1), rfl, rfl, SqL.of ed1, rfl, .ref d, rfl, d, _, 0, .ref c, rfl, rfl, SqL.of ed1, rfl, c, _, rfl, .inl (SqL.of ec1), _, _, rfl, rfl, lp, ?_⟩
      refine ⟨.ref d, rfl, d, _, 0, .ref c, rfl, rfl, SqL.of ed1, rfl, .int _, rfl, c, _, _, .int xs[j], rfl, rfl, SqL.of ec1, (by rw [ej]; exact atI_nat gj), ?_⟩
      refine ⟨.int xs[j], rfl, 10, 18, rfl, rfl, ⟨by decide, by decide, by decide⟩, _, _, rfl, rfl, _, rfl, ite2 (fun e2 => ?_) (fun e2 => ?_)⟩
      · refine ⟨.int xs[j], rfl, .int lim, rfl, _, _, rfl, rfl, wide_div l0 l64 (by decide) (by decide), .ref d, rfl, d, _, 0, .ref c, rfl, rfl, SqL.of ed1, rfl, .int _, rfl, c, _, _, j, rfl, rfl, ec1, ?_, ?_⟩
        · rw [ej]
          unfold ixN
          rw [if_pos (by omega), if_pos (by rw [List.length_map]; omega)]
          rfl
        · refine ⟨.int xs[j], rfl, .int lim, rfl, _, _, rfl, rfl, l0, ?_⟩
          refine q _ _ ?_ ⟨?_, xs.set j (xs[j] / lim), ?_, ?_, ?_⟩ (Int.emod_nonneg _ (by omega)) (Int.emod_lt_of_pos _ l0)
          · intro b o nb nc e
            rw [upd_ne nc]
            exact kp1 b o nb nc e
          · rw [upd_ne ncd.symm]
            exact ed1
          · rw [upd_same, List.map_set]
          · rw [List.length_set]
            exact xl
          · intro x hx
            rcases List.mem_or_eq_of_mem_set hx with hm | he
            · exact xp x hm
            · rw [he]
              exact Int.ediv_nonneg x0 (by omega)
      · refine ⟨.int xs[j], rfl, _, _, rfl, rfl, (by show (0 : Int) < 2147483587; decide), .ref d, rfl, d, _, 1, .int (n + 1), rfl, rfl, SqL.of ed1, rfl, _, _, rfl, rfl, wide_mul (a := 13) (b := 64) (by decide) n64 (by decide) (by decide) (by decide), _, _, rfl, rfl, _, _, rfl, rfl, _, _, rfl, rfl, ⟨by decide, by decide, ?_⟩, _, _, rfl, rfl, (by show (0 : Int) < 2147483647; decide), .int lim, rfl, _, _, rfl, rfl, l0, ?_⟩
        · have a0 := Int.emod_nonneg xs[j] (show (2147483587 : Int) ≠ 0 by decide)
          have a1 := Int.emod_lt_of_pos xs[j] (show (0 : Int) < 2147483587 by decide)
          omega
        · exact q _ _ kp1 dk1 (Int.emod_nonneg _ (by omega)) (Int.emod_lt_of_pos _ l0)
    · refine ⟨.int 0, rfl, 10, 18, rfl, rfl, ⟨by decide, by decide, by decide⟩, _, _, rfl, rfl, _, rfl, ite2 (fun e2 => ?_) (fun e2 => ?_)⟩
      · exact absurd e2 (by decide)
      · refine ⟨.int 0, rfl, _, _, rfl, rfl, (by show (0 : Int) < 2147483587; decide), .ref d, rfl, d, _, 1, .int (n + 1), rfl, rfl, SqL.of ed1, rfl, _, _, rfl, rfl, wide_mul (a := 13) (b := 64) (by decide) n64 (by decide) (by decide) (by decide), _, _, rfl, rfl, _, _, rfl, rfl, _, _, rfl, rfl, ⟨by decide, by decide, ?_⟩, _, _, rfl, rfl, (by show (0 : Int) < 2147483647; decide), .int lim, rfl, _, _, rfl, rfl, l0, ?_⟩
        · have a0 := Int.emod_nonneg 0 (show (2147483587 : Int) ≠ 0 by decide)
          have a1 := Int.emod_lt_of_pos 0 (show (0 : Int) < 2147483587 by decide)
          omega
        · exact q _ _ kp1 dk1 (Int.emod_nonneg _ (by omega)) (Int.emod_lt_of_pos _ l0)
theorem Kp.keep {d c : Addr} {H H' : Hp} (k : Kp d c H H') {a : Addr} {o : HO} (n1 : a ≠ d ∧ a ≠ c) (h : H a = some o) : H' a = some o := k a o n1.1 n1.2 h
theorem Kp.tup {d c : Addr} {n : Int} {H H' : Hp} (k : Kp d c H H') (dk : Dk H d c n) {a : Addr} {xs : List V} (h : H a = some (.tup xs)) : H' a = some (.tup xs) := by
  obtain ⟨ys, e, _⟩ := dk.cells
  exact k a _ (ne_of h dk.top (fun z => by cases z)) (ne_of h e (fun z => by cases z)) h
theorem Dk.off {H : Hp} {d c : Addr} {n : Int} (h : Dk H d c n) {p : Addr} (e : H p = none) : p ≠ d ∧ p ≠ c := by
  obtain ⟨ys, z, _⟩ := h.cells
  exact ⟨(ne_of_none h.top e).symm, (ne_of_none z e).symm⟩
theorem Dk.upd {H : Hp} {d c : Addr} {n : Int} (h : Dk H d c n) {p : Addr} {o : HO} (off : p ≠ d ∧ p ≠ c) : Dk (upd H p o) d c n := by
  obtain ⟨ys, z, w⟩ := h.cells
  exact ⟨by rw [upd_ne off.1.symm]; exact h.top, ys, by rw [upd_ne off.2.symm]; exact z, w⟩

abbrev Off (d c p : Addr) : Prop := p ≠ d ∧ p ≠ c
/-! ### what stays when the heap grows, or the deck is drawn from -/
theorem rd_same {H H' : Hp} (s : Same H H') {a : Addr} {u : HO} (h : Rd H a u) : Rd H' a u := by
  rcases h with h | ⟨o, h⟩
  · exact .inl (s _ _ h)
  · exact .inr ⟨o, s _ _ h⟩
theorem sqT_same {K : PySem.W.Frag} {H H' : Hp} (s : Same H H') {a : Addr} {xs : List V} (h : SqT K H a xs) : SqT K H' a xs := by
  rcases h with h | h
  · exact .inl (rd_same s h)
  · exact .inr h
theorem dp_same {K : PySem.W.Frag} {H H' : Hp} (s : Same H H') {v : V} {d : PyData} (h : Dp K H v d) : Dp K H' v d := by
  refine Dp.rec (K := K) (H := H) (motive_1 := fun v d _ => Dp K H' v d) (motive_2 := fun vs ds _ => DpAll K H' vs ds) .non (fun b => .bl b) (fun i => .int i) (fun x => .str x) (fun hs _ q => .lst (s.seq hs) q) (fun hs _ q => .tup (sqT_same s hs) q) .nil (fun _ _ a b => .cons a b) h
theorem dp2 {K : PySem.W.Frag} {H : Hp} {t : Addr} {x y : Int} (h : H t = some (.tup [.int x, .int y])) : Dp K H (.ref t) (.tuple [.int x, .int y]) := .tup (SqT.of h) (.cons (.int x) (.cons (.int y) .nil))
theorem sm2 {x y : Int} (h1 : x.natAbs < 10 ^ 30) (h2 : y.natAbs < 10 ^ 30) : Sm 202 1 (.tuple [.int x, .int y]) := by
  have h := Sm.tup (n := 100) (dp := 0) (ds := [.int x, .int y]) (fun d hd => by
    rcases List.mem_cons.mp hd with rfl | hd
    · exact Sm.int h1
    · rcases List.mem_cons.mp hd with rfl | hd
      · exact Sm.int h2
      · cases hd)
  exact h
/-- an interval, or None -/
def optD : Option (Int × Int) → PyData
  | none => .none
  | some (x, y) => .tuple [.int x, .int y]
def OV (H : Hp) (v : V) : Option (Int × Int) → Prop
  | none => v = .non
  | some (x, y) => ∃ t, v = .ref t ∧ H t = some (.tup [.int x, .int y])
theorem OV.same {H H' : Hp} (s : Same H H') {v : V} {o : Option (Int × Int)} (h : OV H v o) : OV H' v o := by
  match o, h with
  | none, h => exact h
  | some (x, y), h =>
    obtain ⟨t, e, z⟩ := h
    exact ⟨t, e, s _ _ z⟩
theorem OV.kp {d c : Addr} {n : Int} {H H' : Hp} (k : Kp d c H H') (dk : Dk H d c n) {v : V} {o : Option (Int × Int)} (h : OV H v o) : OV H' v o := by
  match o, h with
  | none, h => exact h
  | some (x, y), h =>
    obtain ⟨t, e, z⟩ := h
    exact ⟨t, e, k.tup dk z⟩
theorem OV.dp {K : PySem.W.Frag} {H : Hp} {v : V} {o : Option (Int × Int)} (h : OV H v o) : Dp K H v (optD o) := by
  match o, h with
  | none, h =>
    cases h
    exact .non
  | some (x, y), h =>
    obtain ⟨t, e, z⟩ := h
    subst e
    exact dp2 z

/-! ### rows of intervals -/
inductive Ivs (H : Hp) : List V → List (Int × Int) → Prop
  | nil : Ivs H [] []
  | cons {a : Addr} {x y : Int} {vs : List V} {ps : List (Int × Int)} : H a = some (.tup [.int x, .int y]) → Ivs H vs ps → Ivs H (.ref a :: vs) ((x, y) :: ps)
theorem Ivs.length {H : Hp} {vs : List V} {ps : List (Int × Int)} (h : Ivs H vs ps) : vs.length = ps.length := by
  induction h with
  | nil => rfl
  | cons _ _ ih => rw [List.length_cons, List.length_cons, ih]
theorem Ivs.same {H H' : Hp} (s : Same H H') {vs : List V} {ps : List (Int × Int)} (h : Ivs H vs ps) : Ivs H' vs ps := by
  induction h with
  | nil => exact .nil
  | cons e _ ih => exact .cons (s _ _ e) ih
theorem Ivs.kp {d c : Addr} {n : Int} {H H' : Hp} (k : Kp d c H H') (dk : Dk H d c n) {vs : List V} {ps : List (Int × Int)} (h : Ivs H vs ps) : Ivs H' vs ps := by
  induction h with
  | nil => exact .nil
  | cons e _ ih => exact .cons (k.tup dk e) ih
theorem Ivs.get {H : Hp} {vs : List V} {ps : List (Int × Int)} (h : Ivs H vs ps) : ∀ {i : Nat} {v : V}, vs[i]? = some v → ∃ a x y, v = .ref a ∧ ps[i]? = some (x, y) ∧ H a = some (.tup [.int x, .int y]) := by
  induction h with
  | nil =>
    intro i v e
    simp at e
  | cons e _ ih =>
    intro i v q
    cases i with
    | zero =>
      cases q
      exact ⟨_, _, _, rfl, rfl, e⟩
    | succ i => exact ih q
theorem Ivs.snoc {H : Hp} {vs : List V} {ps : List (Int × Int)} {a : Addr} {x y : Int} (h : Ivs H vs ps) (e : H a = some (.tup [.int x, .int y])) : Ivs H (vs ++ [.ref a]) (ps ++ [(x, y)]) := by
  induction h with
  | nil => exact .cons e .nil
  | cons z _ ih => exact .cons z ih
def pairD (p : Int × Int) : PyData := .tuple [.int p.1, .int p.2]
theorem Ivs.dp {K : PySem.W.Frag} {H : Hp} {vs : List V} {ps : List (Int × Int)} (h : Ivs H vs ps) : DpAll K H vs (ps.map pairD) := by
  induction h with
  | nil => exact .nil
  | cons e _ ih => exact .cons (dp2 e) ih

/-! ### comprehensions that change nothing but make new objects -/
/-- the tuples stay -/
def Tps (H H' : Hp) : Prop := ∀ b xs, H b = some (.tup xs) → H' b = some (.tup xs)
theorem Tps.refl (H : Hp) : Tps H H := fun _ _ e => e
theorem Tps.trans {H H1 H2 : Hp} (h : Tps H H1) (h2 : Tps H1 H2) : Tps H H2 := fun b xs e => h2 b xs (h b xs e)
theorem Tps.same {H H1 : Hp} (h : Same H H1) : Tps H H1 := fun b xs e => h b _ e
theorem Kp.tps {d c : Addr} {n : Int} {H H' : Hp} (k : Kp d c H H') (dk : Dk H d c n) : Tps H H' := fun _ _ e => k.tup dk e
theorem Tps.lst {H : Hp} {D : Addr} {ws vs : List V} (e : H D = some (.lst ws)) : Tps H (upd H D (.lst vs)) := fun b xs h => by
  rw [upd_ne (ne_of h e (fun z => by cases z))]
  exact h
theorem same_off {H0 H : Hp} {D : Addr} {o : HO} (n : H0 D = none) (s : Same H0 H) : Same H0 (upd H D o) := fun b u e => by
  rw [upd_ne (ne_of_none e n)]
  exact s b u e
theorem few_line {n : Nat} (h : n < 1000) : n < sizeLine := by
  rw [show sizeLine = 16777216 by decide]
  omega
theorem lcL {K : PySem.W.Frag} {a : Addr} {xs : List V} {g : TG} {tt : TT} {te : TE} {vs : List Nat} {σ : L2.St} {H1 : Hp} {D : Addr} {Qd : Hp → Prop} (R : Nat → Hp → List V → Prop) (nD : H1 D = none) (hl : ∀ H', Same H1 H' → SqL K H' a xs) (few : xs.length < 1000)
    (mono : ∀ i H' H'' ws, Tps H' H'' → R i H' ws → R i H'' ws) (len : ∀ i H' ws, R i H' ws → ws.length ≤ i) (r0 : ∀ H', R 0 H' [])
    (hs : ∀ i x H' (N : Hp → Prop) acc, xs[i]? = some x → Same H1 H' → H' D = some (.lst acc) → acc.length < sizeLine → R i H' acc → (∀ H'', Same H' H'' → R (i + 1) H'' acc → N H'') → (∀ H'' y, Same H' H'' → R (i + 1) H'' (acc ++ [y]) → ∃ acc', H'' D = some (.lst acc') ∧ acc'.length < sizeLine ∧ N (upd H'' D (.lst (acc' ++ [y])))) →
      g x (wipe σ vs) H' fun σ2 H2 => wipe σ2 vs = wipe σ vs ∧ tt σ2 H2 fun b H3 => if b = true then te σ2 H3 fun y H4 => ∃ acc, H4 D = some (.lst acc) ∧ acc.length < sizeLine ∧ N (upd H4 D (.lst (acc ++ [y]))) else N H3)
    (hd : ∀ H' ws, Same H1 H' → H' D = some (.lst ws) → R xs.length H' ws → Qd H') :
    ∃ W : Nat → Nat → Hp → Prop, (∃ m, W 0 m (upd H1 D (.lst []))) ∧ ∀ i m H, W i m H →
      ((Itl K a).stop i H ∧ Qd H) ∨ ((Itl K a).go i H ∧ ∃ Nx : Hp → Prop, (∀ H', Nx H' → ∃ m', m' < m ∧ W (i + 1) m' H') ∧ ∀ x H', (Itl K a).yld i H x H' → g x (wipe σ vs) H' fun σ2 H2 => wipe σ2 vs = wipe σ vs ∧ tt σ2 H2 fun b H3 =>
        if b = true then te σ2 H3 fun y H4 => ∃ acc, H4 D = some (.lst acc) ∧ acc.length < sizeLine ∧ Nx (upd H4 D (.lst (acc ++ [y]))) else Nx H3) := by
  refine lc_list (K := K) (a := a) (xs := xs) (fun i H' => Same H1 H' ∧ ∃ ws, H' D = some (.lst ws) ∧ R i H' ws) ⟨same_new nD, [], upd_same, r0 _⟩ (fun i H' _ h => hl H' h.1) ?_ ?_
  · rintro i x H' hi ⟨sm, ws, eD, r⟩
    have lt := (List.getElem?_eq_some_iff.mp hi).1
    have lw := len i H' ws r
    have sz : ws.length < sizeLine := few_line (by omega)
    refine hs i x H' _ ws hi sm eD sz r (fun H'' s r2 => ⟨sm.trans s, ws, s _ _ eD, r2⟩) (fun H'' y s r2 => ?_)
    exact ⟨ws, s _ _ eD, sz, same_off nD (sm.trans s), _, upd_same, mono _ _ _ _ (Tps.lst (s _ _ eD)) r2⟩
  · rintro H' ⟨sm, ws, eD, r⟩
    exact hd H' ws sm eD r
theorem lcT {K : PySem.W.Frag} {a : Addr} {xs : List V} {g : TG} {tt : TT} {te : TE} {vs : List Nat} {σ : L2.St} {H1 : Hp} {D : Addr} {Qd : Hp → Prop} (R : Nat → Hp → List V → Prop) (nD : H1 D = none) (hl : ∀ H', Same H1 H' → SqT K H' a xs) (few : xs.length < 1000)
    (mono : ∀ i H' H'' ws, Tps H' H'' → R i H' ws → R i H'' ws) (len : ∀ i H' ws, R i H' ws → ws.length ≤ i) (r0 : ∀ H', R 0 H' [])
    (hs : ∀ i x H' (N : Hp → Prop) acc, xs[i]? = some x → Same H1 H' → H' D = some (.lst acc) → acc.length < sizeLine → R i H' acc → (∀ H'', Same H' H'' → R (i + 1) H'' acc → N H'') → (∀ H'' y, Same H' H'' → R (i + 1) H'' (acc ++ [y]) → ∃ acc', H'' D = some (.lst acc') ∧ acc'.length < sizeLine ∧ N (upd H'' D (.lst (acc' ++ [y])))) →
      g x (wipe σ vs) H' fun σ2 H2 => wipe σ2 vs = wipe σ vs ∧ tt σ2 H2 fun b H3 => if b = true then te σ2 H3 fun y H4 => ∃ acc, H4 D = some (.lst acc) ∧ acc.length < sizeLine ∧ N (upd H4 D (.lst (acc ++ [y]))) else N H3)
    (hd : ∀ H' ws, Same H1 H' → H' D = some (.lst ws) → R xs.length H' ws → Qd H') :
    ∃ W : Nat → Nat → Hp → Prop, (∃ m, W 0 m (upd H1 D (.lst []))) ∧ ∀ i m H, W i m H →
      ((Itt K a).stop i H ∧ Qd H) ∨ ((Itt K a).go i H ∧ ∃ Nx : Hp → Prop, (∀ H', Nx H' → ∃ m', m' < m ∧ W (i + 1) m' H') ∧ ∀ x H', (Itt K a).yld i H x H' → g x (wipe σ vs) H' fun σ2 H2 => wipe σ2 vs = wipe σ vs ∧ tt σ2 H2 fun b H3 =>
        if b = true then te σ2 H3 fun y H4 => ∃ acc, H4 D = some (.lst acc) ∧ acc.length < sizeLine ∧ Nx (upd H4 D (.lst (acc ++ [y]))) else Nx H3) := by
  refine lc_tup (K := K) (a := a) (xs := xs) (fun i H' => Same H1 H' ∧ ∃ ws, H' D = some (.lst ws) ∧ R i H' ws) ⟨same_new nD, [], upd_same, r0 _⟩ (fun i H' _ h => hl H' h.1) ?_ ?_
  · rintro i x H' hi ⟨sm, ws, eD, r⟩
    have lt := (List.getElem?_eq_some_iff.mp hi).1
    have lw := len i H' ws r
    have sz : ws.length < sizeLine := few_line (by omega)
    refine hs i x H' _ ws hi sm eD sz r (fun H'' s r2 => ⟨sm.trans s, ws, s _ _ eD, r2⟩) (fun H'' y s r2 => ?_)
    exact ⟨ws, s _ _ eD, sz, same_off nD (sm.trans s), _, upd_same, mono _ _ _ _ (Tps.lst (s _ _ eD)) r2⟩
  · rintro H' ⟨sm, ws, eD, r⟩
    exact hd H' ws sm eD r
theorem map_filter_len {α : Type} {ns : List α} {p : α → Bool} {f : α → V} (i : Nat) : (((ns.take i).filter p).map f).length ≤ i := by
  rw [List.length_map]
  exact Nat.le_trans (List.length_filter_le _ _) (List.length_take_le _ _)
theorem take_filter {α : Type} {ns : List α} {i : Nat} {n : α} {p : α → Bool} (h : ns[i]? = some n) : (ns.take (i + 1)).filter p = (ns.take i).filter p ++ (if p n = true then [n] else []) := by
  rw [List.take_add_one, h, List.filter_append]
  congr 1
  show List.filter p [n] = _
  rw [List.filter_cons]
  split <;> rfl
theorem nodup_le {α : Type} [DecidableEq α] : ∀ {l m : List α}, l.Nodup → (∀ x ∈ l, x ∈ m) → l.length ≤ m.length
  | [], _, _, _ => Nat.zero_le _
  | a :: l, m, h, hs => by
    have hm := hs a List.mem_cons_self
    have h' := List.nodup_cons.mp h
    have ih := nodup_le (l := l) (m := m.erase a) h'.2 (fun x hx => (List.mem_erase_of_ne (fun e => h'.1 (by rw [← e]; exact hx))).mpr (hs x (List.mem_cons_of_mem _ hx)))
    rw [List.length_erase_of_mem hm] at ih
    have := List.length_pos_of_mem hm
    rw [List.length_cons]
    omega

/-! ### demands, and rows of them -/
structure Dm (H : Hp) (v : V) (p lo hi : Int) : Prop where
  ex : ∃ u t, v = .ref u ∧ H u = some (.tup [.int p, .ref t]) ∧ H t = some (.tup [.int lo, .int hi])
  low : lo ≤ p
  high : p ≤ hi
theorem Dm.tps {H H' : Hp} (s : Tps H H') {v : V} {p lo hi : Int} (h : Dm H v p lo hi) : Dm H' v p lo hi := by
  obtain ⟨u, t, rfl, e1, e2⟩ := h.ex
  exact ⟨⟨u, t, rfl, s _ _ e1, s _ _ e2⟩, h.low, h.high⟩
theorem Dm.same {H H' : Hp} (s : Same H H') {v : V} {p lo hi : Int} (h : Dm H v p lo hi) : Dm H' v p lo hi := h.tps (Tps.same s)
inductive Dms (H : Hp) : List V → List (Int × Int × Int) → Prop
  | nil : Dms H [] []
  | cons {v : V} {p lo hi : Int} {vs : List V} {ds : List (Int × Int × Int)} : Dm H v p lo hi → Dms H vs ds → Dms H (v :: vs) ((p, lo, hi) :: ds)
theorem Dms.length {H : Hp} {vs : List V} {ds : List (Int × Int × Int)} (h : Dms H vs ds) : vs.length = ds.length := by
  induction h with
  | nil => rfl
  | cons _ _ ih => rw [List.length_cons, List.length_cons, ih]
theorem Dms.tps {H H' : Hp} (s : Tps H H') {vs : List V} {ds : List (Int × Int × Int)} (h : Dms H vs ds) : Dms H' vs ds := by
  induction h with
  | nil => exact .nil
  | cons e _ ih => exact .cons (e.tps s) ih
theorem Dms.same {H H' : Hp} (s : Same H H') {vs : List V} {ds : List (Int × Int × Int)} (h : Dms H vs ds) : Dms H' vs ds := h.tps (Tps.same s)
theorem Dms.get {H : Hp} {vs : List V} {ds : List (Int × Int × Int)} (h : Dms H vs ds) : ∀ {i : Nat} {v : V}, vs[i]? = some v → ∃ p lo hi, ds[i]? = some (p, lo, hi) ∧ Dm H v p lo hi := by
  induction h with
  | nil =>
    intro i v e
    simp at e
  | cons e _ ih =>
    intro i v q
    cases i with
    | zero =>
      cases q
      exact ⟨_, _, _, rfl, e⟩
    | succ i => exact ih q
theorem Dms.append {H : Hp} {vs us : List V} {ds es : List (Int × Int × Int)} (h : Dms H vs ds) (h2 : Dms H us es) : Dms H (vs ++ us) (ds ++ es) := by
  induction h with
  | nil => exact h2
  | cons e _ ih => exact .cons e ih
theorem Dms.snoc {H : Hp} {vs : List V} {ds : List (Int × Int × Int)} {v : V} {p lo hi : Int} (h : Dms H vs ds) (e : Dm H v p lo hi) : Dms H (vs ++ [v]) (ds ++ [(p, lo, hi)]) := h.append (.cons e .nil)
theorem Dms.take {H : Hp} {vs : List V} {ds : List (Int × Int × Int)} (h : Dms H vs ds) : ∀ n : Nat, Dms H (vs.take n) (ds.take n) := by
  induction h with
  | nil =>
    intro n
    rw [List.take_nil, List.take_nil]
    exact .nil
  | cons e _ ih =>
    intro n
    cases n with
    | zero => exact .nil
    | succ n => exact .cons e (ih n)
theorem Dms.reverse {H : Hp} {vs : List V} {ds : List (Int × Int × Int)} (h : Dms H vs ds) : Dms H vs.reverse ds.reverse := by
  induction h with
  | nil => exact .nil
  | cons e _ ih =>
    rw [List.reverse_cons, List.reverse_cons]
    exact ih.snoc e
theorem Dms.isEmpty {H : Hp} {vs : List V} {ds : List (Int × Int × Int)} (h : Dms H vs ds) : vs.isEmpty = ds.isEmpty := by
  cases h <;> rfl
theorem Dms.ok {H : Hp} {vs : List V} {ds : List (Int × Int × Int)} (h : Dms H vs ds) : ∀ q ∈ ds, q.2.1 ≤ q.1 ∧ q.1 ≤ q.2.2 := by
  induction h with
  | nil =>
    intro q hq
    cases hq
  | cons e _ ih =>
    intro q hq
    rcases List.mem_cons.mp hq with rfl | hq
    · exact ⟨e.low, e.high⟩
    · exact ih q hq
/-! ### comprehensions over a range that draw -/
theorem lcK {d c : Addr} {n0 per : Int} {lo : Int} {n : Nat} {g : TG} {tt : TT} {te : TE} {vs : List Nat} {σ : L2.St} {H1 : Hp} {D : Addr} {Qd : Hp → Prop} (R : Nat → Hp → List V → Prop) (nD : H1 D = none) (dk : Dk H1 d c n0) (few : n < 1000)
    (mono : ∀ i H' H'' ws, Tps H' H'' → R i H' ws → R i H'' ws) (len : ∀ i H' ws, R i H' ws → ws.length ≤ i) (r0 : ∀ H', R 0 H' [])
    (hs : ∀ i H' (N : Hp → Prop) acc, i < n → Kp d c H1 H' → Dk H' d c (n0 + per * i) → H' D = some (.lst acc) → R i H' acc → (∀ H'' y, Kp d c H' H'' → Dk H'' d c (n0 + per * i + per) → R (i + 1) H'' (acc ++ [y]) → ∃ acc', H'' D = some (.lst acc') ∧ acc'.length < sizeLine ∧ N (upd H'' D (.lst (acc' ++ [y])))) →
      g (.int (lo + i)) (wipe σ vs) H' fun σ2 H2 => wipe σ2 vs = wipe σ vs ∧ tt σ2 H2 fun b H3 => if b = true then te σ2 H3 fun y H4 => ∃ acc, H4 D = some (.lst acc) ∧ acc.length < sizeLine ∧ N (upd H4 D (.lst (acc ++ [y]))) else N H3)
    (hd : ∀ H' ws, Kp d c H1 H' → Dk H' d c (n0 + per * n) → H' D = some (.lst ws) → R n H' ws → Qd H') :
    ∃ W : Nat → Nat → Hp → Prop, (∃ m, W 0 m (upd H1 D (.lst []))) ∧ ∀ i m H, W i m H →
      ((Itr lo n).stop i H ∧ Qd H) ∨ ((Itr lo n).go i H ∧ ∃ Nx : Hp → Prop, (∀ H', Nx H' → ∃ m', m' < m ∧ W (i + 1) m' H') ∧ ∀ x H', (Itr lo n).yld i H x H' → g x (wipe σ vs) H' fun σ2 H2 => wipe σ2 vs = wipe σ vs ∧ tt σ2 H2 fun b H3 =>
        if b = true then te σ2 H3 fun y H4 => ∃ acc, H4 D = some (.lst acc) ∧ acc.length < sizeLine ∧ Nx (upd H4 D (.lst (acc ++ [y]))) else Nx H3) := by
  have off := dk.off nD
  refine lc_range (lo := lo) (n := n) (fun i H' => Kp d c H1 H' ∧ Dk H' d c (n0 + per * i) ∧ ∃ ws, H' D = some (.lst ws) ∧ R i H' ws) ⟨Kp.same (same_new nD), (dk.upd off).eq (by simp), [], upd_same, r0 _⟩ ?_ ?_
  · rintro i H' hi ⟨kp, dk', ws, eD, r⟩
    have lw := len i H' ws r
    have sz : ws.length < sizeLine := few_line (by omega)
    refine hs i H' _ ws hi kp dk' eD r (fun H'' y kp2 dk2 r2 => ?_)
    have eD2 := kp2.keep off eD
    refine ⟨ws, eD2, sz, fun b o n1 n2 e => ?_, (dk2.upd off).eq ?_, _, upd_same, mono _ _ _ _ (Tps.lst eD2) r2⟩
    · rw [upd_ne (ne_of_none e nD)]
      exact kp2 b o n1 n2 (kp b o n1 n2 e)
    · rw [Int.natCast_succ, Int.mul_add, Int.mul_one]
      omega
  · rintro H' ⟨kp, dk', ws, eD, r⟩
    exact hd H' ws kp dk' eD r

theorem Ivs.tps {H H' : Hp} (s : Tps H H') {vs : List V} {ps : List (Int × Int)} (h : Ivs H vs ps) : Ivs H' vs ps := by
  induction h with
  | nil => exact .nil
  | cons e _ ih => exact .cons (s _ _ e) ih
theorem Ivs.append {H : Hp} {vs us : List V} {ps qs : List (Int × Int)} (h : Ivs H vs ps) (h2 : Ivs H us qs) : Ivs H (vs ++ us) (ps ++ qs) := by
  induction h with
  | nil => exact h2
  | cons e _ ih => exact .cons e ih
theorem Ivs.isEmpty {H : Hp} {vs : List V} {ps : List (Int × Int)} (h : Ivs H vs ps) : vs.isEmpty = ps.isEmpty := by
  cases h <;> rfl

def strI (f s : Int) (p : Int × Int) : Int × Int := (p.1 * f + s, p.2 * f + f - 1 + s)

/-! ### tuples joined and cut, whichever object comes out -/
theorem catA_any {K : PySem.W.Frag} {H : Hp} {a b : Addr} {xs ys : List V} {Q : VK} (h1 : H a = some (.tup xs)) (h2 : H b = some (.tup ys)) (sz : xs.length + ys.length ≤ sizeLine) (k : ∀ H' p, Same H H' → H' p = some (.tup (xs ++ ys)) → Q (.ref p) H') : rCatA K (.ref a) (.ref b) H Q := by
  refine ⟨a, b, xs, ys, rfl, rfl, SqT.of h1, SqT.of h2, sz, fun e => k H b (Same.refl _) ?_, fun _ e => k H a (Same.refl _) ?_, fun _ _ p np => k _ p (same_new np) upd_same⟩
  · rw [e]
    exact h2
  · rw [e, List.append_nil]
    exact h1
theorem slA_any {K : PySem.W.Frag} {H : Hp} {a : Addr} {xs : List V} {lo hi : Option Int} {Q : VK} (h1 : H a = some (.tup xs)) (k : ∀ H' p, Same H H' → H' p = some (.tup (cutV xs lo hi)) → Q (.ref p) H') : rSlA K (.ref a) lo hi H Q := by
  refine ⟨a, xs, rfl, SqT.of h1, fun e => k H a (Same.refl _) ?_, fun _ p np => k _ p (same_new np) upd_same⟩
  have e2 : cutV xs lo hi = xs := by
    unfold cutV
    rw [e.1, e.2]
    simp
  rw [e2]
  exact h1
theorem Ivs.take {H : Hp} {vs : List V} {ps : List (Int × Int)} (h : Ivs H vs ps) : ∀ n : Nat, Ivs H (vs.take n) (ps.take n) := by
  induction h with
  | nil =>
    intro n
    rw [List.take_nil, List.take_nil]
    exact .nil
  | cons e _ ih =>
    intro n
    cases n with
    | zero => exact .nil
    | succ n => exact .cons e (ih n)

/-! ### sorted(set(pairs)) -/
def ltP (a b : Int × Int) : Prop := a.1 < b.1 ∨ (a.1 = b.1 ∧ a.2 < b.2)
def prL (q : Int × Int) : List Int := [q.1, q.2]
theorem prL_inj {a b : Int × Int} (h : prL a = prL b) : a = b := by
  unfold prL at h
  cases a
  cases b
  simp at h
  rw [h.1, h.2]
theorem mem_prL {q : Int × Int} {ps : List (Int × Int)} : prL q ∈ ps.map prL ↔ q ∈ ps := by
  rw [List.mem_map]
  exact ⟨fun ⟨a, ha, e⟩ => prL_inj e ▸ ha, fun h => ⟨q, h, rfl⟩⟩
theorem Ivs.keys {H : Hp} {us : List V} {ps : List (Int × Int)} (h : Ivs H us ps) : ∃ ks : List (Addr × List Int), us = ks.map (fun p => V.ref p.1) ∧ ks.map (·.2) = ps.map prL ∧ ∀ p ∈ ks, ∃ x y : Int, p.2 = [x, y] ∧ H p.1 = some (.tup [.int x, .int y]) := by
  induction h with
  | nil => exact ⟨[], rfl, rfl, fun p hp => nomatch hp⟩
  | cons e _ ih =>
    obtain ⟨ks, e1, e2, e3⟩ := ih
    refine ⟨(_, [_, _]) :: ks, by rw [List.map_cons, e1], by rw [List.map_cons, List.map_cons, e2]; rfl, fun p hp => ?_⟩
    rcases List.mem_cons.mp hp with rfl | hp
    · exact ⟨_, _, rfl, e⟩
    · exact e3 p hp
theorem Ivs.ofKeys {H : Hp} : ∀ {L : List (Addr × List Int)}, (∀ p ∈ L, ∃ x y : Int, p.2 = [x, y] ∧ H p.1 = some (.tup [.int x, .int y])) → ∃ ps, Ivs H (L.map fun p => V.ref p.1) ps ∧ L.map (·.2) = ps.map prL
  | [], _ => ⟨[], .nil, rfl⟩
  | p :: L, h => by
    obtain ⟨x, y, e, e1⟩ := h p List.mem_cons_self
    obtain ⟨ps, i, e2⟩ := Ivs.ofKeys (L := L) fun q hq => h q (List.mem_cons_of_mem _ hq)
    exact ⟨(x, y) :: ps, .cons e1 i, by rw [List.map_cons, List.map_cons, e2, e]; rfl⟩
theorem Ivs.tpsMem {H : Hp} {us : List V} {ps : List (Int × Int)} (h : Ivs H us ps) {q : Int × Int} (hq : q ∈ ps) : ∃ a, V.ref a ∈ us ∧ H a = some (.tup [.int q.1, .int q.2]) := by
  induction h with
  | nil => cases hq
  | cons e _ ih =>
    rcases List.mem_cons.mp hq with rfl | hq
    · exact ⟨_, List.mem_cons_self, e⟩
    · obtain ⟨a, h1, h2⟩ := ih hq
      exact ⟨a, List.mem_cons_of_mem _ h1, h2⟩
theorem sorted_keys {K : PySem.W.Frag} {P : Program} {w : World} {H : Hp} {ps : List (Int × Int)} {Q : VK} {ks L : List (Addr × List Int)} {a : Addr} (e2 : ks.map (·.2) = ps.map prL) (e3 : ∀ p ∈ ks, ∃ x y : Int, p.2 = [x, y] ∧ H p.1 = some (.tup [.int x, .int y])) (na : H a = none) (h1 : ∀ p ∈ L, p ∈ ks) (h2 : ∀ p ∈ ks, p.2 ∈ L.map (·.2)) (bd : ∀ q ∈ ps, (0 ≤ q.1 ∧ q.1 < 10 ^ 13) ∧ 0 ≤ q.2 ∧ q.2 < 10 ^ 13)
    (fin : ∀ H' p us' ps', Same H H' → H p = none → H' p = some (.lst us') → Ivs H' us' ps' → ps'.Pairwise ltP → (∀ q, q ∈ ps' ↔ q ∈ ps) → Q (.ref p) H') :
    rSortedT K P w [.ref a] (upd H a (SetTO P w a L)) Q := by
  have s1 : Same H (upd H a (SetTO P w a L)) := same_new na
  refine ⟨a, L, 2, 10 ^ 13, rfl, upd_same, fun p hp => ?_, by decide, fun p hp => ?_, fun L' p pm nd fw pw np => ?_⟩
  · obtain ⟨x, y, e, e1⟩ := e3 p (h1 p hp)
    rw [e]
    exact SqT.of (s1 _ _ e1)
  · have m : p.2 ∈ ks.map (·.2) := List.mem_map.mpr ⟨p, h1 p hp, rfl⟩
    rw [e2] at m
    obtain ⟨q, hq, e⟩ := List.mem_map.mp m
    have b := bd q hq
    rw [← e]
    refine ⟨rfl, fun m hm => ?_⟩
    unfold prL at hm
    rcases List.mem_cons.mp hm with rfl | hm
    · exact b.1
    · rw [List.mem_singleton.mp hm]
      exact b.2
  · have s2 : Same (upd H a (SetTO P w a L)) (upd (upd H a (SetTO P w a L)) p (.lst (L'.map fun q => V.ref q.1))) := same_new np
    obtain ⟨ps', i, e4⟩ := Ivs.ofKeys (H := H) (L := L') fun q hq => e3 q (h1 q (pm.mem_iff.mp hq))
    have mem : ∀ q, q ∈ ps' ↔ q ∈ ps := fun q => by
      rw [← mem_prL, ← e4, ← mem_prL (ps := ps), ← e2, (pm.map (·.2)).mem_iff]
      constructor
      · intro h
        obtain ⟨p, hp, e⟩ := List.mem_map.mp h
        exact List.mem_map.mpr ⟨p, h1 p hp, e⟩
      · intro h
        obtain ⟨p, hp, e⟩ := List.mem_map.mp h
        rw [← e]
        exact h2 p hp
    refine fin _ p _ ps' (s1.trans s2) (s1.free np) upd_same (i.same (s1.trans s2)) ?_ mem
    have pw2 : (L'.map (·.2)).Pairwise (fun q r => TS.code (10 ^ 13) q ≤ TS.code (10 ^ 13) r) := List.pairwise_map.mpr pw
    have both := pw2.and nd
    rw [e4] at both
    refine (List.pairwise_map.mp both).imp_of_mem fun {x y} hx hy h => ?_
    have bx := bd x ((mem x).mp hx)
    have bY := bd y ((mem y).mp hy)
    have tb : ∀ {z : Int × Int}, ((0 ≤ z.1 ∧ z.1 < 10 ^ 13) ∧ 0 ≤ z.2 ∧ z.2 < 10 ^ 13) → TS.Bd (10 ^ 13) [z.1, z.2] := fun b m hm => by
      rcases List.mem_cons.mp hm with rfl | hm
      · exact b.1
      · rw [List.mem_singleton.mp hm]
        exact b.2
    rcases code_lex (tb bx) (tb bY) h.1 with c | ⟨c1, c2⟩
    · exact .inl c
    · refine .inr ⟨c1, ?_⟩
      rcases Int.lt_or_eq_of_le c2 with z | z
      · exact z
      · exact absurd (show prL x = prL y by unfold prL; rw [c1, z]) h.2
theorem sorted_set_pairs {K : PySem.W.Frag} {P : Program} {w : World} {H : Hp} {l : Addr} {us : List V} {ps : List (Int × Int)} {Q : VK} (hl : SqL K H l us) (iv : Ivs H us ps) (few : ps.length < 64) (bd : ∀ q ∈ ps, (0 ≤ q.1 ∧ q.1 < 10 ^ 13) ∧ 0 ≤ q.2 ∧ q.2 < 10 ^ 13)
    (fin : ∀ H' p us' ps', Same H H' → H p = none → H' p = some (.lst us') → Ivs H' us' ps' → ps'.Pairwise ltP → (∀ q, q ∈ ps' ↔ q ∈ ps) → Q (.ref p) H') :
    rSetOfT K P w [.ref l] H (fun x H1 => rSortedT K P w [x] H1 Q) := by
  obtain ⟨ks, rfl, e2, e3⟩ := iv.keys
  have lk : ks.length = ps.length := by
    have z := congrArg List.length e2
    rw [List.length_map, List.length_map] at z
    exact z
  refine ⟨l, ks, rfl, hl, fun p hp => ?_, by omega, fun a L na h1 h2 => ?_⟩
  · obtain ⟨x, y, e, e1⟩ := e3 p hp
    rw [e]
    exact SqT.of e1
  exact sorted_keys e2 e3 na h1 h2 bd fin

def leP (a b : Int × Int) : Prop := a.1 < b.1 ∨ (a.1 = b.1 ∧ a.2 ≤ b.2)
theorem leP_of_lt {ps : List (Int × Int)} (h : ps.Pairwise ltP) : ps.Pairwise leP := h.imp fun {a b} h => by
  rcases h with h | h
  · exact .inl h
  · exact .inr ⟨h.1, by omega⟩
theorem leP_uniq {ps qs : List (Int × Int)} (h1 : ps.Pairwise leP) (h2 : qs.Pairwise leP) (pm : ps.Perm qs) : ps = qs := by
  refine pm.eq_of_pairwise (le := leP) (fun a b _ _ x y => ?_) h1 h2
  have : a.1 = b.1 ∧ a.2 = b.2 := by
    unfold leP at x y
    omega
  exact Prod.ext this.1 this.2

theorem sorted_set_pairsT {K : PySem.W.Frag} {P : Program} {w : World} {H : Hp} {l : Addr} {us : List V} {ps : List (Int × Int)} {Q : VK} (hl : H l = some (.tup us)) (iv : Ivs H us ps) (few : ps.length < 64) (bd : ∀ q ∈ ps, (0 ≤ q.1 ∧ q.1 < 10 ^ 13) ∧ 0 ≤ q.2 ∧ q.2 < 10 ^ 13)
    (fin : ∀ H' p us' ps', Same H H' → H p = none → H' p = some (.lst us') → Ivs H' us' ps' → ps'.Pairwise ltP → (∀ q, q ∈ ps' ↔ q ∈ ps) → Q (.ref p) H') :
    rSetOfTT K P w [.ref l] H (fun x H1 => rSortedT K P w [x] H1 Q) := by
  obtain ⟨ks, rfl, e2, e3⟩ := iv.keys
  -- the same keys, in a list that nobody holds: what follows is as there
  have lk : ks.length = ps.length := by
    have z := congrArg List.length e2
    rw [List.length_map, List.length_map] at z
    exact z
  refine ⟨l, ks, rfl, SqT.of hl, fun p hp => ?_, by omega, fun a L na h1 h2 => ?_⟩
  · obtain ⟨x, y, e, e1⟩ := e3 p hp
    rw [e]
    exact SqT.of e1
  exact sorted_keys e2 e3 na h1 h2 bd fin

/-! ### sorted(t), t a tuple of pairs of ints -/
section
variable {prog : Program} {w : World} {A : Around} {E : Value → Shared → Prop} {s : Shared}
/-- the items of a tuple, gathered in a new list -/
theorem collectT {Q : List Value → Shared → Prop} {t : Addr} {o : Obj} {xs : Array Value} {n : Nat} (ho : s.heap.get? t = some o) (hc : o.cls = .type "tuple") (hd : o.data = .seq xs n) (sz : xs.size ≤ sizeLine)
    (fin : ∀ g, s.heap.objs.size ≤ g.objs.size → (∀ b u, s.heap.get? b = some u → g.get? b = some u) → Q xs.toList { s with heap := g }) : wpAny (model prog w) A (collect (.ref t)) Q E s := by
  obtain ⟨g0, eg0⟩ : ∃ g0, s.heap.push { cls := .type "list", data := .seq ([] : List Value).toArray } = g0 := ⟨_, rfl⟩
  have n0 : g0.get? s.heap.objs.size = some { cls := .type "list", data := .seq #[] 0 } := by
    rw [← eg0]
    exact Heap.get?_push_size _ rfl
  have z0 : g0.objs.size = s.heap.objs.size + 1 := by
    rw [← eg0]
    exact Heap.size_push ..
  have k0 : ∀ b u, s.heap.get? b = some u → g0.get? b = some u := fun b u e => by
    rw [← eg0]
    exact Heap.get?_push_of_some _ e
  have n1 := Heap.get?_update_self (Obj.mapSeq (· ++ xs)) n0 rfl
  have last : ∀ s' : Shared, s' = { s with heap := g0.update s.heap.objs.size (Obj.mapSeq (· ++ xs)) } → wpAny (model prog w) A (match Value.ref s.heap.objs.size with
      | Value.ref a => do
        match (← load a).data with
          | Data.seq ys _ => pure ys.toList
          | _ => unsupported "internal:collect"
      | _ => unsupported "internal:collect") Q E s' := fun s' es => by
    rw [es]
    refine wpAny_bind (m := load s.heap.objs.size) (wpAny_load n1 (wpAny_pure ?_))
    show Q ((#[] : Array Value) ++ xs).toList _
    rw [show ((#[] : Array Value) ++ xs).toList = xs.toList by simp]
    refine fin _ (by rw [Heap.size_update, z0]; omega) fun b u e => ?_
    exact (Heap.get?_update_other _ _ (Nat.ne_of_gt (Heap.lt_size e))).trans (k0 b u e)
  unfold collect
  refine wpAny_bind (wpAny_runValue (codeAny_builtin (b := _) F.entry_proto_collect ?_))
  rw [Around.under_plainId (F.plain_proto_collect) _]
  show wpAny _ A.in1 (newList [] >>= fun l => again (.builtin "list.__iadd__" ⟨[l, .ref t], []⟩)) _ _ s
  refine wpAny_bind (wpAny_newObj_type (wpAny_pure ⟨plainId_quiet (F.plain_list_iadd) _, codeAny_builtin (b := _) F.entry_list_iadd ?_⟩))
  rw [Around.under_plainId (F.plain_list_iadd) _, eg0]
  show wpAny _ A.in1 (Builtin.List.listExtendWith (Value.ref s.heap.objs.size) (.ref t) (.ref s.heap.objs.size)) _ _ _
  refine wpAny_mono (wpAny_extend_seq (hsz := sz) (A := A) (R := fun r s' => r = .ok (.ret (.ref s.heap.objs.size)) ∧ s' = { s with heap := g0.update s.heap.objs.size (Obj.mapSeq (· ++ xs)) }) (s := { s with heap := g0 }) _ t _ 0 (.inr rfl) n0 (k0 _ _ ho) hc hd ⟨rfl, rfl⟩) (fun f s' h => ?_) (fun e s' h => absurd h.1 (by simp))
  cases f with
  | done f =>
    obtain ⟨e, h2⟩ := h
    cases e
    exact last s' h2
  | again c => exact ⟨h.1, codeAny_mono h.2 fun r s2 hr => by obtain ⟨rfl, h2⟩ := hr; exact last s2 h2⟩
theorem sortedTup {l : Addr} {vs : List Value} {k : Value → Int × Int} {Q : Value → Shared → Prop} (isT : IsTup s.heap l vs.toArray) (sz : vs.length ≤ sizeLine) (prs : ∀ v ∈ vs, Srt.IsPair s.heap v (k v).1 (k v).2)
    (fin : ∀ (h' : Heap) (d : Addr) (out : List Value), SrtO.Srtd (fun v u => SrtO.lexB (k v) (k u)) out → out.Perm vs → (∀ b o, s.heap.get? b = some o → h'.get? b = some o) → s.heap.objs.size ≤ d → (∃ n, h'.get? d = some (seqObj "list" out.toArray n)) → Q (.ref d) { s with heap := h' }) :
    wpAny (model prog w) A (call (.builtin "sorted") [.ref l]) Q E s := by
  refine Calls.call_function_entry kind_sorted (plain_sorted) entry_sorted (args_sorted1 _) ?_
  unfold Builtin.«sorted»
  refine wpAny_bind (m := checkCount "sorted" 1 1 _) (wpAny_pure (wpAny_bind ?_))
  obtain ⟨o, ho, hc, n, hd⟩ := isT
  refine collectT ho hc hd (by rw [List.size_toArray]; exact sz) (fun h1 big k1 => ?_)
  rw [List.toList_toArray]
  refine wpAny_bind (wpAny_newList ?_ sz)
  have own : (h1.push (seqObj "list" vs.toArray 0)).get? h1.objs.size = some (seqObj "list" vs.toArray 0) := Heap.get?_push_size _ rfl
  have keep : ∀ b o, s.heap.get? b = some o → b ≠ h1.objs.size ∧ b < (h1.push (seqObj "list" vs.toArray 0)).objs.size ∧ (h1.push (seqObj "list" vs.toArray 0)).get? b = some o := fun b o e => by
    have lt : b < h1.objs.size := Heap.lt_size (k1 b o e)
    exact ⟨Nat.ne_of_lt lt, by rw [Heap.size_push]; exact Nat.lt_succ_of_lt lt, Heap.get?_push_of_some _ (k1 b o e)⟩
  show wpAny _ _ _ _ _ { s with heap := h1.push (seqObj "list" vs.toArray 0) }
  refine wpAny_bind (wpAny_holding (wpAny_call_entry slot_list_sort ⟨_, own, rfl⟩ entry_list_sort (SrtO.list_sort_ord (SrtO.swo_lex k) own sz (fun h2 => ?_) fun out hs hb => ⟨_, rfl, ?_⟩) (args_list_sort _)))
  · refine SrtO.pairs_sortableO (s := { s with heap := h1.push (seqObj "list" vs.toArray 0) }) (by omega) (fun v hm => (prs v hm).keeps fun b o e _ => (keep b o e).2.2) fun o' e' => ?_
    have z : some o' = some (seqObj "list" vs.toArray 0) := e'.symm.trans own
    cases z
    exact fun c => absurd (Value.type.inj c) (by decide)
  · refine wpAny_pure ⟨_, rfl, fin _ _ out hs hb.perm (fun b o e => ?_) big (sortedHeap_at own)⟩
    have z := keep b o e
    rw [sortedHeap_old z.1 z.2.1]
    exact z.2.2
end
def rSortTP (K : PySem.W.Frag) : List V → Hp → VK → Prop := fun vs H Q => ∃ (a : Addr) (us : List V) (ps : List (Int × Int)), vs = [V.ref a] ∧ SqT K H a us ∧ Ivs H us ps ∧
  ∀ H' p us' ps', Same H H' → H p = none → H' p = some (.lst us') → Ivs H' us' ps' → ps'.Pairwise leP → ps'.Perm ps → Q (.ref p) H'
theorem Ivs.mem1 {H : Hp} {vs : List V} {ps : List (Int × Int)} (h : Ivs H vs ps) {v : V} (hv : v ∈ vs) : ∃ a q, q ∈ ps ∧ v = .ref a ∧ H a = some (.tup [.int q.1, .int q.2]) := by
  obtain ⟨i, ei⟩ := List.getElem?_of_mem hv
  obtain ⟨a, x, y, e, ep, ea⟩ := h.get ei
  exact ⟨a, (x, y), List.mem_of_getElem? ep, e, ea⟩
noncomputable def pairAt (H : Hp) (v : V) : Int × Int := Classical.epsilon fun q => ∃ a, v = .ref a ∧ H a = some (.tup [.int q.1, .int q.2])
theorem pairAt_eq {H : Hp} {a : Addr} {x y : Int} (h : H a = some (.tup [.int x, .int y])) : pairAt H (.ref a) = (x, y) := by
  have e : ∃ q : Int × Int, ∃ b, V.ref a = .ref b ∧ H b = some (.tup [.int q.1, .int q.2]) := ⟨(x, y), a, rfl, h⟩
  obtain ⟨b, e1, e2⟩ := Classical.epsilon_spec e
  cases e1
  have e2 : H a = some (.tup [.int (pairAt H (.ref a)).1, .int (pairAt H (.ref a)).2]) := e2
  rw [h] at e2
  have z := Option.some.inj e2
  injection z with z
  injection z with z1 z2
  injection z2 with z2 _
  injection z1 with z1
  injection z2 with z2
  exact Prod.ext z1.symm z2.symm
theorem Ivs.pairAt {H : Hp} {vs : List V} {ps : List (Int × Int)} (h : Ivs H vs ps) : vs.map (pairAt H) = ps := by
  induction h with
  | nil => rfl
  | cons e _ ih => rw [List.map_cons, ih, pairAt_eq e]
theorem Ivs.perm1 {H : Hp} {xs ys : List V} (pm : ys.Perm xs) : ∀ {ps : List (Int × Int)}, Ivs H xs ps → ∃ ps', Ivs H ys ps' ∧ ps'.Perm ps := by
  induction pm with
  | nil =>
    intro ps h
    exact ⟨ps, h, .refl _⟩
  | cons x _ ih =>
    intro ps h
    cases h with
    | cons e h =>
      obtain ⟨ps', h', p'⟩ := ih h
      exact ⟨_ :: ps', .cons e h', p'.cons _⟩
  | swap x y l =>
    intro ps h
    cases h with
    | cons e h =>
      cases h with
      | cons e2 h => exact ⟨_, .cons e2 (.cons e h), .swap _ _ _⟩
  | trans _ _ ih1 ih2 =>
    intro ps h
    obtain ⟨p2, h2, q2⟩ := ih2 h
    obtain ⟨p1, h1, q1⟩ := ih1 h2
    exact ⟨p1, h1, q1.trans q2⟩
theorem cr_sortTP {X : Cx} : CallR X (.builtin "sorted") (rSortTP X.K) := by
  intro pins s σ H vs us0 Q I r h
  obtain ⟨a, us, ps, rfl, hs, iv, q⟩ := h
  obtain ⟨its, rv, isT, sz⟩ := I.tuple hs
  obtain ⟨u, rfl, ru⟩ := vals1 r
  obtain rfl : u = Value.ref a := ru
  obtain ⟨e1, e2⟩ := refs_back rv fun x m => by
    obtain ⟨t, q, _, e, _⟩ := iv.mem1 m
    exact ⟨t, e⟩
  refine sortedTup (k := fun u => pairAt H (backV u)) isT (by rw [← rv.length]; exact sz) (fun v hv => ?_) fun h' d out h1 pmo kp hd hn => ?_
  · obtain ⟨t, rfl⟩ := e2 v hv
    have hm : V.ref t ∈ us := by rw [e1]; exact List.mem_map.mpr ⟨_, hv, rfl⟩
    obtain ⟨t', pq, _, e, ht⟩ := iv.mem1 hm
    cases e
    obtain ⟨_, its2, r2, o, ho, hc, n, hd⟩ := I.hok _ _ ht
    obtain ⟨u1, u2, rfl, ri, rj⟩ := vals2 r2
    obtain ⟨t1, rfl⟩ := ri
    obtain ⟨t2, rfl⟩ := rj
    show Srt.IsPair _ _ (pairAt H (.ref t)).1 (pairAt H (.ref t)).2
    rw [pairAt_eq ht]
    exact ⟨t, o, t1, t2, n, rfl, ho, hc, hd⟩
  · have h3 : ∀ u ∈ out, ∃ a, u = Value.ref a := fun u hu => e2 u (pmo.mem_iff.mp hu)
    obtain ⟨n, hn⟩ := hn
    have pm : (out.map backV).Perm us := by
      rw [e1]
      exact pmo.map backV
    obtain ⟨qs, ivq, pmq⟩ := Ivs.perm1 pm iv
    have fr : H d = none := I.hok.fresh hd
    have s1 : Same H (upd H d (.lst (out.map backV))) := same_new fr
    have asc : qs.Pairwise leP := by
      rw [← ivq.pairAt]
      refine List.pairwise_map.mpr (List.pairwise_map.mpr (List.Pairwise.imp (fun {x y} z => ?_) h1))
      have z := SrtO.lexB_no.mp z
      unfold leP
      omega
    refine ⟨.ref d, upd H d (.lst (out.map backV)), I.laid (t' := s.toks) kp hd ⟨?_, out, n, vals_back h3, hn⟩, rfl, q _ d _ qs s1 fr upd_same (ivq.same s1) asc pmq⟩
    rw [pm.length_eq]
    exact sz

/-! ### comprehensions over a range that change nothing but make new objects -/
theorem lcR {lo : Int} {n : Nat} {g : TG} {tt : TT} {te : TE} {vs : List Nat} {σ : L2.St} {H1 : Hp} {D : Addr} {Qd : Hp → Prop} (R : Nat → Hp → List V → Prop) (nD : H1 D = none) (few : n < 1000)
    (mono : ∀ i H' H'' ws, Tps H' H'' → R i H' ws → R i H'' ws) (len : ∀ i H' ws, R i H' ws → ws.length ≤ i) (r0 : ∀ H', R 0 H' [])
    (hs : ∀ i H' (N : Hp → Prop) acc, i < n → Same H1 H' → H' D = some (.lst acc) → acc.length < sizeLine → R i H' acc → (∀ H'', Same H' H'' → R (i + 1) H'' acc → N H'') → (∀ H'' y, Same H' H'' → R (i + 1) H'' (acc ++ [y]) → ∃ acc', H'' D = some (.lst acc') ∧ acc'.length < sizeLine ∧ N (upd H'' D (.lst (acc' ++ [y])))) →
      g (.int (lo + i)) (wipe σ vs) H' fun σ2 H2 => wipe σ2 vs = wipe σ vs ∧ tt σ2 H2 fun b H3 => if b = true then te σ2 H3 fun y H4 => ∃ acc, H4 D = some (.lst acc) ∧ acc.length < sizeLine ∧ N (upd H4 D (.lst (acc ++ [y]))) else N H3)
    (hd : ∀ H' ws, Same H1 H' → H' D = some (.lst ws) → R n H' ws → Qd H') :
    ∃ W : Nat → Nat → Hp → Prop, (∃ m, W 0 m (upd H1 D (.lst []))) ∧ ∀ i m H, W i m H →
      ((Itr lo n).stop i H ∧ Qd H) ∨ ((Itr lo n).go i H ∧ ∃ Nx : Hp → Prop, (∀ H', Nx H' → ∃ m', m' < m ∧ W (i + 1) m' H') ∧ ∀ x H', (Itr lo n).yld i H x H' → g x (wipe σ vs) H' fun σ2 H2 => wipe σ2 vs = wipe σ vs ∧ tt σ2 H2 fun b H3 =>
        if b = true then te σ2 H3 fun y H4 => ∃ acc, H4 D = some (.lst acc) ∧ acc.length < sizeLine ∧ Nx (upd H4 D (.lst (acc ++ [y]))) else Nx H3) := by
  refine lc_range (lo := lo) (n := n) (fun i H' => Same H1 H' ∧ ∃ ws, H' D = some (.lst ws) ∧ R i H' ws) ⟨same_new nD, [], upd_same, r0 _⟩ ?_ ?_
  · rintro i H' hi ⟨sm, ws, eD, r⟩
    have lw := len i H' ws r
    have sz : ws.length < sizeLine := few_line (by omega)
    refine hs i H' _ ws hi sm eD sz r (fun H'' s r2 => ⟨sm.trans s, ws, s _ _ eD, r2⟩) (fun H'' y s r2 => ?_)
    exact ⟨ws, s _ _ eD, sz, same_off nD (sm.trans s), _, upd_same, mono _ _ _ _ (Tps.lst (s _ _ eD)) r2⟩
  · rintro H' ⟨sm, ws, eD, r⟩
    exact hd H' ws sm eD r

/-! ### sorted(list of pairs) -/
theorem Ivs.perm {H : Hp} {xs ys : List V} (pm : ys.Perm xs) : ∀ {ps : List (Int × Int)}, Ivs H xs ps → ∃ ps', Ivs H ys ps' ∧ ps'.Perm ps := by
  induction pm with
  | nil =>
    intro ps h
    exact ⟨ps, h, .refl _⟩
  | cons x _ ih =>
    intro ps h
    cases h with
    | cons e h =>
      obtain ⟨ps', h', p'⟩ := ih h
      exact ⟨_ :: ps', .cons e h', p'.cons _⟩
  | swap x y l =>
    intro ps h
    cases h with
    | cons e h =>
      cases h with
      | cons e2 h => exact ⟨_, .cons e2 (.cons e h), .swap _ _ _⟩
  | trans _ _ ih1 ih2 =>
    intro ps h
    obtain ⟨p2, h2, q2⟩ := ih2 h
    obtain ⟨p1, h1, q1⟩ := ih1 h2
    exact ⟨p1, h1, q1.trans q2⟩
theorem Ivs.pair {H : Hp} {R : V → V → Prop} {S : Int × Int → Int × Int → Prop} (rs : ∀ a b x y u v, H a = some (.tup [.int x, .int y]) → H b = some (.tup [.int u, .int v]) → R (.ref a) (.ref b) → S (x, y) (u, v)) {vs : List V} {ps : List (Int × Int)} (h : Ivs H vs ps) (pw : vs.Pairwise R) : ps.Pairwise S := by
  induction h with
  | nil => exact .nil
  | cons e h ih =>
    have p := List.pairwise_cons.mp pw
    refine List.pairwise_cons.mpr ⟨fun q hq => ?_, ih p.2⟩
    obtain ⟨b, hb, eb⟩ := h.tpsMem hq
    exact rs _ b _ _ q.1 q.2 e eb (p.1 _ hb)
theorem Ivs.mem {H : Hp} {vs : List V} {ps : List (Int × Int)} (h : Ivs H vs ps) {v : V} (hv : v ∈ vs) : ∃ a q, q ∈ ps ∧ v = .ref a ∧ H a = some (.tup [.int q.1, .int q.2]) := by
  obtain ⟨i, ei⟩ := List.getElem?_of_mem hv
  obtain ⟨a, x, y, e, ep, ea⟩ := h.get ei
  exact ⟨a, (x, y), List.mem_of_getElem? ep, e, ea⟩
theorem bd2 {z : Int × Int} (b : (0 ≤ z.1 ∧ z.1 < 10 ^ 13) ∧ 0 ≤ z.2 ∧ z.2 < 10 ^ 13) : TS.Bd (10 ^ 13) [z.1, z.2] := fun m hm => by
  rcases List.mem_cons.mp hm with rfl | hm
  · exact b.1
  · rw [List.mem_singleton.mp hm]
    exact b.2
theorem sort_pairs {K : PySem.W.Frag} {H : Hp} {l : Addr} {us : List V} {ps : List (Int × Int)} {Q : VK} (hl : SqL K H l us) (iv : Ivs H us ps) (few : ps.length < 64) (bd : ∀ q ∈ ps, (0 ≤ q.1 ∧ q.1 < 10 ^ 13) ∧ 0 ≤ q.2 ∧ q.2 < 10 ^ 13)
    (fin : ∀ H' p us' ps', Same H H' → H p = none → H' p = some (.lst us') → Ivs H' us' ps' → ps'.Pairwise leP → ps'.Perm ps → Q (.ref p) H') :
    rSortU K 2 (10 ^ 13) [.ref l] H Q := by
  refine ⟨l, us, rfl, hl, by rw [iv.length]; exact few, fun x hx => ?_, fun ys p2 pm pw np2 => ?_⟩
  · obtain ⟨b, qq, hqq, e, eb⟩ := iv.mem hx
    exact ⟨[qq.1, qq.2], ⟨b, e, SqT.of eb⟩, rfl, bd2 (bd qq hqq)⟩
  obtain ⟨gs, ivg, pmg⟩ := Ivs.perm pm iv
  have z : gs.Pairwise (fun a b => TS.code (10 ^ 13) [a.1, a.2] ≤ TS.code (10 ^ 13) [b.1, b.2]) := Ivs.pair (S := fun a b => TS.code (10 ^ 13) [a.1, a.2] ≤ TS.code (10 ^ 13) [b.1, b.2]) (fun a b x y u v ea eb h => h [x, y] [u, v] ⟨a, rfl, SqT.of ea⟩ ⟨b, rfl, SqT.of eb⟩) ivg pw
  have s2 := same_new (o := .lst ys) np2
  refine fin _ p2 ys gs s2 np2 upd_same (ivg.same s2) (z.imp_of_mem fun {x y} hx hy h => ?_) pmg
  exact code_lex (bd2 (bd x (pmg.mem_iff.mp hx))) (bd2 (bd y (pmg.mem_iff.mp hy))) h

theorem shaped_pairs (ps : List (Int × Int)) : SeqAt.shaped (.tuple (ps.map pairD)) = true := by
  have h1 : ∀ ps : List (Int × Int), PyData.canLayAll0 (ps.map pairD) = true := by
    intro ps
    induction ps with
    | nil => rfl
    | cons n r ih => exact ih
  have h2 : ∀ ps : List (Int × Int), PyData.depthAll (ps.map pairD) ≤ 1 := by
    intro ps
    induction ps with
    | nil => exact Nat.zero_le _
    | cons n r ih =>
      show max 1 (PyData.depthAll (r.map pairD)) ≤ 1
      omega
  unfold SeqAt.shaped
  rw [show PyData.canLay0 (.tuple (ps.map pairD)) = PyData.canLayAll0 (ps.map pairD) from rfl, h1 ps]
  show decide (PyData.depthAll (ps.map pairD) + 1 ≤ 64) = true
  exact decide_eq_true (by have := h2 ps; omega)
theorem eqv_self (ps : List (Int × Int)) : PyData.eqv (.tuple (ps.map pairD)) (.tuple (ps.map pairD)) = true := by
  show PyData.eqvAll (ps.map pairD) (ps.map pairD) = true
  induction ps with
  | nil => rfl
  | cons q r ih =>
    show (((q.1 == q.1) && ((q.2 == q.2) && true)) && PyData.eqvAll (r.map pairD) (r.map pairD)) = true
    rw [ih, beq_self_eq_true, beq_self_eq_true]
    rfl

/-! ### small facts that plans want -/
theorem kit_tupT {K : PySem.W.Frag} : PySem.W.kitOne K (.type "tuple") (.type "tuple") = some true := kit_ty (a := "tuple") (b := "tuple") (r := true) (by decide +kernel)
theorem kit_intI {K : PySem.W.Frag} : PySem.W.kitOne K (.type "int") (.type "int") = some true := kit_ty (a := "int") (b := "int") (r := true) (by decide +kernel)
theorem kit_intB {K : PySem.W.Frag} : PySem.W.kitOne K (.type "int") (.type "bool") = some false := kit_ty (a := "int") (b := "bool") (r := false) (by decide +kernel)
theorem leP_nd {ps : List (Int × Int)} (h : ps.Pairwise leP) (nd : ps.Nodup) : ps.Pairwise ltP := by
  have z := h.and nd
  refine z.imp fun {a b} z => ?_
  rcases z.1 with k | ⟨k1, k2⟩
  · exact .inl k
  · refine .inr ⟨k1, ?_⟩
    rcases Int.lt_or_eq_of_le k2 with w | w
    · exact w
    · exact absurd (Prod.ext k1 w) z.2

theorem ltP_uniq {ps qs : List (Int × Int)} (h1 : ps.Pairwise ltP) (h2 : qs.Pairwise ltP) (m : ∀ q, q ∈ ps ↔ q ∈ qs) : ps = qs := by
  have nd : ∀ {l : List (Int × Int)}, l.Pairwise ltP → l.Nodup := fun h => h.imp fun {a b} h e => by
    subst e
    rcases h with h | h <;> omega
  have le : ∀ {l : List (Int × Int)}, l.Pairwise ltP → l.Pairwise leP := fun h => h.imp fun {a b} h => by
    rcases h with h | ⟨h, k⟩
    · exact .inl h
    · exact .inr ⟨h, by omega⟩
  exact leP_uniq (le h1) (le h2) ((List.perm_ext_iff_of_nodup (nd h1) (nd h2)).mpr m)
theorem atI_end {xs : List V} {v : V} (h : xs[xs.length - 1]? = some v) : atI xs (-1) = some v := by
  have ne : xs ≠ [] := fun e => by
    rw [e] at h
    cases h
  have e := List.dropLast_concat_getLast ne
  rw [List.getLast_eq_getElem] at e
  rw [List.getElem?_eq_getElem (by have := List.length_pos_iff.mpr ne; omega)] at h
  rw [Option.some.inj h] at e
  rw [← e]
  exact atI_last _ _

theorem eqv_pair (x y u v : Int) : PyData.eqv (.tuple [.int x, .int y]) (.tuple [.int u, .int v]) = decide ((x, y) = (u, v)) := by
  show ((x == u) && ((y == v) && true)) = decide ((x, y) = (u, v))
  rw [Bool.and_true, Bool.eq_iff_iff, Bool.and_eq_true, beq_iff_eq, beq_iff_eq, decide_eq_true_iff, Prod.mk.injEq]

def wo (ps : List (Int × Int)) (q : Int × Int) : List (Int × Int) := ps.filter fun x => !decide (x = q)
theorem wo_len (ps : List (Int × Int)) (q : Int × Int) : (wo ps q).length ≤ ps.length := List.length_filter_le _ _
theorem wo_sub {ps : List (Int × Int)} {q x : Int × Int} (h : x ∈ wo ps q) : x ∈ ps := (List.mem_filter.mp h).1
def sp_without_item : Sp := fun vs H Q _ => ∃ (a t : Addr) (us : List V) (ps : List (Int × Int)) (x y : Int), vs = [.ref a, .ref t] ∧ H a = some (.tup us) ∧ Ivs H us ps ∧ ps.length < 1000 ∧ H t = some (.tup [.int x, .int y]) ∧
  ∀ H' p ws, Same H H' → H' p = some (.tup ws) → Ivs H' ws (wo ps (x, y)) → Q (.ref p) H'
theorem ok_without_item (T : Tx K mg f_is_number f_is_position f_is_tuple_of f_is_interval f_ascending_error f_targets_error f_is_pieces f_without_item f_is_edit f_copied_batch f_with_interval f_without_interval f_edited_state f_law_deck f_law_draw f_law_line f_law_interval f_law_intervals f_law_edit f_law_after f_law_right f_law_begun f_law_applied f_law_failing f_law_bad f_law_batch f_law f_Plan_init f_Plan_apply f_Plan_targets f_Plan_pieces f_Plan_edits f_Plan_record f_Plan_record_or_reject f_Plan_passes f_Plan_require_idle f_Plan_state_at f_Plan_len f_Plan_str f_BadInterval_init f_Duplicate_init f_BadEdit_init f_Rejected_init f_Unknown_init C_Plan X_BadInterval X_SpanError X_Unknown X_Duplicate X_Rejected X_BadEdit X_BadEdits X_Busy d_is_number d_is_position d_is_tuple_of d_is_interval d_ascending_error d_targets_error d_is_pieces d_without_item d_is_edit d_copied_batch d_with_interval d_without_interval d_edited_state d_law_deck d_law_draw d_law_line d_law_interval d_law_intervals d_law_edit d_law_after d_law_right d_law_begun d_law_applied d_law_failing d_law_bad d_law_batch d_law d_Plan_init d_Plan_apply d_Plan_targets d_Plan_pieces d_Plan_edits d_Plan_record d_Plan_record_or_reject d_Plan_passes d_Plan_require_idle d_Plan_state_at d_Plan_len d_Plan_str d_BadInterval_init d_Duplicate_init d_BadEdit_init d_Rejected_init d_Unknown_init t_LAST_POSITION t_MAX_TARGETS t_MAX_PIECES t_MAX_EDITS t_BATCH t_WORDS) : FnOk P w K mg base CX0 1 f_without_item d_without_item ["items", "item"] sp_without_item := by
  refine T.F_without_item.ok sc_without_item (fun vs H Q E h => ?_) (fun cdv A outer s H vs Q E hr h => ?_)
  · obtain ⟨a, t, us, ps, x, y, rfl, _⟩ := h
    rfl
  · obtain ⟨a, t, us, ps, x, y, rfl, ha, iv, few, ht, q⟩ := h
    have lu := iv.length
    refine ⟨_, (pss_one (ps_ret (pe_callTy call_tuple_of (by rfl) T.z_tuple (by decide +kernel) (pa_cons (pe_lc (own := [("other", 2)]) (g := (gName 2)) (by rfl) sc_without_item.nd (pi_tup (pv 0)) (blkOk_by (own := [("other", 2)]) (N := N_without_item) (sc := defScope s_without_item) (by decide +kernel)) (fun _ _ _ _ _ => (pg_name (i := 2) sc_without_item.nd rfl (Or.inl rfl))) (fun _ _ _ _ _ => pts_one (pt_cmpR (show OpR _ (compareOp .NotEq) (rNeD K) from (op_neD hr.units)) (pv 2) (pv 1) (nomark _))) (fun _ _ _ _ _ => (pv 2))) pa_nil)))), ?_⟩
    refine ⟨.ref a, rfl, a, rfl, ⟨_, SqT.of ha⟩, fun D nD => ?_⟩
    refine lcT (K := K) (a := a) (xs := us) (fun j H' ws => Ivs H' ws ((ps.take j).filter fun z => !decide (z = (x, y)))) nD (fun H' s => SqT.of (s _ _ ha)) (by omega) (fun _ _ _ _ t r => r.tps t) (fun j H' ws r => ?_) (fun _ => .nil) ?_ ?_
    · rw [r.length]
      exact Nat.le_trans (List.length_filter_le _ _) (List.length_take_le _ _)
    · rintro j z H' N acc hj sj eA sz r no yes
      obtain ⟨b, u, v, rfl, exy, hb⟩ := iv.get hj
      refine ⟨rfl, .ref b, rfl, .ref t, rfl, _, _, dp2 (sj _ _ hb), dp2 (sj _ _ ht), rfl, rfl, _, rfl, ?_⟩
      rw [eqv_pair]
      refine ite2 (fun c => ?_) (fun c => ?_)
      · refine ⟨.ref b, rfl, yes H' _ (Same.refl _) ?_⟩
        rw [take_filter exy, if_pos c]
        exact r.snoc (sj _ _ hb)
      · refine no H' (Same.refl _) ?_
        rw [take_filter exy, if_neg c, List.append_nil]
        exact r
    · intro H1 ws s1 eD r
      rw [lu, List.take_length] at r
      refine ⟨D, ws, rfl, .inl ⟨SqL.of eD, fun p np => ?_⟩⟩
      exact q _ p ws (s1.trans (same_new np)) upd_same (r.same (same_new np))

theorem any_pair (x y : Int) : ∀ ps : List (Int × Int), ((ps.map pairD).any fun z => PyData.eqv z (.tuple [.int x, .int y])) = decide ((x, y) ∈ ps)
  | [] => rfl
  | q :: ps => by
    rw [List.map_cons, List.any_cons, any_pair x y ps]
    show (PyData.eqv (.tuple [.int q.1, .int q.2]) (.tuple [.int x, .int y]) || _) = _
    rw [eqv_pair, Bool.eq_iff_iff, Bool.or_eq_true, decide_eq_true_iff, decide_eq_true_iff, decide_eq_true_iff, List.mem_cons]
    exact ⟨fun h => h.imp (fun z => z.symm) id, fun h => h.imp (fun z => z.symm) id⟩

theorem cutFrom (xs : List V) (j : Nat) : cutV xs (some (j : Int)) none = xs.drop j := by
  unfold cutV
  rw [show HT.sIx xs.length 0 (some (j : Int)) = min j xs.length from HT.sIx_nat xs.length 0 j, HT.sIx_none]
  rcases Nat.le_total j xs.length with h | h
  · rw [Nat.min_eq_left h]
    exact List.take_of_length_le (by rw [List.length_drop]; exact Nat.le_refl _)
  · rw [Nat.min_eq_right h, List.drop_of_length_le (Nat.le_refl _), List.drop_of_length_le h]
    exact List.take_nil

def rLenS (K : PySem.W.Frag) : List V → Hp → VK → Prop := fun xs H Q => ∃ p ys, xs = [.ref p] ∧ (SqL K H p ys ∨ SqT K H p ys) ∧ Q (.int (ys.length : Nat)) H
theorem call_lenS {X : Cx} : CallR X (.builtin "len") (rLenS X.K) := call_len_seq
theorem pe_bmK {X : Cx} {K : PySem.W.Frag} {e : Expr} {T : String} {r : V → List V → Hp → VK → Prop} {to : TE} {t : TA} (hK : X.K = K) (h : PE X e (tBM X.K T r to t)) : PE X e (tBM K T r to t) := hK ▸ h

/-! ### a line of cells, intervals of whole cells -/
structure Cells (cs : List (Int × Int)) : Prop where
  ok : ∀ q ∈ cs, 0 ≤ q.1 ∧ q.1 ≤ q.2
  nxt : ∀ (i : Nat) (q r : Int × Int), cs[i]? = some q → cs[i + 1]? = some r → r.1 = q.2 + 1
theorem Cells.snoc {cs : List (Int × Int)} {low s : Int} (h : Cells cs) (last : ∀ q, cs[cs.length - 1]? = some q → low = q.2 + 1) (l0 : 0 ≤ low) (s1 : 1 ≤ s) : Cells (cs ++ [(low, low + s - 1)]) := by
  refine ⟨fun q hq => ?_, fun i q r h1 h2 => ?_⟩
  · rcases List.mem_append.mp hq with hq | hq
    · exact h.ok q hq
    · rw [List.mem_singleton.mp hq]
      exact ⟨l0, by show low ≤ low + s - 1; omega⟩
  · have il := (List.getElem?_eq_some_iff.mp h2).1
    rw [List.length_append] at il
    have il : i + 1 < cs.length + 1 := il
    rw [List.getElem?_append_left (by omega)] at h1
    rcases Nat.lt_or_ge (i + 1) cs.length with z | z
    · rw [List.getElem?_append_left z] at h2
      exact h.nxt i q r h1 h2
    · have e : i = cs.length - 1 := by omega
      rw [List.getElem?_append_right z, show i + 1 - cs.length = 0 by omega] at h2
      cases h2
      rw [e] at h1
      exact last q h1
theorem low3 {r : Int} (h0 : 0 ≤ r) (h1 : r < 3) : ∃ L : Int, atI [V.int 0, .int 3, .int ((10 : Int) ^ (6 : Int).toNat)] r = some (.int L) ∧ 0 ≤ L ∧ L ≤ 1000000 := by
  have : r = 0 ∨ r = 1 ∨ r = 2 := by omega
  rcases this with rfl | rfl | rfl
  · exact ⟨0, rfl, by decide, by decide⟩
  · exact ⟨3, rfl, by decide, by decide⟩
  · exact ⟨_, rfl, by decide, by decide⟩
theorem size5 {r : Int} (h0 : 0 ≤ r) (h1 : r < 5) : ∃ L : Int, atI [V.int 1, .int 1, .int 2, .int 5, .int ((10 : Int) ^ (11 : Int).toNat)] r = some (.int L) ∧ 1 ≤ L ∧ L ≤ 100000000000 := by
  have : r = 0 ∨ r = 1 ∨ r = 2 ∨ r = 3 ∨ r = 4 := by omega
  rcases this with rfl | rfl | rfl | rfl | rfl
  · exact ⟨1, rfl, by decide, by decide⟩
  · exact ⟨1, rfl, by decide, by decide⟩
  · exact ⟨2, rfl, by decide, by decide⟩
  · exact ⟨5, rfl, by decide, by decide⟩
  · exact ⟨_, rfl, by decide, by decide⟩
def sp_law_line : Sp := fun vs H Q _ => ∃ (d : Addr) (c : Addr) (n most : Int), vs = [.ref d, .int most] ∧ Dk H d c n ∧ 0 ≤ n ∧ n < 900000 ∧ 1 ≤ most ∧ most ≤ 9 ∧
  ∀ H' l us cs m, Kp d c H H' → Dk H' d c m → n ≤ m → m ≤ n + 2 + most → H' l = some (.lst us) → Ivs H' us cs → Cells cs → 0 < cs.length → (cs.length : Int) ≤ most → (∀ q ∈ cs, q.2 < 1000000 + 100000000000 * most) → Off d c l → Q (.ref l) H'
theorem ok_law_line (T : Tx K mg f_is_number f_is_position f_is_tuple_of f_is_interval f_ascending_error f_targets_error f_is_pieces f_without_item f_is_edit f_copied_batch f_with_interval f_without_interval f_edited_state f_law_deck f_law_draw f_law_line f_law_interval f_law_intervals f_law_edit f_law_after f_law_right f_law_begun f_law_applied f_law_failing f_law_bad f_law_batch f_law f_Plan_init f_Plan_apply f_Plan_targets f_Plan_pieces f_Plan_edits f_Plan_record f_Plan_record_or_reject f_Plan_passes f_Plan_require_idle f_Plan_state_at f_Plan_len f_Plan_str f_BadInterval_init f_Duplicate_init f_BadEdit_init f_Rejected_init f_Unknown_init C_Plan X_BadInterval X_SpanError X_Unknown X_Duplicate X_Rejected X_BadEdit X_BadEdits X_Busy d_is_number d_is_position d_is_tuple_of d_is_interval d_ascending_error d_targets_error d_is_pieces d_without_item d_is_edit d_copied_batch d_with_interval d_without_interval d_edited_state d_law_deck d_law_draw d_law_line d_law_interval d_law_intervals d_law_edit d_law_after d_law_right d_law_begun d_law_applied d_law_failing d_law_bad d_law_batch d_law d_Plan_init d_Plan_apply d_Plan_targets d_Plan_pieces d_Plan_edits d_Plan_record d_Plan_record_or_reject d_Plan_passes d_Plan_require_idle d_Plan_state_at d_Plan_len d_Plan_str d_BadInterval_init d_Duplicate_init d_BadEdit_init d_Rejected_init d_Unknown_init t_LAST_POSITION t_MAX_TARGETS t_MAX_PIECES t_MAX_EDITS t_BATCH t_WORDS) : FnOk P w K mg base CX0 2 f_law_line d_law_line ["_law_deck_here", "_law_most"] sp_law_line := by
  refine T.F_law_line.ok sc_law_line (fun vs H Q E h => ?_) (fun cdv A outer s H vs Q E hr h => ?_)
  · obtain ⟨d, c, n, most, rfl, _⟩ := h
    rfl
  · obtain ⟨d, c, n, most, rfl, dk, n0, n1, m0, m1, q⟩ := h
    refine ⟨_, (pss_cons (ps_set (i := 2) sc_law_line.nd rfl (Or.inl rfl) (pe_ix ix_list (pe_lst (pa_cons pe_int (pa_cons pe_int (pa_cons (pe_op op_pow pe_int pe_int) pa_nil)))) (pe_call (ok_law_draw T) (hr.mono (by decide)) (by rfl) T.g_law_draw T.F_law_draw.kp T.b_law_draw .nil pass0 (pa_cons (pv 0) (pa_cons pe_int pa_nil))) (fun _ _ => rfl)))
      (pss_cons (ps_set (i := 3) sc_law_line.nd rfl (Or.inl rfl) (pe_lst pa_nil))
      (pss_cons (ps_for PassesOwn.never rfl (pi_range1 (by rfl) T.z_range (pa_cons (pe_op op_add pe_int (pe_call (ok_law_draw T) (hr.mono (by decide)) (by rfl) T.g_law_draw T.F_law_draw.kp T.b_law_draw .nil pass0 (pa_cons (pv 0) (pa_cons (pv 1) pa_nil)))) pa_nil)) (pg_name (i := 4) sc_law_line.nd rfl (Or.inl rfl))
      (pss_cons (ps_set (i := 5) sc_law_line.nd rfl (Or.inl rfl) (pe_ix ix_list (pe_lst (pa_cons pe_int (pa_cons pe_int (pa_cons pe_int (pa_cons pe_int (pa_cons (pe_op op_pow pe_int pe_int) pa_nil)))))) (pe_call (ok_law_draw T) (hr.mono (by decide)) (by rfl) T.g_law_draw T.F_law_draw.kp T.b_law_draw .nil pass0 (pa_cons (pv 0) (pa_cons pe_int pa_nil))) (fun _ _ => rfl)))
      (pss_cons (ps_expr (pe_bm PySem.F.plainAttrs_list PySem.F.slot_list_append PySem.F.type_list_append mt_append (pv 3) (pa_cons (pe_tup (pa_cons (pv 2) (pa_cons (pe_op op_sub (pe_op op_add (pv 2) (pv 5)) pe_int) pa_nil))) pa_nil)))
      (pss_one (ps_set (i := 2) sc_law_line.nd rfl (Or.inl rfl) (pe_op op_add (pv 2) (pv 5)))))))
      (pss_one (ps_ret (pv 3)))))), ?_⟩
    refine ⟨10, 6, rfl, rfl, ⟨by decide, by decide, by decide⟩, by show 3 ≤ sizeLine; decide, fun p np => ?_⟩
    have off := dk.off np
    refine ⟨.ref d, rfl, d, c, _, 3, rfl, dk.kept (same_new np), by omega, by omega, by decide, by decide, fun H2 r2 kp2 dk2 a0 a1 => ?_⟩
    obtain ⟨L0, eL0, hL0, hL1⟩ := low3 a0 a1
    refine ⟨p, _, r2, _, rfl, rfl, SqL.of (kp2.keep off upd_same), eL0, ?_⟩
    have kp02 : Kp d c H H2 := (Kp.same (same_new np)).trans kp2
    refine ⟨by show 0 ≤ sizeLine; decide, fun l nl => ?_⟩
    have offl := dk2.off nl
    have nl0 : H l = none := kp02.none dk dk2 nl
    refine ⟨.ref d, rfl, .int most, rfl, d, c, _, most, rfl, dk2.kept (same_new nl), by omega, by omega, by omega, by omega, fun H3 r3 kp3 dk3 b0 b1 => ?_⟩
    have el3 := kp3.keep offl upd_same
    have kp03 : Kp d c H H3 := kp02.trans ((Kp.same (same_new nl)).trans kp3)
    refine ⟨_, _, rfl, rfl, 1 + r3, rfl, by omega, by omega, for_range (n := (1 + r3).toNat) (fun i σ H' => (Kp d c H H' ∧ Dk H' d c (n + 2 + i)) ∧ (∃ (us : List V) (cs : List (Int × Int)) (low : Int), H' l = some (.lst us) ∧ Ivs H' us cs ∧ cs.length = i ∧ Cells cs ∧ (∀ q, cs[cs.length - 1]? = some q → low = q.2 + 1) ∧ (0 ≤ low ∧ low ≤ 1000000 + 100000000000 * i) ∧ (∀ q ∈ cs, q.2 < 1000000 + 100000000000 * i) ∧ ∃ y4 y5, σ = [some (.ref d), some (.int most), some (.int low), some (.ref l), y4, y5]))
      ⟨⟨kp03, dk3.eq (by simp; omega)⟩, [], [], L0, el3, .nil, rfl, ⟨(fun q hq => nomatch hq), (fun i q r h1 _ => by simp at h1)⟩, (fun q h => by simp at h), ⟨by omega, by omega⟩, (fun q hq => nomatch hq), _, _, rfl⟩ ?_ ?_⟩
    · rintro i σ H4 hi ⟨⟨kp4, dk4⟩, us, cs, low, el, iv, cl, cells, last, ⟨lo0, lo1⟩, topc, y4, y5, rfl⟩
      have i9 : i < 9 := by omega
      refine ⟨10, 11, rfl, rfl, ⟨by decide, by decide, by decide⟩, by show 5 ≤ sizeLine; decide, fun p5 np5 => ?_⟩
      have off5 := dk4.off np5
      refine ⟨.ref d, rfl, d, c, _, 5, rfl, dk4.kept (same_new np5), by omega, by omega, by decide, by decide, fun H5 r5 kp5 dk5 c0 c1 => ?_⟩
      obtain ⟨S, eS, hS0, hS1⟩ := size5 c0 c1
      refine ⟨p5, _, r5, _, rfl, rfl, SqL.of (kp5.keep off5 upd_same), eS, ?_⟩
      have kp45 : Kp d c H4 H5 := (Kp.same (same_new np5)).trans kp5
      have el5 := kp45.keep offl el
      have iv5 := iv.tps (kp45.tps dk4)
      refine ⟨.ref l, rfl, .inl ⟨rfl, _, SqL.of el5⟩, .int low, rfl, .int low, rfl, .int S, rfl, _, _, rfl, rfl, _, _, rfl, rfl, by show 2 ≤ sizeLine; decide, fun t nt => ?_⟩
      have s6 := same_new (o := .tup [.int low, .int (low + S - 1)]) nt
      have et := upd_same (H := H5) (a := t) (o := .tup [.int low, .int (low + S - 1)])
      generalize upd H5 t (.tup [.int low, .int (low + S - 1)]) = H6 at *
      have el6 := s6 _ _ el5
      refine ⟨l, _, _, rfl, rfl, el6, by rw [iv.length]; exact small1000 (by omega), ?_⟩
      refine ⟨.int low, rfl, .int S, rfl, _, _, rfl, rfl, ⟨?_, ?_⟩, us ++ [.ref t], cs ++ [(low, low + S - 1)], low + S, upd_same, ?_, by rw [List.length_append, cl]; rfl, cells.snoc last lo0 hS0, fun q h => ?_, ⟨by omega, by omega⟩, fun q hq => ?_, _, _, rfl⟩
      · intro b o n1 n2 e
        rw [upd_ne (ne_of_none e nl0)]
        exact s6 _ _ (kp45 b o n1 n2 (kp4 b o n1 n2 e))
      · exact ((dk5.kept s6).upd offl).eq (by omega)
      · exact ((iv5.same s6).snoc et).tps (Tps.lst el6)
      · rw [List.length_append, show cs.length + [(low, low + S - 1)].length - 1 = cs.length from rfl, List.getElem?_append_right (Nat.le_refl _), Nat.sub_self] at h
        cases h
        show low + S = low + S - 1 + 1
        omega
      · rcases List.mem_append.mp hq with hq | hq
        · have := topc q hq
          omega
        · rw [List.mem_singleton.mp hq]
          show low + S - 1 < _
          omega
    · rintro σ H4 ⟨⟨kp4, dk4⟩, us, cs, low, el, iv, cl, cells, last, ⟨lo0, lo1⟩, topc, y4, y5, rfl⟩
      refine ⟨.ref l, rfl, q H4 l us cs _ kp4 dk4 (by omega) (by omega) el iv cells (by omega) (by omega) (fun z hz => ?_) offl⟩
      have := topc z hz
      omega
/-- an interval of whole cells -/
def OfCells (cs : List (Int × Int)) (q : Int × Int) : Prop := ∃ (i j : Nat) (a b : Int × Int), i ≤ j ∧ cs[i]? = some a ∧ cs[j]? = some b ∧ q.1 = a.1 ∧ q.2 = b.2
theorem Cells.mono {cs : List (Int × Int)} (h : Cells cs) {i : Nat} {a : Int × Int} (ha : cs[i]? = some a) : ∀ (k : Nat) (b : Int × Int), cs[i + k]? = some b → a.1 ≤ b.1 ∧ a.2 ≤ b.2
  | 0, b, hb => by
    rw [Nat.add_zero, ha] at hb
    cases hb
    exact ⟨Int.le_refl _, Int.le_refl _⟩
  | k + 1, b, hb => by
    have il := (List.getElem?_eq_some_iff.mp hb).1
    have e := List.getElem?_eq_getElem (l := cs) (i := i + k) (by omega)
    have ih := h.mono ha k _ e
    have n := h.nxt (i + k) _ b e hb
    have o1 := h.ok _ (List.mem_of_getElem? e)
    have o2 := h.ok b (List.mem_of_getElem? hb)
    generalize cs[i + k] = z at *
    omega
theorem OfCells.ok {cs : List (Int × Int)} (h : Cells cs) {q : Int × Int} (o : OfCells cs q) {m : Int} (top : ∀ z ∈ cs, z.2 < m) : 0 ≤ q.1 ∧ q.1 ≤ q.2 ∧ q.2 < m := by
  obtain ⟨i, j, a, b, ij, ha, hb, e1, e2⟩ := o
  obtain ⟨k, rfl⟩ := Nat.le.dest ij
  have m := h.mono ha k b hb
  have oa := h.ok a (List.mem_of_getElem? ha)
  have tb := top b (List.mem_of_getElem? hb)
  omega
def sp_law_interval : Sp := fun vs H Q _ => ∃ (d : Addr) (c : Addr) (n : Int) (l : Addr) (us : List V) (cs : List (Int × Int)), vs = [.ref d, .ref l] ∧ Dk H d c n ∧ 0 ≤ n ∧ n < 990000 ∧ Off d c l ∧ H l = some (.lst us) ∧ Ivs H us cs ∧ 0 < cs.length ∧ cs.length ≤ 9 ∧
  ∀ H' p x y, Kp d c H H' → Dk H' d c (n + 2) → H' p = some (.tup [.int x, .int y]) → OfCells cs (x, y) → Q (.ref p) H'
theorem ok_law_interval (T : Tx K mg f_is_number f_is_position f_is_tuple_of f_is_interval f_ascending_error f_targets_error f_is_pieces f_without_item f_is_edit f_copied_batch f_with_interval f_without_interval f_edited_state f_law_deck f_law_draw f_law_line f_law_interval f_law_intervals f_law_edit f_law_after f_law_right f_law_begun f_law_applied f_law_failing f_law_bad f_law_batch f_law f_Plan_init f_Plan_apply f_Plan_targets f_Plan_pieces f_Plan_edits f_Plan_record f_Plan_record_or_reject f_Plan_passes f_Plan_require_idle f_Plan_state_at f_Plan_len f_Plan_str f_BadInterval_init f_Duplicate_init f_BadEdit_init f_Rejected_init f_Unknown_init C_Plan X_BadInterval X_SpanError X_Unknown X_Duplicate X_Rejected X_BadEdit X_BadEdits X_Busy d_is_number d_is_position d_is_tuple_of d_is_interval d_ascending_error d_targets_error d_is_pieces d_without_item d_is_edit d_copied_batch d_with_interval d_without_interval d_edited_state d_law_deck d_law_draw d_law_line d_law_interval d_law_intervals d_law_edit d_law_after d_law_right d_law_begun d_law_applied d_law_failing d_law_bad d_law_batch d_law d_Plan_init d_Plan_apply d_Plan_targets d_Plan_pieces d_Plan_edits d_Plan_record d_Plan_record_or_reject d_Plan_passes d_Plan_require_idle d_Plan_state_at d_Plan_len d_Plan_str d_BadInterval_init d_Duplicate_init d_BadEdit_init d_Rejected_init d_Unknown_init t_LAST_POSITION t_MAX_TARGETS t_MAX_PIECES t_MAX_EDITS t_BATCH t_WORDS) : FnOk P w K mg base CX0 2 f_law_interval d_law_interval ["_law_deck_here", "_law_line_here"] sp_law_interval := by
  refine T.F_law_interval.ok sc_law_interval (fun vs H Q E h => ?_) (fun cdv A outer s H vs Q E hr h => ?_)
  · obtain ⟨d, c, n, l, us, cs, rfl, _⟩ := h
    rfl
  · obtain ⟨d, c, n, l, us, cs, rfl, dk, n0, n1, off, el, iv, l0, l1, q⟩ := h
    refine ⟨_, (pss_cons (ps_asg (pe_callB cr_sortedI (by rfl) T.z_sorted (by decide +kernel) (pa_cons (pe_lst (pa_cons (pe_call (ok_law_draw T) (hr.mono (by decide)) (by rfl) T.g_law_draw T.F_law_draw.kp T.b_law_draw .nil pass0 (pa_cons (pv 0) (pa_cons (pe_callB call_len_seq (by rfl) T.z_len PySem.boot_len (pa_cons (pv 1) pa_nil)) pa_nil))) (pa_cons (pe_call (ok_law_draw T) (hr.mono (by decide)) (by rfl) T.g_law_draw T.F_law_draw.kp T.b_law_draw .nil pass0 (pa_cons (pv 0) (pa_cons (pe_callB call_len_seq (by rfl) T.z_len PySem.boot_len (pa_cons (pv 1) pa_nil)) pa_nil))) pa_nil))) pa_nil)) (pg_unl rfl (pgs_cons (pg_name (i := 2) sc_law_interval.nd rfl (Or.inl rfl)) (pgs_cons (pg_name (i := 3) sc_law_interval.nd rfl (Or.inl rfl)) pgs_nil))))
      (pss_one (ps_ret (pe_tup (pa_cons (pe_ix ix_tup (pe_ix ix_list (pv 1) (pv 2) (fun _ _ => rfl)) pe_int (fun _ _ => rfl)) (pa_cons (pe_ix ix_tup (pe_ix ix_list (pv 1) (pv 3) (fun _ _ => rfl)) pe_int (fun _ _ => rfl)) pa_nil)))))), ?_⟩
    have lu := iv.length
    refine ⟨.ref d, rfl, .ref l, rfl, l, us, rfl, .inl (SqL.of el), d, c, n, (us.length : Int), rfl, dk, n0, by omega, by omega, by omega, fun H1 r1 kp1 dk1 a0 a1 => ?_⟩
    have el1 := kp1.keep off el
    refine ⟨.ref d, rfl, .ref l, rfl, l, us, rfl, .inl (SqL.of el1), d, c, n + 1, (us.length : Int), rfl, dk1, by omega, by omega, by omega, by omega, fun H2 r2 kp2 dk2 b0 b1 => ?_⟩
    have el2 := kp2.keep off el1
    have iv2 := iv.tps ((kp1.trans kp2).tps dk)
    refine ⟨by show 2 ≤ sizeLine; decide, fun p np => ?_⟩
    have s3 := same_new (o := .lst [.int r1, .int r2]) np
    have ep := upd_same (H := H2) (a := p) (o := .lst [.int r1, .int r2])
    generalize upd H2 p (.lst [.int r1, .int r2]) = H3 at *
    dsimp only [tNil]
    refine ⟨p, [r1, r2], rfl, SqL.of ep, fun ms p2 pm srt np2 => ?_⟩
    have s4 := same_new (o := .lst (ms.map V.int)) np2
    have ep2 := upd_same (H := H3) (a := p2) (o := .lst (ms.map V.int))
    generalize upd H3 p2 (.lst (ms.map V.int)) = H4 at *
    have s24 := s3.trans s4
    obtain ⟨i, j, rfl, ij, jl⟩ : ∃ i j : Nat, ms = [(i : Int), (j : Int)] ∧ i ≤ j ∧ j < cs.length := by
      have lm := pm.length_eq
      match ms, lm, srt, pm with
      | [x, y], _, srt, pm =>
        have xy : x ≤ y := (List.pairwise_cons.mp srt).1 y List.mem_cons_self
        have bx : ∀ z ∈ [x, y], 0 ≤ z ∧ z < (us.length : Int) := fun z hz => by
          have := pm.mem_iff.mp hz
          rcases List.mem_cons.mp this with rfl | this
          · exact ⟨a0, a1⟩
          · rw [List.mem_singleton.mp this]
            exact ⟨b0, b1⟩
        have x0 := bx x List.mem_cons_self
        have y0 := bx y (List.mem_cons_of_mem _ List.mem_cons_self)
        exact ⟨x.toNat, y.toNat, by rw [Int.toNat_of_nonneg x0.1, Int.toNat_of_nonneg y0.1], by omega, by omega⟩
    refine ⟨p2, _, rfl, SqL.of ep2, rfl, .int i, [.int j], rfl, .int j, [], rfl, rfl, ?_⟩
    have el4 := s24 _ _ el2
    have iv4 := iv2.same s24
    have ui := List.getElem?_eq_getElem (l := us) (i := i) (by omega)
    have uj := List.getElem?_eq_getElem (l := us) (i := j) (by omega)
    obtain ⟨ai, xi, yi, ei, ci, hi⟩ := iv4.get ui
    obtain ⟨aj, xj, yj, ej, cj, hj⟩ := iv4.get uj
    refine ⟨.ref l, rfl, .int i, rfl, l, us, (i : Int), .ref ai, rfl, rfl, SqL.of el4, (by rw [← ei]; exact atI_nat ui), ai, _, 0, .int xi, rfl, rfl, SqT.of hi, rfl, .ref l, rfl, .int j, rfl, l, us, (j : Int), .ref aj, rfl, rfl, SqL.of el4, (by rw [← ej]; exact atI_nat uj), aj, _, 1, .int yj, rfl, rfl, SqT.of hj, rfl, by show 2 ≤ sizeLine; decide, fun t nt => ?_⟩
    have s5 := same_new (o := .tup [.int xi, .int yj]) nt
    exact q _ t xi yj ((kp1.trans kp2).trans (Kp.same (s24.trans s5))) ((dk2.kept (s24.trans s5)).eq (by omega)) upd_same ⟨i, j, (xi, yi), (xj, yj), ij, ci, cj, rfl, rfl⟩
def sp_law_intervals : Sp := fun vs H Q _ => ∃ (d : Addr) (c : Addr) (n : Int) (l : Addr) (us : List V) (cs : List (Int × Int)) (most : Int), vs = [.ref d, .ref l, .int most] ∧ Dk H d c n ∧ 0 ≤ n ∧ n < 900000 ∧ Off d c l ∧ H l = some (.lst us) ∧ Ivs H us cs ∧ Cells cs ∧ 0 < cs.length ∧ cs.length ≤ 9 ∧ (∀ q ∈ cs, q.2 < 1000000000000) ∧ 0 ≤ most ∧ most ≤ 30 ∧
  ∀ H' t ws ps m, Kp d c H H' → Dk H' d c m → n ≤ m → m ≤ n + 1 + 2 * most → H' t = some (.tup ws) → Ivs H' ws ps → ps.Pairwise ltP → (∀ q ∈ ps, OfCells cs q) → (ps.length : Int) ≤ most → Q (.ref t) H'
theorem ltP_nd6 {ps : List (Int × Int)} (h : ps.Pairwise ltP) : ps.Nodup := h.imp fun {a b} h e => by
  subst e
  rcases h with h | h <;> omega
theorem ok_law_intervals (T : Tx K mg f_is_number f_is_position f_is_tuple_of f_is_interval f_ascending_error f_targets_error f_is_pieces f_without_item f_is_edit f_copied_batch f_with_interval f_without_interval f_edited_state f_law_deck f_law_draw f_law_line f_law_interval f_law_intervals f_law_edit f_law_after f_law_right f_law_begun f_law_applied f_law_failing f_law_bad f_law_batch f_law f_Plan_init f_Plan_apply f_Plan_targets f_Plan_pieces f_Plan_edits f_Plan_record f_Plan_record_or_reject f_Plan_passes f_Plan_require_idle f_Plan_state_at f_Plan_len f_Plan_str f_BadInterval_init f_Duplicate_init f_BadEdit_init f_Rejected_init f_Unknown_init C_Plan X_BadInterval X_SpanError X_Unknown X_Duplicate X_Rejected X_BadEdit X_BadEdits X_Busy d_is_number d_is_position d_is_tuple_of d_is_interval d_ascending_error d_targets_error d_is_pieces d_without_item d_is_edit d_copied_batch d_with_interval d_without_interval d_edited_state d_law_deck d_law_draw d_law_line d_law_interval d_law_intervals d_law_edit d_law_after d_law_right d_law_begun d_law_applied d_law_failing d_law_bad d_law_batch d_law d_Plan_init d_Plan_apply d_Plan_targets d_Plan_pieces d_Plan_edits d_Plan_record d_Plan_record_or_reject d_Plan_passes d_Plan_require_idle d_Plan_state_at d_Plan_len d_Plan_str d_BadInterval_init d_Duplicate_init d_BadEdit_init d_Rejected_init d_Unknown_init t_LAST_POSITION t_MAX_TARGETS t_MAX_PIECES t_MAX_EDITS t_BATCH t_WORDS) : FnOk P w K mg base CX0 3 f_law_intervals d_law_intervals ["_law_deck_here", "_law_line_here", "_law_most"] sp_law_intervals := by
  refine T.F_law_intervals.ok sc_law_intervals (fun vs H Q E h => ?_) (fun cdv A outer s H vs Q E hr h => ?_)
  · obtain ⟨d, c, n, l, us, cs, most, rfl, _⟩ := h
    rfl
  · obtain ⟨d, c, n, l, us, cs, most, rfl, dk, n0, n1, off, el, iv, cells, l0, l1, top, m0, m1, q⟩ := h
    refine ⟨_, (pss_cons (ps_setLc (i := 3) (own := [("_law_k", 4)]) (g := (gName 4)) (tt := tYes) (by rfl) sc_law_intervals.nd rfl rfl (sw_true rfl rfl rfl (by decide +kernel)) (pi_range1 (by rfl) T.z_range (pa_cons (pe_call (ok_law_draw T) (hr.mono (by decide)) (by rfl) T.g_law_draw T.F_law_draw.kp T.b_law_draw .nil pass0 (pa_cons (pv 0) (pa_cons (pe_op op_add (pv 2) pe_int) pa_nil))) pa_nil)) (blkOk_by (own := [("_law_k", 4)]) (N := N_law_intervals) (sc := defScope s_law_intervals) (by decide +kernel)) (fun _ _ _ _ _ => (pg_name (i := 4) sc_law_intervals.nd rfl (Or.inl rfl))) (fun _ _ _ _ _ => pts_nil) (fun _ _ _ _ _ => (pe_call (ok_law_interval T) (hr.mono (by decide)) (by rfl) T.g_law_interval T.F_law_interval.kp T.b_law_interval .nil pass0 (pa_cons (pv 0) (pa_cons (pv 1) pa_nil)))))
      (pss_one (ps_ret (pe_callTy call_tuple_of (by rfl) T.z_tuple (by decide +kernel) (pa_cons (pe_callB (cr_sortedT rfl) (by rfl) T.z_sorted (by decide +kernel) (pa_cons (pe_callTy (cr_setOfT rfl hr.units) (by rfl) T.z_set (by decide +kernel) (pa_cons (pv 3) pa_nil)) pa_nil)) pa_nil))))), ?_⟩
    refine ⟨.ref d, rfl, .int most, rfl, _, _, rfl, rfl, d, c, n, most + 1, rfl, dk, n0, by omega, by omega, by omega, fun H1 r kp1 dk1 r0 r1 => ?_⟩
    refine ⟨r, rfl, by omega, by omega, fun D nD => ?_⟩
    have el1 := kp1.keep off el
    have iv1 := iv.tps (kp1.tps dk)
    refine lcK (per := 2) (lo := 0) (n := r.toNat) (fun j H' ws => ∃ ps, Ivs H' ws ps ∧ ps.length = j ∧ ∀ z ∈ ps, OfCells cs z) nD dk1 (by omega) (fun _ _ _ _ t ⟨ps, h1, h2⟩ => ⟨ps, h1.tps t, h2⟩) (fun j H' ws ⟨ps, h1, h2, _⟩ => by rw [h1.length, h2]; exact Nat.le_refl _) (fun _ => ⟨[], .nil, rfl, fun z hz => nomatch hz⟩) ?_ ?_
    · rintro k H5 N acc hk kp5 dk5 eD ⟨ps, h1, h2, h3⟩ yes
      refine ⟨rfl, .ref d, rfl, .ref l, rfl, d, c, _, l, us, cs, rfl, dk5, by omega, by omega, off, kp5.keep off el1, iv1.tps (kp5.tps dk1), l0, l1, fun H6 p x y kp6 dk6 ep oc => ?_⟩
      refine yes H6 _ kp6 dk6 ⟨ps ++ [(x, y)], (h1.tps (kp6.tps dk5)).snoc ep, by rw [List.length_append, h2]; rfl, fun z hz => ?_⟩
      rcases List.mem_append.mp hz with hz | hz
      · exact h3 z hz
      · rw [List.mem_singleton.mp hz]
        exact oc
    rintro H5 ws kp5 dk5 eD ⟨ps, ivp, pl, oc⟩
    refine ⟨.ref D, rfl, ?_⟩
    dsimp only [tNil]
    refine sorted_set_pairs (SqL.of eD) ivp (by omega) (fun z hz => ?_) (fun H6 p us' ps' s6 np ep iv' asc mem => ?_)
    · have := (oc z hz).ok cells top
      have : z.2 < 10000000000000 := by omega
      exact ⟨⟨by omega, by show z.1 < 10000000000000; omega⟩, by omega, this⟩
    refine ⟨p, us', rfl, .inl ⟨SqL.of ep, fun t nt => ?_⟩⟩
    have s7 := same_new (o := .tup us') nt
    have nd := nodup_le (ltP_nd6 asc) fun z hz => (mem z).mp hz
    exact q _ t us' ps' _ (kp1.trans (kp5.trans (Kp.same (s6.trans s7)))) (dk5.kept (s6.trans s7)) (by omega) (by omega) upd_same (iv'.same s7) asc (fun z hz => oc z ((mem z).mp hz)) (by omega)

/-! ### what a value is -/
def tyD : PyData → String
  | .none => "NoneType"
  | .bool _ => "bool"
  | .int _ => "int"
  | .str _ => "str"
  | .list _ => "list"
  | .tuple _ => "tuple"
  | .dict _ => "dict"
theorem Dv.ty {K : PySem.W.Frag} {H : Hp} {v : V} {d : PyData} (h : Dv K H v d) : TyX K H v (.type (tyD d)) := by
  cases h with
  | non => exact .base .non
  | bl b => exact .base (.bl b)
  | int i => exact .base (.int i)
  | str x => exact .base (.str x)
  | lst e _ => exact .base (.lst e)
  | tup e _ => exact .base (.tup e)
  | dic e _ => exact .base (.dK e)
def intB : PyData → Bool
  | .bool _ => true
  | .int _ => true
  | _ => false
def boolB : PyData → Bool
  | .bool _ => true
  | _ => false
def tupB : PyData → Bool
  | .tuple _ => true
  | _ => false
theorem kit_int {K : PySem.W.Frag} (d : PyData) : PySem.W.kitOne K (.type (tyD d)) (.type "int") = some (intB d) := by
  cases d with
  | none => exact kit_ty (a := "NoneType") (b := "int") (r := false) (by decide +kernel)
  | bool _ => exact kit_ty (a := "bool") (b := "int") (r := true) (by decide +kernel)
  | int _ => exact kit_ty (a := "int") (b := "int") (r := true) (by decide +kernel)
  | str _ => exact kit_ty (a := "str") (b := "int") (r := false) (by decide +kernel)
  | list _ => exact kit_ty (a := "list") (b := "int") (r := false) (by decide +kernel)
  | tuple _ => exact kit_ty (a := "tuple") (b := "int") (r := false) (by decide +kernel)
  | dict _ => exact kit_ty (a := "dict") (b := "int") (r := false) (by decide +kernel)
theorem kit_bool {K : PySem.W.Frag} (d : PyData) : PySem.W.kitOne K (.type (tyD d)) (.type "bool") = some (boolB d) := by
  cases d with
  | none => exact kit_ty (a := "NoneType") (b := "bool") (r := false) (by decide +kernel)
  | bool _ => exact kit_ty (a := "bool") (b := "bool") (r := true) (by decide +kernel)
  | int _ => exact kit_ty (a := "int") (b := "bool") (r := false) (by decide +kernel)
  | str _ => exact kit_ty (a := "str") (b := "bool") (r := false) (by decide +kernel)
  | list _ => exact kit_ty (a := "list") (b := "bool") (r := false) (by decide +kernel)
  | tuple _ => exact kit_ty (a := "tuple") (b := "bool") (r := false) (by decide +kernel)
  | dict _ => exact kit_ty (a := "dict") (b := "bool") (r := false) (by decide +kernel)
theorem kit_tup {K : PySem.W.Frag} (d : PyData) : PySem.W.kitOne K (.type (tyD d)) (.type "tuple") = some (tupB d) := by
  cases d with
  | none => exact kit_ty (a := "NoneType") (b := "tuple") (r := false) (by decide +kernel)
  | bool _ => exact kit_ty (a := "bool") (b := "tuple") (r := false) (by decide +kernel)
  | int _ => exact kit_ty (a := "int") (b := "tuple") (r := false) (by decide +kernel)
  | str _ => exact kit_ty (a := "str") (b := "tuple") (r := false) (by decide +kernel)
  | list _ => exact kit_ty (a := "list") (b := "tuple") (r := false) (by decide +kernel)
  | tuple _ => exact kit_ty (a := "tuple") (b := "tuple") (r := true) (by decide +kernel)
  | dict _ => exact kit_ty (a := "dict") (b := "tuple") (r := false) (by decide +kernel)
def inB (lo hi : Int) : PyData → Bool
  | .int i => decide (lo ≤ i) && decide (i ≤ hi)
  | _ => false
def leB : PyData → PyData → Bool
  | .int x, .int y => decide (x ≤ y)
  | _, _ => false
def ivB : PyData → Bool
  | .tuple [a, b] => inB 0 1000000000000 a && (inB 0 1000000000000 b && leB a b)
  | _ => false
theorem Dv.asInt {K : PySem.W.Frag} {H : Hp} {v : V} {i : Int} (h : Dv K H v (.int i)) : v = .int i := by
  cases h
  rfl
theorem dv_same {K : PySem.W.Frag} {H H' : Hp} (s : Same H H') {v : V} {d : PyData} (h : Dv K H v d) : Dv K H' v d :=
  Dv.rec (K := K) (H := H) (motive_1 := fun v d _ => Dv K H' v d) (motive_2 := fun vs ds _ => DvAll K H' vs ds) .non (fun b => .bl b) (fun i => .int i) (fun x => .str x) (fun e _ q => .lst (s _ _ e) q) (fun e _ q => .tup (s _ _ e) q) (fun e _ q => .dic (s _ _ e) q) .nil (fun _ _ a b => .cons a b) h
theorem dvAll_same {K : PySem.W.Frag} {H H' : Hp} (s : Same H H') : ∀ {vs : List V} {ds : List PyData}, DvAll K H vs ds → DvAll K H' vs ds
  | _, _, .nil => .nil
  | _, _, .cons a b => .cons (dv_same s a) (dvAll_same s b)
theorem DvAll.get {K : PySem.W.Frag} {H : Hp} : ∀ {vs : List V} {ds : List PyData}, DvAll K H vs ds → ∀ {i : Nat} {v : V}, vs[i]? = some v → ∃ d, ds[i]? = some d ∧ Dv K H v d
  | _, _, .nil, _, _, e => by simp at e
  | _, _, .cons a b, 0, _, e => by
    cases e
    exact ⟨_, rfl, a⟩
  | _, _, .cons a b, i + 1, _, e => b.get (i := i) e
theorem DvAll.append {K : PySem.W.Frag} {H : Hp} : ∀ {vs us : List V} {ds es : List PyData}, DvAll K H vs ds → DvAll K H us es → DvAll K H (vs ++ us) (ds ++ es)
  | _, _, _, _, .nil, h => h
  | _, _, _, _, .cons a b, h => .cons a (b.append h)
theorem Dv.dp {K : PySem.W.Frag} {H : Hp} {v : V} {d : PyData} (h : Dv K H v d) : d.canLay0 = true → Dp K H v d := by
  refine Dv.rec (K := K) (H := H) (motive_1 := fun v d _ => d.canLay0 = true → Dp K H v d) (motive_2 := fun vs ds _ => PyData.canLayAll0 ds = true → DpAll K H vs ds) (fun _ => .non) (fun b _ => .bl b) (fun i _ => .int i) (fun x _ => .str x) (fun e _ q z => .lst (SqL.of e) (q z)) (fun e _ q z => .tup (SqT.of e) (q z)) (fun _ _ _ z => ?_) (fun _ => .nil) (fun _ _ a b z => ?_) h
  · cases z
  · have z' := Bool.and_eq_true_iff.mp z
    exact .cons (a z'.1) (b z'.2)
/-- a value that may be asked whether it is an interval: what stands in it, if it is a tuple, has no dicts -/
def PlainT (d : PyData) : Prop := ∀ ds, d = .tuple ds → PyData.canLayAll0 ds = true ∧ PyData.depthAll ds ≤ 60

/-! ### the program's own -/
def sp_is_number (K : PySem.W.Frag) : Sp := fun vs H Q _ => ∃ (v : V) (d : PyData), vs = [v] ∧ Dv K H v d ∧ Q (.bl (intB d && !boolB d)) H
theorem ok_is_number (T : Tx K mg f_is_number f_is_position f_is_tuple_of f_is_interval f_ascending_error f_targets_error f_is_pieces f_without_item f_is_edit f_copied_batch f_with_interval f_without_interval f_edited_state f_law_deck f_law_draw f_law_line f_law_interval f_law_intervals f_law_edit f_law_after f_law_right f_law_begun f_law_applied f_law_failing f_law_bad f_law_batch f_law f_Plan_init f_Plan_apply f_Plan_targets f_Plan_pieces f_Plan_edits f_Plan_record f_Plan_record_or_reject f_Plan_passes f_Plan_require_idle f_Plan_state_at f_Plan_len f_Plan_str f_BadInterval_init f_Duplicate_init f_BadEdit_init f_Rejected_init f_Unknown_init C_Plan X_BadInterval X_SpanError X_Unknown X_Duplicate X_Rejected X_BadEdit X_BadEdits X_Busy d_is_number d_is_position d_is_tuple_of d_is_interval d_ascending_error d_targets_error d_is_pieces d_without_item d_is_edit d_copied_batch d_with_interval d_without_interval d_edited_state d_law_deck d_law_draw d_law_line d_law_interval d_law_intervals d_law_edit d_law_after d_law_right d_law_begun d_law_applied d_law_failing d_law_bad d_law_batch d_law d_Plan_init d_Plan_apply d_Plan_targets d_Plan_pieces d_Plan_edits d_Plan_record d_Plan_record_or_reject d_Plan_passes d_Plan_require_idle d_Plan_state_at d_Plan_len d_Plan_str d_BadInterval_init d_Duplicate_init d_BadEdit_init d_Rejected_init d_Unknown_init t_LAST_POSITION t_MAX_TARGETS t_MAX_PIECES t_MAX_EDITS t_BATCH t_WORDS) : FnOk P w K mg base CX0 1 f_is_number d_is_number ["value"] (sp_is_number K) := by
  refine T.F_is_number.ok sc_is_number (fun vs H Q E h => ?_) (fun cdv A outer s H vs Q E hr h => ?_)
  · obtain ⟨v, d, rfl, _⟩ := h
    rfl
  · obtain ⟨v, d, rfl, hd, q⟩ := h
    refine ⟨_, (pss_one (ps_ret (pe_and (pe_callB call_isi (by rfl) T.z_isinstance (by decide +kernel) (pa_cons (pv 0) (pa_cons (pe_bltn (v := .ty "int") (u := .type "int") (by rfl) T.z_int (by decide +kernel) rfl) pa_nil))) (pe_one (pe_not (pe_callB call_isi (by rfl) T.z_isinstance (by decide +kernel) (pa_cons (pv 0) (pa_cons (pe_bltn (v := .ty "bool") (u := .type "bool") (by rfl) T.z_bool (by decide +kernel) rfl) pa_nil)))))))), ?_⟩
    refine ⟨v, rfl, v, .ty "int", _, _, _, rfl, .ty "int", hd.ty, kit_int d, _, rfl, ite2 (fun e => ?_) (fun e => ?_)⟩
    · refine ⟨v, rfl, v, .ty "bool", _, _, _, rfl, .ty "bool", hd.ty, kit_bool d, _, rfl, ?_⟩
      rw [e] at q
      exact q
    · rw [Bool.not_eq_true] at e
      rw [e] at q
      exact q
theorem num_int {d : PyData} (h : (intB d && !boolB d) = true) : ∃ i, d = .int i := by
  cases d with
  | int i => exact ⟨i, rfl⟩
  | _ => exact (Bool.false_ne_true h).elim
theorem num_no {d : PyData} {lo hi : Int} (h : (intB d && !boolB d) = false) : inB lo hi d = false := by
  cases d with
  | int i => exact Bool.noConfusion (show true = false from h)
  | _ => rfl
def sp_is_position (K : PySem.W.Frag) : Sp := fun vs H Q _ => ∃ (v : V) (d : PyData), vs = [v] ∧ Dv K H v d ∧ Q (.bl (inB 0 1000000000000 d)) H
theorem ok_is_position (T : Tx K mg f_is_number f_is_position f_is_tuple_of f_is_interval f_ascending_error f_targets_error f_is_pieces f_without_item f_is_edit f_copied_batch f_with_interval f_without_interval f_edited_state f_law_deck f_law_draw f_law_line f_law_interval f_law_intervals f_law_edit f_law_after f_law_right f_law_begun f_law_applied f_law_failing f_law_bad f_law_batch f_law f_Plan_init f_Plan_apply f_Plan_targets f_Plan_pieces f_Plan_edits f_Plan_record f_Plan_record_or_reject f_Plan_passes f_Plan_require_idle f_Plan_state_at f_Plan_len f_Plan_str f_BadInterval_init f_Duplicate_init f_BadEdit_init f_Rejected_init f_Unknown_init C_Plan X_BadInterval X_SpanError X_Unknown X_Duplicate X_Rejected X_BadEdit X_BadEdits X_Busy d_is_number d_is_position d_is_tuple_of d_is_interval d_ascending_error d_targets_error d_is_pieces d_without_item d_is_edit d_copied_batch d_with_interval d_without_interval d_edited_state d_law_deck d_law_draw d_law_line d_law_interval d_law_intervals d_law_edit d_law_after d_law_right d_law_begun d_law_applied d_law_failing d_law_bad d_law_batch d_law d_Plan_init d_Plan_apply d_Plan_targets d_Plan_pieces d_Plan_edits d_Plan_record d_Plan_record_or_reject d_Plan_passes d_Plan_require_idle d_Plan_state_at d_Plan_len d_Plan_str d_BadInterval_init d_Duplicate_init d_BadEdit_init d_Rejected_init d_Unknown_init t_LAST_POSITION t_MAX_TARGETS t_MAX_PIECES t_MAX_EDITS t_BATCH t_WORDS) : FnOk P w K mg base CX0 2 f_is_position d_is_position ["value"] (sp_is_position K) := by
  refine T.F_is_position.ok sc_is_position (fun vs H Q E h => ?_) (fun cdv A outer s H vs Q E hr h => ?_)
  · obtain ⟨v, d, rfl, _⟩ := h
    rfl
  · obtain ⟨v, d, rfl, hd, q⟩ := h
    refine ⟨_, (pss_one (ps_ret (pe_and (pe_call (ok_is_number T) (hr.mono (by decide)) (by rfl) T.g_is_number T.F_is_number.kp T.b_is_number .nil pass0 (pa_cons (pv 0) pa_nil)) (pe_one (pe_chain op_le op_le pe_int (pv 0) (pe_glob (v := .int 1000000000000) (by rfl) T.c_LAST_POSITION ⟨_, rfl⟩)))))), ?_⟩
    refine ⟨v, rfl, v, d, rfl, hd, _, rfl, ite2 (fun e => ?_) (fun e => ?_)⟩
    · obtain ⟨i, rfl⟩ := num_int e
      have ev := hd.asInt
      subst ev
      refine ⟨.int i, rfl, _, _, rfl, rfl, _, rfl, ite2 (fun e2 => ?_) (fun e2 => ?_)⟩
      · refine ⟨_, _, rfl, rfl, ?_⟩
        have q' : Q (.bl (decide (0 ≤ i) && decide (i ≤ 1000000000000))) H := q
        rw [e2] at q'
        exact q'
      · have q' : Q (.bl (decide (0 ≤ i) && decide (i ≤ 1000000000000))) H := q
        rw [Bool.not_eq_true] at e2
        rw [e2] at q'
        exact q'
    · rw [Bool.not_eq_true] at e
      rw [num_no e] at q
      exact q
def sp_is_interval (K : PySem.W.Frag) : Sp := fun vs H Q _ => ∃ (v : V) (d : PyData), vs = [v] ∧ Dv K H v d ∧ Q (.bl (ivB d)) H
theorem iv_not {d : PyData} (h : tupB d = false) : ivB d = false := by
  cases d with
  | tuple ds => cases h
  | _ => rfl
def tlB (n : Int) : PyData → Bool
  | .tuple ds => decide ((ds.length : Int) = n)
  | _ => false
def sp_is_tuple_of (K : PySem.W.Frag) : Sp := fun vs H Q _ => ∃ (v : V) (d : PyData) (n : Int), vs = [v, .int n] ∧ Dv K H v d ∧ Q (.bl (tlB n d)) H
theorem tl_not {n : Int} {d : PyData} (h : tupB d = false) : tlB n d = false := by
  cases d with
  | tuple ds => cases h
  | _ => rfl
theorem ok_is_tuple_of (T : Tx K mg f_is_number f_is_position f_is_tuple_of f_is_interval f_ascending_error f_targets_error f_is_pieces f_without_item f_is_edit f_copied_batch f_with_interval f_without_interval f_edited_state f_law_deck f_law_draw f_law_line f_law_interval f_law_intervals f_law_edit f_law_after f_law_right f_law_begun f_law_applied f_law_failing f_law_bad f_law_batch f_law f_Plan_init f_Plan_apply f_Plan_targets f_Plan_pieces f_Plan_edits f_Plan_record f_Plan_record_or_reject f_Plan_passes f_Plan_require_idle f_Plan_state_at f_Plan_len f_Plan_str f_BadInterval_init f_Duplicate_init f_BadEdit_init f_Rejected_init f_Unknown_init C_Plan X_BadInterval X_SpanError X_Unknown X_Duplicate X_Rejected X_BadEdit X_BadEdits X_Busy d_is_number d_is_position d_is_tuple_of d_is_interval d_ascending_error d_targets_error d_is_pieces d_without_item d_is_edit d_copied_batch d_with_interval d_without_interval d_edited_state d_law_deck d_law_draw d_law_line d_law_interval d_law_intervals d_law_edit d_law_after d_law_right d_law_begun d_law_applied d_law_failing d_law_bad d_law_batch d_law d_Plan_init d_Plan_apply d_Plan_targets d_Plan_pieces d_Plan_edits d_Plan_record d_Plan_record_or_reject d_Plan_passes d_Plan_require_idle d_Plan_state_at d_Plan_len d_Plan_str d_BadInterval_init d_Duplicate_init d_BadEdit_init d_Rejected_init d_Unknown_init t_LAST_POSITION t_MAX_TARGETS t_MAX_PIECES t_MAX_EDITS t_BATCH t_WORDS) : FnOk P w K mg base CX0 1 f_is_tuple_of d_is_tuple_of ["value", "length"] (sp_is_tuple_of K) := by
  refine T.F_is_tuple_of.ok sc_is_tuple_of (fun vs H Q E h => ?_) (fun cdv A outer s H vs Q E hr h => ?_)
  · obtain ⟨v, d, n, rfl, _⟩ := h
    rfl
  · obtain ⟨v, d, n, rfl, hd, q⟩ := h
    refine ⟨_, (pss_one (ps_ret (pe_and (pe_callB call_isi (by rfl) T.z_isinstance (by decide +kernel) (pa_cons (pv 0) (pa_cons (pe_bltn (v := .ty "tuple") (u := .type "tuple") (by rfl) T.z_tuple (by decide +kernel) rfl) pa_nil))) (pe_one (pe_cmpR op_eq (pe_callB call_len_seq (by rfl) T.z_len PySem.boot_len (pa_cons (pv 0) pa_nil)) (pv 1) (nomark _)))))), ?_⟩
    refine ⟨v, rfl, v, .ty "tuple", _, _, _, rfl, .ty "tuple", hd.ty, kit_tup d, _, rfl, ?_⟩
    cases tb : tupB d with
    | false =>
      refine iteF ?_
      rw [tl_not tb] at q
      exact q
    | true =>
      refine iteT ?_
      cases hd with
      | @tup a xs ds e all =>
        have len := all.length
        refine ⟨.ref a, rfl, a, xs, rfl, .inr (SqT.of e), .int n, rfl, rfl, ?_⟩
        have z : tlB n (.tuple ds) = decide (V.int (xs.length : Nat) = V.int n) := by
          show decide ((ds.length : Int) = n) = _
          rw [← len]
          by_cases y : ((xs.length : Nat) : Int) = n
          · rw [decide_eq_true y, decide_eq_true (by rw [y])]
          · rw [decide_eq_false y, decide_eq_false (fun z => y (V.int.inj z))]
        rw [z] at q
        exact q
      | _ => exact (Bool.false_ne_true tb).elim
theorem tl_two {d : PyData} (h : tlB 2 d = true) : ∃ a b, d = .tuple [a, b] := by
  match d, h with
  | .tuple [a, b], _ => exact ⟨a, b, rfl⟩
  | .tuple (x :: y :: z :: l), h =>
    have h' : ((x :: y :: z :: l).length : Int) = 2 := of_decide_eq_true (show decide (((x :: y :: z :: l).length : Int) = 2) = true from h)
    rw [List.length_cons, List.length_cons, List.length_cons] at h'
    omega
theorem iv_two {d : PyData} (h : ¬ tlB 2 d = true) : ivB d = false := by
  match d, h with
  | .tuple [a, b], h => exact absurd rfl h
  | .tuple [], _ => rfl
  | .tuple [_], _ => rfl
  | .tuple (_ :: _ :: _ :: l), _ => rfl
  | .none, _ => rfl
  | .bool _, _ => rfl
  | .int _, _ => rfl
  | .str _, _ => rfl
  | .list _, _ => rfl
  | .dict _, _ => rfl
theorem ok_is_interval (T : Tx K mg f_is_number f_is_position f_is_tuple_of f_is_interval f_ascending_error f_targets_error f_is_pieces f_without_item f_is_edit f_copied_batch f_with_interval f_without_interval f_edited_state f_law_deck f_law_draw f_law_line f_law_interval f_law_intervals f_law_edit f_law_after f_law_right f_law_begun f_law_applied f_law_failing f_law_bad f_law_batch f_law f_Plan_init f_Plan_apply f_Plan_targets f_Plan_pieces f_Plan_edits f_Plan_record f_Plan_record_or_reject f_Plan_passes f_Plan_require_idle f_Plan_state_at f_Plan_len f_Plan_str f_BadInterval_init f_Duplicate_init f_BadEdit_init f_Rejected_init f_Unknown_init C_Plan X_BadInterval X_SpanError X_Unknown X_Duplicate X_Rejected X_BadEdit X_BadEdits X_Busy d_is_number d_is_position d_is_tuple_of d_is_interval d_ascending_error d_targets_error d_is_pieces d_without_item d_is_edit d_copied_batch d_with_interval d_without_interval d_edited_state d_law_deck d_law_draw d_law_line d_law_interval d_law_intervals d_law_edit d_law_after d_law_right d_law_begun d_law_applied d_law_failing d_law_bad d_law_batch d_law d_Plan_init d_Plan_apply d_Plan_targets d_Plan_pieces d_Plan_edits d_Plan_record d_Plan_record_or_reject d_Plan_passes d_Plan_require_idle d_Plan_state_at d_Plan_len d_Plan_str d_BadInterval_init d_Duplicate_init d_BadEdit_init d_Rejected_init d_Unknown_init t_LAST_POSITION t_MAX_TARGETS t_MAX_PIECES t_MAX_EDITS t_BATCH t_WORDS) : FnOk P w K mg base CX0 3 f_is_interval d_is_interval ["value"] (sp_is_interval K) := by
  refine T.F_is_interval.ok sc_is_interval (fun vs H Q E h => ?_) (fun cdv A outer s H vs Q E hr h => ?_)
  · obtain ⟨v, d, rfl, _⟩ := h
    rfl
  · obtain ⟨v, d, rfl, hd, q⟩ := h
    refine ⟨_, (pss_cons (ps_if (pt_not (pt_val (pe_call (ok_is_tuple_of T) (hr.mono (by decide)) (by rfl) T.g_is_tuple_of T.F_is_tuple_of.kp T.b_is_tuple_of .nil pass0 (pa_cons (pv 0) (pa_cons pe_int pa_nil)))))
      (pss_one (ps_ret pe_bl))
      pss_nil)
      (pss_cons (ps_asg (pv 0) (pg_tup rfl (pgs_cons (pg_name (i := 1) sc_is_interval.nd rfl (Or.inl rfl)) (pgs_cons (pg_name (i := 2) sc_is_interval.nd rfl (Or.inl rfl)) pgs_nil))))
      (pss_one (ps_ret (pe_and (pe_call (ok_is_position T) (hr.mono (by decide)) (by rfl) T.g_is_position T.F_is_position.kp T.b_is_position .nil pass0 (pa_cons (pv 1) pa_nil)) (pe_and (pe_call (ok_is_position T) (hr.mono (by decide)) (by rfl) T.g_is_position T.F_is_position.kp T.b_is_position .nil pass0 (pa_cons (pv 2) pa_nil)) (pe_one (pe_cmpR op_le (pv 1) (pv 2) (nomark _))))))))), ?_⟩
    refine ⟨v, rfl, v, d, 2, rfl, hd, _, rfl, ?_⟩
    by_cases tb : tlB 2 d = true
    · rw [tb]
      refine iteF ?_
      obtain ⟨d1, d2, rfl⟩ := tl_two tb
      cases hd with
      | @tup a xs ds e all =>
        match xs, all, e, q with
          | [v1, v2], .cons h1 (.cons h2 .nil), e, q =>
            refine ⟨.ref a, rfl, a, _, rfl, SqT.of e, rfl, v1, [v2], rfl, v2, [], rfl, rfl, ?_⟩
            refine ⟨v1, rfl, v1, d1, rfl, h1, _, rfl, ite2 (fun e1 => ?_) (fun e1 => ?_)⟩
            · refine ⟨v2, rfl, v2, d2, rfl, h2, _, rfl, ite2 (fun e2 => ?_) (fun e2 => ?_)⟩
              · cases d1 with
                | int i =>
                  cases d2 with
                  | int j =>
                    have x1 := h1.asInt
                    have x2 := h2.asInt
                    subst x1 x2
                    refine ⟨.int i, rfl, .int j, rfl, _, _, rfl, rfl, ?_⟩
                    have q' : Q (.bl (inB 0 1000000000000 (.int i) && (inB 0 1000000000000 (.int j) && decide (i ≤ j)))) H := q
                    rw [e1, e2] at q'
                    exact q'
                  | _ => exact absurd e2 (by simp [inB])
                | _ => exact absurd e1 (by simp [inB])
              · have q' : Q (.bl (inB 0 1000000000000 d1 && (inB 0 1000000000000 d2 && leB d1 d2))) H := q
                rw [Bool.not_eq_true] at e2
                rw [e1, e2] at q'
                exact q'
            · have q' : Q (.bl (inB 0 1000000000000 d1 && (inB 0 1000000000000 d2 && leB d1 d2))) H := q
              rw [Bool.not_eq_true] at e1
              rw [e1] at q'
              exact q'
    · rw [iv_two tb] at q
      rw [Bool.not_eq_true] at tb
      rw [tb]
      exact iteT q
/-! ### the law's own -/

theorem iv_shape {d : PyData} (h : ivB d = true) : ∃ x y, d = .tuple [.int x, .int y] := by
  cases d with
  | tuple ds =>
    match ds, h with
    | [], h => exact (Bool.false_ne_true h).elim
    | [_], h => exact (Bool.false_ne_true h).elim
    | _ :: _ :: _ :: _, h => exact (Bool.false_ne_true h).elim
    | [a, b], h =>
      have h' : (inB 0 1000000000000 a && (inB 0 1000000000000 b && leB a b)) = true := h
      have h1 := (Bool.and_eq_true_iff.mp h').1
      have h2 := (Bool.and_eq_true_iff.mp (Bool.and_eq_true_iff.mp h').2).1
      cases a with
      | int x =>
        cases b with
        | int y => exact ⟨x, y, rfl⟩
        | _ => exact (Bool.false_ne_true h2).elim
      | _ => exact (Bool.false_ne_true h1).elim
  | _ => exact (Bool.false_ne_true h).elim
theorem Dv.asPair {K : PySem.W.Frag} {H : Hp} {v : V} {x y : Int} (h : Dv K H v (.tuple [.int x, .int y])) : ∃ b, v = .ref b ∧ H b = some (.tup [.int x, .int y]) := by
  cases h with
  | @tup a xs _ e all =>
    match xs, all with
    | [_, _], .cons h1 (.cons h2 .nil) =>
      cases h1
      cases h2
      exact ⟨a, rfl, e⟩

/-! ### plans as data -/
abbrev St2 := List (Int × Int) × List (Int × Int)
/-- an edit: added or removed; a piece or a target; the interval -/
structure Ed where
  add : Bool
  pc : Bool
  q : Int × Int
def wordOf (add pc : Bool) : Str := match add, pc with
  | true, false => "add_target"
  | true, true => "add_piece"
  | false, false => "remove_target"
  | false, true => "remove_piece"
def wordE (e : Ed) : Str := wordOf e.add e.pc
instance (a b : Int × Int) : Decidable (ltP a b) := by unfold ltP; infer_instance
def insI (q : Int × Int) : List (Int × Int) → List (Int × Int)
  | [] => [q]
  | p :: ps => if ltP q p then q :: p :: ps else p :: insI q ps
theorem mem_insI {q x : Int × Int} : ∀ {ps : List (Int × Int)}, x ∈ insI q ps ↔ x = q ∨ x ∈ ps
  | [] => by
    show x ∈ [q] ↔ _
    rw [List.mem_singleton]
    exact ⟨.inl, fun h => h.elim id fun h => nomatch h⟩
  | p :: ps => by
    show x ∈ (if ltP q p then q :: p :: ps else p :: insI q ps) ↔ _
    split
    · rw [List.mem_cons]
    · rw [List.mem_cons, mem_insI (ps := ps), List.mem_cons]
      constructor
      · rintro (h | h | h)
        · exact .inr (.inl h)
        · exact .inl h
        · exact .inr (.inr h)
      · rintro (h | h | h)
        · exact .inr (.inl h)
        · exact .inl h
        · exact .inr (.inr h)
theorem len_insI {q : Int × Int} : ∀ {ps : List (Int × Int)}, (insI q ps).length = ps.length + 1
  | [] => rfl
  | p :: ps => by
    show (if ltP q p then q :: p :: ps else p :: insI q ps).length = _
    split
    · rfl
    · rw [List.length_cons, len_insI (ps := ps), List.length_cons]
theorem ltP_trans {a b c : Int × Int} (h1 : ltP a b) (h2 : ltP b c) : ltP a c := by
  unfold ltP at *
  omega
theorem asc_insI {q : Int × Int} : ∀ {ps : List (Int × Int)}, ps.Pairwise ltP → q ∉ ps → (insI q ps).Pairwise ltP
  | [], _, _ => List.pairwise_cons.mpr ⟨(fun _ h => nomatch h), .nil⟩
  | p :: ps, h, n => by
    have h' := List.pairwise_cons.mp h
    show (if ltP q p then q :: p :: ps else p :: insI q ps).Pairwise ltP
    split
    · rename_i c
      refine List.pairwise_cons.mpr ⟨fun x hx => ?_, h⟩
      rcases List.mem_cons.mp hx with rfl | hx
      · exact c
      · exact ltP_trans c (h'.1 x hx)
    · rename_i c
      refine List.pairwise_cons.mpr ⟨fun x hx => ?_, asc_insI h'.2 fun z => n (List.mem_cons_of_mem _ z)⟩
      rcases mem_insI.mp hx with rfl | hx
      · have ne : x ≠ p := fun e => n (e ▸ List.mem_cons_self)
        unfold ltP at c ⊢
        rcases Int.lt_trichotomy p.1 x.1 with z | z | z
        · exact .inl z
        · rcases Int.lt_trichotomy p.2 x.2 with y | y | y
          · exact .inr ⟨z, y⟩
          · exact absurd (Prod.ext z y).symm ne
          · exact absurd (.inr ⟨z.symm, y⟩) c
        · exact absurd (.inl z) c
      · exact h'.1 x hx
def upI (add : Bool) (q : Int × Int) (ps : List (Int × Int)) : List (Int × Int) := if add = true then insI q ps else wo ps q
def stepS (S : St2) (e : Ed) : St2 := if e.pc = true then (S.1, upI e.add e.q S.2) else (upI e.add e.q S.1, S.2)
def sideS (pc : Bool) (S : St2) : List (Int × Int) := if pc = true then S.2 else S.1
/-- intervals as a plan holds them -/
structure SideOk (n : Nat) (ps : List (Int × Int)) : Prop where
  asc : ps.Pairwise ltP
  ok : ∀ q ∈ ps, (0 ≤ q.1 ∧ q.1 ≤ q.2) ∧ q.2 ≤ 1000000000000
  few : ps.length ≤ n
structure StOk (S : St2) : Prop where
  t : SideOk 24 S.1
  p : SideOk 30 S.2
/-- an edit that can be done -/
structure Can (S : St2) (e : Ed) : Prop where
  ok : (0 ≤ e.q.1 ∧ e.q.1 ≤ e.q.2) ∧ e.q.2 ≤ 1000000000000
  no : e.add = true → e.q ∉ sideS e.pc S ∧ (sideS e.pc S).length < (if e.pc = true then 30 else 24)
  yes : e.add = false → e.q ∈ sideS e.pc S
theorem ltP_ndp {ps : List (Int × Int)} (h : ps.Pairwise ltP) : ps.Nodup := h.imp fun {a b} h e => by
  subst e
  rcases h with h | h <;> omega
theorem SideOk.ins {n : Nat} {ps : List (Int × Int)} {q : Int × Int} (h : SideOk n ps) (ok : (0 ≤ q.1 ∧ q.1 ≤ q.2) ∧ q.2 ≤ 1000000000000) (nq : q ∉ ps) (l : ps.length < n) : SideOk n (insI q ps) :=
  ⟨asc_insI h.asc nq, fun x hx => (mem_insI.mp hx).elim (fun e => e ▸ ok) fun m => h.ok x m, by rw [len_insI]; exact l⟩
theorem SideOk.wo {n : Nat} {ps : List (Int × Int)} (h : SideOk n ps) (q : Int × Int) : SideOk n (wo ps q) :=
  ⟨h.asc.filter _, fun x hx => h.ok x (wo_sub hx), Nat.le_trans (wo_len ps q) h.few⟩
theorem StOk.step {S : St2} {e : Ed} (h : StOk S) (c : Can S e) : StOk (stepS S e) := by
  obtain ⟨add, pc, q⟩ := e
  cases pc with
  | true =>
    refine ⟨h.t, ?_⟩
    cases add with
    | true => exact h.p.ins c.ok (c.no rfl).1 (c.no rfl).2
    | false => exact h.p.wo q
  | false =>
    refine ⟨?_, h.p⟩
    cases add with
    | true => exact h.t.ins c.ok (c.no rfl).1 (c.no rfl).2
    | false => exact h.t.wo q
/-! ### plans in the heap -/
inductive Sts (H : Hp) : List V → List St2 → Prop where
  | nil : Sts H [] []
  | cons {t x y : Addr} {xs ys us : List V} {S : St2} {Ss : List St2} (e : H t = some (.tup [.ref x, .ref y])) (ex : H x = some (.tup xs)) (ix : Ivs H xs S.1) (ey : H y = some (.tup ys)) (iy : Ivs H ys S.2) (r : Sts H us Ss) : Sts H (.ref t :: us) (S :: Ss)
theorem Sts.tps {H H' : Hp} (s : Tps H H') {us : List V} {Ss : List St2} (h : Sts H us Ss) : Sts H' us Ss := by
  induction h with
  | nil => exact .nil
  | cons e ex ix ey iy _ ih => exact .cons (s _ _ e) (s _ _ ex) (ix.tps s) (s _ _ ey) (iy.tps s) ih
theorem Sts.length {H : Hp} {us : List V} {Ss : List St2} (h : Sts H us Ss) : us.length = Ss.length := by
  induction h with
  | nil => rfl
  | cons e ex ix ey iy _ ih => rw [List.length_cons, List.length_cons, ih]
theorem Sts.get {H : Hp} {us : List V} {Ss : List St2} (h : Sts H us Ss) : ∀ {i : Nat} {S : St2}, Ss[i]? = some S → ∃ t x y xs ys, us[i]? = some (.ref t) ∧ H t = some (.tup [.ref x, .ref y]) ∧ H x = some (.tup xs) ∧ Ivs H xs S.1 ∧ H y = some (.tup ys) ∧ Ivs H ys S.2 := by
  induction h with
  | nil => intro i S e; cases e
  | @cons t x y xs ys us S0 Ss e ex ix ey iy _ ih =>
    intro i S h
    cases i with
    | zero =>
      cases h
      exact ⟨t, x, y, xs, ys, rfl, e, ex, ix, ey, iy⟩
    | succ i => exact ih h
theorem Sts.snoc {H : Hp} {us : List V} {Ss : List St2} (h : Sts H us Ss) {t x y : Addr} {xs ys : List V} {S : St2} (e : H t = some (.tup [.ref x, .ref y])) (ex : H x = some (.tup xs)) (ix : Ivs H xs S.1) (ey : H y = some (.tup ys)) (iy : Ivs H ys S.2) : Sts H (us ++ [.ref t]) (Ss ++ [S]) := by
  induction h with
  | nil => exact .cons e ex ix ey iy .nil
  | cons e1 ex1 ix1 ey1 iy1 _ ih => exact .cons e1 ex1 ix1 ey1 iy1 ih
theorem Sts.init {H : Hp} {us : List V} {Ss : List St2} (h : Sts H us Ss) : Sts H us.dropLast Ss.dropLast := by
  induction h with
  | nil => exact .nil
  | cons e ex ix ey iy r ih =>
    cases r with
    | nil => exact .nil
    | cons e2 ex2 ix2 ey2 iy2 r2 => exact .cons e ex ix ey iy ih
inductive Eds (H : Hp) : List V → List Ed → Prop where
  | nil : Eds H [] []
  | cons {t a : Addr} {vs : List V} {e : Ed} {es : List Ed} (h : H t = some (.tup [.str (wordE e), .ref a])) (ha : H a = some (.tup [.int e.q.1, .int e.q.2])) (r : Eds H vs es) : Eds H (.ref t :: vs) (e :: es)
theorem Eds.tps {H H' : Hp} (s : Tps H H') {us : List V} {es : List Ed} (h : Eds H us es) : Eds H' us es := by
  induction h with
  | nil => exact .nil
  | cons e ex _ ih => exact .cons (s _ _ e) (s _ _ ex) ih
theorem Eds.length {H : Hp} {us : List V} {es : List Ed} (h : Eds H us es) : us.length = es.length := by
  induction h with
  | nil => rfl
  | cons e ex _ ih => rw [List.length_cons, List.length_cons, ih]
theorem Eds.snoc {H : Hp} {us : List V} {es : List Ed} (h : Eds H us es) {t a : Addr} {e : Ed} (h1 : H t = some (.tup [.str (wordE e), .ref a])) (h2 : H a = some (.tup [.int e.q.1, .int e.q.2])) : Eds H (us ++ [.ref t]) (es ++ [e]) := by
  induction h with
  | nil => exact .cons h1 h2 .nil
  | cons e1 ex1 _ ih => exact .cons e1 ex1 ih
theorem Eds.init {H : Hp} {us : List V} {es : List Ed} (h : Eds H us es) : Eds H us.dropLast es.dropLast := by
  induction h with
  | nil => exact .nil
  | cons e ex r ih =>
    cases r with
    | nil => exact .nil
    | cons e2 ex2 r2 => exact .cons e ex ih
theorem Eds.get {H : Hp} {us : List V} {es : List Ed} (h : Eds H us es) : ∀ {i : Nat} {v : V}, us[i]? = some v → ∃ t a e, v = .ref t ∧ es[i]? = some e ∧ H t = some (.tup [.str (wordE e), .ref a]) ∧ H a = some (.tup [.int e.q.1, .int e.q.2]) := by
  induction h with
  | nil => intro i v e; cases e
  | @cons t a vs e es h1 h2 _ ih =>
    intro i v hv
    cases i with
    | zero =>
      cases hv
      exact ⟨t, a, e, rfl, rfl, h1, h2⟩
    | succ i => exact ih hv
def edD (e : Ed) : PyData := .tuple [.str (wordE e), .tuple [.int e.q.1, .int e.q.2]]
theorem Eds.dp {K : PySem.W.Frag} {H : Hp} {us : List V} {es : List Ed} (h : Eds H us es) : DpAll K H us (es.map edD) := by
  induction h with
  | nil => exact .nil
  | cons e ex _ ih => exact .cons (.tup (SqT.of e) (.cons (.str _) (.cons (dp2 ex) .nil))) ih
/-- the attributes of a plan, in the order in which they are stored -/
def flP (a b : Addr) (z : Bool) : List (Str × V) := [("states", .ref a), ("done", .ref b), ("busy", .bl z)]
theorem kSD : ¬ (("states" : Str) = "done") := by decide +kernel
theorem kSB : ¬ (("states" : Str) = "busy") := by decide +kernel
theorem kDB : ¬ (("done" : Str) = "busy") := by decide +kernel
theorem flP_new (a b : Addr) (z : Bool) : putF "busy" (.bl z) (putF "done" (.ref b) (putF "states" (.ref a) [])) = flP a b z := by
  show putF "busy" (.bl z) (if ("states" : Str) = "done" then [(("states" : Str), V.ref b)] else (("states" : Str), V.ref a) :: putF "done" (V.ref b) []) = _
  rw [if_neg kSD]
  show (if ("states" : Str) = "busy" then _ else (("states" : Str), V.ref a) :: (if ("done" : Str) = "busy" then _ else (("done" : Str), V.ref b) :: putF "busy" (V.bl z) [])) = _
  rw [if_neg kSB, if_neg kDB]
  rfl
theorem flP_states (a b a' : Addr) (z : Bool) : putF "states" (.ref a') (flP a b z) = flP a' b z := by
  show (if ("states" : Str) = "states" then _ else _) = _
  rw [if_pos rfl]
  rfl
theorem flP_done (a b b' : Addr) (z : Bool) : putF "done" (.ref b') (flP a b z) = flP a b' z := by
  show (if ("states" : Str) = "done" then _ else (("states" : Str), V.ref a) :: (if ("done" : Str) = "done" then _ else _)) = _
  rw [if_neg kSD, if_pos rfl]
  rfl
theorem lk_states (a b : Addr) (z : Bool) : (flP a b z).lookup ("states" : Str) = some (.ref a) := by rw [← flP_new, lookup_putF, if_neg kSB, lookup_putF, if_neg kSD, lookup_putF, if_pos rfl]
theorem lk_done (a b : Addr) (z : Bool) : (flP a b z).lookup ("done" : Str) = some (.ref b) := by rw [← flP_new, lookup_putF, if_neg kDB, lookup_putF, if_pos rfl]
theorem lk_busy (a b : Addr) (z : Bool) : (flP a b z).lookup ("busy" : Str) = some (.bl z) := by rw [← flP_new, lookup_putF, if_pos rfl]
theorem lk_no (a b : Addr) (z : Bool) {m : Str} (h : (decide (m = "states") || decide (m = "done") || decide (m = "busy")) = false) : (flP a b z).lookup m = none := by
  rw [Bool.or_eq_false_iff, Bool.or_eq_false_iff] at h
  rw [← flP_new, lookup_putF, if_neg (of_decide_eq_false h.2), lookup_putF, if_neg (of_decide_eq_false h.1.2), lookup_putF, if_neg (of_decide_eq_false h.1.1)]
  rfl
/-- a plan stands at p, with the states Ss behind the edits Es -/
structure PlanAt (C : Addr) (H : Hp) (p : Addr) (Ss : List St2) (Es : List Ed) : Prop where
  ex : ∃ dx a b us vs, H p = some (.ins C dx (flP a b false)) ∧ H a = some (.tup us) ∧ Sts H us Ss ∧ H b = some (.tup vs) ∧ Eds H vs Es
  len : Ss.length = Es.length + 1
/-- nothing but p has changed -/
def But (p : Addr) (H H' : Hp) : Prop := ∀ b o, b ≠ p → H b = some o → H' b = some o
theorem But.trans {p : Addr} {H H1 H2 : Hp} (h1 : But p H H1) (h2 : But p H1 H2) : But p H H2 := fun b o n e => h2 b o n (h1 b o n e)
theorem But.same {p : Addr} {H H1 : Hp} (s : Same H H1) : But p H H1 := fun b o _ e => s b o e
theorem But.upd {p : Addr} {H : Hp} {o : HO} : But p H (upd H p o) := fun b u n e => by
  rw [upd_ne n]
  exact e
theorem But.tps {p C dx : Addr} {fs : List (Str × V)} {H H' : Hp} (h : But p H H') (e : H p = some (.ins C dx fs)) : Tps H H' := fun b xs hb => h b _ (ne_of hb e (fun z => by cases z)) hb
theorem PlanAt.tps {C p : Addr} {H H' : Hp} {Ss : List St2} {Es : List Ed} (P : PlanAt C H p Ss Es) (b : But p H H') : Tps H H' := by
  obtain ⟨dx, _, _, _, _, e, _⟩ := P.ex
  exact b.tps e
theorem PlanAt.lst {C p : Addr} {H H' : Hp} {Ss : List St2} {Es : List Ed} (P : PlanAt C H p Ss Es) (b : But p H H') {l : Addr} {us : List V} (h : H l = some (.lst us)) : H' l = some (.lst us) := by
  obtain ⟨dx, _, _, _, _, e, _⟩ := P.ex
  exact b l _ (ne_of h e (fun z => by cases z)) h
/-- carried over a change that keeps the instance and the tuples -/
theorem PlanAt.keep {C p : Addr} {H H' : Hp} {Ss : List St2} {Es : List Ed} (P : PlanAt C H p Ss Es) (t : Tps H H') (k : ∀ C dx fs, H p = some (.ins C dx fs) → H' p = some (.ins C dx fs)) : PlanAt C H' p Ss Es := by
  obtain ⟨⟨dx, a, b, us, vs, e, ea, sa, eb, sb⟩, l⟩ := P
  exact ⟨⟨dx, a, b, us, vs, k _ _ _ e, t _ _ ea, sa.tps t, t _ _ eb, sb.tps t⟩, l⟩
theorem PlanAt.same {C p : Addr} {H H' : Hp} {Ss : List St2} {Es : List Ed} (P : PlanAt C H p Ss Es) (s : Same H H') : PlanAt C H' p Ss Es := P.keep (Tps.same s) fun _ _ _ e => s _ _ e
/-! ### checks of intervals -/

/-! ### edits of any value: what is raised, and what is done -/
theorem perm_leP_lt {ps ps' : List (Int × Int)} (h : ps'.Pairwise leP) (pm : ps'.Perm ps) (nd : ps.Nodup) : ps'.Pairwise ltP := leP_nd h (pm.nodup_iff.mpr nd)
theorem wneq {a b : Str} (h : a ≠ b) : ¬ (decide (V.str a = V.str b) = true) := fun e => h (V.str.inj (of_decide_eq_true e))
theorem ok_BadInterval_init (T : Tx K mg f_is_number f_is_position f_is_tuple_of f_is_interval f_ascending_error f_targets_error f_is_pieces f_without_item f_is_edit f_copied_batch f_with_interval f_without_interval f_edited_state f_law_deck f_law_draw f_law_line f_law_interval f_law_intervals f_law_edit f_law_after f_law_right f_law_begun f_law_applied f_law_failing f_law_bad f_law_batch f_law f_Plan_init f_Plan_apply f_Plan_targets f_Plan_pieces f_Plan_edits f_Plan_record f_Plan_record_or_reject f_Plan_passes f_Plan_require_idle f_Plan_state_at f_Plan_len f_Plan_str f_BadInterval_init f_Duplicate_init f_BadEdit_init f_Rejected_init f_Unknown_init C_Plan X_BadInterval X_SpanError X_Unknown X_Duplicate X_Rejected X_BadEdit X_BadEdits X_Busy d_is_number d_is_position d_is_tuple_of d_is_interval d_ascending_error d_targets_error d_is_pieces d_without_item d_is_edit d_copied_batch d_with_interval d_without_interval d_edited_state d_law_deck d_law_draw d_law_line d_law_interval d_law_intervals d_law_edit d_law_after d_law_right d_law_begun d_law_applied d_law_failing d_law_bad d_law_batch d_law d_Plan_init d_Plan_apply d_Plan_targets d_Plan_pieces d_Plan_edits d_Plan_record d_Plan_record_or_reject d_Plan_passes d_Plan_require_idle d_Plan_state_at d_Plan_len d_Plan_str d_BadInterval_init d_Duplicate_init d_BadEdit_init d_Rejected_init d_Unknown_init t_LAST_POSITION t_MAX_TARGETS t_MAX_PIECES t_MAX_EDITS t_BATCH t_WORDS) : FnOk P w K mg base CX0 1 f_BadInterval_init d_BadInterval_init ["self", "value"] (sp_exc_init K X_BadInterval "value") := by
  refine T.F_BadInterval_init.ok sc_BadInterval_init (fun vs H Q E h => ?_) (fun cdv A outer s H vs Q E hr h => ?_)
  · obtain ⟨a, v, rfl, _⟩ := h
    rfl
  · obtain ⟨a, v, rfl, ha, q⟩ := h
    refine ⟨_, (pss_one (ps_ost (pv 0) (pv 1))), ?_⟩
    exact ⟨v, rfl, .ref a, rfl, a, X_BadInterval, rfl, T.xi_BadInterval.ox, T.xi_BadInterval.no, .inl ⟨ha, fun dx nd ne => q dx nd ne⟩⟩
theorem ok_Duplicate_init (T : Tx K mg f_is_number f_is_position f_is_tuple_of f_is_interval f_ascending_error f_targets_error f_is_pieces f_without_item f_is_edit f_copied_batch f_with_interval f_without_interval f_edited_state f_law_deck f_law_draw f_law_line f_law_interval f_law_intervals f_law_edit f_law_after f_law_right f_law_begun f_law_applied f_law_failing f_law_bad f_law_batch f_law f_Plan_init f_Plan_apply f_Plan_targets f_Plan_pieces f_Plan_edits f_Plan_record f_Plan_record_or_reject f_Plan_passes f_Plan_require_idle f_Plan_state_at f_Plan_len f_Plan_str f_BadInterval_init f_Duplicate_init f_BadEdit_init f_Rejected_init f_Unknown_init C_Plan X_BadInterval X_SpanError X_Unknown X_Duplicate X_Rejected X_BadEdit X_BadEdits X_Busy d_is_number d_is_position d_is_tuple_of d_is_interval d_ascending_error d_targets_error d_is_pieces d_without_item d_is_edit d_copied_batch d_with_interval d_without_interval d_edited_state d_law_deck d_law_draw d_law_line d_law_interval d_law_intervals d_law_edit d_law_after d_law_right d_law_begun d_law_applied d_law_failing d_law_bad d_law_batch d_law d_Plan_init d_Plan_apply d_Plan_targets d_Plan_pieces d_Plan_edits d_Plan_record d_Plan_record_or_reject d_Plan_passes d_Plan_require_idle d_Plan_state_at d_Plan_len d_Plan_str d_BadInterval_init d_Duplicate_init d_BadEdit_init d_Rejected_init d_Unknown_init t_LAST_POSITION t_MAX_TARGETS t_MAX_PIECES t_MAX_EDITS t_BATCH t_WORDS) : FnOk P w K mg base CX0 1 f_Duplicate_init d_Duplicate_init ["self", "value"] (sp_exc_init K X_Duplicate "value") := by
  refine T.F_Duplicate_init.ok sc_Duplicate_init (fun vs H Q E h => ?_) (fun cdv A outer s H vs Q E hr h => ?_)
  · obtain ⟨a, v, rfl, _⟩ := h
    rfl
  · obtain ⟨a, v, rfl, ha, q⟩ := h
    refine ⟨_, (pss_one (ps_ost (pv 0) (pv 1))), ?_⟩
    exact ⟨v, rfl, .ref a, rfl, a, X_Duplicate, rfl, T.xi_Duplicate.ox, T.xi_Duplicate.no, .inl ⟨ha, fun dx nd ne => q dx nd ne⟩⟩
theorem ok_Unknown_init (T : Tx K mg f_is_number f_is_position f_is_tuple_of f_is_interval f_ascending_error f_targets_error f_is_pieces f_without_item f_is_edit f_copied_batch f_with_interval f_without_interval f_edited_state f_law_deck f_law_draw f_law_line f_law_interval f_law_intervals f_law_edit f_law_after f_law_right f_law_begun f_law_applied f_law_failing f_law_bad f_law_batch f_law f_Plan_init f_Plan_apply f_Plan_targets f_Plan_pieces f_Plan_edits f_Plan_record f_Plan_record_or_reject f_Plan_passes f_Plan_require_idle f_Plan_state_at f_Plan_len f_Plan_str f_BadInterval_init f_Duplicate_init f_BadEdit_init f_Rejected_init f_Unknown_init C_Plan X_BadInterval X_SpanError X_Unknown X_Duplicate X_Rejected X_BadEdit X_BadEdits X_Busy d_is_number d_is_position d_is_tuple_of d_is_interval d_ascending_error d_targets_error d_is_pieces d_without_item d_is_edit d_copied_batch d_with_interval d_without_interval d_edited_state d_law_deck d_law_draw d_law_line d_law_interval d_law_intervals d_law_edit d_law_after d_law_right d_law_begun d_law_applied d_law_failing d_law_bad d_law_batch d_law d_Plan_init d_Plan_apply d_Plan_targets d_Plan_pieces d_Plan_edits d_Plan_record d_Plan_record_or_reject d_Plan_passes d_Plan_require_idle d_Plan_state_at d_Plan_len d_Plan_str d_BadInterval_init d_Duplicate_init d_BadEdit_init d_Rejected_init d_Unknown_init t_LAST_POSITION t_MAX_TARGETS t_MAX_PIECES t_MAX_EDITS t_BATCH t_WORDS) : FnOk P w K mg base CX0 1 f_Unknown_init d_Unknown_init ["self", "value"] (sp_exc_init K X_Unknown "value") := by
  refine T.F_Unknown_init.ok sc_Unknown_init (fun vs H Q E h => ?_) (fun cdv A outer s H vs Q E hr h => ?_)
  · obtain ⟨a, v, rfl, _⟩ := h
    rfl
  · obtain ⟨a, v, rfl, ha, q⟩ := h
    refine ⟨_, (pss_one (ps_field (newId := "LookupError.__new__") PySem.F.store_LookupError (pv 0) (pv 1))), ?_⟩
    exact ⟨v, rfl, .ref a, rfl, a, X_Unknown, _, rfl, T.xg_Unknown, ha, fun dx nd ne => q dx nd ne⟩
def sp_withX (K : PySem.W.Frag) (XB XD : Addr) : Sp := fun vs H Q E => ∃ (a : Addr) (v : V) (dd : PyData) (us : List V) (ps : List (Int × Int)) (n : Nat), vs = [.ref a, v, .int n] ∧ H a = some (.tup us) ∧ Ivs H us ps ∧ SideOk n ps ∧ n ≤ 30 ∧ Dv K H v dd ∧
  (ivB dd = false → ∀ d, H d = none → E (.ref XB) (some d) (upd H d (.xd [("value", v)]))) ∧
  (∀ x y, dd = .tuple [.int x, .int y] → ivB dd = true → (x, y) ∈ ps → ∀ d, H d = none → E (.ref XD) (some d) (upd H d (.xd [("value", v)]))) ∧
  (∀ x y, dd = .tuple [.int x, .int y] → ivB dd = true → (x, y) ∉ ps → ps.length < n ∧ ∀ H' p ws, Same H H' → H' p = some (.tup ws) → Ivs H' ws (insI (x, y) ps) → Q (.ref p) H')
theorem okn_with_interval (T : Tx K mg f_is_number f_is_position f_is_tuple_of f_is_interval f_ascending_error f_targets_error f_is_pieces f_without_item f_is_edit f_copied_batch f_with_interval f_without_interval f_edited_state f_law_deck f_law_draw f_law_line f_law_interval f_law_intervals f_law_edit f_law_after f_law_right f_law_begun f_law_applied f_law_failing f_law_bad f_law_batch f_law f_Plan_init f_Plan_apply f_Plan_targets f_Plan_pieces f_Plan_edits f_Plan_record f_Plan_record_or_reject f_Plan_passes f_Plan_require_idle f_Plan_state_at f_Plan_len f_Plan_str f_BadInterval_init f_Duplicate_init f_BadEdit_init f_Rejected_init f_Unknown_init C_Plan X_BadInterval X_SpanError X_Unknown X_Duplicate X_Rejected X_BadEdit X_BadEdits X_Busy d_is_number d_is_position d_is_tuple_of d_is_interval d_ascending_error d_targets_error d_is_pieces d_without_item d_is_edit d_copied_batch d_with_interval d_without_interval d_edited_state d_law_deck d_law_draw d_law_line d_law_interval d_law_intervals d_law_edit d_law_after d_law_right d_law_begun d_law_applied d_law_failing d_law_bad d_law_batch d_law d_Plan_init d_Plan_apply d_Plan_targets d_Plan_pieces d_Plan_edits d_Plan_record d_Plan_record_or_reject d_Plan_passes d_Plan_require_idle d_Plan_state_at d_Plan_len d_Plan_str d_BadInterval_init d_Duplicate_init d_BadEdit_init d_Rejected_init d_Unknown_init t_LAST_POSITION t_MAX_TARGETS t_MAX_PIECES t_MAX_EDITS t_BATCH t_WORDS) : FnOk P w K mg base (L2N.CX P w) 4 f_with_interval d_with_interval ["intervals", "value", "bound"] (sp_withX K X_BadInterval X_Duplicate) := by
  refine fun_okN T.F_with_interval sc_with_interval (fun vs H Q E h => ?_) (fun cdv A outer s H vs Q E hr h => ?_)
  · obtain ⟨a, v, dd, us, ps, n, rfl, _⟩ := h
    rfl
  · obtain ⟨a, v, dd, us, ps, n, rfl, ha, iv, sd, ln, dv, bad, dup, good⟩ := h
    refine ⟨_, (pss_cons (ps_if (pt_not (pt_val (pe_call (ok_is_interval T) (hr.mono (by decide)) (by rfl) T.g_is_interval T.F_is_interval.kp T.b_is_interval .nil pass0 (pa_cons (pv 1) pa_nil))))
      (pss_one (ps_raiseGN PySem.F.excBase_ValueError rfl (L2N.takes_of rfl rfl rfl rfl) T.xn_BadInterval T.xh_BadInterval (ok_BadInterval_init T) (hr.mono (by decide)) T.b_BadInterval_init (by rfl) (pa_cons (pv 1) pa_nil)))
      pss_nil)
      (pss_cons (ps_if (pt_cmpR (op_inT (units65 hr)) (pv 1) (pv 0) (by rfl))
      (pss_one (ps_raiseGN PySem.F.excBase_ValueError rfl (L2N.takes_of rfl rfl rfl rfl) T.xn_Duplicate T.xh_Duplicate (ok_Duplicate_init T) (hr.mono (by decide)) T.b_Duplicate_init (by rfl) (pa_cons (pv 1) pa_nil)))
      pss_nil) (PSs.nox (pss_cons (ps_if (pt_cmpR op_ge (pe_callB call_len_seq (by rfl) T.z_len PySem.boot_len (pa_cons (pv 0) pa_nil)) (pv 2) (nomark _))
      (pss_one ps_never)
      pss_nil)
      (pss_one (ps_ret (pe_callTy call_tuple_of (by rfl) T.z_tuple (by decide +kernel) (pa_cons (pe_callB cr_sortTP (by rfl) T.z_sorted (by decide +kernel) (pa_cons (pe_op op_catA (pv 0) (pe_tup (pa_cons (pv 1) pa_nil))) pa_nil)) pa_nil)))))))), ?_⟩
    have lu := iv.length
    refine ⟨v, rfl, v, dd, rfl, dv, _, rfl, ?_⟩
    cases ei : ivB dd with
    | false =>
      refine iteT ?_
      exact ⟨v, rfl, v, rfl, fun d nd => bad ei d nd⟩
    | true =>
      refine iteF ?_
      obtain ⟨x, y, rfl⟩ := iv_shape ei
      obtain ⟨t, rfl, ht⟩ := dv.asPair
      refine ⟨.ref t, rfl, .ref a, rfl, _, ps.map pairD, dp2 ht, .tup (SqT.of ha) iv.dp, rfl, shaped_pairs _, _, rfl, ?_⟩
      rw [any_pair]
      by_cases nin : (x, y) ∈ ps
      · rw [decide_eq_true nin]
        refine iteT ?_
        exact ⟨.ref t, rfl, .ref t, rfl, fun d nd => dup x y rfl ei nin d nd⟩
      obtain ⟨lt, q⟩ := good x y rfl ei nin
      rw [decide_eq_false nin]
      refine iteF ?_
      refine ⟨.ref a, rfl, a, us, rfl, .inr (SqT.of ha), .int n, rfl, _, _, rfl, rfl, _, rfl, ite2 (fun z => absurd (of_decide_eq_true z) (by omega)) (fun _ => ?_)⟩
      refine ⟨.ref a, rfl, .ref t, rfl, by show 1 ≤ sizeLine; decide, fun e ne => ?_⟩
      have s1 := same_new (o := .tup [.ref t]) ne
      have ee := upd_same (H := H) (a := e) (o := .tup [.ref t])
      generalize upd H e (.tup [.ref t]) = H1 at *
      refine catA_any (s1 _ _ ha) ee (by rw [show sizeLine = 16777216 by decide]; show us.length + 1 ≤ _; omega) (fun H2 c s2 ec => ?_)
      have s12 := s1.trans s2
      refine ⟨c, _, _, rfl, SqT.of ec, (iv.same s12).append (.cons (s12 _ _ ht) .nil), fun H3 l us' ps' s3 nl el ivl srt pm => ?_⟩
      refine ⟨l, us', rfl, .inl ⟨SqL.of el, fun p np => ?_⟩⟩
      have s4 := same_new (o := .tup us') np
      have nd : (ps ++ [(x, y)]).Nodup := List.nodup_append.mpr ⟨ltP_ndp sd.asc, List.nodup_cons.mpr ⟨(fun h => nomatch h), List.nodup_nil⟩, fun z hz w hw e => nin (by
        rw [List.mem_singleton.mp hw] at e
        exact e ▸ hz)⟩
      have eq : ps' = insI (x, y) ps := ltP_uniq (perm_leP_lt srt pm nd) (asc_insI sd.asc nin) fun z => by
        rw [pm.mem_iff, mem_insI, List.mem_append, List.mem_singleton]
        exact or_comm
      refine q _ p us' ((s12.trans s3).trans s4) upd_same ?_
      rw [← eq]
      exact ivl.same s4
def sp_withoutX (K : PySem.W.Frag) (XU : Addr) : Sp := fun vs H Q E => ∃ (a : Addr) (v : V) (dd : PyData) (us : List V) (ps : List (Int × Int)), vs = [.ref a, v] ∧ H a = some (.tup us) ∧ Ivs H us ps ∧ ps.length < 1000 ∧ Dv K H v dd ∧
  ((∀ x y, dd = .tuple [.int x, .int y] → ivB dd = true → (x, y) ∉ ps) → ∀ d, H d = none → E (.ref XU) (some d) (upd H d (.xd [("value", v)]))) ∧
  (∀ x y, dd = .tuple [.int x, .int y] → ivB dd = true → (x, y) ∈ ps → ∀ H' p ws, Same H H' → H' p = some (.tup ws) → Ivs H' ws (wo ps (x, y)) → Q (.ref p) H')
theorem okn_without_interval (T : Tx K mg f_is_number f_is_position f_is_tuple_of f_is_interval f_ascending_error f_targets_error f_is_pieces f_without_item f_is_edit f_copied_batch f_with_interval f_without_interval f_edited_state f_law_deck f_law_draw f_law_line f_law_interval f_law_intervals f_law_edit f_law_after f_law_right f_law_begun f_law_applied f_law_failing f_law_bad f_law_batch f_law f_Plan_init f_Plan_apply f_Plan_targets f_Plan_pieces f_Plan_edits f_Plan_record f_Plan_record_or_reject f_Plan_passes f_Plan_require_idle f_Plan_state_at f_Plan_len f_Plan_str f_BadInterval_init f_Duplicate_init f_BadEdit_init f_Rejected_init f_Unknown_init C_Plan X_BadInterval X_SpanError X_Unknown X_Duplicate X_Rejected X_BadEdit X_BadEdits X_Busy d_is_number d_is_position d_is_tuple_of d_is_interval d_ascending_error d_targets_error d_is_pieces d_without_item d_is_edit d_copied_batch d_with_interval d_without_interval d_edited_state d_law_deck d_law_draw d_law_line d_law_interval d_law_intervals d_law_edit d_law_after d_law_right d_law_begun d_law_applied d_law_failing d_law_bad d_law_batch d_law d_Plan_init d_Plan_apply d_Plan_targets d_Plan_pieces d_Plan_edits d_Plan_record d_Plan_record_or_reject d_Plan_passes d_Plan_require_idle d_Plan_state_at d_Plan_len d_Plan_str d_BadInterval_init d_Duplicate_init d_BadEdit_init d_Rejected_init d_Unknown_init t_LAST_POSITION t_MAX_TARGETS t_MAX_PIECES t_MAX_EDITS t_BATCH t_WORDS) : FnOk P w K mg base (L2N.CX P w) 4 f_without_interval d_without_interval ["intervals", "value"] (sp_withoutX K X_Unknown) := by
  refine fun_okN T.F_without_interval sc_without_interval (fun vs H Q E h => ?_) (fun cdv A outer s H vs Q E hr h => ?_)
  · obtain ⟨a, v, dd, us, ps, rfl, _⟩ := h
    rfl
  · obtain ⟨a, v, dd, us, ps, rfl, ha, iv, few, dv, bad, good⟩ := h
    refine ⟨_, (pss_cons (ps_if (PW.pt (pw_or (pt_not (pt_val (pe_call (ok_is_interval T) (hr.mono (by decide)) (by rfl) T.g_is_interval T.F_is_interval.kp T.b_is_interval .nil pass0 (pa_cons (pv 1) pa_nil)))) (pw_or1 (pt_cmpR (op_notInT (units65 hr)) (pv 1) (pv 0) (by rfl)))))
      (pss_one (ps_raiseGN PySem.F.excBase_LookupError rfl (L2N.takes_of rfl rfl rfl rfl) T.xn_Unknown T.xg_Unknown (ok_Unknown_init T) (hr.mono (by decide)) T.b_Unknown_init (by rfl) (pa_cons (pv 1) pa_nil)))
      pss_nil) (PSs.nox (pss_one (ps_ret (pe_call (ok_without_item T) (hr.mono (by decide)) (by rfl) T.g_without_item T.F_without_item.kp T.b_without_item .nil pass0 (pa_cons (pv 0) (pa_cons (pv 1) pa_nil))))))), ?_⟩
    refine ⟨v, rfl, v, dd, rfl, dv, _, rfl, ?_⟩
    cases ei : ivB dd with
    | false =>
      refine iteT ?_
      exact ⟨v, rfl, v, rfl, fun d nd => bad (fun x y _ z => by cases ei.symm.trans z) d nd⟩
    | true =>
      refine iteF ?_
      obtain ⟨x, y, rfl⟩ := iv_shape ei
      obtain ⟨t, rfl, ht⟩ := dv.asPair
      refine ⟨.ref t, rfl, .ref a, rfl, _, ps.map pairD, dp2 ht, .tup (SqT.of ha) iv.dp, rfl, shaped_pairs _, _, rfl, ?_⟩
      rw [any_pair]
      by_cases hin : (x, y) ∈ ps
      · rw [decide_eq_true hin]
        refine iteF ?_
        exact ⟨.ref a, rfl, .ref t, rfl, a, t, us, ps, x, y, rfl, ha, iv, few, ht, fun H' p ws s e i => good x y rfl ei hin H' p ws s e i⟩
      · rw [decide_eq_false hin]
        refine iteT ?_
        refine ⟨.ref t, rfl, .ref t, rfl, fun d nd => bad (fun x' y' z _ => ?_) d nd⟩
        injection z with z
        injection z with z1 z2
        injection z2 with z2 _
        injection z1 with z1
        injection z2 with z2
        rw [← z1, ← z2]
        exact hin
/-- what an edit of a value raises -/
structure ErrW (XB XD XU : Addr) (E : XK) (H : Hp) (v : V) (dd : PyData) (add : Bool) (ps : List (Int × Int)) : Prop where
  bad : add = true → ivB dd = false → ∀ d, H d = none → E (.ref XB) (some d) (upd H d (.xd [("value", v)]))
  dup : add = true → ∀ x y, dd = .tuple [.int x, .int y] → ivB dd = true → (x, y) ∈ ps → ∀ d, H d = none → E (.ref XD) (some d) (upd H d (.xd [("value", v)]))
  unk : add = false → (∀ x y, dd = .tuple [.int x, .int y] → ivB dd = true → (x, y) ∉ ps) → ∀ d, H d = none → E (.ref XU) (some d) (upd H d (.xd [("value", v)]))
/-- the edit may be made, but for its value -/
def Room2 (S : St2) (add pc : Bool) : Prop := add = true → (sideS pc S).length < if pc = true then 30 else 24
def sp_editedX (K : PySem.W.Frag) (XB XD XU : Addr) : Sp := fun vs H Q E => ∃ (s x y : Addr) (v : V) (dd : PyData) (xs ys : List V) (S : St2) (add pc : Bool), vs = [.ref s, .str (wordOf add pc), v] ∧ H s = some (.tup [.ref x, .ref y]) ∧ H x = some (.tup xs) ∧ Ivs H xs S.1 ∧ H y = some (.tup ys) ∧ Ivs H ys S.2 ∧ StOk S ∧ Dv K H v dd ∧
  Room2 S add pc ∧ ErrW XB XD XU E H v dd add (sideS pc S) ∧
  ∀ q, dd = pairD q → ivB dd = true → (add = true → q ∉ sideS pc S) → (add = false → q ∈ sideS pc S) → ∀ H' r x' y' xs' ys', Same H H' → H' r = some (.tup [.ref x', .ref y']) → H' x' = some (.tup xs') → Ivs H' xs' (stepS S ⟨add, pc, q⟩).1 → H' y' = some (.tup ys') → Ivs H' ys' (stepS S ⟨add, pc, q⟩).2 → Q (.ref r) H'
theorem okn_edited_state (T : Tx K mg f_is_number f_is_position f_is_tuple_of f_is_interval f_ascending_error f_targets_error f_is_pieces f_without_item f_is_edit f_copied_batch f_with_interval f_without_interval f_edited_state f_law_deck f_law_draw f_law_line f_law_interval f_law_intervals f_law_edit f_law_after f_law_right f_law_begun f_law_applied f_law_failing f_law_bad f_law_batch f_law f_Plan_init f_Plan_apply f_Plan_targets f_Plan_pieces f_Plan_edits f_Plan_record f_Plan_record_or_reject f_Plan_passes f_Plan_require_idle f_Plan_state_at f_Plan_len f_Plan_str f_BadInterval_init f_Duplicate_init f_BadEdit_init f_Rejected_init f_Unknown_init C_Plan X_BadInterval X_SpanError X_Unknown X_Duplicate X_Rejected X_BadEdit X_BadEdits X_Busy d_is_number d_is_position d_is_tuple_of d_is_interval d_ascending_error d_targets_error d_is_pieces d_without_item d_is_edit d_copied_batch d_with_interval d_without_interval d_edited_state d_law_deck d_law_draw d_law_line d_law_interval d_law_intervals d_law_edit d_law_after d_law_right d_law_begun d_law_applied d_law_failing d_law_bad d_law_batch d_law d_Plan_init d_Plan_apply d_Plan_targets d_Plan_pieces d_Plan_edits d_Plan_record d_Plan_record_or_reject d_Plan_passes d_Plan_require_idle d_Plan_state_at d_Plan_len d_Plan_str d_BadInterval_init d_Duplicate_init d_BadEdit_init d_Rejected_init d_Unknown_init t_LAST_POSITION t_MAX_TARGETS t_MAX_PIECES t_MAX_EDITS t_BATCH t_WORDS) : FnOk P w K mg base (L2N.CX P w) 6 f_edited_state d_edited_state ["state", "word", "value"] (sp_editedX K X_BadInterval X_Duplicate X_Unknown) := by
  refine fun_okN T.F_edited_state sc_edited_state (fun vs H Q E h => ?_) (fun cdv A outer s H vs Q E hr h => ?_)
  · obtain ⟨s, x, y, v, dd, xs, ys, S, add, pc, rfl, _⟩ := h
    rfl
  · obtain ⟨s, x, y, v, dd, xs, ys, S, add, pc, rfl, hs, hx, ix, hy, iy, so, dv, room, err, good⟩ := h
    refine ⟨_, (pss_cons (ps_asg (pv 0) (pg_tup rfl (pgs_cons (pg_name (i := 3) sc_edited_state.nd rfl (Or.inl rfl)) (pgs_cons (pg_name (i := 4) sc_edited_state.nd rfl (Or.inl rfl)) pgs_nil))))
      (pss_cons (ps_if (pt_cmpR op_eq (pv 1) pe_str (nomark _))
      (pss_one (ps_ret (pe_tup (pa_cons (pe_callS (okn_with_interval T) (hr.mono (by decide)) (by rfl) T.g_with_interval T.F_with_interval.kp T.b_with_interval (fun σ => L2N.passAt (L2N.takes_of rfl rfl rfl rfl) σ) (pa_cons (pv 3) (pa_cons (pv 2) (pa_cons (pe_glob (v := .int 24) (by rfl) T.c_MAX_TARGETS ⟨_, rfl⟩) pa_nil)))) (pa_cons (pv 4) pa_nil)))))
      pss_nil)
      (pss_cons (ps_if (pt_cmpR op_eq (pv 1) pe_str (nomark _))
      (pss_one (ps_ret (pe_tup (pa_cons (pv 3) (pa_cons (pe_callS (okn_with_interval T) (hr.mono (by decide)) (by rfl) T.g_with_interval T.F_with_interval.kp T.b_with_interval (fun σ => L2N.passAt (L2N.takes_of rfl rfl rfl rfl) σ) (pa_cons (pv 4) (pa_cons (pv 2) (pa_cons (pe_glob (v := .int 30) (by rfl) T.c_MAX_PIECES ⟨_, rfl⟩) pa_nil)))) pa_nil)))))
      pss_nil)
      (pss_cons (ps_if (pt_cmpR op_eq (pv 1) pe_str (nomark _))
      (pss_one (ps_ret (pe_tup (pa_cons (pe_callS (okn_without_interval T) (hr.mono (by decide)) (by rfl) T.g_without_interval T.F_without_interval.kp T.b_without_interval (fun σ => L2N.passAt (L2N.takes_of rfl rfl rfl rfl) σ) (pa_cons (pv 3) (pa_cons (pv 2) pa_nil))) (pa_cons (pv 4) pa_nil)))))
      pss_nil)
      (pss_one (ps_ret (pe_tup (pa_cons (pv 3) (pa_cons (pe_callS (okn_without_interval T) (hr.mono (by decide)) (by rfl) T.g_without_interval T.F_without_interval.kp T.b_without_interval (fun σ => L2N.passAt (L2N.takes_of rfl rfl rfl rfl) σ) (pa_cons (pv 4) (pa_cons (pv 2) pa_nil))) pa_nil))))))))), ?_⟩
    have f1 := so.t.few
    have f2 := so.p.few
    refine ⟨.ref s, rfl, s, _, rfl, SqT.of hs, rfl, .ref x, [.ref y], rfl, .ref y, [], rfl, rfl, ?_⟩
    have w2 : ¬ (("remove_target" : Str) = "add_target") := by decide +kernel
    have w1 : ¬ (("add_piece" : Str) = "add_target") := by decide +kernel
    have w3 : ¬ (("remove_piece" : Str) = "add_target") := by decide +kernel
    have w4 : ¬ (("remove_target" : Str) = "add_piece") := by decide +kernel
    have w5 : ¬ (("remove_piece" : Str) = "add_piece") := by decide +kernel
    have w6 : ¬ (("remove_piece" : Str) = "remove_target") := by decide +kernel
    cases add with
    | true =>
      cases pc with
      | false =>
        refine ⟨_, rfl, rfl, _, rfl, ite2 (fun _ => ?_) (fun z => absurd (decide_eq_true rfl) z)⟩
        refine ⟨.ref x, rfl, v, rfl, x, v, dd, xs, S.1, 24, rfl, hx, ix, so.t, by decide, dv, fun eb d nd => err.bad rfl eb d nd, fun a b e1 e2 e3 d nd => err.dup rfl a b e1 e2 e3 d nd, fun a b e1 e2 e3 => ⟨room rfl, fun H1 p ws s1 ep iv => ?_⟩⟩
        refine ⟨.ref y, rfl, by show 2 ≤ sizeLine; decide, fun r nr => ?_⟩
        have s2 := same_new (o := .tup [.ref p, .ref y]) nr
        have s12 := s1.trans s2
        exact good (a, b) e1 e2 (fun _ => e3) (fun z => nomatch z) _ r p y ws ys s12 upd_same (s2 _ _ ep) (iv.same s2) (s12 _ _ hy) (iy.same s12)
      | true =>
        refine ⟨_, rfl, rfl, _, rfl, ite2 (fun z => absurd z (wneq w1)) (fun _ => ?_)⟩
        refine ⟨_, rfl, rfl, _, rfl, ite2 (fun _ => ?_) (fun z => absurd (decide_eq_true rfl) z)⟩
        refine ⟨.ref x, rfl, .ref y, rfl, v, rfl, y, v, dd, ys, S.2, 30, rfl, hy, iy, so.p, by decide, dv, fun eb d nd => err.bad rfl eb d nd, fun a b e1 e2 e3 d nd => err.dup rfl a b e1 e2 e3 d nd, fun a b e1 e2 e3 => ⟨room rfl, fun H1 p ws s1 ep iv => ?_⟩⟩
        refine ⟨by show 2 ≤ sizeLine; decide, fun r nr => ?_⟩
        have s2 := same_new (o := .tup [.ref x, .ref p]) nr
        have s12 := s1.trans s2
        exact good (a, b) e1 e2 (fun _ => e3) (fun z => nomatch z) _ r x p xs ws s12 upd_same (s12 _ _ hx) (ix.same s12) (s2 _ _ ep) (iv.same s2)
    | false =>
      have lx := ix.length
      have ly := iy.length
      cases pc with
      | false =>
        refine ⟨_, rfl, rfl, _, rfl, ite2 (fun z => absurd z (wneq w2)) (fun _ => ?_)⟩
        refine ⟨_, rfl, rfl, _, rfl, ite2 (fun z => absurd z (wneq w4)) (fun _ => ?_)⟩
        refine ⟨_, rfl, rfl, _, rfl, ite2 (fun _ => ?_) (fun z => absurd (decide_eq_true rfl) z)⟩
        refine ⟨.ref x, rfl, v, rfl, x, v, dd, xs, S.1, rfl, hx, ix, by omega, dv, fun no d nd => err.unk rfl no d nd, fun a b e1 e2 e3 H1 p ws s1 ep iv => ?_⟩
        refine ⟨.ref y, rfl, by show 2 ≤ sizeLine; decide, fun r nr => ?_⟩
        have s2 := same_new (o := .tup [.ref p, .ref y]) nr
        have s12 := s1.trans s2
        exact good (a, b) e1 e2 (fun z => nomatch z) (fun _ => e3) _ r p y ws ys s12 upd_same (s2 _ _ ep) (iv.same s2) (s12 _ _ hy) (iy.same s12)
      | true =>
        refine ⟨_, rfl, rfl, _, rfl, ite2 (fun z => absurd z (wneq w3)) (fun _ => ?_)⟩
        refine ⟨_, rfl, rfl, _, rfl, ite2 (fun z => absurd z (wneq w5)) (fun _ => ?_)⟩
        refine ⟨_, rfl, rfl, _, rfl, ite2 (fun z => absurd z (wneq w6)) (fun _ => ?_)⟩
        refine ⟨.ref x, rfl, .ref y, rfl, v, rfl, y, v, dd, ys, S.2, rfl, hy, iy, by omega, dv, fun no d nd => err.unk rfl no d nd, fun a b e1 e2 e3 H1 p ws s1 ep iv => ?_⟩
        refine ⟨by show 2 ≤ sizeLine; decide, fun r nr => ?_⟩
        have s2 := same_new (o := .tup [.ref x, .ref p]) nr
        have s12 := s1.trans s2
        exact good (a, b) e1 e2 (fun z => nomatch z) (fun _ => e3) _ r x p xs ws s12 upd_same (s12 _ _ hx) (ix.same s12) (s2 _ _ ep) (iv.same s2)

def sp_idle (C : Addr) : Sp := fun vs H Q _ => ∃ (p dx a b : Addr), vs = [.ref p] ∧ H p = some (.ins C dx (flP a b false)) ∧ Q .non H
theorem ok_Plan_require_idle (T : Tx K mg f_is_number f_is_position f_is_tuple_of f_is_interval f_ascending_error f_targets_error f_is_pieces f_without_item f_is_edit f_copied_batch f_with_interval f_without_interval f_edited_state f_law_deck f_law_draw f_law_line f_law_interval f_law_intervals f_law_edit f_law_after f_law_right f_law_begun f_law_applied f_law_failing f_law_bad f_law_batch f_law f_Plan_init f_Plan_apply f_Plan_targets f_Plan_pieces f_Plan_edits f_Plan_record f_Plan_record_or_reject f_Plan_passes f_Plan_require_idle f_Plan_state_at f_Plan_len f_Plan_str f_BadInterval_init f_Duplicate_init f_BadEdit_init f_Rejected_init f_Unknown_init C_Plan X_BadInterval X_SpanError X_Unknown X_Duplicate X_Rejected X_BadEdit X_BadEdits X_Busy d_is_number d_is_position d_is_tuple_of d_is_interval d_ascending_error d_targets_error d_is_pieces d_without_item d_is_edit d_copied_batch d_with_interval d_without_interval d_edited_state d_law_deck d_law_draw d_law_line d_law_interval d_law_intervals d_law_edit d_law_after d_law_right d_law_begun d_law_applied d_law_failing d_law_bad d_law_batch d_law d_Plan_init d_Plan_apply d_Plan_targets d_Plan_pieces d_Plan_edits d_Plan_record d_Plan_record_or_reject d_Plan_passes d_Plan_require_idle d_Plan_state_at d_Plan_len d_Plan_str d_BadInterval_init d_Duplicate_init d_BadEdit_init d_Rejected_init d_Unknown_init t_LAST_POSITION t_MAX_TARGETS t_MAX_PIECES t_MAX_EDITS t_BATCH t_WORDS) : FnOk P w K mg base CX0 1 f_Plan_require_idle d_Plan_require_idle ["self"] (sp_idle C_Plan) := by
  refine T.F_Plan_require_idle.ok sc_Plan_require_idle (fun vs H Q E h => ?_) (fun cdv A outer s H vs Q E hr h => ?_)
  · obtain ⟨p, dx, a, b, rfl, _⟩ := h
    rfl
  · obtain ⟨p, dx, a, b, rfl, hp, q⟩ := h
    refine ⟨_, (pss_one (ps_if (pt_val (pe_fld (pv 0) rfl))
      (pss_one ps_never)
      pss_nil)), ?_⟩
    exact ⟨.ref p, rfl, p, C_Plan, dx, _, _, rfl, hp, T.cl_Plan, T.n_Plan_busy, lk_busy _ _ _, _, rfl, iteF q⟩
/-- an edit of any value -/
def sp_editX (K : PySem.W.Frag) (C XB XD XU : Addr) (R : Nat → V) (ws : Bool → Bool → List V) : Sp := fun vs H Q E => ∃ (p : Addr) (v : V) (dd : PyData) (Ls : List St2) (S : St2) (Es : List Ed) (add pc : Bool), vs = (.ref p :: ws add pc) ++ [v] ∧ PlanAt C H p (Ls ++ [S]) Es ∧ Es.length < 60 ∧ StOk S ∧ Dv K H v dd ∧ Room2 S add pc ∧
  ErrW XB XD XU E H v dd add (sideS pc S) ∧
  ∀ q, dd = pairD q → ivB dd = true → (add = true → q ∉ sideS pc S) → (add = false → q ∈ sideS pc S) → ∀ H', But p H H' → PlanAt C H' p (Ls ++ [S] ++ [stepS S ⟨add, pc, q⟩]) (Es ++ [⟨add, pc, q⟩]) → Q (R (Es.length + 1)) H'
def wE (e : Ed) : List V := [.str (wordE e)]
def wX (add pc : Bool) : List V := [.str (wordOf add pc)]
theorem okn_Plan_record (T : Tx K mg f_is_number f_is_position f_is_tuple_of f_is_interval f_ascending_error f_targets_error f_is_pieces f_without_item f_is_edit f_copied_batch f_with_interval f_without_interval f_edited_state f_law_deck f_law_draw f_law_line f_law_interval f_law_intervals f_law_edit f_law_after f_law_right f_law_begun f_law_applied f_law_failing f_law_bad f_law_batch f_law f_Plan_init f_Plan_apply f_Plan_targets f_Plan_pieces f_Plan_edits f_Plan_record f_Plan_record_or_reject f_Plan_passes f_Plan_require_idle f_Plan_state_at f_Plan_len f_Plan_str f_BadInterval_init f_Duplicate_init f_BadEdit_init f_Rejected_init f_Unknown_init C_Plan X_BadInterval X_SpanError X_Unknown X_Duplicate X_Rejected X_BadEdit X_BadEdits X_Busy d_is_number d_is_position d_is_tuple_of d_is_interval d_ascending_error d_targets_error d_is_pieces d_without_item d_is_edit d_copied_batch d_with_interval d_without_interval d_edited_state d_law_deck d_law_draw d_law_line d_law_interval d_law_intervals d_law_edit d_law_after d_law_right d_law_begun d_law_applied d_law_failing d_law_bad d_law_batch d_law d_Plan_init d_Plan_apply d_Plan_targets d_Plan_pieces d_Plan_edits d_Plan_record d_Plan_record_or_reject d_Plan_passes d_Plan_require_idle d_Plan_state_at d_Plan_len d_Plan_str d_BadInterval_init d_Duplicate_init d_BadEdit_init d_Rejected_init d_Unknown_init t_LAST_POSITION t_MAX_TARGETS t_MAX_PIECES t_MAX_EDITS t_BATCH t_WORDS) : FnOk P w K mg base (L2N.CX P w) 7 f_Plan_record d_Plan_record ["self", "word", "value"] (sp_editX K C_Plan X_BadInterval X_Duplicate X_Unknown (fun _ => .non) wX) := by
  refine fun_okN T.F_Plan_record sc_Plan_record (fun vs H Q E h => ?_) (fun cdv A outer s H vs Q E hr h => ?_)
  · obtain ⟨p, v, dd, Ls, S, Es, add, pc, rfl, _⟩ := h
    rfl
  · obtain ⟨p, v, dd, Ls, S, Es, add, pc, rfl, P, few, so, dv, room, err, q⟩ := h
    refine ⟨_, (pss_cons (ps_if (pt_cmpR op_ge (pe_callB call_len_seq (by rfl) T.z_len PySem.boot_len (pa_cons (pe_fld (pv 0) rfl) pa_nil)) (pe_glob (v := .int 60) (by rfl) T.c_MAX_EDITS ⟨_, rfl⟩) (nomark _))
      (PSs.nox (pss_one ps_never))
      pss_nil)
      (pss_cons (ps_set (i := 3) sc_Plan_record.nd rfl (Or.inl rfl) (pe_callS (okn_edited_state T) (hr.mono (by decide)) (by rfl) T.g_edited_state T.F_edited_state.kp T.b_edited_state (fun σ => L2N.passAt (L2N.takes_of rfl rfl rfl rfl) σ) (pa_cons (pe_ix ix_tup (pe_fld (pv 0) rfl) (pe_un un_neg pe_int) (fun _ _ => rfl)) (pa_cons (pv 1) (pa_cons (pv 2) pa_nil))))) (PSs.nox (pss_cons (ps_fldaug (pv 0) (pe_tup (pa_cons (pv 3) pa_nil)) in_catA)
      (pss_one (ps_fldaug (pv 0) (pe_tup (pa_cons (pe_tup (pa_cons (pv 1) (pa_cons (pv 2) pa_nil))) pa_nil)) in_catA)))))), ?_⟩
    obtain ⟨⟨dx, a, b, us, vs, hp, ha, sts, hb, eds⟩, pl⟩ := id P
    have lv := eds.length
    have lu := sts.length
    refine ⟨.ref p, rfl, p, C_Plan, dx, _, _, rfl, hp, T.cl_Plan, T.n_Plan_done, lk_done _ _ _, b, vs, rfl, .inr (SqT.of hb), _, _, rfl, rfl, _, rfl, ite2 (fun z => absurd (of_decide_eq_true z) (by omega)) (fun _ => ?_)⟩
    rw [List.length_append] at lu pl
    obtain ⟨s, x, y, xs, ys, eu, hs, hx, ix, hy, iy⟩ := sts.get (i := Ls.length) (S := S) (by rw [List.getElem?_append_right (Nat.le_refl _), Nat.sub_self]; rfl)
    have lu : us.length = Ls.length + 1 := lu
    refine ⟨.ref p, rfl, p, C_Plan, dx, _, _, rfl, hp, T.cl_Plan, T.n_Plan_states, lk_states _ _ _, 1, rfl, a, us, -1, .ref s, rfl, rfl, SqT.of ha, atI_end (by rw [lu]; exact eu), _, rfl, v, rfl, ?_⟩
    refine ⟨s, x, y, v, dd, xs, ys, S, add, pc, rfl, hs, hx, ix, hy, iy, so, dv, room, err, fun z ez e2 e3 e4 H1 r x' y' xs' ys' s1 er ex' ix' ey' iy' => ?_⟩
    subst ez
    obtain ⟨t, rfl, ht⟩ := (show Dv K H v (.tuple [.int z.1, .int z.2]) from dv).asPair
    replace q := q z rfl e2 e3 e4
    obtain ⟨e, ee⟩ : ∃ e : Ed, e = ⟨add, pc, z⟩ := ⟨_, rfl⟩
    rw [← ee] at q ix' iy'
    rw [show wX add pc = wE e from ee ▸ rfl]
    rw [show z = e.q from ee ▸ rfl] at ht
    refine ⟨.ref p, rfl, p, C_Plan, dx, _, _, rfl, s1 _ _ hp, T.cl_Plan, T.n_Plan_states, lk_states _ _ _, .ref r, rfl, by show 1 ≤ sizeLine; decide, fun u nu => ?_⟩
    have s2 := same_new (o := .tup [.ref r]) nu
    have eu2 := upd_same (H := H1) (a := u) (o := .tup [.ref r])
    generalize upd H1 u (.tup [.ref r]) = H2 at *
    have s12 := s1.trans s2
    refine catA_any (s12 _ _ ha) eu2 (by rw [show sizeLine = 16777216 by decide]; show us.length + 1 ≤ _; omega) (fun H3 a2 s3 ea2 => ?_)
    have s13 := s12.trans s3
    refine ⟨dx, _, s13 _ _ hp, by show 3 < 1000; decide, ?_⟩
    rw [flP_states]
    have np3 : ∀ {c : Addr} {xs : List V}, H3 c = some (.tup xs) → c ≠ p := fun {c xs} h => ne_of h (s13 _ _ hp) (fun z => by cases z)
    generalize eH4 : upd H3 p (.ins C_Plan dx (flP a2 b false)) = H4
    have t4 : Tps H3 H4 := fun c xs h => by
      rw [← eH4, upd_ne (np3 h)]
      exact h
    have b4 : But p H3 H4 := eH4 ▸ But.upd
    have hp4 : H4 p = some (.ins C_Plan dx (flP a2 b false)) := by rw [← eH4, upd_same]
    refine ⟨.ref p, rfl, p, C_Plan, dx, _, _, rfl, hp4, T.cl_Plan, T.n_Plan_done, lk_done _ _ _, _, rfl, .ref t, rfl, by show 2 ≤ sizeLine; decide, fun w nw => ?_⟩
    have s5 := same_new (o := .tup [.str (wordE e), .ref t]) nw
    have ew := upd_same (H := H4) (a := w) (o := .tup [.str (wordE e), .ref t])
    generalize upd H4 w (.tup [.str (wordE e), .ref t]) = H5 at *
    refine ⟨by show 1 ≤ sizeLine; decide, fun w2 nw2 => ?_⟩
    have s6 := same_new (o := .tup [.ref w]) nw2
    have ew2 := upd_same (H := H5) (a := w2) (o := .tup [.ref w])
    generalize upd H5 w2 (.tup [.ref w]) = H6 at *
    have s46 := s5.trans s6
    have hb6 := s46 _ _ (t4 _ _ (s13 _ _ hb))
    refine catA_any hb6 ew2 (by rw [show sizeLine = 16777216 by decide]; show vs.length + 1 ≤ _; omega) (fun H7 b2 s7 eb2 => ?_)
    have s47 := s46.trans s7
    refine ⟨dx, _, s47 _ _ hp4, by show 3 < 1000; decide, ?_⟩
    rw [flP_done]
    have t7 : Tps H7 (upd H7 p (.ins C_Plan dx (flP a2 b2 false))) := fun c xs h => by
      rw [upd_ne (ne_of h (s47 _ _ hp4) (fun z => by cases z))]
      exact h
    have t37 : Tps H3 H7 := t4.trans (Tps.same s47)
    have t17 : Tps H1 H7 := (Tps.same (s2.trans s3)).trans t37
    have t07 : Tps H H7 := (Tps.same s1).trans t17
    refine q _ ((But.same s13).trans (b4.trans ((But.same s47).trans But.upd))) ⟨⟨dx, a2, b2, _, _, upd_same, t7 _ _ (t37 _ _ ea2), (sts.tps (t07.trans t7)).snoc (t7 _ _ (t17 _ _ er)) (t7 _ _ (t17 _ _ ex')) (ix'.tps (t17.trans t7)) (t7 _ _ (t17 _ _ ey')) (iy'.tps (t17.trans t7)), t7 _ _ eb2, (eds.tps (t07.trans t7)).snoc (t7 _ _ (s7 _ _ (s6 _ _ ew))) (t7 _ _ (t07 _ _ ht))⟩, ?_⟩
    rw [List.length_append, List.length_append, List.length_append, show [stepS S e].length = 1 from rfl, show [S].length = 1 from rfl, show [e].length = 1 from rfl]
    have pl : Ls.length + 1 = Es.length + 1 := pl
    omega

/-! ### for i, x in enumerate(t) -/
theorem for_enumT {K : PySem.W.Frag} {a : Addr} {xs : List V} {g : TG} {tb : TS} {D : Ends} {σ : L2.St} {H : Hp} (Pv : Nat → L2.St → Hp → Prop) (h0 : Pv 0 σ H) (hq : ∀ i σ H, Pv i σ H → SqT K H a xs)
    (hs : ∀ (i : Nat) (x : V) (t : Addr) (σ : L2.St) (H : Hp), xs[i]? = some x → Pv i σ H → H t = none → g (.ref t) σ (upd H t (.tup [.int (i : Nat), x])) fun σ2 H2 => tb { D with nx := Pv (i + 1), ct := Pv (i + 1), bk := D.nx } σ2 H2) (hd : ∀ σ H, Pv xs.length σ H → D.nx σ H) :
    ∃ W : Nat → Nat → L2.St → Hp → Prop, (∃ m, W 0 m σ H) ∧ ∀ i m σ H, W i m σ H →
      ((IteT K a xs.length).stop i H ∧ D.nx σ H) ∨ ((IteT K a xs.length).go i H ∧ ∃ N : L2.St → Hp → Prop, (∀ σ' H', N σ' H' → ∃ m', m' < m ∧ W (i + 1) m' σ' H') ∧ ∀ v H', (IteT K a xs.length).yld i H v H' → g v σ H' fun σ2 H2 => tb { D with nx := N, ct := N, bk := D.nx } σ2 H2) := by
  refine ⟨fun i m σ H => i + m = xs.length ∧ Pv i σ H, ⟨xs.length, by omega, h0⟩, ?_⟩
  rintro i m σ H ⟨im, p⟩
  have hx := hq i σ H p
  by_cases c : i < xs.length
  · refine .inr ⟨⟨xs, xs[i], hx, List.getElem?_eq_getElem c, rfl⟩, Pv (i + 1), fun σ' H' p' => ⟨m - 1, by omega, by omega, p'⟩, ?_⟩
    rintro v H' ⟨t, x, rfl, nt, rfl, at_⟩
    exact hs i x t σ H (at_ xs hx) p nt
  · refine .inl ⟨⟨xs, hx, rfl, by omega⟩, hd σ H ?_⟩
    have : i = xs.length := by omega
    rw [← this]
    exact p

/-! ### a plan that is made of good rows; what is asked of it -/
theorem dv_pair {K : PySem.W.Frag} {H : Hp} {b : Addr} {x y : Int} (h : H b = some (.tup [.int x, .int y])) : Dv K H (.ref b) (.tuple [.int x, .int y]) := .tup h (.cons (.int _) (.cons (.int _) .nil))
theorem iv_ok {x y : Int} (h : (0 ≤ x ∧ x ≤ y) ∧ y ≤ 1000000000000) : ivB (.tuple [.int x, .int y]) = true := by
  show ((decide (0 ≤ x) && decide (x ≤ 1000000000000)) && ((decide (0 ≤ y) && decide (y ≤ 1000000000000)) && decide (x ≤ y))) = true
  simp only [Bool.and_eq_true, decide_eq_true_eq]
  omega
def sp_asc : Sp := fun vs H Q _ => ∃ (a : Addr) (us : List V) (ps : List (Int × Int)) (n : Nat), vs = [.ref a, .int n] ∧ H a = some (.tup us) ∧ Ivs H us ps ∧ SideOk n ps ∧ n ≤ 30 ∧ ∀ H', Same H H' → Q .non H'
theorem ok_ascending_error (T : Tx K mg f_is_number f_is_position f_is_tuple_of f_is_interval f_ascending_error f_targets_error f_is_pieces f_without_item f_is_edit f_copied_batch f_with_interval f_without_interval f_edited_state f_law_deck f_law_draw f_law_line f_law_interval f_law_intervals f_law_edit f_law_after f_law_right f_law_begun f_law_applied f_law_failing f_law_bad f_law_batch f_law f_Plan_init f_Plan_apply f_Plan_targets f_Plan_pieces f_Plan_edits f_Plan_record f_Plan_record_or_reject f_Plan_passes f_Plan_require_idle f_Plan_state_at f_Plan_len f_Plan_str f_BadInterval_init f_Duplicate_init f_BadEdit_init f_Rejected_init f_Unknown_init C_Plan X_BadInterval X_SpanError X_Unknown X_Duplicate X_Rejected X_BadEdit X_BadEdits X_Busy d_is_number d_is_position d_is_tuple_of d_is_interval d_ascending_error d_targets_error d_is_pieces d_without_item d_is_edit d_copied_batch d_with_interval d_without_interval d_edited_state d_law_deck d_law_draw d_law_line d_law_interval d_law_intervals d_law_edit d_law_after d_law_right d_law_begun d_law_applied d_law_failing d_law_bad d_law_batch d_law d_Plan_init d_Plan_apply d_Plan_targets d_Plan_pieces d_Plan_edits d_Plan_record d_Plan_record_or_reject d_Plan_passes d_Plan_require_idle d_Plan_state_at d_Plan_len d_Plan_str d_BadInterval_init d_Duplicate_init d_BadEdit_init d_Rejected_init d_Unknown_init t_LAST_POSITION t_MAX_TARGETS t_MAX_PIECES t_MAX_EDITS t_BATCH t_WORDS) : FnOk P w K mg base CX0 4 f_ascending_error d_ascending_error ["value", "most"] sp_asc := by
  refine T.F_ascending_error.ok sc_ascending_error (fun vs H Q E h => ?_) (fun cdv A outer s H vs Q E hr h => ?_)
  · obtain ⟨a, us, ps, n, rfl, _⟩ := h
    rfl
  · obtain ⟨a, us, ps, n, rfl, ha, iv, sd, ln, q⟩ := h
    refine ⟨_, (pss_cons (ps_if (PW.pt (pw_or (pt_not (pt_val (pe_callB call_isi (by rfl) T.z_isinstance (by decide +kernel) (pa_cons (pv 0) (pa_cons (pe_bltn (v := .ty "tuple") (u := .type "tuple") (by rfl) T.z_tuple (by decide +kernel) rfl) pa_nil))))) (pw_or1 (pt_cmpR op_gt (pe_callB call_len_seq (by rfl) T.z_len PySem.boot_len (pa_cons (pv 0) pa_nil)) (pv 1) (nomark _)))))
      (pss_one (ps_ret (pe_tup (pa_cons pe_non (pa_cons pe_str pa_nil)))))
      pss_nil)
      (pss_cons (ps_for PassesOwn.never rfl (pi_enumT (by rfl) T.z_enumerate (pa_cons (pv 0) pa_nil)) (pg_tup rfl (pgs_cons (pg_name (i := 2) sc_ascending_error.nd rfl (Or.inl rfl)) (pgs_cons (pg_name (i := 3) sc_ascending_error.nd rfl (Or.inl rfl)) pgs_nil)))
      (pss_cons (ps_if (pt_not (pt_val (pe_call (ok_is_interval T) (hr.mono (by decide)) (by rfl) T.g_is_interval T.F_is_interval.kp T.b_is_interval .nil pass0 (pa_cons (pv 3) pa_nil))))
      (pss_one (ps_ret (pe_tup (pa_cons (pv 2) (pa_cons pe_str pa_nil)))))
      pss_nil)
      (pss_one (ps_if (PW.pt (pw_and (pt_cmpR op_gt (pv 2) pe_int (nomark _)) (pw_and1 (pt_cmpR (op_leT hr.units0) (pv 3) (pe_ix ix_tup (pv 0) (pe_op op_sub (pv 2) pe_int) (fun _ _ => rfl)) (nomark _)))))
      (pss_one (ps_ret (pe_tup (pa_cons (pv 2) (pa_cons pe_str pa_nil)))))
      pss_nil))))
      (pss_one (ps_ret pe_non)))), ?_⟩
    have lu := iv.length
    have few := sd.few
    refine ⟨.ref a, rfl, .ref a, .ty "tuple", _, _, _, rfl, .ty "tuple", .base (.tup ha), kit_tupT, _, rfl, iteF ?_⟩
    refine ⟨.ref a, rfl, a, us, rfl, .inr (SqT.of ha), .int n, rfl, _, _, rfl, rfl, _, rfl, ite2 (fun z => absurd (of_decide_eq_true z) (by omega)) (fun _ => ?_)⟩
    refine ⟨.ref a, rfl, a, us, rfl, SqT.of ha, ?_⟩
    refine for_enumT (K := K) (a := a) (xs := us) (D := ⟨_, _, fun _ _ => True, fun _ _ => True⟩) (fun j σ H' => Same H H' ∧ ∃ y1 y2, σ = [some (.ref a), some (.int n), y1, y2])
      ⟨Same.refl _, _, _, rfl⟩ (fun j σ H' h => SqT.of (h.1 _ _ ha)) ?_ ?_
    · rintro k z TT σ H3 hz ⟨s3, y1, y2, rfl⟩ nT
      obtain ⟨b, x, y, rfl, ep, hb⟩ := iv.get hz
      have sT := same_new (o := .tup [.int (k : Nat), .ref b]) nT
      have eT := upd_same (H := H3) (a := TT) (o := .tup [.int (k : Nat), .ref b])
      generalize upd H3 TT (.tup [.int (k : Nat), .ref b]) = H4 at *
      have s4 := s3.trans sT
      have hb4 := s4 _ _ hb
      have ok := sd.ok _ (List.mem_of_getElem? ep)
      refine ⟨TT, _, rfl, SqT.of eT, rfl, .int (k : Nat), [.ref b], rfl, .ref b, [], rfl, rfl, ?_⟩
      refine ⟨.ref b, rfl, .ref b, .tuple [.int x, .int y], rfl, dv_pair hb4, _, rfl, ?_⟩
      rw [iv_ok ok]
      refine iteF ?_
      refine ⟨.int (k : Nat), rfl, _, _, rfl, rfl, _, rfl, ite2 (fun k0 => ?_) (fun _ => ⟨s4, _, _, rfl⟩)⟩
      have k1 := of_decide_eq_true k0
      have zl := (List.getElem?_eq_some_iff.mp hz).1
      have up := List.getElem?_eq_getElem (l := us) (i := k - 1) (by omega)
      obtain ⟨c, u, v, ec, ec2, hc⟩ := iv.get up
      rw [ec] at up
      have lt : ltP (u, v) (x, y) := by
        obtain ⟨z1, w1⟩ := List.getElem?_eq_some_iff.mp ec2
        obtain ⟨z2, w2⟩ := List.getElem?_eq_some_iff.mp ep
        have z := List.pairwise_iff_getElem.mp sd.asc (k - 1) k z1 z2 (by omega)
        rw [w1, w2] at z
        exact z
      refine ⟨.ref b, rfl, .ref a, rfl, .int (k : Nat), rfl, _, _, rfl, rfl, a, us, _, .ref c, rfl, rfl, SqT.of (s4 _ _ ha), (by rw [show (k : Int) - 1 = ((k - 1 : Nat) : Int) by omega]; exact atI_nat up), b, c, [x, y], [u, v], rfl, rfl, SqT.of hb4, SqT.of (s4 _ _ hc), _, rfl, ite2 (fun e => ?_) (fun _ => ⟨s4, _, _, rfl⟩)⟩
      exfalso
      have e : (if decide (x = u) = true then (if decide (y = v) = true then true else decide (y ≤ v)) else decide (x ≤ u)) = true := e
      unfold ltP at lt
      by_cases c1 : x = u
      · rw [if_pos (decide_eq_true c1)] at e
        by_cases c2 : y = v
        · omega
        · rw [if_neg (by rw [decide_eq_false c2]; decide)] at e
          have := of_decide_eq_true e
          omega
      · rw [if_neg (by rw [decide_eq_false c1]; decide)] at e
        have := of_decide_eq_true e
        omega
    · rintro σ H3 ⟨s3, y1, y2, rfl⟩
      exact q H3 s3
def sp_terr : Sp := fun vs H Q _ => ∃ (a : Addr) (us : List V) (ps : List (Int × Int)), vs = [.ref a] ∧ H a = some (.tup us) ∧ Ivs H us ps ∧ SideOk 24 ps ∧ ∀ H', Same H H' → Q .non H'
theorem ok_targets_error (T : Tx K mg f_is_number f_is_position f_is_tuple_of f_is_interval f_ascending_error f_targets_error f_is_pieces f_without_item f_is_edit f_copied_batch f_with_interval f_without_interval f_edited_state f_law_deck f_law_draw f_law_line f_law_interval f_law_intervals f_law_edit f_law_after f_law_right f_law_begun f_law_applied f_law_failing f_law_bad f_law_batch f_law f_Plan_init f_Plan_apply f_Plan_targets f_Plan_pieces f_Plan_edits f_Plan_record f_Plan_record_or_reject f_Plan_passes f_Plan_require_idle f_Plan_state_at f_Plan_len f_Plan_str f_BadInterval_init f_Duplicate_init f_BadEdit_init f_Rejected_init f_Unknown_init C_Plan X_BadInterval X_SpanError X_Unknown X_Duplicate X_Rejected X_BadEdit X_BadEdits X_Busy d_is_number d_is_position d_is_tuple_of d_is_interval d_ascending_error d_targets_error d_is_pieces d_without_item d_is_edit d_copied_batch d_with_interval d_without_interval d_edited_state d_law_deck d_law_draw d_law_line d_law_interval d_law_intervals d_law_edit d_law_after d_law_right d_law_begun d_law_applied d_law_failing d_law_bad d_law_batch d_law d_Plan_init d_Plan_apply d_Plan_targets d_Plan_pieces d_Plan_edits d_Plan_record d_Plan_record_or_reject d_Plan_passes d_Plan_require_idle d_Plan_state_at d_Plan_len d_Plan_str d_BadInterval_init d_Duplicate_init d_BadEdit_init d_Rejected_init d_Unknown_init t_LAST_POSITION t_MAX_TARGETS t_MAX_PIECES t_MAX_EDITS t_BATCH t_WORDS) : FnOk P w K mg base CX0 5 f_targets_error d_targets_error ["value"] sp_terr := by
  refine T.F_targets_error.ok sc_targets_error (fun vs H Q E h => ?_) (fun cdv A outer s H vs Q E hr h => ?_)
  · obtain ⟨a, us, ps, rfl, _⟩ := h
    rfl
  · obtain ⟨a, us, ps, rfl, ha, iv, sd, q⟩ := h
    refine ⟨_, (pss_one (ps_ret (pe_call (ok_ascending_error T) (hr.mono (by decide)) (by rfl) T.g_ascending_error T.F_ascending_error.kp T.b_ascending_error .nil pass0 (pa_cons (pv 0) (pa_cons (pe_glob (v := .int 24) (by rfl) T.c_MAX_TARGETS ⟨_, rfl⟩) pa_nil))))), ?_⟩
    exact ⟨.ref a, rfl, a, us, ps, 24, rfl, ha, iv, sd, by decide, q⟩
def sp_isp : Sp := fun vs H Q _ => ∃ (a : Addr) (us : List V) (ps : List (Int × Int)), vs = [.ref a] ∧ H a = some (.tup us) ∧ Ivs H us ps ∧ SideOk 30 ps ∧ ∀ H', Same H H' → Q (.bl true) H'
theorem ok_is_pieces (T : Tx K mg f_is_number f_is_position f_is_tuple_of f_is_interval f_ascending_error f_targets_error f_is_pieces f_without_item f_is_edit f_copied_batch f_with_interval f_without_interval f_edited_state f_law_deck f_law_draw f_law_line f_law_interval f_law_intervals f_law_edit f_law_after f_law_right f_law_begun f_law_applied f_law_failing f_law_bad f_law_batch f_law f_Plan_init f_Plan_apply f_Plan_targets f_Plan_pieces f_Plan_edits f_Plan_record f_Plan_record_or_reject f_Plan_passes f_Plan_require_idle f_Plan_state_at f_Plan_len f_Plan_str f_BadInterval_init f_Duplicate_init f_BadEdit_init f_Rejected_init f_Unknown_init C_Plan X_BadInterval X_SpanError X_Unknown X_Duplicate X_Rejected X_BadEdit X_BadEdits X_Busy d_is_number d_is_position d_is_tuple_of d_is_interval d_ascending_error d_targets_error d_is_pieces d_without_item d_is_edit d_copied_batch d_with_interval d_without_interval d_edited_state d_law_deck d_law_draw d_law_line d_law_interval d_law_intervals d_law_edit d_law_after d_law_right d_law_begun d_law_applied d_law_failing d_law_bad d_law_batch d_law d_Plan_init d_Plan_apply d_Plan_targets d_Plan_pieces d_Plan_edits d_Plan_record d_Plan_record_or_reject d_Plan_passes d_Plan_require_idle d_Plan_state_at d_Plan_len d_Plan_str d_BadInterval_init d_Duplicate_init d_BadEdit_init d_Rejected_init d_Unknown_init t_LAST_POSITION t_MAX_TARGETS t_MAX_PIECES t_MAX_EDITS t_BATCH t_WORDS) : FnOk P w K mg base CX0 5 f_is_pieces d_is_pieces ["value"] sp_isp := by
  refine T.F_is_pieces.ok sc_is_pieces (fun vs H Q E h => ?_) (fun cdv A outer s H vs Q E hr h => ?_)
  · obtain ⟨a, us, ps, rfl, _⟩ := h
    rfl
  · obtain ⟨a, us, ps, rfl, ha, iv, sd, q⟩ := h
    refine ⟨_, (pss_one (ps_ret (pe_cmpR op_isN (pe_call (ok_ascending_error T) (hr.mono (by decide)) (by rfl) T.g_ascending_error T.F_ascending_error.kp T.b_ascending_error .nil pass0 (pa_cons (pv 0) (pa_cons (pe_glob (v := .int 30) (by rfl) T.c_MAX_PIECES ⟨_, rfl⟩) pa_nil))) pe_non (nomark _)))), ?_⟩
    exact ⟨.ref a, rfl, a, us, ps, 30, rfl, ha, iv, sd, by decide, fun H' s => ⟨rfl, q H' s⟩⟩
/-! ### edits -/
def sp_init (C : Addr) : Sp := fun vs H Q _ => ∃ (p dx x y : Addr) (xs ys : List V) (S : St2), vs = [.ref p, .ref x, .ref y] ∧ H p = some (.ins C dx []) ∧ H x = some (.tup xs) ∧ Ivs H xs S.1 ∧ H y = some (.tup ys) ∧ Ivs H ys S.2 ∧ StOk S ∧
  ∀ H', But p H H' → PlanAt C H' p [S] [] → Q .non H'
theorem ok_Plan_init (T : Tx K mg f_is_number f_is_position f_is_tuple_of f_is_interval f_ascending_error f_targets_error f_is_pieces f_without_item f_is_edit f_copied_batch f_with_interval f_without_interval f_edited_state f_law_deck f_law_draw f_law_line f_law_interval f_law_intervals f_law_edit f_law_after f_law_right f_law_begun f_law_applied f_law_failing f_law_bad f_law_batch f_law f_Plan_init f_Plan_apply f_Plan_targets f_Plan_pieces f_Plan_edits f_Plan_record f_Plan_record_or_reject f_Plan_passes f_Plan_require_idle f_Plan_state_at f_Plan_len f_Plan_str f_BadInterval_init f_Duplicate_init f_BadEdit_init f_Rejected_init f_Unknown_init C_Plan X_BadInterval X_SpanError X_Unknown X_Duplicate X_Rejected X_BadEdit X_BadEdits X_Busy d_is_number d_is_position d_is_tuple_of d_is_interval d_ascending_error d_targets_error d_is_pieces d_without_item d_is_edit d_copied_batch d_with_interval d_without_interval d_edited_state d_law_deck d_law_draw d_law_line d_law_interval d_law_intervals d_law_edit d_law_after d_law_right d_law_begun d_law_applied d_law_failing d_law_bad d_law_batch d_law d_Plan_init d_Plan_apply d_Plan_targets d_Plan_pieces d_Plan_edits d_Plan_record d_Plan_record_or_reject d_Plan_passes d_Plan_require_idle d_Plan_state_at d_Plan_len d_Plan_str d_BadInterval_init d_Duplicate_init d_BadEdit_init d_Rejected_init d_Unknown_init t_LAST_POSITION t_MAX_TARGETS t_MAX_PIECES t_MAX_EDITS t_BATCH t_WORDS) : FnOk P w K mg base CX0 6 f_Plan_init d_Plan_init ["self", "targets", "pieces"] (sp_init C_Plan) := by
  refine T.F_Plan_init.ok sc_Plan_init (fun vs H Q E h => ?_) (fun cdv A outer s H vs Q E hr h => ?_)
  · obtain ⟨p, dx, x, y, xs, ys, S, rfl, _⟩ := h
    rfl
  · obtain ⟨p, dx, x, y, xs, ys, S, rfl, hp, hx, ix, hy, iy, so, q⟩ := h
    refine ⟨_, (pss_cons (ps_set (i := 3) sc_Plan_init.nd rfl (Or.inl rfl) (pe_call (ok_targets_error T) (hr.mono (by decide)) (by rfl) T.g_targets_error T.F_targets_error.kp T.b_targets_error .nil pass0 (pa_cons (pv 1) pa_nil)))
      (pss_cons (ps_if (pt_cmpR op_notN (pv 3) pe_non (nomark _))
      (pss_one ps_never)
      pss_nil)
      (pss_cons (ps_if (pt_not (pt_val (pe_call (ok_is_pieces T) (hr.mono (by decide)) (by rfl) T.g_is_pieces T.F_is_pieces.kp T.b_is_pieces .nil pass0 (pa_cons (pv 2) pa_nil))))
      (pss_one ps_never)
      pss_nil)
      (pss_cons (ps_fld (pv 0) (pe_tup (pa_cons (pe_tup (pa_cons (pv 1) (pa_cons (pv 2) pa_nil))) pa_nil)) rfl)
      (pss_cons (ps_fld (pv 0) (pe_tup pa_nil) rfl)
      (pss_one (ps_fld (pv 0) pe_bl rfl))))))), ?_⟩
    refine ⟨.ref x, rfl, x, xs, S.1, rfl, hx, ix, so.t, fun H1 s1 => ?_⟩
    refine ⟨_, rfl, rfl, _, rfl, iteNS rfl ?_⟩
    refine ⟨.ref y, rfl, y, ys, S.2, rfl, s1 _ _ hy, iy.same s1, so.p, fun H2 s2 => ⟨_, rfl, iteF ?_⟩⟩
    have s12 := s1.trans s2
    refine ⟨.ref x, rfl, .ref y, rfl, by show 2 ≤ sizeLine; decide, fun t nt => ?_⟩
    have s3 := same_new (o := .tup [.ref x, .ref y]) nt
    have et := upd_same (H := H2) (a := t) (o := .tup [.ref x, .ref y])
    generalize upd H2 t (.tup [.ref x, .ref y]) = H3 at *
    refine ⟨by show 1 ≤ sizeLine; decide, fun a na => ?_⟩
    have s4 := same_new (o := .tup [.ref t]) na
    have ea := upd_same (H := H3) (a := a) (o := .tup [.ref t])
    generalize upd H3 a (.tup [.ref t]) = H4 at *
    have s24 := s3.trans s4
    have s14 := s12.trans s24
    have hp4 := s14 _ _ hp
    refine ⟨.ref p, rfl, p, C_Plan, dx, [], rfl, hp4, T.cl_Plan, T.n_Plan_states, by show 0 < 1000; decide, ?_⟩
    refine ⟨by show 0 ≤ sizeLine; decide, fun b nb => ?_⟩
    have nbp : b ≠ p := fun e => by
      rw [e, upd_same] at nb
      cases nb
    refine ⟨.ref p, rfl, p, C_Plan, dx, _, rfl, by rw [upd_ne nbp.symm, upd_same], T.cl_Plan, T.n_Plan_done, by show 1 < 1000; decide, ?_⟩
    refine ⟨.ref p, rfl, p, C_Plan, dx, _, rfl, upd_same, T.cl_Plan, T.n_Plan_busy, by rw [show putF "done" (V.ref b) (putF "states" (V.ref a) []) = [(("states" : Str), V.ref a), ("done", V.ref b)] from if_neg kSD]; show 2 < 1000; decide, ?_⟩
    rw [flP_new]
    have nb4 : H4 b = none := by
      rw [upd_ne nbp] at nb
      exact nb
    have fin : ∀ {c : Addr} {o : HO}, c ≠ p → H4 c = some o → upd (upd (upd (upd H4 p (.ins C_Plan dx (putF "states" (.ref a) []))) b (.tup [])) p (.ins C_Plan dx (putF "done" (.ref b) (putF "states" (.ref a) [])))) p (.ins C_Plan dx (flP a b false)) c = some o := fun {c o} n e => by
      rw [upd_ne n, upd_ne n, upd_ne (ne_of_none e nb4), upd_ne n]
      exact e
    have tp : Tps H4 (upd (upd (upd (upd H4 p (.ins C_Plan dx (putF "states" (.ref a) []))) b (.tup [])) p (.ins C_Plan dx (putF "done" (.ref b) (putF "states" (.ref a) [])))) p (.ins C_Plan dx (flP a b false))) := fun c us e => fin (ne_of e hp4 (fun z => by cases z)) e
    refine q _ (fun c o n e => fin n (s14 _ _ e)) ⟨⟨dx, a, b, _, _, upd_same, tp _ _ ea, ?_, by rw [upd_ne nbp, upd_ne nbp, upd_same], .nil⟩, rfl⟩
    exact .cons (tp _ _ (s4 _ _ et)) (tp _ _ (s14 _ _ hx)) ((ix.same s14).tps tp) (tp _ _ (s14 _ _ hy)) ((iy.same s14).tps tp) .nil
/-! ### queries -/
/-- a version: None, or a number; i the state's place -/
def IsVer (v : V) (n i : Nat) : Prop := (v = .non ∧ i = n) ∨ (v = .int i ∧ i ≤ n)
def sp_state_at (C : Addr) : Sp := fun vs H Q _ => ∃ (p : Addr) (v : V) (Ss : List St2) (Es : List Ed) (S : St2) (i : Nat), vs = [.ref p, v] ∧ PlanAt C H p Ss Es ∧ IsVer v Es.length i ∧ Ss[i]? = some S ∧
  ∀ t x y xs ys, H t = some (.tup [.ref x, .ref y]) → H x = some (.tup xs) → Ivs H xs S.1 → H y = some (.tup ys) → Ivs H ys S.2 → Q (.ref t) H
theorem ok_Plan_state_at (T : Tx K mg f_is_number f_is_position f_is_tuple_of f_is_interval f_ascending_error f_targets_error f_is_pieces f_without_item f_is_edit f_copied_batch f_with_interval f_without_interval f_edited_state f_law_deck f_law_draw f_law_line f_law_interval f_law_intervals f_law_edit f_law_after f_law_right f_law_begun f_law_applied f_law_failing f_law_bad f_law_batch f_law f_Plan_init f_Plan_apply f_Plan_targets f_Plan_pieces f_Plan_edits f_Plan_record f_Plan_record_or_reject f_Plan_passes f_Plan_require_idle f_Plan_state_at f_Plan_len f_Plan_str f_BadInterval_init f_Duplicate_init f_BadEdit_init f_Rejected_init f_Unknown_init C_Plan X_BadInterval X_SpanError X_Unknown X_Duplicate X_Rejected X_BadEdit X_BadEdits X_Busy d_is_number d_is_position d_is_tuple_of d_is_interval d_ascending_error d_targets_error d_is_pieces d_without_item d_is_edit d_copied_batch d_with_interval d_without_interval d_edited_state d_law_deck d_law_draw d_law_line d_law_interval d_law_intervals d_law_edit d_law_after d_law_right d_law_begun d_law_applied d_law_failing d_law_bad d_law_batch d_law d_Plan_init d_Plan_apply d_Plan_targets d_Plan_pieces d_Plan_edits d_Plan_record d_Plan_record_or_reject d_Plan_passes d_Plan_require_idle d_Plan_state_at d_Plan_len d_Plan_str d_BadInterval_init d_Duplicate_init d_BadEdit_init d_Rejected_init d_Unknown_init t_LAST_POSITION t_MAX_TARGETS t_MAX_PIECES t_MAX_EDITS t_BATCH t_WORDS) : FnOk P w K mg base CX0 2 f_Plan_state_at d_Plan_state_at ["self", "version"] (sp_state_at C_Plan) := by
  refine T.F_Plan_state_at.ok sc_Plan_state_at (fun vs H Q E h => ?_) (fun cdv A outer s H vs Q E hr h => ?_)
  · obtain ⟨p, v, Ss, Es, S, i, rfl, _⟩ := h
    rfl
  · obtain ⟨p, v, Ss, Es, S, i, rfl, P, ver, eS, q⟩ := h
    refine ⟨_, (pss_cons (ps_if (pt_cmpR op_isN (pv 1) pe_non (nomark _))
      (pss_one (ps_ret (pe_ix ix_tup (pe_fld (pv 0) rfl) (pe_un un_neg pe_int) (fun _ _ => rfl))))
      pss_nil)
      (pss_cons (ps_if (PW.pt (pw_or (pt_not (pt_val (pe_call (ok_is_number T) (hr.mono (by decide)) (by rfl) T.g_is_number T.F_is_number.kp T.b_is_number .nil pass0 (pa_cons (pv 1) pa_nil)))) (pw_or1 (pt_not (pt_chain op_le op_le pe_int (pv 1) (pe_callB call_len_seq (by rfl) T.z_len PySem.boot_len (pa_cons (pe_fld (pv 0) rfl) pa_nil)))))))
      (pss_one ps_never)
      pss_nil)
      (pss_one (ps_ret (pe_ix ix_tup (pe_fld (pv 0) rfl) (pv 1) (fun _ _ => rfl)))))), ?_⟩
    obtain ⟨⟨dx, a, b, us, vs, hp, ha, sts, hb, eds⟩, pl⟩ := id P
    have lv := eds.length
    have lu := sts.length
    obtain ⟨s, x, y, xs, ys, eu, hs, hx, ix, hy, iy⟩ := sts.get eS
    have q := q s x y xs ys hs hx ix hy iy
    rcases ver with ⟨rfl, rfl⟩ | ⟨rfl, li⟩
    · refine ⟨_, rfl, rfl, _, rfl, iteT ?_⟩
      exact ⟨.ref p, rfl, p, C_Plan, dx, _, _, rfl, hp, T.cl_Plan, T.n_Plan_states, lk_states _ _ _, 1, rfl, a, us, -1, .ref s, rfl, rfl, SqT.of ha, atI_end (by rw [lu, pl]; exact eu), q⟩
    · refine ⟨_, rfl, rfl, _, rfl, iteF ?_⟩
      refine ⟨_, rfl, .int i, .int i, rfl, .int _, _, rfl, iteF ?_⟩
      refine ⟨_, rfl, _, _, rfl, rfl, _, rfl, ?_⟩
      rw [decide_eq_true (show (0 : Int) ≤ (i : Int) by omega)]
      refine iteT ⟨.ref p, rfl, p, C_Plan, dx, _, _, rfl, hp, T.cl_Plan, T.n_Plan_done, lk_done _ _ _, b, vs, rfl, .inr (SqT.of hb), _, _, rfl, rfl, _, rfl, ?_⟩
      rw [decide_eq_true (show (i : Int) ≤ (vs.length : Int) by omega)]
      refine iteF ?_
      exact ⟨.ref p, rfl, p, C_Plan, dx, _, _, rfl, hp, T.cl_Plan, T.n_Plan_states, lk_states _ _ _, _, rfl, a, us, i, .ref s, rfl, rfl, SqT.of ha, atI_nat eu, q⟩
def sp_side (C : Addr) (pc : Bool) : Sp := fun vs H Q _ => ∃ (p : Addr) (v : V) (Ss : List St2) (Es : List Ed) (S : St2) (i : Nat), vs = [.ref p, v] ∧ PlanAt C H p Ss Es ∧ IsVer v Es.length i ∧ Ss[i]? = some S ∧
  ∀ x xs, H x = some (.tup xs) → Ivs H xs (sideS pc S) → Q (.ref x) H
theorem ok_Plan_targets (T : Tx K mg f_is_number f_is_position f_is_tuple_of f_is_interval f_ascending_error f_targets_error f_is_pieces f_without_item f_is_edit f_copied_batch f_with_interval f_without_interval f_edited_state f_law_deck f_law_draw f_law_line f_law_interval f_law_intervals f_law_edit f_law_after f_law_right f_law_begun f_law_applied f_law_failing f_law_bad f_law_batch f_law f_Plan_init f_Plan_apply f_Plan_targets f_Plan_pieces f_Plan_edits f_Plan_record f_Plan_record_or_reject f_Plan_passes f_Plan_require_idle f_Plan_state_at f_Plan_len f_Plan_str f_BadInterval_init f_Duplicate_init f_BadEdit_init f_Rejected_init f_Unknown_init C_Plan X_BadInterval X_SpanError X_Unknown X_Duplicate X_Rejected X_BadEdit X_BadEdits X_Busy d_is_number d_is_position d_is_tuple_of d_is_interval d_ascending_error d_targets_error d_is_pieces d_without_item d_is_edit d_copied_batch d_with_interval d_without_interval d_edited_state d_law_deck d_law_draw d_law_line d_law_interval d_law_intervals d_law_edit d_law_after d_law_right d_law_begun d_law_applied d_law_failing d_law_bad d_law_batch d_law d_Plan_init d_Plan_apply d_Plan_targets d_Plan_pieces d_Plan_edits d_Plan_record d_Plan_record_or_reject d_Plan_passes d_Plan_require_idle d_Plan_state_at d_Plan_len d_Plan_str d_BadInterval_init d_Duplicate_init d_BadEdit_init d_Rejected_init d_Unknown_init t_LAST_POSITION t_MAX_TARGETS t_MAX_PIECES t_MAX_EDITS t_BATCH t_WORDS) : FnOk P w K mg base CX0 3 f_Plan_targets d_Plan_targets ["self", "version"] (sp_side C_Plan false) := by
  refine T.F_Plan_targets.ok sc_Plan_targets (fun vs H Q E h => ?_) (fun cdv A outer s H vs Q E hr h => ?_)
  · obtain ⟨p, v, Ss, Es, S, i, rfl, _⟩ := h
    rfl
  · obtain ⟨p, v, Ss, Es, S, i, rfl, P, ver, eS, q⟩ := h
    refine ⟨_, (pss_one (ps_ret (pe_ix ix_tup (pe_meth (pv 0) T.cl_Plan T.m_Plan_state_at (ok_Plan_state_at T) (hr.mono (by decide)) T.b_Plan_state_at .nil pass0 (pa_cons (pv 1) pa_nil)) pe_int (fun _ _ => rfl)))), ?_⟩
    obtain ⟨dx, a, b, us, vs, hp, _⟩ := id P.ex
    refine ⟨.ref p, rfl, p, dx, _, rfl, hp, lk_no _ _ _ (by decide +kernel), _, rfl, p, v, Ss, Es, S, i, rfl, P, ver, eS, fun t x y xs ys ht hx ix hy iy => ?_⟩
    exact ⟨t, _, 0, .ref x, rfl, rfl, SqT.of ht, rfl, q x xs hx ix⟩
theorem ok_Plan_pieces (T : Tx K mg f_is_number f_is_position f_is_tuple_of f_is_interval f_ascending_error f_targets_error f_is_pieces f_without_item f_is_edit f_copied_batch f_with_interval f_without_interval f_edited_state f_law_deck f_law_draw f_law_line f_law_interval f_law_intervals f_law_edit f_law_after f_law_right f_law_begun f_law_applied f_law_failing f_law_bad f_law_batch f_law f_Plan_init f_Plan_apply f_Plan_targets f_Plan_pieces f_Plan_edits f_Plan_record f_Plan_record_or_reject f_Plan_passes f_Plan_require_idle f_Plan_state_at f_Plan_len f_Plan_str f_BadInterval_init f_Duplicate_init f_BadEdit_init f_Rejected_init f_Unknown_init C_Plan X_BadInterval X_SpanError X_Unknown X_Duplicate X_Rejected X_BadEdit X_BadEdits X_Busy d_is_number d_is_position d_is_tuple_of d_is_interval d_ascending_error d_targets_error d_is_pieces d_without_item d_is_edit d_copied_batch d_with_interval d_without_interval d_edited_state d_law_deck d_law_draw d_law_line d_law_interval d_law_intervals d_law_edit d_law_after d_law_right d_law_begun d_law_applied d_law_failing d_law_bad d_law_batch d_law d_Plan_init d_Plan_apply d_Plan_targets d_Plan_pieces d_Plan_edits d_Plan_record d_Plan_record_or_reject d_Plan_passes d_Plan_require_idle d_Plan_state_at d_Plan_len d_Plan_str d_BadInterval_init d_Duplicate_init d_BadEdit_init d_Rejected_init d_Unknown_init t_LAST_POSITION t_MAX_TARGETS t_MAX_PIECES t_MAX_EDITS t_BATCH t_WORDS) : FnOk P w K mg base CX0 3 f_Plan_pieces d_Plan_pieces ["self", "version"] (sp_side C_Plan true) := by
  refine T.F_Plan_pieces.ok sc_Plan_pieces (fun vs H Q E h => ?_) (fun cdv A outer s H vs Q E hr h => ?_)
  · obtain ⟨p, v, Ss, Es, S, i, rfl, _⟩ := h
    rfl
  · obtain ⟨p, v, Ss, Es, S, i, rfl, P, ver, eS, q⟩ := h
    refine ⟨_, (pss_one (ps_ret (pe_ix ix_tup (pe_meth (pv 0) T.cl_Plan T.m_Plan_state_at (ok_Plan_state_at T) (hr.mono (by decide)) T.b_Plan_state_at .nil pass0 (pa_cons (pv 1) pa_nil)) pe_int (fun _ _ => rfl)))), ?_⟩
    obtain ⟨dx, a, b, us, vs, hp, _⟩ := id P.ex
    refine ⟨.ref p, rfl, p, dx, _, rfl, hp, lk_no _ _ _ (by decide +kernel), _, rfl, p, v, Ss, Es, S, i, rfl, P, ver, eS, fun t x y xs ys ht hx ix hy iy => ?_⟩
    exact ⟨t, _, 1, .ref y, rfl, rfl, SqT.of ht, rfl, q y ys hy iy⟩
def sp_edits (C : Addr) : Sp := fun vs H Q _ => ∃ (p : Addr) (Ss : List St2) (Es : List Ed), vs = [.ref p] ∧ PlanAt C H p Ss Es ∧ ∀ b vs, H b = some (.tup vs) → Eds H vs Es → Q (.ref b) H
theorem ok_Plan_edits (T : Tx K mg f_is_number f_is_position f_is_tuple_of f_is_interval f_ascending_error f_targets_error f_is_pieces f_without_item f_is_edit f_copied_batch f_with_interval f_without_interval f_edited_state f_law_deck f_law_draw f_law_line f_law_interval f_law_intervals f_law_edit f_law_after f_law_right f_law_begun f_law_applied f_law_failing f_law_bad f_law_batch f_law f_Plan_init f_Plan_apply f_Plan_targets f_Plan_pieces f_Plan_edits f_Plan_record f_Plan_record_or_reject f_Plan_passes f_Plan_require_idle f_Plan_state_at f_Plan_len f_Plan_str f_BadInterval_init f_Duplicate_init f_BadEdit_init f_Rejected_init f_Unknown_init C_Plan X_BadInterval X_SpanError X_Unknown X_Duplicate X_Rejected X_BadEdit X_BadEdits X_Busy d_is_number d_is_position d_is_tuple_of d_is_interval d_ascending_error d_targets_error d_is_pieces d_without_item d_is_edit d_copied_batch d_with_interval d_without_interval d_edited_state d_law_deck d_law_draw d_law_line d_law_interval d_law_intervals d_law_edit d_law_after d_law_right d_law_begun d_law_applied d_law_failing d_law_bad d_law_batch d_law d_Plan_init d_Plan_apply d_Plan_targets d_Plan_pieces d_Plan_edits d_Plan_record d_Plan_record_or_reject d_Plan_passes d_Plan_require_idle d_Plan_state_at d_Plan_len d_Plan_str d_BadInterval_init d_Duplicate_init d_BadEdit_init d_Rejected_init d_Unknown_init t_LAST_POSITION t_MAX_TARGETS t_MAX_PIECES t_MAX_EDITS t_BATCH t_WORDS) : FnOk P w K mg base CX0 1 f_Plan_edits d_Plan_edits ["self"] (sp_edits C_Plan) := by
  refine T.F_Plan_edits.ok sc_Plan_edits (fun vs H Q E h => ?_) (fun cdv A outer s H vs Q E hr h => ?_)
  · obtain ⟨p, Ss, Es, rfl, _⟩ := h
    rfl
  · obtain ⟨p, Ss, Es, rfl, P, q⟩ := h
    refine ⟨_, (pss_one (ps_ret (pe_fld (pv 0) rfl))), ?_⟩
    obtain ⟨⟨dx, a, b, us, vs, hp, ha, sts, hb, eds⟩, pl⟩ := id P
    exact ⟨.ref p, rfl, p, C_Plan, dx, _, _, rfl, hp, T.cl_Plan, T.n_Plan_done, lk_done _ _ _, q b vs hb eds⟩
def sp_plen (C : Addr) : Sp := fun vs H Q _ => ∃ (p : Addr) (Ss : List St2) (Es : List Ed), vs = [.ref p] ∧ PlanAt C H p Ss Es ∧ Q (.int (Es.length : Nat)) H
theorem ok_Plan_len (T : Tx K mg f_is_number f_is_position f_is_tuple_of f_is_interval f_ascending_error f_targets_error f_is_pieces f_without_item f_is_edit f_copied_batch f_with_interval f_without_interval f_edited_state f_law_deck f_law_draw f_law_line f_law_interval f_law_intervals f_law_edit f_law_after f_law_right f_law_begun f_law_applied f_law_failing f_law_bad f_law_batch f_law f_Plan_init f_Plan_apply f_Plan_targets f_Plan_pieces f_Plan_edits f_Plan_record f_Plan_record_or_reject f_Plan_passes f_Plan_require_idle f_Plan_state_at f_Plan_len f_Plan_str f_BadInterval_init f_Duplicate_init f_BadEdit_init f_Rejected_init f_Unknown_init C_Plan X_BadInterval X_SpanError X_Unknown X_Duplicate X_Rejected X_BadEdit X_BadEdits X_Busy d_is_number d_is_position d_is_tuple_of d_is_interval d_ascending_error d_targets_error d_is_pieces d_without_item d_is_edit d_copied_batch d_with_interval d_without_interval d_edited_state d_law_deck d_law_draw d_law_line d_law_interval d_law_intervals d_law_edit d_law_after d_law_right d_law_begun d_law_applied d_law_failing d_law_bad d_law_batch d_law d_Plan_init d_Plan_apply d_Plan_targets d_Plan_pieces d_Plan_edits d_Plan_record d_Plan_record_or_reject d_Plan_passes d_Plan_require_idle d_Plan_state_at d_Plan_len d_Plan_str d_BadInterval_init d_Duplicate_init d_BadEdit_init d_Rejected_init d_Unknown_init t_LAST_POSITION t_MAX_TARGETS t_MAX_PIECES t_MAX_EDITS t_BATCH t_WORDS) : FnOk P w K mg base CX0 1 f_Plan_len d_Plan_len ["self"] (sp_plen C_Plan) := by
  refine T.F_Plan_len.ok sc_Plan_len (fun vs H Q E h => ?_) (fun cdv A outer s H vs Q E hr h => ?_)
  · obtain ⟨p, Ss, Es, rfl, _⟩ := h
    rfl
  · obtain ⟨p, Ss, Es, rfl, P, q⟩ := h
    refine ⟨_, (pss_one (ps_ret (pe_callB call_len_seq (by rfl) T.z_len PySem.boot_len (pa_cons (pe_fld (pv 0) rfl) pa_nil)))), ?_⟩
    obtain ⟨⟨dx, a, b, us, vs, hp, ha, sts, hb, eds⟩, pl⟩ := id P
    have lv := eds.length
    refine ⟨.ref p, rfl, p, C_Plan, dx, _, _, rfl, hp, T.cl_Plan, T.n_Plan_done, lk_done _ _ _, b, vs, rfl, .inr (SqT.of hb), ?_⟩
    rw [lv]
    exact q

/-! ### the deck and a plan (deck without a table) -/
theorem Dk.noti {H : Hp} {d c : Addr} {n : Int} (h : Dk H d c n) {p C dx : Addr} {fs : List (Str × V)} (e : H p = some (.ins C dx fs)) : Off d c p := by
  obtain ⟨ys, z, _⟩ := h.cells
  exact ⟨ne_of e h.top (fun z => by cases z), ne_of e z (fun z => by cases z)⟩
theorem Dk.butp {H H' : Hp} {d c : Addr} {n : Int} (h : Dk H d c n) {p C dx : Addr} {fs : List (Str × V)} (e : H p = some (.ins C dx fs)) (b : But p H H') : Dk H' d c n := by
  obtain ⟨ys, z, w⟩ := h.cells
  exact ⟨b _ _ (ne_of h.top e (fun z => by cases z)) h.top, ys, b _ _ (ne_of z e (fun z => by cases z)) z, w⟩

/-! ### str(plan) -/
def strP (a b c : Int) : Str := (((((Str.empty ++ toString a) ++ " targets, ") ++ toString b) ++ " pieces, ") ++ toString c) ++ " edits"
theorem ts_len : ∀ n : Fin 100, ((toString ((n.val : Nat) : Int) : String) : Str).length ≤ 3 := by decide +kernel
theorem ts_le {n : Nat} (h : n < 100) : ((toString ((n : Nat) : Int) : String) : Str).length ≤ 3 := ts_len ⟨n, h⟩
theorem join6 (a b c : Str) : Str.join " " [a, "targets,", b, "pieces,", c, "edits"] = (((((Str.empty ++ a) ++ " targets, ") ++ b) ++ " pieces, ") ++ c) ++ " edits" := by
  show a ++ " " ++ ("targets," ++ " " ++ (b ++ " " ++ ("pieces," ++ " " ++ (c ++ " " ++ "edits")))) = _
  rw [show (" targets, " : Str) = " " ++ ("targets," ++ " ") by decide +kernel, show (" pieces, " : Str) = " " ++ ("pieces," ++ " ") by decide +kernel, show (" edits" : Str) = " " ++ "edits" by decide +kernel, Str.empty_append]
  simp only [Str.append_assoc]
def sp_pstr (C : Addr) : Sp := fun vs H Q _ => ∃ (p : Addr) (Ls : List St2) (S : St2) (Es : List Ed), vs = [.ref p] ∧ PlanAt C H p (Ls ++ [S]) Es ∧ StOk S ∧ Es.length ≤ 60 ∧ Q (.str (strP S.1.length S.2.length Es.length)) H
theorem ok_Plan_str (T : Tx K mg f_is_number f_is_position f_is_tuple_of f_is_interval f_ascending_error f_targets_error f_is_pieces f_without_item f_is_edit f_copied_batch f_with_interval f_without_interval f_edited_state f_law_deck f_law_draw f_law_line f_law_interval f_law_intervals f_law_edit f_law_after f_law_right f_law_begun f_law_applied f_law_failing f_law_bad f_law_batch f_law f_Plan_init f_Plan_apply f_Plan_targets f_Plan_pieces f_Plan_edits f_Plan_record f_Plan_record_or_reject f_Plan_passes f_Plan_require_idle f_Plan_state_at f_Plan_len f_Plan_str f_BadInterval_init f_Duplicate_init f_BadEdit_init f_Rejected_init f_Unknown_init C_Plan X_BadInterval X_SpanError X_Unknown X_Duplicate X_Rejected X_BadEdit X_BadEdits X_Busy d_is_number d_is_position d_is_tuple_of d_is_interval d_ascending_error d_targets_error d_is_pieces d_without_item d_is_edit d_copied_batch d_with_interval d_without_interval d_edited_state d_law_deck d_law_draw d_law_line d_law_interval d_law_intervals d_law_edit d_law_after d_law_right d_law_begun d_law_applied d_law_failing d_law_bad d_law_batch d_law d_Plan_init d_Plan_apply d_Plan_targets d_Plan_pieces d_Plan_edits d_Plan_record d_Plan_record_or_reject d_Plan_passes d_Plan_require_idle d_Plan_state_at d_Plan_len d_Plan_str d_BadInterval_init d_Duplicate_init d_BadEdit_init d_Rejected_init d_Unknown_init t_LAST_POSITION t_MAX_TARGETS t_MAX_PIECES t_MAX_EDITS t_BATCH t_WORDS) : FnOk P w K mg base CX0 4 f_Plan_str d_Plan_str ["self"] (sp_pstr C_Plan) := by
  refine T.F_Plan_str.ok sc_Plan_str (fun vs H Q E h => ?_) (fun cdv A outer s H vs Q E hr h => ?_)
  · obtain ⟨p, Ls, S, Es, rfl, _⟩ := h
    rfl
  · obtain ⟨p, Ls, S, Es, rfl, P, so, le, q⟩ := h
    refine ⟨_, (pss_one (ps_ret (pe_joined (PJ.cons (pe_fmt (pe_callB call_len_seq (by rfl) T.z_len PySem.boot_len (pa_cons (pe_meth0 (pv 0) T.cl_Plan T.m_Plan_targets (ok_Plan_targets T) (hr.mono (by decide)) T.b_Plan_targets.choose_spec.2 T.b_Plan_targets.choose_spec.1 pass0) pa_nil))) (PJ.cons pe_str (PJ.cons (pe_fmt (pe_callB call_len_seq (by rfl) T.z_len PySem.boot_len (pa_cons (pe_meth0 (pv 0) T.cl_Plan T.m_Plan_pieces (ok_Plan_pieces T) (hr.mono (by decide)) T.b_Plan_pieces.choose_spec.2 T.b_Plan_pieces.choose_spec.1 pass0) pa_nil))) (PJ.cons pe_str (PJ.cons (pe_fmt (pe_callB call_len_seq (by rfl) T.z_len PySem.boot_len (pa_cons (pe_fld (pv 0) rfl) pa_nil))) (PJ.cons pe_str PJ.nil))))))))), ?_⟩
    obtain ⟨⟨dx, a, b, us, vs, hp, ha, sts, hb, eds⟩, pl⟩ := id P
    have lv := eds.length
    have pl' : Ls.length + 1 = Es.length + 1 := by
      rw [List.length_append] at pl
      exact pl
    have eS : (Ls ++ [S])[Es.length]? = some S := by
      rw [List.getElem?_append_right (by omega), show Es.length - Ls.length = 0 by omega]
      rfl
    have l1 := ts_le (n := S.1.length) (by have := so.t.few; omega)
    have l2 := ts_le (n := S.2.length) (by have := so.p.few; omega)
    have l3 := ts_le (n := Es.length) (by omega)
    have big : ∀ n : Nat, n < 100 → ((n : Nat) : Int).natAbs.log2 < 1920 := fun n h => by
      rw [Int.natAbs_natCast]
      rcases Nat.eq_zero_or_pos n with z | z
      · rw [z]
        decide
      · exact (Nat.log2_lt (by omega)).mpr (Nat.lt_of_lt_of_le h (by decide +kernel))
    have sz : sizeLine = 16777216 := by decide
    refine ⟨.ref p, rfl, p, dx, _, rfl, hp, lk_no _ _ _ (by decide +kernel), p, .non, _, Es, S, Es.length, rfl, P, .inl ⟨rfl, rfl⟩, eS, fun x xs hx ix => ?_⟩
    have lx : xs.length = S.1.length := ix.length
    refine ⟨x, xs, rfl, .inr (SqT.of hx), .inr ⟨_, rfl, ?_, ?_⟩⟩
    · rw [lx]
      exact big _ (by have := so.t.few; omega)
    rw [lx]
    have k0 : (Str.empty : Str).length = 0 := rfl
    have k1 : (" targets, " : Str).length = 10 := by decide +kernel
    have k2 : (" pieces, " : Str).length = 9 := by decide +kernel
    have k3 : (" edits" : Str).length = 6 := by decide +kernel
    refine ⟨_, rfl, by rw [Str.length_append]; omega, ?_⟩
    refine ⟨_, rfl, by rw [Str.length_append, Str.length_append]; omega, ?_⟩
    refine ⟨.ref p, rfl, p, dx, _, rfl, hp, lk_no _ _ _ (by decide +kernel), p, .non, _, Es, S, Es.length, rfl, P, .inl ⟨rfl, rfl⟩, eS, fun y ys hy iy => ?_⟩
    have ly : ys.length = S.2.length := iy.length
    refine ⟨y, ys, rfl, .inr (SqT.of hy), .inr ⟨_, rfl, ?_, ?_⟩⟩
    · rw [ly]
      exact big _ (by have := so.p.few; omega)
    rw [ly]
    refine ⟨_, rfl, by rw [Str.length_append, Str.length_append, Str.length_append]; omega, ?_⟩
    refine ⟨_, rfl, by rw [Str.length_append, Str.length_append, Str.length_append, Str.length_append]; omega, ?_⟩
    refine ⟨.ref p, rfl, p, C_Plan, dx, _, _, rfl, hp, T.cl_Plan, T.n_Plan_done, lk_done _ _ _, b, vs, rfl, .inr (SqT.of hb), .inr ⟨_, rfl, ?_, ?_⟩⟩
    · rw [lv]
      exact big _ (by omega)
    rw [lv]
    refine ⟨_, rfl, by rw [Str.length_append, Str.length_append, Str.length_append, Str.length_append, Str.length_append]; omega, ?_⟩
    refine ⟨_, rfl, by rw [Str.length_append, Str.length_append, Str.length_append, Str.length_append, Str.length_append, Str.length_append]; omega, ?_⟩
    exact q

/-! ### t != () -/
section
variable {X : Cx}
def rNeE (K : PySem.W.Frag) : R2 := fun x y H Q => ∃ (a b : Addr) (xs : List V), x = .ref a ∧ y = .ref b ∧ SqT K H a xs ∧ SqT K H b [] ∧ Q (.bl (!xs.isEmpty)) H
theorem op_neE (units : X.A.units < cLine) : OpR X (compareOp .NotEq) (rNeE X.K) := by
  intro pins s σ H x y v u Q I rx ry h
  obtain ⟨a, b, xs, rfl, rfl, ha, hb, q⟩ := h
  cases rx
  cases ry
  obtain ⟨its, r1, p1, _⟩ := I.tuple ha
  obtain ⟨its2, r2, p2, _⟩ := I.tuple hb
  cases r2
  refine SeqAt.RcNeAt.tuples (e := fun _ => true) (show s.heap.IsTuple a its.toArray from p1) (show s.heap.IsTuple b ([] : List Value).toArray from p2) units (fun j h1 h2 => absurd h2 (Nat.not_lt_zero j)) X.prog X.w X.xe (EP X pins σ Q) ⟨.bl (!xs.isEmpty), H, I, ?_, q⟩
  cases r1 with
  | nil => rfl
  | cons r t => rfl
end

/-! ### what plan laws do -/
/-- a law's state of a plan: a list of two tuples -/
structure LawS (H : Hp) (l : Addr) (S : St2) : Prop where
  ex : ∃ (x y : Addr) (xs ys : List V), H l = some (.lst [.ref x, .ref y]) ∧ H x = some (.tup xs) ∧ Ivs H xs S.1 ∧ H y = some (.tup ys) ∧ Ivs H ys S.2
theorem LawS.keep {H H' : Hp} {l : Addr} {S : St2} (h : LawS H l S) (t : Tps H H') (k : ∀ us, H l = some (.lst us) → H' l = some (.lst us)) : LawS H' l S := by
  obtain ⟨x, y, xs, ys, e, ex, ix, ey, iy⟩ := h.ex
  exact ⟨x, y, xs, ys, k _ e, t _ _ ex, ix.tps t, t _ _ ey, iy.tps t⟩
theorem LawS.same {H H' : Hp} {l : Addr} {S : St2} (h : LawS H l S) (s : Same H H') : LawS H' l S := h.keep (Tps.same s) fun us e => s _ _ e
theorem LawS.side {H : Hp} {l : Addr} {S : St2} (h : LawS H l S) (pc : Bool) : ∃ (us : List V) (x : Addr) (xs : List V), H l = some (.lst us) ∧ us.length = 2 ∧ atI us (if pc = true then 1 else 0) = some (.ref x) ∧ ixN us.length (if pc = true then 1 else 0) = some (if pc = true then 1 else 0) ∧ H x = some (.tup xs) ∧ Ivs H xs (sideS pc S) ∧
    ∀ {H' : Hp} {l' x' : Addr} {xs' : List V} {ps : List (Int × Int)}, Tps H H' → H' l' = some (.lst (us.set (if pc = true then 1 else 0) (.ref x'))) → H' x' = some (.tup xs') → Ivs H' xs' ps → LawS H' l' (if pc = true then (S.1, ps) else (ps, S.2)) := by
  obtain ⟨x, y, xs, ys, e, ex, ix, ey, iy⟩ := h.ex
  cases pc with
  | false => exact ⟨_, x, xs, e, rfl, rfl, rfl, ex, ix, fun t e' ex' ix' => ⟨_, y, _, ys, e', ex', ix', t _ _ ey, iy.tps t⟩⟩
  | true => exact ⟨_, y, ys, e, rfl, rfl, rfl, ey, iy, fun t e' ex' ix' => ⟨x, _, xs, _, e', t _ _ ex, ix.tps t, ex', ix'⟩⟩
/-- an edit as a tuple -/
def EdAt (H : Hp) (t : Addr) (e : Ed) : Prop := ∃ a, H t = some (.tup [.str (wordE e), .ref a]) ∧ H a = some (.tup [.int e.q.1, .int e.q.2])
theorem EdAt.tps {H H' : Hp} {t : Addr} {e : Ed} (h : EdAt H t e) (s : Tps H H') : EdAt H' t e := by
  obtain ⟨a, h1, h2⟩ := h
  exact ⟨a, s _ _ h1, s _ _ h2⟩
theorem piece_w : ∀ add pc : Bool, inV (.str (wordOf add pc)) [.str "add_piece", .str "remove_piece"] = pc := by decide +kernel
theorem piece_in (e : Ed) : inV (.str (wordE e)) [.str "add_piece", .str "remove_piece"] = e.pc := piece_w e.add e.pc
theorem add_w : ∀ add pc : Bool, inV (.str (wordOf add pc)) [.str "add_target", .str "add_piece"] = add := by decide +kernel
theorem add_in (e : Ed) : inV (.str (wordE e)) [.str "add_target", .str "add_piece"] = e.add := add_w e.add e.pc
theorem step_side (S : St2) (e : Ed) : stepS S e = if e.pc = true then (S.1, upI e.add e.q (sideS e.pc S)) else (upI e.add e.q (sideS e.pc S), S.2) := by
  obtain ⟨add, pc, q⟩ := e
  cases pc <;> rfl
theorem StOk.side {S : St2} (h : StOk S) (pc : Bool) : SideOk 30 (sideS pc S) := by
  cases pc with
  | true => exact h.p
  | false => exact ⟨h.t.asc, h.t.ok, Nat.le_trans h.t.few (by decide)⟩
theorem wo_none {ps : List (Int × Int)} {q : Int × Int} (h : q ∉ ps) : wo ps q = ps := List.filter_eq_self.mpr fun x hx => by
  rw [decide_eq_false]
  · rfl
  · intro e
    exact h (e ▸ hx)
theorem ins_sorted {ps ps' : List (Int × Int)} {q : Int × Int} (asc : ps.Pairwise ltP) (n : q ∉ ps) (srt : ps'.Pairwise leP) (pm : ps'.Perm (ps ++ [q])) : ps' = insI q ps := by
  have nd : (ps ++ [q]).Nodup := List.nodup_append.mpr ⟨ltP_ndp asc, List.nodup_cons.mpr ⟨(fun h => nomatch h), List.nodup_nil⟩, fun z hz w hw e => n (by
    rw [List.mem_singleton.mp hw] at e
    exact e ▸ hz)⟩
  refine ltP_uniq (perm_leP_lt srt pm nd) (asc_insI asc n) fun z => ?_
  rw [pm.mem_iff, mem_insI, List.mem_append, List.mem_singleton]
  exact or_comm
def sp_law_after : Sp := fun vs H Q _ => ∃ (l t : Addr) (S : St2) (e : Ed), vs = [.ref l, .ref t] ∧ LawS H l S ∧ EdAt H t e ∧ StOk S ∧ Can S e ∧
  ∀ H' l', Same H H' → H l' = none → LawS H' l' (stepS S e) → Q (.ref l') H'
theorem ok_law_after (T : Tx K mg f_is_number f_is_position f_is_tuple_of f_is_interval f_ascending_error f_targets_error f_is_pieces f_without_item f_is_edit f_copied_batch f_with_interval f_without_interval f_edited_state f_law_deck f_law_draw f_law_line f_law_interval f_law_intervals f_law_edit f_law_after f_law_right f_law_begun f_law_applied f_law_failing f_law_bad f_law_batch f_law f_Plan_init f_Plan_apply f_Plan_targets f_Plan_pieces f_Plan_edits f_Plan_record f_Plan_record_or_reject f_Plan_passes f_Plan_require_idle f_Plan_state_at f_Plan_len f_Plan_str f_BadInterval_init f_Duplicate_init f_BadEdit_init f_Rejected_init f_Unknown_init C_Plan X_BadInterval X_SpanError X_Unknown X_Duplicate X_Rejected X_BadEdit X_BadEdits X_Busy d_is_number d_is_position d_is_tuple_of d_is_interval d_ascending_error d_targets_error d_is_pieces d_without_item d_is_edit d_copied_batch d_with_interval d_without_interval d_edited_state d_law_deck d_law_draw d_law_line d_law_interval d_law_intervals d_law_edit d_law_after d_law_right d_law_begun d_law_applied d_law_failing d_law_bad d_law_batch d_law d_Plan_init d_Plan_apply d_Plan_targets d_Plan_pieces d_Plan_edits d_Plan_record d_Plan_record_or_reject d_Plan_passes d_Plan_require_idle d_Plan_state_at d_Plan_len d_Plan_str d_BadInterval_init d_Duplicate_init d_BadEdit_init d_Rejected_init d_Unknown_init t_LAST_POSITION t_MAX_TARGETS t_MAX_PIECES t_MAX_EDITS t_BATCH t_WORDS) : FnOk P w K mg base CX0 1 f_law_after d_law_after ["_law_state", "_law_edit_here"] sp_law_after := by
  refine T.F_law_after.ok sc_law_after (fun vs H Q E h => ?_) (fun cdv A outer s H vs Q E hr h => ?_)
  · obtain ⟨l, t, S, e, rfl, _⟩ := h
    rfl
  · obtain ⟨l, t, S, e, rfl, hl, ht, so, can, q⟩ := h
    refine ⟨_, (pss_cons (ps_asg (pv 1) (pg_tup rfl (pgs_cons (pg_name (i := 2) sc_law_after.nd rfl (Or.inl rfl)) (pgs_cons (pg_name (i := 3) sc_law_after.nd rfl (Or.inr rfl)) pgs_nil))))
      (pss_cons (ps_set (i := 4) sc_law_after.nd rfl (Or.inl rfl) (pe_callTy call_int1 (by rfl) T.z_int (by decide +kernel) (pa_cons (pe_cmpR op_in_seq (pv 2) (pe_tup (pa_cons pe_str (pa_cons pe_str pa_nil))) (by rfl)) pa_nil)))
      (pss_cons (ps_setLc (i := 5) (own := [("_law_one", 6)]) (g := (gName 6)) (by rfl) sc_law_after.nd rfl rfl (sw_true rfl rfl rfl (by decide +kernel)) (pi_tup (pe_ix ix_list (pv 0) (pv 4) (fun _ _ => rfl))) (blkOk_by (own := [("_law_one", 6)]) (N := N_law_after) (sc := defScope s_law_after) (by decide +kernel)) (fun _ _ _ _ _ => (pg_name (i := 6) sc_law_after.nd rfl (Or.inl rfl))) (fun _ _ _ _ _ => pts_one (pt_cmpR (show OpR _ (compareOp .NotEq) (rNeD K) from (op_neD hr.units)) (pv 6) (pv 3) (nomark _))) (fun _ _ _ _ _ => (pv 6)))
      (pss_cons (ps_if (pt_cmpR op_in_seq (pv 2) (pe_tup (pa_cons pe_str (pa_cons pe_str pa_nil))) (by rfl))
      (pss_one (ps_set (i := 5) sc_law_after.nd rfl (Or.inl rfl) (pe_callB (cr_sortT (d := 2) (B := 10 ^ 13) (by decide)) (by rfl) T.z_sorted (by decide +kernel) (pa_cons (pe_op op_cat (pv 5) (pe_lst (pa_cons (pv 3) pa_nil))) pa_nil))))
      pss_nil)
      (pss_cons (ps_set (i := 7) sc_law_after.nd rfl (Or.inl rfl) (pe_callTy call_list_of (by rfl) T.z_list (by decide +kernel) (pa_cons (pv 0) pa_nil)))
      (pss_cons (ps_asg (pe_callTy call_tuple_of (by rfl) T.z_tuple (by decide +kernel) (pa_cons (pv 5) pa_nil)) (pg_sub (pv 7) (pv 4) set_list))
      (pss_one (ps_ret (pv 7))))))))), ?_⟩
    obtain ⟨us, x, xs, el, us2, ax, ixn, hx, ix, put⟩ := hl.side e.pc
    obtain ⟨a, h1, h2⟩ := ht
    refine ⟨.ref t, rfl, t, _, rfl, SqT.of h1, rfl, .str (wordE e), [.ref a], rfl, .ref a, [], rfl, rfl, ?_⟩
    refine ⟨_, rfl, by show 2 ≤ sizeLine; decide, fun w nw => ?_⟩
    have s1 := same_new (o := .tup [.str "add_piece", .str "remove_piece"]) nw
    have ew := upd_same (H := H) (a := w) (o := .tup [.str "add_piece", .str "remove_piece"])
    generalize upd H w (.tup [.str "add_piece", .str "remove_piece"]) = H1 at *
    refine ⟨w, _, rfl, .inr (SqT.of ew), rfl, rfl, ?_⟩
    rw [piece_in e]
    refine .inr ⟨_, rfl, ?_⟩
    have el1 := s1 _ _ el
    have hx1 := s1 _ _ hx
    have ix1 := ix.same s1
    have h21 := s1 _ _ h2
    have lx := ix.length
    refine ⟨.ref l, rfl, _, rfl, l, us, (if e.pc = true then 1 else 0), .ref x, rfl, rfl, SqL.of el1, ax, x, rfl, ⟨_, SqT.of hx1⟩, fun D nD => ?_⟩
    refine lcT (K := K) (a := x) (xs := xs) (fun j H' ws => Ivs H' ws (((sideS e.pc S).take j).filter fun z => !decide (z = e.q))) nD (fun H' s => SqT.of (s _ _ (hx1))) (by have := so.t.few; have := so.p.few; cases hp : e.pc <;> rw [hp] at lx <;> (unfold sideS at lx; simp only [if_true, if_false, Bool.false_eq_true] at lx; omega)) (fun _ _ _ _ t r => r.tps t) (fun j H' ws r => (by rw [r.length]; exact Nat.le_trans (List.length_filter_le _ _) (List.length_take_le _ _))) (fun _ => .nil) ?_ ?_
    · rintro j z H' N acc hj sj eA sz r no yes
      obtain ⟨b, u, v, rfl, exy, hb⟩ := ix1.get hj
      refine ⟨rfl, .ref b, rfl, .ref a, rfl, _, _, dp2 (sj _ _ hb), dp2 (sj _ _ h21), rfl, rfl, _, rfl, ?_⟩
      rw [eqv_pair]
      refine ite2 (fun c => ?_) (fun c => ?_)
      · refine ⟨.ref b, rfl, yes H' _ (Same.refl _) ?_⟩
        rw [take_filter exy, if_pos c]
        exact r.snoc (sj _ _ hb)
      · refine no H' (Same.refl _) ?_
        rw [take_filter exy, if_neg c, List.append_nil]
        exact r
    intro H2 wt s2 eD r
    rw [lx, List.take_length] at r
    have s12 := s1.trans s2
    have el2 := s12 _ _ el
    refine ⟨_, rfl, by show 2 ≤ sizeLine; decide, fun w2 nw2 => ?_⟩
    have s3 := same_new (o := .tup [.str "add_target", .str "add_piece"]) nw2
    have ew2 := upd_same (H := H2) (a := w2) (o := .tup [.str "add_target", .str "add_piece"])
    generalize upd H2 w2 (.tup [.str "add_target", .str "add_piece"]) = H3 at *
    refine ⟨w2, _, rfl, .inr (SqT.of ew2), rfl, rfl, ?_⟩
    rw [add_in e]
    have s13 := s12.trans s3
    have eD3 := s3 _ _ eD
    have r3 : Ivs H3 wt (wo (sideS e.pc S) e.q) := r.same s3
    have sd := so.side e.pc
    have lwt := r3.length
    have lwo := wo_len (sideS e.pc S) e.q
    have fw := sd.few
    cases hA : e.add with
    | true =>
      refine ⟨_, rfl, iteT ?_⟩
      have no := (can.no hA).1
      refine ⟨.ref D, rfl, .ref a, rfl, by show 1 ≤ sizeLine; decide, fun u1 nu1 => ?_⟩
      have s4 := same_new (o := .lst [.ref a]) nu1
      have eu1 := upd_same (H := H3) (a := u1) (o := .lst [.ref a])
      generalize upd H3 u1 (.lst [.ref a]) = H4 at *
      refine ⟨D, u1, wt, [.ref a], rfl, rfl, s4 _ _ eD3, eu1, by rw [show sizeLine = 16777216 by decide]; show wt.length + 1 ≤ _; omega, fun g ng => ?_⟩
      have s4b := same_new (o := .lst (wt ++ [.ref a])) ng
      have eg := upd_same (H := H4) (a := g) (o := .lst (wt ++ [.ref a]))
      generalize upd H4 g (.lst (wt ++ [.ref a])) = H4b at *
      have s34 := s4.trans s4b
      have s14 := s13.trans s34
      dsimp only [tNil]
      refine sort_pairs (SqL.of eg) ((r3.same s34).append (.cons (s14 _ _ h2) .nil)) (by rw [List.length_append]; show _ + 1 < 64; omega) (fun z hz => ?_) (fun H5 l2 us' ps' s5 nl2 el2' iv2 srt pm => ?_)
      · have b : (0 ≤ z.1 ∧ z.1 ≤ z.2) ∧ z.2 ≤ 1000000000000 := by
          rcases List.mem_append.mp hz with h | h
          · exact sd.ok z (wo_sub h)
          · rw [List.mem_singleton.mp h]
            exact can.ok
        exact ⟨⟨b.1.1, by omega⟩, by omega, by omega⟩
      have s15 := s14.trans s5
      rw [wo_none no] at pm

      have el5 := s15 _ _ el
      refine ⟨.ref l, rfl, l, us, rfl, .inl (SqL.of el5), fun u nu => ?_⟩
      have nu0 : H u = none := s15.free nu
      have s6 := same_new (o := .lst us) nu
      have eu := upd_same (H := H5) (a := u) (o := .lst us)
      generalize upd H5 u (.lst us) = H6 at *
      refine ⟨.ref l2, rfl, l2, us', rfl, .inl ⟨SqL.of (s6 _ _ el2'), fun p np => ?_⟩⟩
      have s7 := same_new (o := .tup us') np
      have ep := upd_same (H := H6) (a := p) (o := .tup us')
      generalize upd H6 p (.tup us') = H7 at *
      have s57 := s6.trans s7
      refine ⟨.ref u, rfl, _, rfl, u, us, (if e.pc = true then 1 else 0), (if e.pc = true then 1 else 0), rfl, rfl, s7 _ _ eu, ixn, ?_⟩
      have sAll := same_off (o := .lst (us.set (if e.pc = true then 1 else 0) (.ref p))) nu0 (s15.trans s57)
      have t7 : Tps H7 (upd H7 u (.lst (us.set (if e.pc = true then 1 else 0) (.ref p)))) := Tps.lst (s7 _ _ eu)
      refine ⟨.ref u, rfl, q _ u sAll nu0 ?_⟩
      rw [step_side]
      exact put (ps := upI e.add e.q (sideS e.pc S)) (Tps.same sAll) upd_same (t7 _ _ ep) (by
        rw [show upI e.add e.q (sideS e.pc S) = ps' from (by rw [hA, ins_sorted sd.asc no srt pm]; rfl)]
        exact (iv2.same s57).tps t7)
    | false =>
      refine ⟨_, rfl, iteF ?_⟩

      have el5 := s13 _ _ el
      refine ⟨.ref l, rfl, l, us, rfl, .inl (SqL.of el5), fun u nu => ?_⟩
      have nu0 : H u = none := s13.free nu
      have s6 := same_new (o := .lst us) nu
      have eu := upd_same (H := H3) (a := u) (o := .lst us)
      generalize upd H3 u (.lst us) = H6 at *
      refine ⟨.ref D, rfl, D, wt, rfl, .inl ⟨SqL.of (s6 _ _ eD3), fun p np => ?_⟩⟩
      have s7 := same_new (o := .tup wt) np
      have ep := upd_same (H := H6) (a := p) (o := .tup wt)
      generalize upd H6 p (.tup wt) = H7 at *
      have s57 := s6.trans s7
      refine ⟨.ref u, rfl, _, rfl, u, us, (if e.pc = true then 1 else 0), (if e.pc = true then 1 else 0), rfl, rfl, s7 _ _ eu, ixn, ?_⟩
      have sAll := same_off (o := .lst (us.set (if e.pc = true then 1 else 0) (.ref p))) nu0 (s13.trans s57)
      have t7 : Tps H7 (upd H7 u (.lst (us.set (if e.pc = true then 1 else 0) (.ref p)))) := Tps.lst (s7 _ _ eu)
      refine ⟨.ref u, rfl, q _ u sAll nu0 ?_⟩
      rw [step_side]
      exact put (ps := upI e.add e.q (sideS e.pc S)) (Tps.same sAll) upd_same (t7 _ _ ep) (by
        rw [show upI e.add e.q (sideS e.pc S) = wo (sideS e.pc S) e.q from (by rw [hA]; rfl)]
        exact (r3.same s57).tps t7)
theorem LawS.off {H : Hp} {l : Addr} {S : St2} (h : LawS H l S) {u : Addr} (n : H u = none) : u ≠ l := by
  obtain ⟨x, y, xs, ys, e, _⟩ := h.ex
  exact (ne_of_none e n).symm
/-! ### what is told of a plan -/
theorem sm_word : ∀ add pc : Bool, Sm 100 0 (.str (wordOf add pc))
  | true, true => ⟨rfl, by decide +kernel, by decide +kernel, Nat.le_refl _⟩
  | true, false => ⟨rfl, by decide +kernel, by decide +kernel, Nat.le_refl _⟩
  | false, true => ⟨rfl, by decide +kernel, by decide +kernel, Nat.le_refl _⟩
  | false, false => ⟨rfl, by decide +kernel, by decide +kernel, Nat.le_refl _⟩
theorem sm_pr {q : Int × Int} (h : (0 ≤ q.1 ∧ q.1 ≤ q.2) ∧ q.2 ≤ 1000000000000) : Sm 202 1 (pairD q) := by
  refine (Sm.tup (n := 100) (dp := 0) fun x hx => ?_).mono (by show 2 * 101 ≤ 202; decide) (Nat.le_refl _)
  have b1 : q.1.natAbs < 10 ^ 30 := Nat.lt_of_le_of_lt (show q.1.natAbs ≤ 1000000000000 by omega) (by decide)
  have b2 : q.2.natAbs < 10 ^ 30 := Nat.lt_of_le_of_lt (show q.2.natAbs ≤ 1000000000000 by omega) (by decide)
  rcases List.mem_cons.mp hx with rfl | hx
  · exact Sm.int b1
  · rw [List.mem_singleton.mp hx]
    exact Sm.int b2
def EdOk (e : Ed) : Prop := (0 ≤ e.q.1 ∧ e.q.1 ≤ e.q.2) ∧ e.q.2 ≤ 1000000000000
theorem sm_ed {e : Ed} (h : EdOk e) : Sm 406 2 (edD e) := by
  refine (Sm.tup (n := 202) (dp := 1) fun x hx => ?_).mono (by show 2 * 203 ≤ 406; decide) (Nat.le_refl _)
  rcases List.mem_cons.mp hx with rfl | hx
  · exact (sm_word _ _).mono (by decide) (by decide)
  · rw [List.mem_singleton.mp hx]
    exact sm_pr h
theorem sm_prs {n : Nat} {ps : List (Int × Int)} (h : SideOk n ps) (hn : n ≤ 30) : Sm 6090 2 (.tuple (ps.map pairD)) := by
  refine (Sm.tup (n := 202) (dp := 1) fun x hx => ?_).mono (by rw [List.length_map]; have := h.few; omega) (by decide)
  obtain ⟨q, hq, rfl⟩ := List.mem_map.mp hx
  exact sm_pr (h.ok q hq)
theorem sm_eds {es : List Ed} (h : ∀ e ∈ es, EdOk e) (l : es.length ≤ 60) : Sm 24420 3 (.tuple (es.map edD)) := by
  refine (Sm.tup (n := 406) (dp := 2) fun x hx => ?_).mono (by rw [List.length_map]; omega) (by decide)
  obtain ⟨q, hq, rfl⟩ := List.mem_map.mp hx
  exact sm_ed (h q hq)
def told3 (S : St2) (Es : List Ed) : PyData := .list [.tuple (S.1.map pairD), .tuple (S.2.map pairD), .tuple (Es.map edD)]
theorem sm_told3 {S : St2} {Es : List Ed} (so : StOk S) (h : ∀ e ∈ Es, EdOk e) (l : Es.length ≤ 60) : Sm 100000 4 (told3 S Es) := by
  refine (Sm.lst (n := 24420) (dp := 3) fun x hx => ?_).mono (by show 3 * 24421 ≤ 100000; decide) (Nat.le_refl _)
  rcases List.mem_cons.mp hx with rfl | hx
  · exact (sm_prs so.t (by decide)).mono (by decide) (by decide)
  rcases List.mem_cons.mp hx with rfl | hx
  · exact (sm_prs so.p (by decide)).mono (by decide) (by decide)
  · rw [List.mem_singleton.mp hx]
    exact sm_eds h l
theorem big_ok {n : Nat} (h : n < 100) : ((n : Nat) : Int).natAbs.log2 < 1920 := by
  rw [Int.natAbs_natCast]
  rcases Nat.eq_zero_or_pos n with z | z
  · rw [z]
    decide
  · exact (Nat.log2_lt (by omega)).mpr (Nat.lt_of_lt_of_le h (by decide +kernel))
def sp_law_right (C : Addr) : Sp := fun vs H Q _ => ∃ (p l le : Addr) (Ls : List St2) (S : St2) (Es : List Ed) (evs : List V), vs = [.ref p, .ref l, .ref le] ∧ PlanAt C H p (Ls ++ [S]) Es ∧ StOk S ∧ LawS H l S ∧ H le = some (.lst evs) ∧ Eds H evs Es ∧ Es.length ≤ 60 ∧ (∀ e ∈ Es, EdOk e) ∧
  ∀ H', Same H H' → Q (.bl true) H'
theorem ok_law_right (T : Tx K mg f_is_number f_is_position f_is_tuple_of f_is_interval f_ascending_error f_targets_error f_is_pieces f_without_item f_is_edit f_copied_batch f_with_interval f_without_interval f_edited_state f_law_deck f_law_draw f_law_line f_law_interval f_law_intervals f_law_edit f_law_after f_law_right f_law_begun f_law_applied f_law_failing f_law_bad f_law_batch f_law f_Plan_init f_Plan_apply f_Plan_targets f_Plan_pieces f_Plan_edits f_Plan_record f_Plan_record_or_reject f_Plan_passes f_Plan_require_idle f_Plan_state_at f_Plan_len f_Plan_str f_BadInterval_init f_Duplicate_init f_BadEdit_init f_Rejected_init f_Unknown_init C_Plan X_BadInterval X_SpanError X_Unknown X_Duplicate X_Rejected X_BadEdit X_BadEdits X_Busy d_is_number d_is_position d_is_tuple_of d_is_interval d_ascending_error d_targets_error d_is_pieces d_without_item d_is_edit d_copied_batch d_with_interval d_without_interval d_edited_state d_law_deck d_law_draw d_law_line d_law_interval d_law_intervals d_law_edit d_law_after d_law_right d_law_begun d_law_applied d_law_failing d_law_bad d_law_batch d_law d_Plan_init d_Plan_apply d_Plan_targets d_Plan_pieces d_Plan_edits d_Plan_record d_Plan_record_or_reject d_Plan_passes d_Plan_require_idle d_Plan_state_at d_Plan_len d_Plan_str d_BadInterval_init d_Duplicate_init d_BadEdit_init d_Rejected_init d_Unknown_init t_LAST_POSITION t_MAX_TARGETS t_MAX_PIECES t_MAX_EDITS t_BATCH t_WORDS) (hM : ∃ mm, base.Ns sysModules mm) : FnG P w K mg base 7 f_law_right d_law_right ["_law_plan", "_law_state", "_law_edits"] (sp_law_right C_Plan) := by
  refine FnG.of T.F_law_right sc_law_right (fun {vs H Q} h => ?_) (fun cdv A outer s H vs Q hr hq h => ?_)
  · obtain ⟨p, l, le, Ls, S, Es, evs, rfl, _⟩ := h
    rfl
  · obtain ⟨p, l, le, Ls, S, Es, evs, rfl, P, so, hl, hle, ev, lE, eok, q⟩ := h
    refine ⟨_, (pss_cons (ps_if (pt_cmpR op_ne (pe_callB (call_reprD hq hr.units) (by rfl) T.z_repr (by decide +kernel) (pa_cons (pe_lst (pa_cons (pe_meth0 (pv 0) T.cl_Plan T.m_Plan_targets (ok_Plan_targets T) (hr.mono (by decide)) T.b_Plan_targets.choose_spec.2 T.b_Plan_targets.choose_spec.1 pass0) (pa_cons (pe_meth0 (pv 0) T.cl_Plan T.m_Plan_pieces (ok_Plan_pieces T) (hr.mono (by decide)) T.b_Plan_pieces.choose_spec.2 T.b_Plan_pieces.choose_spec.1 pass0) (pa_cons (pe_meth0 (pv 0) T.cl_Plan T.m_Plan_edits (ok_Plan_edits T) (hr.mono (by decide)) T.b_Plan_edits .nil pass0) pa_nil)))) pa_nil)) (pe_callB (call_reprD hq hr.units) (by rfl) T.z_repr (by decide +kernel) (pa_cons (pe_lst (pa_cons (pe_ix ix_list (pv 1) pe_int (fun _ _ => rfl)) (pa_cons (pe_ix ix_list (pv 1) pe_int (fun _ _ => rfl)) (pa_cons (pe_callTy call_tuple_of (by rfl) T.z_tuple (by decide +kernel) (pa_cons (pv 2) pa_nil)) pa_nil)))) pa_nil)) (nomark _))
      (pss_one (ps_ret pe_bl))
      pss_nil)
      (pss_cons (ps_set (i := 3) sc_law_right.nd rfl (Or.inl rfl) (pe_lst (pa_cons (pe_callTy call_str_int (by rfl) T.z_str (by decide +kernel) (pa_cons (pe_callB call_len_seq (by rfl) T.z_len PySem.boot_len (pa_cons (pe_ix ix_list (pv 1) pe_int (fun _ _ => rfl)) pa_nil)) pa_nil)) (pa_cons pe_str (pa_cons (pe_callTy call_str_int (by rfl) T.z_str (by decide +kernel) (pa_cons (pe_callB call_len_seq (by rfl) T.z_len PySem.boot_len (pa_cons (pe_ix ix_list (pv 1) pe_int (fun _ _ => rfl)) pa_nil)) pa_nil)) (pa_cons pe_str (pa_cons (pe_callTy call_str_int (by rfl) T.z_str (by decide +kernel) (pa_cons (pe_callB call_len_seq (by rfl) T.z_len PySem.boot_len (pa_cons (pv 2) pa_nil)) pa_nil)) (pa_cons pe_str pa_nil))))))))
      (pss_one (ps_ret (pe_and (pe_cmpR op_eq (pe_callTy (cr_strOwn (ok_Plan_str T) T.m_Plan_str.at_ T.m_Plan_str.fn T.b_Plan_str pass0 (hr.mono (by decide))) (by rfl) T.z_str (by decide +kernel) (pa_cons (pv 0) pa_nil)) (pe_join pe_str (pv 3)) (nomark _)) (pe_one (pe_cmpR op_eq (pe_callB (cr_lenOwn (ok_Plan_len T) T.m_Plan_len.at_ T.m_Plan_len.fn T.b_Plan_len pass0 (hr.mono (by decide))) (by rfl) T.z_len PySem.boot_len (pa_cons (pv 0) pa_nil)) (pe_callB call_len_seq (by rfl) T.z_len PySem.boot_len (pa_cons (pv 2) pa_nil)) (nomark _)))))))), ?_⟩
    obtain ⟨⟨dx, a, b, us, vs, hp, ha, sts, hb, eds⟩, pl⟩ := id P
    have lv := eds.length
    have pl' : Ls.length + 1 = Es.length + 1 := by
      rw [List.length_append] at pl
      exact pl
    have eS : (Ls ++ [S])[Es.length]? = some S := by
      rw [List.getElem?_append_right (by omega), show Es.length - Ls.length = 0 by omega]
      rfl
    obtain ⟨lx, ly, lxs, lys, el, elx, ilx, ely, ily⟩ := hl.ex
    have sm := sm_told3 so eok lE
    refine ⟨.ref p, rfl, p, dx, _, rfl, hp, lk_no _ _ _ (by decide +kernel), p, .non, _, Es, S, Es.length, rfl, P, .inl ⟨rfl, rfl⟩, eS, fun x xs hx ix => ?_⟩
    refine ⟨.ref p, rfl, p, dx, _, rfl, hp, lk_no _ _ _ (by decide +kernel), p, .non, _, Es, S, Es.length, rfl, P, .inl ⟨rfl, rfl⟩, eS, fun y ys hy iy => ?_⟩
    refine ⟨.ref p, rfl, p, dx, _, rfl, hp, lk_no _ _ _ (by decide +kernel), p, _, Es, rfl, P, fun bb vs' hb' eds' => ?_⟩
    refine ⟨by show 3 ≤ sizeLine; decide, fun g ng => ?_⟩
    have s1 := same_new (o := .lst [.ref x, .ref y, .ref bb]) ng
    have eg := upd_same (H := H) (a := g) (o := .lst [.ref x, .ref y, .ref bb])
    generalize upd H g (.lst [.ref x, .ref y, .ref bb]) = H1 at *
    have d1 : Dp K H1 (.ref g) (told3 S Es) := .lst (SqL.of eg) (.cons (.tup (SqT.of (s1 _ _ hx)) (ix.same s1).dp) (.cons (.tup (SqT.of (s1 _ _ hy)) (iy.same s1).dp) (.cons (.tup (SqT.of (s1 _ _ hb')) (eds'.tps (Tps.same s1)).dp) .nil)))
    generalize eDD : told3 S Es = dd at *
    refine ⟨.ref g, dd, 100000, 4, rfl, d1, sm, by decide, by decide, ?_⟩
    refine ⟨.ref l, rfl, l, _, 0, .ref lx, rfl, rfl, SqL.of (s1 _ _ el), rfl, .ref l, rfl, l, _, 1, .ref ly, rfl, rfl, SqL.of (s1 _ _ el), rfl, .ref le, rfl, le, evs, rfl, .inl ⟨SqL.of (s1 _ _ hle), fun g2 ng2 => ?_⟩⟩
    have s2 := same_new (o := .tup evs) ng2
    have eg2 := upd_same (H := H1) (a := g2) (o := .tup evs)
    generalize upd H1 g2 (.tup evs) = H2 at *
    refine ⟨by show 3 ≤ sizeLine; decide, fun g3 ng3 => ?_⟩
    have s3 := same_new (o := .lst [.ref lx, .ref ly, .ref g2]) ng3
    have eg3 := upd_same (H := H2) (a := g3) (o := .lst [.ref lx, .ref ly, .ref g2])
    generalize upd H2 g3 (.lst [.ref lx, .ref ly, .ref g2]) = H3 at *
    have s13 := s1.trans (s2.trans s3)
    have s23 := s2.trans s3
    have d3 : Dp K H3 (.ref g3) dd := by
      rw [← eDD]
      exact .lst (SqL.of eg3) (.cons (.tup (SqT.of (s13 _ _ elx)) (ilx.same s13).dp) (.cons (.tup (SqT.of (s13 _ _ ely)) (ily.same s13).dp) (.cons (.tup (SqT.of (s3 _ _ eg2)) (ev.tps (Tps.same s13)).dp) .nil)))
    refine ⟨.ref g3, dd, 100000, 4, rfl, d3, sm, by decide, by decide, ?_⟩
    refine ⟨rfl, _, rfl, iteNS rfl ?_⟩
    have lxl : lxs.length = S.1.length := ilx.length
    have lyl : lys.length = S.2.length := ily.length
    have lel : evs.length = Es.length := ev.length
    have f1 := so.t.few
    have f2 := so.p.few
    have P3 := P.same s13
    have el3 := s13 _ _ el
    refine ⟨.ref l, rfl, l, _, 0, .ref lx, rfl, rfl, SqL.of el3, rfl, lx, lxs, rfl, .inr (SqT.of (s13 _ _ elx)), _, rfl, by rw [lxl]; exact big_ok (by omega), ?_⟩
    rw [lxl]
    refine ⟨.ref l, rfl, l, _, 1, .ref ly, rfl, rfl, SqL.of el3, rfl, ly, lys, rfl, .inr (SqT.of (s13 _ _ ely)), _, rfl, by rw [lyl]; exact big_ok (by omega), ?_⟩
    rw [lyl]
    refine ⟨.ref le, rfl, le, evs, rfl, .inl (SqL.of (s13 _ _ hle)), _, rfl, by rw [lel]; exact big_ok (by omega), ?_⟩
    rw [lel]
    refine ⟨by show 6 ≤ sizeLine; decide, fun w nw => ?_⟩
    have s4 := same_new (o := .lst ([(toString (S.1.length : Int) : Str), "targets,", (toString (S.2.length : Int) : Str), "pieces,", (toString (Es.length : Int) : Str), "edits"].map V.str)) nw
    have ew := upd_same (H := H3) (a := w) (o := .lst ([(toString (S.1.length : Int) : Str), "targets,", (toString (S.2.length : Int) : Str), "pieces,", (toString (Es.length : Int) : Str), "edits"].map V.str))
    have P4 := P3.same s4
    obtain ⟨dx4, a4, b4, us4, vs4, hp4, _⟩ := id P4.ex
    refine ⟨.ref p, rfl, p, dx4, _, rfl, hp4, p, Ls, S, Es, rfl, P4, so, lE, _, rfl, ?_⟩
    have l1 := ts_le (n := S.1.length) (by omega)
    have l2 := ts_le (n := S.2.length) (by omega)
    have l3 := ts_le (n := Es.length) (by omega)
    refine ⟨⟨_, rfl⟩, .ref w, rfl, _, w, [(toString (S.1.length : Int) : Str), "targets,", (toString (S.2.length : Int) : Str), "pieces,", (toString (Es.length : Int) : Str), "edits"], rfl, rfl, .inl (SqL.of ew), ?_, ?_⟩
    · have k1 : ("targets," : Str).length = 8 := by decide +kernel
      have k2 : ("pieces," : Str).length = 7 := by decide +kernel
      have k3 : ("edits" : Str).length = 5 := by decide +kernel
      have k4 : (" " : Str).length = 1 := by decide +kernel
      show (_ + (_ + (_ + (_ + (_ + (_ + 0)))))) + 6 * _ ≤ _
      dsimp only
      omega
    have ej : V.str (strP S.1.length S.2.length Es.length) = V.str (Txt.join " " [(toString (S.1.length : Int) : Str), "targets,", (toString (S.2.length : Int) : Str), "pieces,", (toString (Es.length : Int) : Str), "edits"]) := by
      rw [show ∀ a b, Txt.join a b = Str.join a b from fun a b => StrLaws.glued_eq_join a b, join6]
      rfl
    refine ⟨rfl, _, rfl, ?_⟩
    rw [← ej, decide_eq_true rfl]
    refine iteT ?_
    have s14 := s13.trans s4
    refine ⟨.ref p, rfl, p, dx4, _, rfl, hp4, p, _, Es, rfl, P4, _, rfl, ⟨by omega, by omega⟩, ?_⟩
    refine ⟨.ref le, rfl, le, evs, rfl, .inl (SqL.of (s14 _ _ hle)), rfl, ?_⟩
    have z := q _ s14
    rw [show decide (V.int (Es.length : Nat) = V.int (evs.length : Nat)) = true from decide_eq_true (by rw [lel])]
    exact z
def sp_law_begun : Sp := fun vs H Q _ => ∃ (d c : Addr) (n most : Int), vs = [.ref d, .int most] ∧ Dk H d c n ∧ 0 ≤ n ∧ n < 800000 ∧ 1 ≤ most ∧ most ≤ 8 ∧
  ∀ H' g l ls us cs S m, Kp d c H H' → Dk H' d c m → n ≤ m → m ≤ n + 24 + most → H' g = some (.lst [.ref l, .ref ls]) → H' l = some (.lst us) → Ivs H' us cs → Cells cs → 0 < cs.length → (cs.length : Int) ≤ most → (∀ q ∈ cs, q.2 < 1000000 + 100000000000 * most) → Off d c l → LawS H' ls S → Off d c ls → ls ≠ l → S.1.Pairwise ltP → S.2.Pairwise ltP → (∀ q ∈ S.1, OfCells cs q) → (∀ q ∈ S.2, OfCells cs q) → S.1.length ≤ 6 → S.2.length ≤ 4 → Q (.ref g) H'
theorem ok_law_begun (T : Tx K mg f_is_number f_is_position f_is_tuple_of f_is_interval f_ascending_error f_targets_error f_is_pieces f_without_item f_is_edit f_copied_batch f_with_interval f_without_interval f_edited_state f_law_deck f_law_draw f_law_line f_law_interval f_law_intervals f_law_edit f_law_after f_law_right f_law_begun f_law_applied f_law_failing f_law_bad f_law_batch f_law f_Plan_init f_Plan_apply f_Plan_targets f_Plan_pieces f_Plan_edits f_Plan_record f_Plan_record_or_reject f_Plan_passes f_Plan_require_idle f_Plan_state_at f_Plan_len f_Plan_str f_BadInterval_init f_Duplicate_init f_BadEdit_init f_Rejected_init f_Unknown_init C_Plan X_BadInterval X_SpanError X_Unknown X_Duplicate X_Rejected X_BadEdit X_BadEdits X_Busy d_is_number d_is_position d_is_tuple_of d_is_interval d_ascending_error d_targets_error d_is_pieces d_without_item d_is_edit d_copied_batch d_with_interval d_without_interval d_edited_state d_law_deck d_law_draw d_law_line d_law_interval d_law_intervals d_law_edit d_law_after d_law_right d_law_begun d_law_applied d_law_failing d_law_bad d_law_batch d_law d_Plan_init d_Plan_apply d_Plan_targets d_Plan_pieces d_Plan_edits d_Plan_record d_Plan_record_or_reject d_Plan_passes d_Plan_require_idle d_Plan_state_at d_Plan_len d_Plan_str d_BadInterval_init d_Duplicate_init d_BadEdit_init d_Rejected_init d_Unknown_init t_LAST_POSITION t_MAX_TARGETS t_MAX_PIECES t_MAX_EDITS t_BATCH t_WORDS) : FnOk P w K mg base CX0 4 f_law_begun d_law_begun ["_law_deck_here", "_law_most"] sp_law_begun := by
  refine T.F_law_begun.ok sc_law_begun (fun vs H Q E h => ?_) (fun cdv A outer s H vs Q E hr h => ?_)
  · obtain ⟨d, c, n, most, rfl, _⟩ := h
    rfl
  · obtain ⟨d, c, n, most, rfl, dk, n0, n1, m0, m1, q⟩ := h
    refine ⟨_, (pss_cons (ps_set (i := 2) sc_law_begun.nd rfl (Or.inl rfl) (pe_call (ok_law_line T) (hr.mono (by decide)) (by rfl) T.g_law_line T.F_law_line.kp T.b_law_line .nil pass0 (pa_cons (pv 0) (pa_cons (pv 1) pa_nil))))
      (pss_one (ps_ret (pe_lst (pa_cons (pv 2) (pa_cons (pe_lst (pa_cons (pe_call (ok_law_intervals T) (hr.mono (by decide)) (by rfl) T.g_law_intervals T.F_law_intervals.kp T.b_law_intervals .nil pass0 (pa_cons (pv 0) (pa_cons (pv 2) (pa_cons pe_int pa_nil)))) (pa_cons (pe_call (ok_law_intervals T) (hr.mono (by decide)) (by rfl) T.g_law_intervals T.F_law_intervals.kp T.b_law_intervals .nil pass0 (pa_cons (pv 0) (pa_cons (pv 2) (pa_cons pe_int pa_nil)))) pa_nil))) pa_nil)))))), ?_⟩
    refine ⟨.ref d, rfl, .int most, rfl, d, c, n, most, rfl, dk, n0, by omega, m0, by omega, fun H1 l us cs m2 kp1 dk1 a0 a1 el iv cells l0 l1 top off => ?_⟩
    have tc : ∀ q ∈ cs, q.2 < 1000000000000 := fun q hq => by
      have := top q hq
      omega
    refine ⟨.ref l, rfl, .ref d, rfl, .ref l, rfl, d, c, m2, l, us, cs, 6, rfl, dk1, by omega, by omega, off, el, iv, cells, l0, by omega, tc, by decide, by decide, fun H2 t1 w1 p1 m3 kp2 dk2 b0 b1 e1 i1 s1 o1 f1 => ?_⟩
    have el2 := kp2.keep off el
    have iv2 := iv.tps (kp2.tps dk1)
    refine ⟨.ref d, rfl, .ref l, rfl, d, c, m3, l, us, cs, 4, rfl, dk2, by omega, by omega, off, el2, iv2, cells, l0, by omega, tc, by decide, by decide, fun H3 t2 w2 p2 m4 kp3 dk3 c0 c1 e2 i2 s2 o2 f2 => ?_⟩
    have t3 := kp3.tps dk2
    have el3 := kp3.keep off el2
    refine ⟨by show 2 ≤ sizeLine; decide, fun ls nls => ?_⟩
    have off2 := dk3.off nls
    have nl : ls ≠ l := (ne_of_none el3 nls).symm
    have s4 := same_new (o := .lst [.ref t1, .ref t2]) nls
    have els := upd_same (H := H3) (a := ls) (o := .lst [.ref t1, .ref t2])
    generalize upd H3 ls (.lst [.ref t1, .ref t2]) = H4 at *
    refine ⟨by show 2 ≤ sizeLine; decide, fun g ng => ?_⟩
    have s5 := same_new (o := .lst [.ref l, .ref ls]) ng
    have eg := upd_same (H := H4) (a := g) (o := .lst [.ref l, .ref ls])
    generalize upd H4 g (.lst [.ref l, .ref ls]) = H5 at *
    have s35 := s4.trans s5
    exact q H5 g l ls us cs (p1, p2) m4 ((kp1.trans kp2).trans (kp3.trans (Kp.same s35))) (dk3.kept s35) (by omega) (by omega) eg (s35 _ _ el3) ((iv2.tps t3).same s35) cells l0 l1 top off ⟨_, _, _, _, s5 _ _ els, s35 _ _ (t3 _ _ e1), (i1.tps t3).same s35, s35 _ _ e2, i2.same s35⟩ off2 nl s1 s2 o1 o2 (by show p1.length ≤ 6; omega) (by show p2.length ≤ 4; omega)
theorem OfCells.edok {cs : List (Int × Int)} (h : Cells cs) {q : Int × Int} (o : OfCells cs q) (top : ∀ z ∈ cs, z.2 < 1000000000000) : (0 ≤ q.1 ∧ q.1 ≤ q.2) ∧ q.2 ≤ 1000000000000 := by
  have := o.ok h top
  omega
theorem cells_side {cs ps : List (Int × Int)} {n : Nat} (h : Cells cs) (top : ∀ z ∈ cs, z.2 < 1000000000000) (asc : ps.Pairwise ltP) (o : ∀ q ∈ ps, OfCells cs q) (l : ps.length ≤ n) : SideOk n ps := ⟨asc, fun q hq => (o q hq).edok h top, l⟩

/-! ### an edit that can be done -/
/-- a state of intervals of whole cells -/
structure StC (cs : List (Int × Int)) (S : St2) : Prop where
  so : StOk S
  oc : ∀ pc, ∀ q ∈ sideS pc S, OfCells cs q
theorem mem_step {S : St2} {e : Ed} {pc : Bool} {q : Int × Int} (h : q ∈ sideS pc (stepS S e)) : q ∈ sideS pc S ∨ q = e.q := by
  obtain ⟨add, c, x⟩ := e
  have up : ∀ ps : List (Int × Int), q ∈ upI add x ps → q ∈ ps ∨ q = x := fun ps h => by
    cases add with
    | true => exact (mem_insI.mp h).symm
    | false => exact .inl (wo_sub h)
  cases c with
  | true =>
    cases pc with
    | true => exact up _ h
    | false => exact .inl h
  | false =>
    cases pc with
    | true => exact .inl h
    | false => exact up _ h
theorem StC.step {cs : List (Int × Int)} {S : St2} {e : Ed} (h : StC cs S) (c : Can S e) (o : OfCells cs e.q) : StC cs (stepS S e) :=
  ⟨h.so.step c, fun pc q hq => (mem_step hq).elim (h.oc pc q) fun z => z ▸ o⟩
def sp_law_edit : Sp := fun vs H Q _ => ∃ (d c : Addr) (n : Int) (l : Addr) (us : List V) (cs : List (Int × Int)) (ls : Addr) (S : St2), vs = [.ref d, .ref l, .ref ls] ∧ Dk H d c n ∧ 0 ≤ n ∧ n < 800000 ∧ Off d c l ∧ H l = some (.lst us) ∧ Ivs H us cs ∧ Cells cs ∧ 0 < cs.length ∧ cs.length ≤ 9 ∧ (∀ q ∈ cs, q.2 < 1000000000000) ∧ Off d c ls ∧ LawS H ls S ∧ StC cs S ∧
  ∀ H' t e m, Kp d c H H' → Dk H' d c m → n ≤ m → m ≤ n + 4 → EdAt H' t e → Can S e → OfCells cs e.q → (e.add = true → (sideS e.pc S).length ≤ 20) → Q (.ref t) H'
theorem ok_law_edit (T : Tx K mg f_is_number f_is_position f_is_tuple_of f_is_interval f_ascending_error f_targets_error f_is_pieces f_without_item f_is_edit f_copied_batch f_with_interval f_without_interval f_edited_state f_law_deck f_law_draw f_law_line f_law_interval f_law_intervals f_law_edit f_law_after f_law_right f_law_begun f_law_applied f_law_failing f_law_bad f_law_batch f_law f_Plan_init f_Plan_apply f_Plan_targets f_Plan_pieces f_Plan_edits f_Plan_record f_Plan_record_or_reject f_Plan_passes f_Plan_require_idle f_Plan_state_at f_Plan_len f_Plan_str f_BadInterval_init f_Duplicate_init f_BadEdit_init f_Rejected_init f_Unknown_init C_Plan X_BadInterval X_SpanError X_Unknown X_Duplicate X_Rejected X_BadEdit X_BadEdits X_Busy d_is_number d_is_position d_is_tuple_of d_is_interval d_ascending_error d_targets_error d_is_pieces d_without_item d_is_edit d_copied_batch d_with_interval d_without_interval d_edited_state d_law_deck d_law_draw d_law_line d_law_interval d_law_intervals d_law_edit d_law_after d_law_right d_law_begun d_law_applied d_law_failing d_law_bad d_law_batch d_law d_Plan_init d_Plan_apply d_Plan_targets d_Plan_pieces d_Plan_edits d_Plan_record d_Plan_record_or_reject d_Plan_passes d_Plan_require_idle d_Plan_state_at d_Plan_len d_Plan_str d_BadInterval_init d_Duplicate_init d_BadEdit_init d_Rejected_init d_Unknown_init t_LAST_POSITION t_MAX_TARGETS t_MAX_PIECES t_MAX_EDITS t_BATCH t_WORDS) : FnOk P w K mg base CX0 3 f_law_edit d_law_edit ["_law_deck_here", "_law_line_here", "_law_state"] sp_law_edit := by
  refine T.F_law_edit.ok sc_law_edit (fun vs H Q E h => ?_) (fun cdv A outer s H vs Q E hr h => ?_)
  · obtain ⟨d, c, n, l, us, cs, ls, S, rfl, _⟩ := h
    rfl
  · obtain ⟨d, c, n, l, us, cs, ls, S, rfl, dk, n0, n1, off, el, iv, cells, l0, l1, top, offs, st, sc, q⟩ := h
    refine ⟨_, (pss_cons (ps_set (i := 3) sc_law_edit.nd rfl (Or.inl rfl) (pe_call (ok_law_draw T) (hr.mono (by decide)) (by rfl) T.g_law_draw T.F_law_draw.kp T.b_law_draw .nil pass0 (pa_cons (pv 0) (pa_cons pe_int pa_nil))))
      (pss_cons (ps_set (i := 4) sc_law_edit.nd rfl (Or.inl rfl) (pe_callTy call_int1 (by rfl) T.z_int (by decide +kernel) (pa_cons (pe_cmpR op_gt (pv 3) pe_int (nomark _)) pa_nil)))
      (pss_cons (ps_set (i := 5) sc_law_edit.nd rfl (Or.inl rfl) (pe_ix ix_list (pe_lst (pa_cons (pe_lst (pa_cons pe_str (pa_cons pe_str pa_nil))) (pa_cons (pe_lst (pa_cons pe_str (pa_cons pe_str pa_nil))) pa_nil))) (pv 4) (fun _ _ => rfl)))
      (pss_cons (ps_set (i := 6) sc_law_edit.nd rfl (Or.inl rfl) (pe_call (ok_law_interval T) (hr.mono (by decide)) (by rfl) T.g_law_interval T.F_law_interval.kp T.b_law_interval .nil pass0 (pa_cons (pv 0) (pa_cons (pv 1) pa_nil))))
      (pss_cons (ps_set (i := 7) sc_law_edit.nd rfl (Or.inl rfl) (pe_ix ix_list (pv 2) (pv 4) (fun _ _ => rfl)))
      (pss_cons (ps_if (pt_cmpR (op_inT (units65 hr)) (pv 6) (pv 7) (by rfl))
      (pss_one (ps_ret (pe_tup (pa_cons (pe_ix ix_list (pv 5) pe_int (fun _ _ => rfl)) (pa_cons (pv 6) pa_nil)))))
      pss_nil)
      (pss_cons (ps_if (PW.pt (pw_and (PW.pt (pw_or (pt_cmpR op_eq (pe_op op_mod (pv 3) pe_int) pe_int (nomark _)) (pw_or1 (pt_cmpR op_gt (pe_callB call_len_seq (by rfl) T.z_len PySem.boot_len (pa_cons (pv 7) pa_nil)) pe_int (nomark _))))) (pw_and1 (pt_cmpR (show OpR _ (compareOp .NotEq) (rNeE K) from op_neE hr.units0) (pv 7) (pe_tup pa_nil) (nomark _)))))
      (pss_one (ps_ret (pe_tup (pa_cons (pe_ix ix_list (pv 5) pe_int (fun _ _ => rfl)) (pa_cons (pe_ix ix_tup (pv 7) (pe_call (ok_law_draw T) (hr.mono (by decide)) (by rfl) T.g_law_draw T.F_law_draw.kp T.b_law_draw .nil pass0 (pa_cons (pv 0) (pa_cons (pe_callB call_len_seq (by rfl) T.z_len PySem.boot_len (pa_cons (pv 7) pa_nil)) pa_nil))) (fun _ _ => rfl)) pa_nil)))))
      pss_nil)
      (pss_one (ps_ret (pe_tup (pa_cons (pe_ix ix_list (pv 5) pe_int (fun _ _ => rfl)) (pa_cons (pv 6) pa_nil)))))))))))), ?_⟩
    refine ⟨.ref d, rfl, d, c, n, 6, rfl, dk, n0, by omega, by decide, by decide, fun H1 r kp1 dk1 r0 r1 => ?_⟩
    refine ⟨.int r, rfl, _, _, rfl, rfl, ?_⟩
    obtain ⟨pc, epc⟩ : ∃ pc : Bool, decide (r > 2) = pc := ⟨_, rfl⟩
    refine .inr ⟨pc, congrArg (fun z => [V.bl z]) epc, ?_⟩
    refine ⟨by show 2 ≤ sizeLine; decide, fun w1 nw1 => ?_⟩
    have off1 := dk1.off nw1
    have s2 := same_new (o := .lst [.str "add_target", .str "remove_target"]) nw1
    have ew1 := upd_same (H := H1) (a := w1) (o := .lst [.str "add_target", .str "remove_target"])
    generalize upd H1 w1 (.lst [.str "add_target", .str "remove_target"]) = H2 at *
    have dk2 := dk1.kept s2
    refine ⟨by show 2 ≤ sizeLine; decide, fun w2 nw2 => ?_⟩
    have off2 := dk2.off nw2
    have s3 := same_new (o := .lst [.str "add_piece", .str "remove_piece"]) nw2
    have ew2 := upd_same (H := H2) (a := w2) (o := .lst [.str "add_piece", .str "remove_piece"])
    generalize upd H2 w2 (.lst [.str "add_piece", .str "remove_piece"]) = H3 at *
    refine ⟨by show 2 ≤ sizeLine; decide, fun w3 nw3 => ?_⟩
    have s4 := same_new (o := .lst [.ref w1, .ref w2]) nw3
    have ew3 := upd_same (H := H3) (a := w3) (o := .lst [.ref w1, .ref w2])
    generalize upd H3 w3 (.lst [.ref w1, .ref w2]) = H4 at *
    have s34 := s3.trans s4
    have s24 := s2.trans s34
    obtain ⟨W, aW, eW, offW⟩ : ∃ W, atI [V.ref w1, .ref w2] (if pc = true then 1 else 0) = some (.ref W) ∧ H4 W = some (.lst [.str (wordOf true pc), .str (wordOf false pc)]) ∧ Off d c W := by
      cases pc
      · exact ⟨w1, rfl, s34 _ _ ew1, off1⟩
      · exact ⟨w2, rfl, s4 _ _ ew2, off2⟩
    refine ⟨.int _, rfl, w3, _, _, .ref W, rfl, rfl, SqL.of ew3, aW, ?_⟩
    have kp4 : Kp d c H H4 := kp1.trans (Kp.same s24)
    have dk4 := dk1.kept s24
    refine ⟨.ref d, rfl, .ref l, rfl, d, c, n + 1, l, us, cs, rfl, dk4, by omega, by omega, off, kp4.keep off el, iv.tps (kp4.tps dk), l0, l1, fun H5 v vx vy kp5 dk5 ev oc => ?_⟩
    have kp := kp4.trans kp5
    have eW5 := kp5.keep offW eW
    have st5 : LawS H5 ls S := st.keep (kp.tps dk) fun us e => kp.keep offs e
    obtain ⟨sus, x, xs, els, us2, ax, ixn, hx, ix, put⟩ := st5.side pc
    have lx := ix.length
    refine ⟨.ref ls, rfl, .int _, rfl, ls, sus, _, .ref x, rfl, rfl, SqL.of els, ax, ?_⟩
    have okv := oc.edok cells top
    have fin : ∀ (H6 : Hp) (t v : Addr) (add : Bool) (vx vy : Int) (m : Int), Kp d c H H6 → Dk H6 d c m → n ≤ m → m ≤ n + 4 → H6 t = none → H6 v = some (.tup [.int vx, .int vy]) → Can S ⟨add, pc, (vx, vy)⟩ → OfCells cs (vx, vy) → (add = true → (sideS pc S).length ≤ 20) → Q (.ref t) (upd H6 t (.tup [.str (wordOf add pc), .ref v])) := by
      intro H6 t v add vx vy m k6 d6 a0 a1 nt hv can oc l20
      have s7 := same_new (o := .tup [.str (wordOf add pc), .ref v]) nt
      exact q _ t ⟨add, pc, (vx, vy)⟩ m (k6.trans (Kp.same s7)) (d6.kept s7) a0 a1 ⟨v, upd_same, s7 _ _ hv⟩ can oc l20
    refine ⟨.ref v, rfl, .ref x, rfl, _, (sideS pc S).map pairD, dp2 ev, .tup (SqT.of hx) ix.dp, rfl, shaped_pairs _, _, rfl, ?_⟩
    rw [any_pair]
    refine ite2 (fun c => ?_) (fun c => ?_)
    · have hin : (vx, vy) ∈ sideS pc S := of_decide_eq_true c
      refine ⟨.ref W, rfl, W, _, 1, _, rfl, rfl, SqL.of eW5, rfl, .ref v, rfl, by show 2 ≤ sizeLine; decide, fun t nt => ?_⟩
      exact fin H5 t v false vx vy _ kp dk5 (by omega) (by omega) nt ev ⟨okv, fun z => (nomatch z), fun _ => hin⟩ oc (fun z => nomatch z)
    have nin : (vx, vy) ∉ sideS pc S := fun z => c (decide_eq_true z)
    clear c put
    have can20 : (sideS pc S).length ≤ 20 → Can S ⟨true, pc, (vx, vy)⟩ := fun l => ⟨okv, fun _ => ⟨nin, by show (sideS pc S).length < (if pc = true then 30 else 24); split <;> omega⟩, fun z => nomatch z⟩
    refine ⟨.int r, rfl, _, _, rfl, rfl, (by show (0 : Int) < 3; decide), rfl, _, rfl, ite2 (fun _ => ?_) (fun _ => ⟨.ref x, rfl, x, xs, rfl, .inr (SqT.of hx), _, _, rfl, rfl, _, rfl, ite2 (fun _ => ?_) (fun c => ?_)⟩)⟩
    rotate_left 2
    · have c : ¬ ((xs.length : Int) > 20) := fun z => c (decide_eq_true z)
      refine iteF ⟨.ref W, rfl, W, _, 0, _, rfl, rfl, SqL.of eW5, rfl, .ref v, rfl, by show 2 ≤ sizeLine; decide, fun t nt => ?_⟩
      exact fin H5 t v true vx vy _ kp dk5 (by omega) (by omega) nt ev (can20 (by omega)) oc (fun _ => by omega)
    all_goals
      refine ⟨.ref x, rfl, by show 0 ≤ sizeLine; decide, fun e ne => ?_⟩
      have s6 := same_new (o := .tup []) ne
      have ee := upd_same (H := H5) (a := e) (o := .tup [])
      generalize upd H5 e (.tup []) = H6 at *
      refine ⟨x, e, xs, rfl, rfl, SqT.of (s6 _ _ hx), SqT.of ee, _, rfl, ?_⟩
      have kp6 := kp.trans (Kp.same s6)
      have dk6 := dk5.kept s6
      cases xs with
      | nil =>
        have lx : 0 = (sideS pc S).length := lx
        refine iteF ⟨.ref W, rfl, W, _, 0, _, rfl, rfl, SqL.of (s6 _ _ eW5), rfl, .ref v, rfl, by show 2 ≤ sizeLine; decide, fun t nt => ?_⟩
        exact fin H6 t v true vx vy _ kp6 dk6 (by omega) (by omega) nt (s6 _ _ ev) (can20 (by omega)) oc (fun _ => by omega)
      | cons x0 xr =>
        refine iteT ⟨.ref W, rfl, W, _, 1, _, rfl, rfl, SqL.of (s6 _ _ eW5), rfl, .ref x, rfl, .ref d, rfl, .ref x, rfl, x, _, rfl, .inr (SqT.of (s6 _ _ hx)), d, c, _, _, rfl, dk6, by omega, by omega, by rw [List.length_cons]; omega, by (have := (sc.so.side pc).few; omega), fun H7 j kp7 dk7 j0 j1 => ?_⟩
        have hx7 := kp7.tup dk6 (s6 _ _ hx)
        have gx := List.getElem?_eq_getElem (l := x0 :: xr) (i := j.toNat) (by omega)
        obtain ⟨u, ux, uy, eu, eq, hu⟩ := ((ix.same s6).tps (kp7.tps dk6)).get gx
        rw [eu] at gx
        have hm : (ux, uy) ∈ sideS pc S := List.mem_of_getElem? eq
        refine ⟨x, _, j, .ref u, rfl, rfl, SqT.of hx7, (by rw [show j = (j.toNat : Int) by omega]; exact atI_nat gx), by show 2 ≤ sizeLine; decide, fun t nt => ?_⟩
        exact fin H7 t u false ux uy _ (kp6.trans kp7) dk7 (by omega) (by omega) nt hu ⟨(sc.so.side pc).ok _ hm, fun z => (nomatch z), fun _ => hm⟩ (sc.oc pc _ hm) (fun z => nomatch z)

/-! ### the edits of a plan, one after another -/
def runS (S : St2) (es : List Ed) : St2 := es.foldl stepS S
inductive Hist (S0 : St2) : List St2 → List Ed → St2 → Prop
  | start : Hist S0 [] [] S0
  | step {Ls : List St2} {Es : List Ed} {S : St2} {e : Ed} (h : Hist S0 Ls Es S) (c : Can S e) : Hist S0 (Ls ++ [S]) (Es ++ [e]) (stepS S e)
theorem Hist.run {S0 S : St2} {Ls : List St2} {Es : List Ed} (h : Hist S0 Ls Es S) : runS S0 Es = S := by
  induction h with
  | start => rfl
  | step h c ih =>
    unfold runS at ih ⊢
    rw [List.foldl_append, ih]
    rfl
theorem Hist.can {S0 S : St2} {Ls : List St2} {Es : List Ed} (h : Hist S0 Ls Es S) : ∀ {k : Nat} {e : Ed}, Es[k]? = some e → Can (runS S0 (Es.take k)) e := by
  induction h with
  | start => intro k e h; cases h
  | @step Ls Es S x h c ih =>
    intro k e he
    rcases Nat.lt_or_ge k Es.length with z | z
    · rw [List.getElem?_append_left z] at he
      rw [List.take_append_of_le_length (by omega)]
      exact ih he
    · have kl := (List.getElem?_eq_some_iff.mp he).1
      rw [List.length_append] at kl
      have kl : k < Es.length + 1 := kl
      have ke : k = Es.length := by omega
      subst ke
      rw [List.getElem?_append_right (Nat.le_refl _), Nat.sub_self] at he
      cases he
      rw [List.take_append_of_le_length (Nat.le_refl _), List.take_length, h.run]
      exact c
theorem Hist.len {S0 S : St2} {Ls : List St2} {Es : List Ed} (h : Hist S0 Ls Es S) : Ls.length = Es.length := by
  induction h with
  | start => rfl
  | step h c ih => rw [List.length_append, List.length_append, ih]; rfl
theorem run_snoc {S : St2} {es : List Ed} {k : Nat} {e : Ed} (h : es[k]? = some e) : runS S (es.take (k + 1)) = stepS (runS S (es.take k)) e := by
  rw [List.take_add_one, h]
  unfold runS
  rw [List.foldl_append]
  rfl
/-- a law's list of states -/
inductive LSs (H : Hp) (P : Addr → Prop) : List V → List St2 → Prop
  | nil : LSs H P [] []
  | cons {a : Addr} {us : List V} {S : St2} {Ss : List St2} (h : LawS H a S) (p : P a) (r : LSs H P us Ss) : LSs H P (.ref a :: us) (S :: Ss)
theorem LSs.keep {H H' : Hp} {P : Addr → Prop} {us : List V} {Ss : List St2} (h : LSs H P us Ss) (t : Tps H H') (k : ∀ a us, P a → H a = some (.lst us) → H' a = some (.lst us)) : LSs H' P us Ss := by
  induction h with
  | nil => exact .nil
  | cons h p _ ih => exact .cons (h.keep t fun us e => k _ us p e) p ih
theorem LSs.same {H H' : Hp} {P : Addr → Prop} {us : List V} {Ss : List St2} (h : LSs H P us Ss) (s : Same H H') : LSs H' P us Ss := h.keep (Tps.same s) fun _ _ _ e => s _ _ e
theorem LSs.length {H : Hp} {P : Addr → Prop} {us : List V} {Ss : List St2} (h : LSs H P us Ss) : us.length = Ss.length := by
  induction h with
  | nil => rfl
  | cons h p _ ih => rw [List.length_cons, List.length_cons, ih]
theorem LSs.snoc {H : Hp} {P : Addr → Prop} {us : List V} {Ss : List St2} {a : Addr} {S : St2} (h : LSs H P us Ss) (hs : LawS H a S) (p : P a) : LSs H P (us ++ [.ref a]) (Ss ++ [S]) := by
  induction h with
  | nil => exact .cons hs p .nil
  | cons h p' _ ih => exact .cons h p' ih
theorem LSs.get {H : Hp} {P : Addr → Prop} {us : List V} {Ss : List St2} (h : LSs H P us Ss) : ∀ {i : Nat} {S : St2}, Ss[i]? = some S → ∃ a, us[i]? = some (.ref a) ∧ LawS H a S ∧ P a := by
  induction h with
  | nil => intro i S e; cases e
  | cons h p _ ih =>
    intro i S e
    cases i with
    | zero =>
      cases e
      exact ⟨_, rfl, h, p⟩
    | succ i => exact ih e

/-! ### l.count(x): how many are equal -/
section
variable {X : Cx}
open PyProof in
def rCountD (K : PySem.W.Frag) : V → List V → Hp → VK → Prop := fun x xs H Q => ∃ (a : Addr) (y : V) (d : PyData) (ds : List PyData), x = V.ref a ∧ xs = [y] ∧ Dp K H (V.ref a) (.list ds) ∧ Dp K H y d ∧
  SeqAt.shaped (.list ds) = true ∧ SeqAt.shaped d = true ∧ Q (.int (ds.countP fun z => PyData.eqv z d : Nat)) H
theorem mt_countD (hu : X.A.units + 65 < cLine) : MtR X "list.count" (rCountD X.K) := by
  intro pins s σ H x xs v us Q I rx rxs h
  obtain ⟨a, y, d, ds, rfl, rfl, hl, hy, sl, sd, q⟩ := h
  cases rx
  cases rxs with
  | cons ry rt =>
    rename_i uy ut
    cases rt
    obtain ⟨bs, r1⟩ := Dp.reads I d y uy hy ry
    have hxs : PyData.canLayAll0 ds = true := SeqAt.canLay_of_shaped sl
    have hroom : X.A.units + 1 + min (PyData.depthAll ds) d.depth < cLine := room_in_shaped sd hu
    cases hl with
    | lst hs ha =>
      obtain ⟨its, rv, ⟨⟨cls, dd, data, sls⟩, n, ho, hc, hdn, hdt⟩, hlen⟩ := I.list hs
      simp only at hc hdt
      subst hc hdt
      obtain ⟨as, h4⟩ := Dp.readsAll I ds _ its ha rv
      have hmap : its.map (SeqAt.readOf s.heap) = ds := SeqAt.readsAll_map ds its as hxs h4
      refine call_meets PySem.F.slot_list_count ⟨_, ho, rfl⟩ PySem.F.entry_list_count (PySem.F.args_list_count_2 _ _)
        (SeqAt.list_countAt a its.toArray n dd sls uy (fun u => PyData.eqv (SeqAt.readOf s.heap u) d)) ⟨ho, SeqAt.items_eqAt (vs := its.toArray) (show ReadsAll s.heap its.toArray.toList ds as from h4) r1 hxs (SeqAt.canLay_of_shaped sd) hroom, ?_⟩
      have e : its.toArray.toList.countP (fun u => PyData.eqv (SeqAt.readOf s.heap u) d) = ds.countP fun z => PyData.eqv z d := by
        rw [← hmap, List.countP_map]
        rfl
      rw [e]
      exact ⟨.int _, H, I.tok _, ⟨_, rfl⟩, q⟩
end

/-! ### loops over enumerate of a list; of a tuple, within a try whose finally is told the slots -/
theorem for_enumL {K : PySem.W.Frag} {a : Addr} {xs : List V} {g : TG} {tb : TS} {D : Ends} {σ : L2.St} {H : Hp} (Pv : Nat → L2.St → Hp → Prop) (h0 : Pv 0 σ H) (hq : ∀ i σ H, Pv i σ H → SqL K H a xs)
    (hs : ∀ (i : Nat) (x : V) (t : Addr) (σ : L2.St) (H : Hp), xs[i]? = some x → Pv i σ H → H t = none → g (.ref t) σ (upd H t (.tup [.int (i : Nat), x])) fun σ2 H2 => tb { D with nx := Pv (i + 1), ct := Pv (i + 1), bk := D.nx } σ2 H2) (hd : ∀ σ H, Pv xs.length σ H → D.nx σ H) :
    ∃ W : Nat → Nat → L2.St → Hp → Prop, (∃ m, W 0 m σ H) ∧ ∀ i m σ H, W i m σ H →
      ((Ite K a).stop i H ∧ D.nx σ H) ∨ ((Ite K a).go i H ∧ ∃ N : L2.St → Hp → Prop, (∀ σ' H', N σ' H' → ∃ m', m' < m ∧ W (i + 1) m' σ' H') ∧ ∀ v H', (Ite K a).yld i H v H' → g v σ H' fun σ2 H2 => tb { D with nx := N, ct := N, bk := D.nx } σ2 H2) := by
  refine ⟨fun i m σ H => i + m = xs.length ∧ Pv i σ H, ⟨xs.length, by omega, h0⟩, ?_⟩
  rintro i m σ H ⟨im, p⟩
  have hx := hq i σ H p
  by_cases c : i < xs.length
  · refine .inr ⟨⟨xs, xs[i], hx, List.getElem?_eq_getElem c⟩, Pv (i + 1), fun σ' H' p' => ⟨m - 1, by omega, by omega, p'⟩, ?_⟩
    rintro v H' ⟨t, x, rfl, nt, rfl, at_⟩
    exact hs i x t σ H (at_ xs hx) p nt
  · refine .inl ⟨⟨xs, hx, by omega⟩, hd σ H ?_⟩
    have : i = xs.length := by omega
    rw [← this]
    exact p
/-- for i, x in enumerate(t), within a try whose finally is told the slots -/
theorem for_enumT2 {K : PySem.W.Frag} {a : Addr} {xs : List V} {g : TG} {tb : TS2} {D : Ends2} {σ : L2.St} {H : Hp} (Pv : Nat → L2.St → Hp → Prop) (h0 : Pv 0 σ H) (hq : ∀ i σ H, Pv i σ H → SqT K H a xs)
    (hs : ∀ (i : Nat) (x : V) (t : Addr) (σ : L2.St) (H : Hp), xs[i]? = some x → Pv i σ H → H t = none → g (.ref t) σ (upd H t (.tup [.int (i : Nat), x])) fun σ2 H2 => tb { nx := Pv (i + 1), rt := D.rt, ct := Pv (i + 1), bk := D.nx } σ2 H2) (hd : ∀ σ H, Pv xs.length σ H → D.nx σ H) :
    ∃ W : Nat → Nat → L2.St → Hp → Prop, (∃ m, W 0 m σ H) ∧ ∀ i m σ H, W i m σ H →
      ((IteT K a xs.length).stop i H ∧ D.nx σ H) ∨ ((IteT K a xs.length).go i H ∧ ∃ N : L2.St → Hp → Prop, (∀ σ' H', N σ' H' → ∃ m', m' < m ∧ W (i + 1) m' σ' H') ∧ ∀ v H', (IteT K a xs.length).yld i H v H' → g v σ H' fun σ2 H2 => tb { nx := N, rt := D.rt, bk := D.nx, ct := N } σ2 H2) := by
  refine ⟨fun i m σ H => i + m = xs.length ∧ Pv i σ H, ⟨xs.length, by omega, h0⟩, ?_⟩
  rintro i m σ H ⟨im, p⟩
  have hx := hq i σ H p
  by_cases c : i < xs.length
  · refine .inr ⟨⟨xs, xs[i], hx, List.getElem?_eq_getElem c, rfl⟩, Pv (i + 1), fun σ' H' p' => ⟨m - 1, by omega, by omega, p'⟩, ?_⟩
    rintro v H' ⟨t, x, rfl, nt, rfl, at_⟩
    exact hs i x t σ H (at_ xs hx) p nt
  · refine .inl ⟨⟨xs, hx, rfl, by omega⟩, hd σ H ?_⟩
    have : i = xs.length := by omega
    rw [← this]
    exact p

theorem PI.or {X : Cx} {tg e : Expr} {w1 w2 : TI} (a : PI X tg e w1) (b : PI X tg e w2) : PI X tg e (fun σ H R => w1 σ H R ∨ w2 σ H R) := ⟨fun pins s σ H R I h => h.elim (a.run pins s σ H R I) (b.run pins s σ H R I)⟩
/-! ### data that stands -/
/-- lists, tuples and dicts stay -/
structure Dts (H H' : Hp) : Prop where
  l : ∀ a xs, H a = some (.lst xs) → H' a = some (.lst xs)
  t : ∀ a xs, H a = some (.tup xs) → H' a = some (.tup xs)
  k : ∀ a xs, H a = some (.dK xs) → H' a = some (.dK xs)
theorem Dts.trans {H H1 H2 : Hp} (a : Dts H H1) (b : Dts H1 H2) : Dts H H2 := ⟨fun x y e => b.l x y (a.l x y e), fun x y e => b.t x y (a.t x y e), fun x y e => b.k x y (a.k x y e)⟩
theorem Dts.same {H H' : Hp} (s : Same H H') : Dts H H' := ⟨fun _ _ e => s _ _ e, fun _ _ e => s _ _ e, fun _ _ e => s _ _ e⟩
theorem Dts.but {p C dx : Addr} {fs : List (Str × V)} {H H' : Hp} (b : But p H H') (hp : H p = some (.ins C dx fs)) : Dts H H' :=
  ⟨fun a xs e => b a _ (ne_of e hp (fun z => by cases z)) e, fun a xs e => b a _ (ne_of e hp (fun z => by cases z)) e, fun a xs e => b a _ (ne_of e hp (fun z => by cases z)) e⟩
theorem dv_dts {K : PySem.W.Frag} {H H' : Hp} (s : Dts H H') {v : V} {d : PyData} (h : Dv K H v d) : Dv K H' v d :=
  Dv.rec (K := K) (H := H) (motive_1 := fun v d _ => Dv K H' v d) (motive_2 := fun vs ds _ => DvAll K H' vs ds) .non (fun b => .bl b) (fun i => .int i) (fun x => .str x) (fun e _ q => .lst (s.l _ _ e) q) (fun e _ q => .tup (s.t _ _ e) q) (fun e _ q => .dic (s.k _ _ e) q) .nil (fun _ _ a b => .cons a b) h
theorem dvAll_dts {K : PySem.W.Frag} {H H' : Hp} (s : Dts H H') : ∀ {vs : List V} {ds : List PyData}, DvAll K H vs ds → DvAll K H' vs ds
  | _, _, .nil => .nil
  | _, _, .cons a b => .cons (dv_dts s a) (dvAll_dts s b)
/-! ### edits of a batch -/
theorem okH_Rejected_init (T : Tx K mg f_is_number f_is_position f_is_tuple_of f_is_interval f_ascending_error f_targets_error f_is_pieces f_without_item f_is_edit f_copied_batch f_with_interval f_without_interval f_edited_state f_law_deck f_law_draw f_law_line f_law_interval f_law_intervals f_law_edit f_law_after f_law_right f_law_begun f_law_applied f_law_failing f_law_bad f_law_batch f_law f_Plan_init f_Plan_apply f_Plan_targets f_Plan_pieces f_Plan_edits f_Plan_record f_Plan_record_or_reject f_Plan_passes f_Plan_require_idle f_Plan_state_at f_Plan_len f_Plan_str f_BadInterval_init f_Duplicate_init f_BadEdit_init f_Rejected_init f_Unknown_init C_Plan X_BadInterval X_SpanError X_Unknown X_Duplicate X_Rejected X_BadEdit X_BadEdits X_Busy d_is_number d_is_position d_is_tuple_of d_is_interval d_ascending_error d_targets_error d_is_pieces d_without_item d_is_edit d_copied_batch d_with_interval d_without_interval d_edited_state d_law_deck d_law_draw d_law_line d_law_interval d_law_intervals d_law_edit d_law_after d_law_right d_law_begun d_law_applied d_law_failing d_law_bad d_law_batch d_law d_Plan_init d_Plan_apply d_Plan_targets d_Plan_pieces d_Plan_edits d_Plan_record d_Plan_record_or_reject d_Plan_passes d_Plan_require_idle d_Plan_state_at d_Plan_len d_Plan_str d_BadInterval_init d_Duplicate_init d_BadEdit_init d_Rejected_init d_Unknown_init t_LAST_POSITION t_MAX_TARGETS t_MAX_PIECES t_MAX_EDITS t_BATCH t_WORDS) : L2H.FnH P w K mg base CX0 1 f_Rejected_init d_Rejected_init ["self", "index"] (sp_exc_init K X_Rejected "index") := by
  refine fun_okH T.F_Rejected_init sc_Rejected_init (fun vs H Q E h => ?_) (fun cdv A outer s H vs Q E hpp hot hr h => ?_)
  · obtain ⟨a, v, rfl, _⟩ := h
    rfl
  · obtain ⟨a, v, rfl, ha, q⟩ := h
    refine ⟨_, (pss_one (ps_ost (pv 0) (pv 1))), ?_⟩
    exact ⟨v, rfl, .ref a, rfl, a, X_Rejected, rfl, T.xi_Rejected.ox, T.xi_Rejected.no, .inl ⟨ha, fun dx nd ne => q dx nd ne⟩⟩
theorem ok_BadEdit_init (T : Tx K mg f_is_number f_is_position f_is_tuple_of f_is_interval f_ascending_error f_targets_error f_is_pieces f_without_item f_is_edit f_copied_batch f_with_interval f_without_interval f_edited_state f_law_deck f_law_draw f_law_line f_law_interval f_law_intervals f_law_edit f_law_after f_law_right f_law_begun f_law_applied f_law_failing f_law_bad f_law_batch f_law f_Plan_init f_Plan_apply f_Plan_targets f_Plan_pieces f_Plan_edits f_Plan_record f_Plan_record_or_reject f_Plan_passes f_Plan_require_idle f_Plan_state_at f_Plan_len f_Plan_str f_BadInterval_init f_Duplicate_init f_BadEdit_init f_Rejected_init f_Unknown_init C_Plan X_BadInterval X_SpanError X_Unknown X_Duplicate X_Rejected X_BadEdit X_BadEdits X_Busy d_is_number d_is_position d_is_tuple_of d_is_interval d_ascending_error d_targets_error d_is_pieces d_without_item d_is_edit d_copied_batch d_with_interval d_without_interval d_edited_state d_law_deck d_law_draw d_law_line d_law_interval d_law_intervals d_law_edit d_law_after d_law_right d_law_begun d_law_applied d_law_failing d_law_bad d_law_batch d_law d_Plan_init d_Plan_apply d_Plan_targets d_Plan_pieces d_Plan_edits d_Plan_record d_Plan_record_or_reject d_Plan_passes d_Plan_require_idle d_Plan_state_at d_Plan_len d_Plan_str d_BadInterval_init d_Duplicate_init d_BadEdit_init d_Rejected_init d_Unknown_init t_LAST_POSITION t_MAX_TARGETS t_MAX_PIECES t_MAX_EDITS t_BATCH t_WORDS) : FnOk P w K mg base CX0 1 f_BadEdit_init d_BadEdit_init ["self", "index"] (sp_exc_init K X_BadEdit "index") := by
  refine T.F_BadEdit_init.ok sc_BadEdit_init (fun vs H Q E h => ?_) (fun cdv A outer s H vs Q E hr h => ?_)
  · obtain ⟨a, v, rfl, _⟩ := h
    rfl
  · obtain ⟨a, v, rfl, ha, q⟩ := h
    refine ⟨_, (pss_one (ps_ost (pv 0) (pv 1))), ?_⟩
    exact ⟨v, rfl, .ref a, rfl, a, X_BadEdit, rfl, T.xi_BadEdit.ox, T.xi_BadEdit.no, .inl ⟨ha, fun dx nd ne => q dx nd ne⟩⟩
/-- the edit fails for its value -/
def BadW (dd : PyData) (add : Bool) (ps : List (Int × Int)) : Prop :=
  (add = true ∧ (ivB dd = false ∨ ∃ q, dd = pairD q ∧ ivB dd = true ∧ q ∈ ps)) ∨ (add = false ∧ ∀ x y, dd = .tuple [.int x, .int y] → ivB dd = true → (x, y) ∉ ps)
def sp_rejectX (K : PySem.W.Frag) (C XR : Addr) : Sp := fun vs H Q E => ∃ (p : Addr) (i : Int) (v : V) (dd : PyData) (Ls : List St2) (S : St2) (Es : List Ed) (add pc : Bool), vs = [.ref p, .int i, .str (wordOf add pc), v] ∧ PlanAt C H p (Ls ++ [S]) Es ∧ Es.length < 60 ∧ StOk S ∧ Dv K H v dd ∧ Room2 S add pc ∧
  (∀ q, dd = pairD q → ivB dd = true → (add = true → q ∉ sideS pc S) → (add = false → q ∈ sideS pc S) → ∀ H', But p H H' → PlanAt C H' p (Ls ++ [S] ++ [stepS S ⟨add, pc, q⟩]) (Es ++ [⟨add, pc, q⟩]) → Q .non H') ∧
  (BadW dd add (sideS pc S) → ∀ H1 d, Same H H1 → H1 d = none → E (.ref XR) (some d) (upd H1 d (.xd [("index", .int i)])))
theorem ok2_Plan_record_or_reject (T : Tx K mg f_is_number f_is_position f_is_tuple_of f_is_interval f_ascending_error f_targets_error f_is_pieces f_without_item f_is_edit f_copied_batch f_with_interval f_without_interval f_edited_state f_law_deck f_law_draw f_law_line f_law_interval f_law_intervals f_law_edit f_law_after f_law_right f_law_begun f_law_applied f_law_failing f_law_bad f_law_batch f_law f_Plan_init f_Plan_apply f_Plan_targets f_Plan_pieces f_Plan_edits f_Plan_record f_Plan_record_or_reject f_Plan_passes f_Plan_require_idle f_Plan_state_at f_Plan_len f_Plan_str f_BadInterval_init f_Duplicate_init f_BadEdit_init f_Rejected_init f_Unknown_init C_Plan X_BadInterval X_SpanError X_Unknown X_Duplicate X_Rejected X_BadEdit X_BadEdits X_Busy d_is_number d_is_position d_is_tuple_of d_is_interval d_ascending_error d_targets_error d_is_pieces d_without_item d_is_edit d_copied_batch d_with_interval d_without_interval d_edited_state d_law_deck d_law_draw d_law_line d_law_interval d_law_intervals d_law_edit d_law_after d_law_right d_law_begun d_law_applied d_law_failing d_law_bad d_law_batch d_law d_Plan_init d_Plan_apply d_Plan_targets d_Plan_pieces d_Plan_edits d_Plan_record d_Plan_record_or_reject d_Plan_passes d_Plan_require_idle d_Plan_state_at d_Plan_len d_Plan_str d_BadInterval_init d_Duplicate_init d_BadEdit_init d_Rejected_init d_Unknown_init t_LAST_POSITION t_MAX_TARGETS t_MAX_PIECES t_MAX_EDITS t_BATCH t_WORDS) : FnOk P w K mg base (CX2 P w) 9 f_Plan_record_or_reject d_Plan_record_or_reject ["self", "index", "word", "value"] (sp_rejectX K C_Plan X_Rejected) := by
  refine fun_ok2 T.F_Plan_record_or_reject sc_Plan_record_or_reject (fun vs H Q E h => ?_) (fun cdv A outer s H vs Q E hr h => ?_)
  · obtain ⟨p, i, v, dd, Ls, S, Es, add, pc, rfl, _⟩ := h
    rfl
  · obtain ⟨p, i, v, dd, Ls, S, Es, add, pc, rfl, P, few, so, dv, room, good, bad⟩ := h
    refine ⟨_, (pss_one (ps_reject2 (i := 4) rfl rfl rfl sc_Plan_record_or_reject.nd rfl rfl ⟨rfl, by decide, .inl T.xn_SpanError.g⟩ ⟨rfl, by decide, .inl T.xn_Unknown.g⟩ (takes2_of rfl rfl rfl rfl)
      (fun W pn xe tk po => (pss_one (ps_expr (pe_methL (pv 0) T.cl_Plan T.m_Plan_record (okn_Plan_record T) (hr.mono (by decide)) T.b_Plan_record (fun σ => L2N.passAt tk σ) (pa_cons (pv 2) (pa_cons (pv 3) pa_nil))))))
      T.xn_Rejected T.xi_Rejected (okH_Rejected_init T) (hr.mono (by decide)) T.b_Rejected_init (by rfl) (fun ea oe pn xe => (pa_cons (pv 1) pa_nil)) (.inl rfl))), ?_⟩
    obtain ⟨dx, a, b, us, vs, hp, _⟩ := id P.ex
    refine ⟨.ref p, rfl, p, dx, _, rfl, hp, lk_no _ _ _ (by decide +kernel), .str (wordOf add pc), rfl, v, rfl, ?_⟩
    refine ⟨p, v, dd, Ls, S, Es, add, pc, rfl, P, few, so, dv, room, ⟨fun ea eb d nd => ⟨?_, fun ea' na => ?_⟩, fun ea x y e1 e2 e3 d nd => ⟨?_, fun ea' na => ?_⟩, fun ea no d nd => ⟨?_, fun ea' na => ?_⟩⟩, fun z e1 e2 e3 e4 H' b' P' => good z e1 e2 e3 e4 H' b' P'⟩
    · have e1 := T.xn_SpanError.exm T.xs_BadInterval_SpanError
      have e2 := T.xn_Unknown.exm T.xs_BadInterval_Unknown
      show PySem.W.exmAny K _ _ = _
      simp only [PySem.W.exmAny, e1, e2]
      rfl
    · exact ⟨⟨T.xn_BadInterval.ba, T.xn_BadInterval.ty⟩, rfl, .int i, rfl, .int i, rfl, fun d2 nd2 => bad (.inl ⟨ea, .inl eb⟩) _ d2 (same_new nd) nd2⟩
    · have e1 := T.xn_SpanError.exm T.xs_Duplicate_SpanError
      have e2 := T.xn_Unknown.exm T.xs_Duplicate_Unknown
      show PySem.W.exmAny K _ _ = _
      simp only [PySem.W.exmAny, e1, e2]
      rfl
    · exact ⟨⟨T.xn_Duplicate.ba, T.xn_Duplicate.ty⟩, rfl, .int i, rfl, .int i, rfl, fun d2 nd2 => bad (.inl ⟨ea, .inr ⟨(x, y), e1, e2, e3⟩⟩) _ d2 (same_new nd) nd2⟩
    · have e1 := T.xn_SpanError.exm T.xs_Unknown_SpanError
      have e2 := T.xn_Unknown.exm T.xs_Unknown_Unknown
      show PySem.W.exmAny K _ _ = _
      simp only [PySem.W.exmAny, e1, e2]
      rfl
    · exact ⟨⟨T.xn_Unknown.ba, T.xn_Unknown.ty⟩, rfl, .int i, rfl, .int i, rfl, fun d2 nd2 => bad (.inr ⟨ea, no⟩) _ d2 (same_new nd) nd2⟩
/-! ### which values are edits, and batches -/
def wordsD : List PyData := [.str "add_target", .str "add_piece", .str "remove_target", .str "remove_piece"]
def edB : PyData → Bool
  | .tuple [w, _] => wordsD.any fun z => PyData.eqv z w
  | _ => false
/-- the word of a pair may be compared -/
def FitW (d : PyData) : Prop := ∀ w x, d = .tuple [w, x] → SeqAt.shaped w = true
theorem ed_not {d : PyData} (h : ¬ tlB 2 d = true) : edB d = false := by
  match d, h with
  | .tuple [a, b], h => exact absurd rfl h
  | .tuple [], _ => rfl
  | .tuple [_], _ => rfl
  | .tuple (_ :: _ :: _ :: l), _ => rfl
  | .none, _ => rfl
  | .bool _, _ => rfl
  | .int _, _ => rfl
  | .str _, _ => rfl
  | .list _, _ => rfl
  | .dict _, _ => rfl
def sp_is_editX (K : PySem.W.Frag) : Sp := fun vs H Q _ => ∃ (v : V) (d : PyData), vs = [v] ∧ Dv K H v d ∧ FitW d ∧ Q (.bl (edB d)) H
theorem ok_is_edit (T : Tx K mg f_is_number f_is_position f_is_tuple_of f_is_interval f_ascending_error f_targets_error f_is_pieces f_without_item f_is_edit f_copied_batch f_with_interval f_without_interval f_edited_state f_law_deck f_law_draw f_law_line f_law_interval f_law_intervals f_law_edit f_law_after f_law_right f_law_begun f_law_applied f_law_failing f_law_bad f_law_batch f_law f_Plan_init f_Plan_apply f_Plan_targets f_Plan_pieces f_Plan_edits f_Plan_record f_Plan_record_or_reject f_Plan_passes f_Plan_require_idle f_Plan_state_at f_Plan_len f_Plan_str f_BadInterval_init f_Duplicate_init f_BadEdit_init f_Rejected_init f_Unknown_init C_Plan X_BadInterval X_SpanError X_Unknown X_Duplicate X_Rejected X_BadEdit X_BadEdits X_Busy d_is_number d_is_position d_is_tuple_of d_is_interval d_ascending_error d_targets_error d_is_pieces d_without_item d_is_edit d_copied_batch d_with_interval d_without_interval d_edited_state d_law_deck d_law_draw d_law_line d_law_interval d_law_intervals d_law_edit d_law_after d_law_right d_law_begun d_law_applied d_law_failing d_law_bad d_law_batch d_law d_Plan_init d_Plan_apply d_Plan_targets d_Plan_pieces d_Plan_edits d_Plan_record d_Plan_record_or_reject d_Plan_passes d_Plan_require_idle d_Plan_state_at d_Plan_len d_Plan_str d_BadInterval_init d_Duplicate_init d_BadEdit_init d_Rejected_init d_Unknown_init t_LAST_POSITION t_MAX_TARGETS t_MAX_PIECES t_MAX_EDITS t_BATCH t_WORDS) : FnOk P w K mg base CX0 2 f_is_edit d_is_edit ["value"] (sp_is_editX K) := by
  refine T.F_is_edit.ok sc_is_edit (fun vs H Q E h => ?_) (fun cdv A outer s H vs Q E hr h => ?_)
  · obtain ⟨v, d, rfl, _⟩ := h
    rfl
  · obtain ⟨v, d, rfl, hd, fit, q⟩ := h
    refine ⟨_, (pss_one (ps_ret (pe_and (pe_call (ok_is_tuple_of T) (hr.mono (by decide)) (by rfl) T.g_is_tuple_of T.F_is_tuple_of.kp T.b_is_tuple_of .nil pass0 (pa_cons (pv 0) (pa_cons pe_int pa_nil))) (pe_one (pe_cmpR (op_inT (units65 hr)) (pe_ix ix_tup (pv 0) pe_int (fun _ _ => rfl)) (pe_glob (v := .ref t_WORDS) (by rfl) T.c_WORDS rfl) (by rfl)))))), ?_⟩
    refine ⟨v, rfl, v, d, 2, rfl, hd, _, rfl, ?_⟩
    by_cases tb : tlB 2 d = true
    · rw [tb]
      refine iteT ?_
      obtain ⟨d1, d2, rfl⟩ := tl_two tb
      cases hd with
      | @tup a xs ds e all =>
        match xs, all, e, q with
          | [v1, v2], .cons h1 (.cons h2 .nil), e, q =>
            have f1 := fit d1 d2 rfl
            refine ⟨.ref a, rfl, a, _, 0, v1, rfl, rfl, SqT.of e, rfl, d1, wordsD, h1.dp (SeqAt.canLay_of_shaped f1), .tup (.inr T.q_WORDS) (.cons (.str _) (.cons (.str _) (.cons (.str _) (.cons (.str _) .nil)))), f1, by decide +kernel, q⟩
    · rw [ed_not tb] at q
      rw [Bool.not_eq_true] at tb
      rw [tb]
      exact iteF q

def ltB : PyData → Bool
  | .list _ => true
  | .tuple _ => true
  | _ => false
theorem kit_lt {K : PySem.W.Frag} (d : PyData) : PySem.W.kitAny K (.type (tyD d)) [.type "list", .type "tuple"] = some (ltB d) := by
  cases d <;> rfl
/-- not a batch: no list, no tuple, or too long -/
def notB : PyData → Bool
  | .list ds => decide (20 < ds.length)
  | .tuple ds => decide (20 < ds.length)
  | _ => true
def itemsD : PyData → List PyData
  | .list ds => ds
  | .tuple ds => ds
  | _ => []
theorem DvAll.mem {K : PySem.W.Frag} {H : Hp} {us : List V} {ds : List PyData} (h : DvAll K H us ds) {i : Nat} {d : PyData} (e : ds[i]? = some d) : ∃ v, us[i]? = some v ∧ Dv K H v d := by
  have il := (List.getElem?_eq_some_iff.mp e).1
  have l := h.length
  have gu := List.getElem?_eq_getElem (l := us) (i := i) (by omega)
  obtain ⟨d', e', hv⟩ := h.get gu
  rw [e] at e'
  cases e'
  exact ⟨_, gu, hv⟩
theorem seq_of {K : PySem.W.Frag} {H : Hp} {v : V} {dd : PyData} (h : Dv K H v dd) (lt : ltB dd = true) : ∃ a us, v = .ref a ∧ (H a = some (.lst us) ∨ H a = some (.tup us)) ∧ DvAll K H us (itemsD dd) ∧ notB dd = decide (20 < us.length) := by
  cases h with
  | lst e all => exact ⟨_, _, rfl, .inl e, all, by rw [all.length]; rfl⟩
  | tup e all => exact ⟨_, _, rfl, .inr e, all, by rw [all.length]; rfl⟩
  | _ => cases lt
theorem not_seq {dd : PyData} (lt : ltB dd = false) : notB dd = true := by
  cases dd <;> first | rfl | cases lt
/-- a batch of edits, or where it is none -/
def sp_copX (K : PySem.W.Frag) (XE XB : Addr) : Sp := fun vs H Q E => ∃ (bv : V) (dd : PyData), vs = [bv] ∧ Dv K H bv dd ∧ (∀ d ∈ itemsD dd, FitW d) ∧
  (notB dd = true → ∀ H1, Same H H1 → E (.ref XE) none H1) ∧
  (notB dd = false → ∀ k d, (itemsD dd)[k]? = some d → edB d = false → (∀ j d', j < k → (itemsD dd)[j]? = some d' → edB d' = true) → ∀ H1 dx, Same H H1 → H1 dx = none → E (.ref XB) (some dx) (upd H1 dx (.xd [("index", .int (k : Nat))]))) ∧
  (notB dd = false → (∀ d ∈ itemsD dd, edB d = true) → ∀ H' t us, Same H H' → H' t = some (.tup us) → DvAll K H' us (itemsD dd) → Q (.ref t) H')
theorem okx_copied_batch (T : Tx K mg f_is_number f_is_position f_is_tuple_of f_is_interval f_ascending_error f_targets_error f_is_pieces f_without_item f_is_edit f_copied_batch f_with_interval f_without_interval f_edited_state f_law_deck f_law_draw f_law_line f_law_interval f_law_intervals f_law_edit f_law_after f_law_right f_law_begun f_law_applied f_law_failing f_law_bad f_law_batch f_law f_Plan_init f_Plan_apply f_Plan_targets f_Plan_pieces f_Plan_edits f_Plan_record f_Plan_record_or_reject f_Plan_passes f_Plan_require_idle f_Plan_state_at f_Plan_len f_Plan_str f_BadInterval_init f_Duplicate_init f_BadEdit_init f_Rejected_init f_Unknown_init C_Plan X_BadInterval X_SpanError X_Unknown X_Duplicate X_Rejected X_BadEdit X_BadEdits X_Busy d_is_number d_is_position d_is_tuple_of d_is_interval d_ascending_error d_targets_error d_is_pieces d_without_item d_is_edit d_copied_batch d_with_interval d_without_interval d_edited_state d_law_deck d_law_draw d_law_line d_law_interval d_law_intervals d_law_edit d_law_after d_law_right d_law_begun d_law_applied d_law_failing d_law_bad d_law_batch d_law d_Plan_init d_Plan_apply d_Plan_targets d_Plan_pieces d_Plan_edits d_Plan_record d_Plan_record_or_reject d_Plan_passes d_Plan_require_idle d_Plan_state_at d_Plan_len d_Plan_str d_BadInterval_init d_Duplicate_init d_BadEdit_init d_Rejected_init d_Unknown_init t_LAST_POSITION t_MAX_TARGETS t_MAX_PIECES t_MAX_EDITS t_BATCH t_WORDS) : FnOk P w K mg base (L2.CX P w) 3 f_copied_batch d_copied_batch ["value"] (sp_copX K X_BadEdits X_BadEdit) := by
  refine T.F_copied_batch.okX sc_copied_batch (fun vs H Q E h => ?_) (fun cdv A outer s H vs Q E hr h => ?_)
  · obtain ⟨bv, dd, rfl, _⟩ := h
    rfl
  · obtain ⟨bv, dd, rfl, dv, fit, bad1, bad2, good⟩ := h
    refine ⟨_, (pss_cons (ps_if (PW.pt (pw_or (pt_not (pt_val (pe_callB call_isiT (by rfl) T.z_isinstance (by decide +kernel) (pa_cons (pv 0) (pa_cons (pe_tup (pa_cons (pe_bltn (v := .ty "list") (u := .type "list") (by rfl) T.z_list (by decide +kernel) rfl) (pa_cons (pe_bltn (v := .ty "tuple") (u := .type "tuple") (by rfl) T.z_tuple (by decide +kernel) rfl) pa_nil))) pa_nil))))) (pw_or1 (pt_cmpR op_gt (pe_callB call_len_seq (by rfl) T.z_len PySem.boot_len (pa_cons (pv 0) pa_nil)) (pe_glob (v := .int 20) (by rfl) T.c_BATCH ⟨_, rfl⟩) (nomark _)))))
      (pss_one (ps_raise0 rfl (takes_of rfl rfl rfl rfl) T.xn_BadEdits T.xr_BadEdits (by rfl)))
      pss_nil)
      (pss_cons (ps_for (passes_of rfl) rfl (PI.or (pi_enum (by rfl) T.z_enumerate (pa_cons (pv 0) pa_nil)) (pi_enumT (by rfl) T.z_enumerate (pa_cons (pv 0) pa_nil))) (pg_tup rfl (pgs_cons (pg_name (i := 1) sc_copied_batch.nd rfl (Or.inl rfl)) (pgs_cons (pg_name (i := 2) sc_copied_batch.nd rfl (Or.inl rfl)) pgs_nil)))
      (pss_one (ps_if (pt_not (pt_val (pe_call (ok_is_edit T) (hr.mono (by decide)) (by rfl) T.g_is_edit T.F_is_edit.kp T.b_is_edit .nil pass0 (pa_cons (pv 2) pa_nil))))
      (pss_one (ps_raise1 rfl (takes_of rfl rfl rfl rfl) T.xn_BadEdit T.xi_BadEdit (ok_BadEdit_init T) (hr.mono (by decide)) T.b_BadEdit_init (by rfl) (pa_cons (pv 1) pa_nil)))
      pss_nil))) (PSs.nox (pss_one (ps_ret (pe_callTy call_tuple_of (by rfl) T.z_tuple (by decide +kernel) (pa_cons (pv 0) pa_nil))))))), ?_⟩
    refine ⟨bv, rfl, by show 2 ≤ sizeLine; decide, fun tt ntt => ?_⟩
    have s1 := same_new (o := .tup [.ty "list", .ty "tuple"]) ntt
    have ett := upd_same (H := H) (a := tt) (o := .tup [.ty "list", .ty "tuple"])
    generalize upd H tt (.tup [.ty "list", .ty "tuple"]) = H1 at *
    refine ⟨bv, tt, _, _, _, _, rfl, ett, .cons (.ty _) (.cons (.ty _) .nil), (dv_same s1 dv).ty, kit_lt dd, ?_⟩
    cases lt : ltB dd with
    | false =>
      refine ⟨false, rfl, iteT ?_⟩
      exact bad1 (not_seq lt) _ s1
    | true =>
      refine ⟨true, rfl, iteF ?_⟩
      obtain ⟨l, us, rfl, hl, all0, nb⟩ := seq_of dv lt
      have lus := all0.length
      refine ⟨.ref l, rfl, l, us, rfl, hl.elim (fun e => .inl (SqL.of (s1 _ _ e))) (fun e => .inr (SqT.of (s1 _ _ e))), _, _, rfl, rfl, _, rfl, ite2 (fun z => ?_) (fun z => ?_)⟩
      · exact bad1 (by rw [nb]; exact decide_eq_true (by have := of_decide_eq_true z; omega)) _ s1
      have z : ¬ (20 < us.length) := fun y => z (decide_eq_true (by omega))
      have few : us.length ≤ 20 := by omega
      have nbF : notB dd = false := by rw [nb]; exact decide_eq_false z
      rcases hl with hl | hl
      · have h0 : ∀ H', Same H H' → H' l = some (.lst us) := fun H' s => s _ _ hl
        refine .inl ⟨.ref l, rfl, l, us, rfl, SqL.of (h0 _ s1), for_enumL (K := K) (a := l) (xs := us) (D := ⟨_, _, fun _ _ => True, fun _ _ => True⟩) (fun j σ H' => Same H H' ∧ (∀ i d', i < j → (itemsD dd)[i]? = some d' → edB d' = true) ∧ ∃ y1 y2, σ = [some (.ref l), y1, y2]) ⟨s1, fun i _ h => absurd h (Nat.not_lt_zero _), _, _, rfl⟩ (fun j σ H' h => SqL.of (h0 _ h.1)) ?_ ?_⟩
        · rintro j x t σ Ha hj ⟨sa, pre, y1, y2, rfl⟩ nt
          have s2 := same_new (o := .tup [.int (j : Nat), x]) nt
          have et := upd_same (H := Ha) (a := t) (o := .tup [.int (j : Nat), x])
          generalize upd Ha t (.tup [.int (j : Nat), x]) = Hb at *
          obtain ⟨d, ed, hd⟩ := all0.get hj
          refine ⟨t, _, rfl, SqT.of et, rfl, .int (j : Nat), [x], rfl, x, [], rfl, rfl, ?_⟩
          refine ⟨x, rfl, x, d, rfl, dv_same (sa.trans s2) hd, fit d (List.mem_of_getElem? ed), ?_⟩
          cases eb : edB d with
          | true =>
            refine ⟨true, rfl, iteF ?_⟩
            refine ⟨sa.trans s2, fun i d' hi hd' => ?_, _, _, rfl⟩
            rcases Nat.lt_or_ge i j with z | z
            · exact pre i d' z hd'
            · have : i = j := by omega
              subst this
              rw [ed] at hd'
              cases hd'
              exact eb
          | false =>
            refine ⟨false, rfl, iteT ?_⟩
            exact ⟨.int (j : Nat), rfl, .int (j : Nat), rfl, fun dx nd => bad2 nbF j d ed eb pre _ dx (sa.trans s2) nd⟩
        · rintro σ Ha ⟨sa, pre, y1, y2, rfl⟩
          have allE : ∀ d ∈ itemsD dd, edB d = true := fun d hd => by
            obtain ⟨i, hi⟩ := List.getElem?_of_mem hd
            have il := (List.getElem?_eq_some_iff.mp hi).1
            exact pre i d (by omega) hi
          refine ⟨.ref l, rfl, l, us, rfl, .inl ⟨SqL.of (h0 _ sa), fun t nt => ?_⟩⟩
          exact good nbF allE _ t us (sa.trans (same_new nt)) upd_same (dvAll_same (sa.trans (same_new nt)) all0)
      · have h0 : ∀ H', Same H H' → H' l = some (.tup us) := fun H' s => s _ _ hl
        refine .inr ⟨.ref l, rfl, l, us, rfl, SqT.of (h0 _ s1), for_enumT (K := K) (a := l) (xs := us) (D := ⟨_, _, fun _ _ => True, fun _ _ => True⟩) (fun j σ H' => Same H H' ∧ (∀ i d', i < j → (itemsD dd)[i]? = some d' → edB d' = true) ∧ ∃ y1 y2, σ = [some (.ref l), y1, y2]) ⟨s1, fun i _ h => absurd h (Nat.not_lt_zero _), _, _, rfl⟩ (fun j σ H' h => SqT.of (h0 _ h.1)) ?_ ?_⟩
        · rintro j x t σ Ha hj ⟨sa, pre, y1, y2, rfl⟩ nt
          have s2 := same_new (o := .tup [.int (j : Nat), x]) nt
          have et := upd_same (H := Ha) (a := t) (o := .tup [.int (j : Nat), x])
          generalize upd Ha t (.tup [.int (j : Nat), x]) = Hb at *
          obtain ⟨d, ed, hd⟩ := all0.get hj
          refine ⟨t, _, rfl, SqT.of et, rfl, .int (j : Nat), [x], rfl, x, [], rfl, rfl, ?_⟩
          refine ⟨x, rfl, x, d, rfl, dv_same (sa.trans s2) hd, fit d (List.mem_of_getElem? ed), ?_⟩
          cases eb : edB d with
          | true =>
            refine ⟨true, rfl, iteF ?_⟩
            refine ⟨sa.trans s2, fun i d' hi hd' => ?_, _, _, rfl⟩
            rcases Nat.lt_or_ge i j with z | z
            · exact pre i d' z hd'
            · have : i = j := by omega
              subst this
              rw [ed] at hd'
              cases hd'
              exact eb
          | false =>
            refine ⟨false, rfl, iteT ?_⟩
            exact ⟨.int (j : Nat), rfl, .int (j : Nat), rfl, fun dx nd => bad2 nbF j d ed eb pre _ dx (sa.trans s2) nd⟩
        · rintro σ Ha ⟨sa, pre, y1, y2, rfl⟩
          have allE : ∀ d ∈ itemsD dd, edB d = true := fun d hd => by
            obtain ⟨i, hi⟩ := List.getElem?_of_mem hd
            have il := (List.getElem?_eq_some_iff.mp hi).1
            exact pre i d (by omega) hi
          refine ⟨.ref l, rfl, l, us, rfl, .inr ⟨SqT.of (h0 _ sa), ?_⟩⟩
          exact good nbF allE _ l us sa (h0 _ sa) (dvAll_same sa all0)

/-! ### apply -/
theorem ok_Plan_passes (T : Tx K mg f_is_number f_is_position f_is_tuple_of f_is_interval f_ascending_error f_targets_error f_is_pieces f_without_item f_is_edit f_copied_batch f_with_interval f_without_interval f_edited_state f_law_deck f_law_draw f_law_line f_law_interval f_law_intervals f_law_edit f_law_after f_law_right f_law_begun f_law_applied f_law_failing f_law_bad f_law_batch f_law f_Plan_init f_Plan_apply f_Plan_targets f_Plan_pieces f_Plan_edits f_Plan_record f_Plan_record_or_reject f_Plan_passes f_Plan_require_idle f_Plan_state_at f_Plan_len f_Plan_str f_BadInterval_init f_Duplicate_init f_BadEdit_init f_Rejected_init f_Unknown_init C_Plan X_BadInterval X_SpanError X_Unknown X_Duplicate X_Rejected X_BadEdit X_BadEdits X_Busy d_is_number d_is_position d_is_tuple_of d_is_interval d_ascending_error d_targets_error d_is_pieces d_without_item d_is_edit d_copied_batch d_with_interval d_without_interval d_edited_state d_law_deck d_law_draw d_law_line d_law_interval d_law_intervals d_law_edit d_law_after d_law_right d_law_begun d_law_applied d_law_failing d_law_bad d_law_batch d_law d_Plan_init d_Plan_apply d_Plan_targets d_Plan_pieces d_Plan_edits d_Plan_record d_Plan_record_or_reject d_Plan_passes d_Plan_require_idle d_Plan_state_at d_Plan_len d_Plan_str d_BadInterval_init d_Duplicate_init d_BadEdit_init d_Rejected_init d_Unknown_init t_LAST_POSITION t_MAX_TARGETS t_MAX_PIECES t_MAX_EDITS t_BATCH t_WORDS) : FnOk P w K mg base CX0 1 f_Plan_passes d_Plan_passes ["self", "check"] (fun _ _ _ _ => False) := T.F_Plan_passes.ok sc_Plan_passes (fun vs H Q E h => h.elim) (fun cdv A outer s H vs Q E hr h => h.elim)
/-- the states before the last one -/
def hist0 (S : St2) : List Ed → List St2
  | [] => []
  | e :: es => S :: hist0 (stepS S e) es
theorem hist0_snoc : ∀ (S : St2) (es : List Ed) (e : Ed), hist0 S (es ++ [e]) = hist0 S es ++ [runS S es]
  | S, [], e => rfl
  | S, a :: es, e => congrArg (S :: ·) (hist0_snoc (stepS S a) es e)
theorem hist0_len : ∀ (S : St2) (es : List Ed), (hist0 S es).length = es.length
  | _, [] => rfl
  | S, a :: es => congrArg (· + 1) (hist0_len (stepS S a) es)
structure Chain (S : St2) (es : List Ed) : Prop where
  ok : ∀ k, k ≤ es.length → StOk (runS S (es.take k))
  can : ∀ (k : Nat) (e : Ed), es[k]? = some e → Can (runS S (es.take k)) e
theorem PlanAt.ipl {C p : Addr} {H : Hp} {Ss : List St2} {Es : List Ed} (P : PlanAt C H p Ss Es) : ∃ dx a b, H p = some (.ins C dx (flP a b false)) := by
  obtain ⟨dx, a, b, _, _, e, _⟩ := P.ex
  exact ⟨dx, a, b, e⟩
theorem put_back (T : Tx K mg f_is_number f_is_position f_is_tuple_of f_is_interval f_ascending_error f_targets_error f_is_pieces f_without_item f_is_edit f_copied_batch f_with_interval f_without_interval f_edited_state f_law_deck f_law_draw f_law_line f_law_interval f_law_intervals f_law_edit f_law_after f_law_right f_law_begun f_law_applied f_law_failing f_law_bad f_law_batch f_law f_Plan_init f_Plan_apply f_Plan_targets f_Plan_pieces f_Plan_edits f_Plan_record f_Plan_record_or_reject f_Plan_passes f_Plan_require_idle f_Plan_state_at f_Plan_len f_Plan_str f_BadInterval_init f_Duplicate_init f_BadEdit_init f_Rejected_init f_Unknown_init C_Plan X_BadInterval X_SpanError X_Unknown X_Duplicate X_Rejected X_BadEdit X_BadEdits X_Busy d_is_number d_is_position d_is_tuple_of d_is_interval d_ascending_error d_targets_error d_is_pieces d_without_item d_is_edit d_copied_batch d_with_interval d_without_interval d_edited_state d_law_deck d_law_draw d_law_line d_law_interval d_law_intervals d_law_edit d_law_after d_law_right d_law_begun d_law_applied d_law_failing d_law_bad d_law_batch d_law d_Plan_init d_Plan_apply d_Plan_targets d_Plan_pieces d_Plan_edits d_Plan_record d_Plan_record_or_reject d_Plan_passes d_Plan_require_idle d_Plan_state_at d_Plan_len d_Plan_str d_BadInterval_init d_Duplicate_init d_BadEdit_init d_Rejected_init d_Unknown_init t_LAST_POSITION t_MAX_TARGETS t_MAX_PIECES t_MAX_EDITS t_BATCH t_WORDS) {p a b a1 b1 dx : Addr} {y1 y2 y3 y6 y7 y8 : Option V} {D : Ends} {Ha : Hp} (hp : Ha p = some (.ins C_Plan dx (flP a1 b1 false)))
    (q : ∀ H', But p Ha H' → H' p = some (.ins C_Plan dx (flP a b false)) → D.nx [some (.ref p), y1, y2, y3, some (.ref a), some (.ref b), y6, y7, y8] H') :
    tAsg (tTup (tCons (tVar 4) (tCons (tVar 5) tNil))) (gTup K 2 (gCons (gFld K (tVar 0) "states") (gCons (gFld K (tVar 0) "done") gNil))) D [some (.ref p), y1, y2, y3, some (.ref a), some (.ref b), y6, y7, y8] Ha := by
  refine ⟨.ref a, rfl, .ref b, rfl, by show 2 ≤ sizeLine; decide, fun tt ntt => ?_⟩
  have s1 := same_new (o := .tup [.ref a, .ref b]) ntt
  have ett := upd_same (H := Ha) (a := tt) (o := .tup [.ref a, .ref b])
  generalize upd Ha tt (.tup [.ref a, .ref b]) = H1 at *
  refine ⟨tt, _, rfl, SqT.of ett, rfl, .ref a, [.ref b], rfl, .ref p, rfl, p, C_Plan, dx, _, rfl, s1 _ _ hp, T.cl_Plan, T.n_Plan_states, by show 3 < 1000; decide, ?_⟩
  rw [flP_states]
  refine ⟨.ref b, [], rfl, .ref p, rfl, p, C_Plan, dx, _, rfl, upd_same, T.cl_Plan, T.n_Plan_done, by show 3 < 1000; decide, ?_⟩
  rw [flP_done]
  exact ⟨rfl, q _ ((But.same s1).trans (But.upd.trans But.upd)) upd_same⟩
theorem But.get {p C dx : Addr} {fs : List (Str × V)} {H H' : Hp} (b : But p H H') (n : H p ≠ none) {d : Addr} (e : H' d = none) (hp : H' p = some (.ins C dx fs)) : H d = none ∧ d ≠ p := by
  have dp : d ≠ p := fun z => by
    rw [z, hp] at e
    cases e
  refine ⟨?_, dp⟩
  cases q : H d with
  | none => rfl
  | some o =>
    rw [b d o dp q] at e
    cases e
/-- a batch of any value -/
def sp_applyX (K : PySem.W.Frag) (C XE XB XR : Addr) : Sp := fun vs H Q E => ∃ (p : Addr) (bv : V) (dd : PyData) (Ls : List St2) (S : St2) (Es es : List Ed), vs = [.ref p, bv, .non] ∧ PlanAt C H p (Ls ++ [S]) Es ∧ Dv K H bv dd ∧ (∀ d ∈ itemsD dd, FitW d) ∧
  (notB dd = true → ∀ H', Same H H' → E (.ref XE) none H') ∧
  (notB dd = false → ∀ k d, (itemsD dd)[k]? = some d → edB d = false → (∀ j d', j < k → (itemsD dd)[j]? = some d' → edB d' = true) → ∀ H' dx, Same H H' → H dx = none → H' dx = some (.xd [("index", .int (k : Nat))]) → E (.ref XB) (some dx) H') ∧
  (notB dd = false → (∀ d ∈ itemsD dd, edB d = true) → (itemsD dd).take es.length = es.map edD ∧ es.length ≤ (itemsD dd).length ∧ Chain S es ∧ Es.length + (itemsD dd).length ≤ 60 ∧
    ((es.length = (itemsD dd).length ∧ ∀ H', But p H H' → PlanAt C H' p (Ls ++ hist0 S es ++ [runS S es]) (Es ++ es) → Q (.int (Es.length + es.length : Nat)) H') ∨
     (∃ add pc vd, (itemsD dd)[es.length]? = some (.tuple [.str (wordOf add pc), vd]) ∧ BadW vd add (sideS pc (runS S es)) ∧ Room2 (runS S es) add pc ∧
       ∀ H' d, But p H H' → H d = none → d ≠ p → H' d = some (.xd [("index", .int (es.length : Nat))]) → PlanAt C H' p (Ls ++ [S]) Es → E (.ref XR) (some d) H')))
theorem Dv.asEd {K : PySem.W.Frag} {H : Hp} {v : V} {wd : Str} {d : PyData} (h : Dv K H v (.tuple [.str wd, d])) : ∃ t x, v = .ref t ∧ H t = some (.tup [.str wd, x]) ∧ Dv K H x d := by
  cases h with
  | @tup a xs _ e all =>
    match xs, all with
    | [_, _], .cons h1 (.cons h2 .nil) =>
      cases h1
      exact ⟨a, _, rfl, e, h2⟩
theorem okx_Plan_apply (T : Tx K mg f_is_number f_is_position f_is_tuple_of f_is_interval f_ascending_error f_targets_error f_is_pieces f_without_item f_is_edit f_copied_batch f_with_interval f_without_interval f_edited_state f_law_deck f_law_draw f_law_line f_law_interval f_law_intervals f_law_edit f_law_after f_law_right f_law_begun f_law_applied f_law_failing f_law_bad f_law_batch f_law f_Plan_init f_Plan_apply f_Plan_targets f_Plan_pieces f_Plan_edits f_Plan_record f_Plan_record_or_reject f_Plan_passes f_Plan_require_idle f_Plan_state_at f_Plan_len f_Plan_str f_BadInterval_init f_Duplicate_init f_BadEdit_init f_Rejected_init f_Unknown_init C_Plan X_BadInterval X_SpanError X_Unknown X_Duplicate X_Rejected X_BadEdit X_BadEdits X_Busy d_is_number d_is_position d_is_tuple_of d_is_interval d_ascending_error d_targets_error d_is_pieces d_without_item d_is_edit d_copied_batch d_with_interval d_without_interval d_edited_state d_law_deck d_law_draw d_law_line d_law_interval d_law_intervals d_law_edit d_law_after d_law_right d_law_begun d_law_applied d_law_failing d_law_bad d_law_batch d_law d_Plan_init d_Plan_apply d_Plan_targets d_Plan_pieces d_Plan_edits d_Plan_record d_Plan_record_or_reject d_Plan_passes d_Plan_require_idle d_Plan_state_at d_Plan_len d_Plan_str d_BadInterval_init d_Duplicate_init d_BadEdit_init d_Rejected_init d_Unknown_init t_LAST_POSITION t_MAX_TARGETS t_MAX_PIECES t_MAX_EDITS t_BATCH t_WORDS) : FnOk P w K mg base (L2.CX P w) 13 f_Plan_apply d_Plan_apply ["self", "edits", "check"] (sp_applyX K C_Plan X_BadEdits X_BadEdit X_Rejected) := by
  refine T.F_Plan_apply.ok sc_Plan_apply (fun vs H Q E h => ?_) (fun cdv A outer s H vs Q E hr h => ?_)
  · obtain ⟨p, bv, dd, Ls, S, Es, es, rfl, _⟩ := h
    rfl
  · obtain ⟨p, bv, dd, Ls, S, Es, es, rfl, P, dv, fit, bad1, bad2, all⟩ := h
    refine ⟨_, (pss_cons (ps_expr (pe_meth0 (pv 0) T.cl_Plan T.m_Plan_require_idle (ok_Plan_require_idle T) (hr.mono (by decide)) T.b_Plan_require_idle .nil pass0))
      (pss_cons (ps_set (i := 3) sc_Plan_apply.nd rfl (Or.inl rfl) (pe_callS (okx_copied_batch T) (hr.mono (by decide)) (by rfl) T.g_copied_batch T.F_copied_batch.kp T.b_copied_batch (fun σ => passAt (takes_of rfl rfl rfl rfl) σ) (pa_cons (pv 1) pa_nil)))
      (pss_cons (ps_par (by rfl) sc_Plan_apply.nd (i := 4) (j := 5) rfl rfl (by decide) rfl rfl (pa_cons (pe_fld (pv 0) rfl) (pa_cons (pe_fld (pv 0) rfl) pa_nil)) (by rfl))
      (pss_one (ps_fin4Y rfl rfl rfl (takes_of rfl rfl rfl rfl) (fun W pn xe tk po => (pss2_cons (ps2_for po rfl (show PI _ _ _ (iEnumT K _) from pi_enumT (by rfl) T.z_enumerate (pa_cons (pv 3) pa_nil)) (show PG _ _ (gTup K 2 _) from pg_tup rfl (pgs_cons (pg_name (i := 6) sc_Plan_apply.nd rfl (Or.inl rfl)) (pgs_cons (show PG _ _ (gTup K 2 _) from pg_tup rfl (pgs_cons (pg_name (i := 7) sc_Plan_apply.nd rfl (Or.inl rfl)) (pgs_cons (pg_name (i := 8) sc_Plan_apply.nd rfl (Or.inl rfl)) pgs_nil))) pgs_nil)))
      (pss2_cons (PS2.of (ps_expr (pe_methL (pv 0) T.cl_Plan T.m_Plan_record_or_reject (ok2_Plan_record_or_reject T) (hr.mono (by decide)) T.b_Plan_record_or_reject (fun σ => passAt2 tk σ) (pa_cons (pv 6) (pa_cons (pv 7) (pa_cons (pv 8) pa_nil))))))
      (pss2_one (ps2_if (PW.pt (pw_and (pt_cmpR op_notN (pv 2) pe_non (nomark _)) (pw_and1 (pt_not (pt_val (pe_meth (pv 0) T.cl_Plan T.m_Plan_passes (ok_Plan_passes T) (hr.mono (by decide)) T.b_Plan_passes .nil pass0 (pa_cons (pv 2) pa_nil)))))))
      (pss2_one (ps2_ret pe_non))
      pss2_nil))))
      (pss2_cons (PS2.of (ps_par (by rfl) sc_Plan_apply.nd (i := 4) (j := 5) rfl rfl (by decide) rfl rfl (pa_cons (show PE _ _ (tFld K _ _) from pe_fld (pv 0) rfl) (pa_cons (show PE _ _ (tFld K _ _) from pe_fld (pv 0) rfl) pa_nil)) (by rfl)))
      (pss2_one (ps2_ret (pe_callB (show CallR _ (.builtin "len") (rLenS K) from call_lenS) (by rfl) T.z_len PySem.boot_len (pa_cons (pv 5) pa_nil)))))))
      (pss_one (ps_asg (pe_tup (pa_cons (pv 4) (pa_cons (pv 5) pa_nil))) (show PG _ _ (gTup K 2 _) from pg_tup rfl (pgs_cons (show PG _ _ (gFld K _ _) from pg_fld (pv 0)) (pgs_cons (show PG _ _ (gFld K _ _) from pg_fld (pv 0)) pgs_nil)))))
      (fun ea ec oe oc pn hc2 => (pss_one (ps_asg (pe_tup (pa_cons (pv 4) (pa_cons (pv 5) pa_nil))) (show PG _ _ (gTup K 2 _) from pg_tup2 hc2 (pgs_cons (show PG _ _ (gFld K _ _) from pg_fld (pv 0)) (pgs_cons (show PG _ _ (gFld K _ _) from pg_fld (pv 0)) pgs_nil))))))))))), ?_⟩
    obtain ⟨⟨dx, a, b, uu, vv, hp, ha, sts, hb, edv⟩, pl⟩ := id P
    refine ⟨.ref p, rfl, p, dx, _, rfl, hp, lk_no _ _ _ (by decide +kernel), p, dx, a, b, rfl, hp, ?_⟩
    refine ⟨bv, rfl, bv, dd, rfl, dv, fit, bad1, fun nb k d e1 e2 e3 H1 dx' s1 nd => bad2 nb k d e1 e2 e3 _ dx' (s1.trans (same_new nd)) (s1.free nd) upd_same, fun nb allE H1 t us s1 et dvs => ?_⟩
    have hp1 := s1 _ _ hp
    refine ⟨.ref p, rfl, p, C_Plan, dx, _, _, rfl, hp1, T.cl_Plan, T.n_Plan_states, lk_states _ _ _, .ref p, rfl, p, C_Plan, dx, _, _, rfl, hp1, T.cl_Plan, T.n_Plan_done, lk_done _ _ _, .ref a, .ref b, rfl, ?_⟩
    obtain ⟨tk, le, ch, cnt, why⟩ := all nb allE
    have lus := dvs.length
    generalize itemsD dd = ds at *
    refine ⟨.ref t, rfl, t, us, rfl, SqT.of et, ?_⟩
    refine for_enumT2 (K := K) (a := t) (xs := us) (fun i σ H' => But p H H' ∧ Dts H1 H' ∧ i ≤ es.length ∧ PlanAt C_Plan H' p (Ls ++ hist0 S (es.take i) ++ [runS S (es.take i)]) (Es ++ es.take i) ∧ H' t = some (.tup us) ∧ ∃ y6 y7 y8, σ = [some (.ref p), some bv, some .non, some (.ref t), some (.ref a), some (.ref b), y6, y7, y8])
      ⟨But.same s1, Dts.same (Same.refl _), Nat.zero_le _, ?_, et, none, none, none, rfl⟩ (fun i σ H' h => SqT.of h.2.2.2.2.1) ?_ ?_
    · show PlanAt C_Plan H1 p (Ls ++ hist0 S [] ++ [runS S []]) (Es ++ [])
      rw [List.append_nil]
      show PlanAt C_Plan H1 p (Ls ++ [] ++ [S]) Es
      rw [List.append_nil]
      exact P.same s1
    · rintro i x tt σ Ha hx ⟨ba, da, il, Pa, eta, y6, y7, y8, rfl⟩ ntt
      obtain ⟨dxa, aa, bb, hpa⟩ := Pa.ipl
      have s2 := same_new (o := .tup [.int (i : Nat), x]) ntt
      have ett := upd_same (H := Ha) (a := tt) (o := .tup [.int (i : Nat), x])
      generalize upd Ha tt (.tup [.int (i : Nat), x]) = Hb at *
      obtain ⟨xd, exd, hxd⟩ := dvs.get hx
      have hxb := dv_dts (da.trans (Dts.same s2)) hxd
      have iu : i < us.length := (List.getElem?_eq_some_iff.mp hx).1
      have Pb := Pa.same s2
      have hpb := s2 _ _ hpa
      -- what stands at the place
      have key : ∃ add pc vd, xd = .tuple [.str (wordOf add pc), vd] ∧ Room2 (runS S (es.take i)) add pc ∧ ((∃ e, es[i]? = some e ∧ e.add = add ∧ e.pc = pc ∧ vd = pairD e.q) ∨ (i = es.length ∧ BadW vd add (sideS pc (runS S es)) ∧
          ∀ H' d, But p H H' → H d = none → d ≠ p → H' d = some (.xd [("index", .int (es.length : Nat))]) → PlanAt C_Plan H' p (Ls ++ [S]) Es → E (.ref X_Rejected) (some d) H')) := by
        rcases Nat.lt_or_ge i es.length with lt | ge
        · have ge := List.getElem?_eq_getElem lt
          have can := ch.can i _ ge
          have z : (ds.take es.length)[i]? = some xd := by rw [List.getElem?_take_of_lt lt]; exact exd
          rw [tk, List.getElem?_map, ge] at z
          cases z
          exact ⟨_, _, _, rfl, fun ea => (can.no ea).2, .inl ⟨_, ge, rfl, rfl, rfl⟩⟩
        · have ie : i = es.length := by omega
          rcases why with ⟨eq, _⟩ | ⟨add, pc, vd, e1, e2, e3, e4⟩
          · omega
          · rw [← ie, exd] at e1
            cases e1
            exact ⟨add, pc, vd, rfl, by rw [ie, List.take_length]; exact e3, .inr ⟨ie, e2, e4⟩⟩
      obtain ⟨add, pc, vd, rfl, room, what⟩ := key
      obtain ⟨tx, v, rfl, htx, hvd⟩ := hxb.asEd
      refine ⟨tt, _, rfl, SqT.of ett, rfl, .int (i : Nat), [.ref tx], rfl, .ref tx, [], rfl, ?_⟩
      refine ⟨tx, _, rfl, SqT.of htx, rfl, .str (wordOf add pc), [v], rfl, v, [], rfl, rfl, rfl, ?_⟩
      refine ⟨.ref p, rfl, p, dxa, _, rfl, hpb, lk_no _ _ _ (by decide +kernel), .int (i : Nat), rfl, .str (wordOf add pc), rfl, v, rfl, ?_⟩
      refine ⟨p, (i : Nat), v, vd, _, _, _, add, pc, rfl, Pb, ?_, ch.ok i il, hvd, room, fun q ez e2 e3 e4 Hc bc Pc => ?_, fun bw H2 d sd nd => ?_⟩
      · rw [List.length_append, List.length_take, Nat.min_eq_left il]
        omega
      · have bA : But p H Hc := (ba.trans (But.same s2)).trans bc
        have dA : Dts H1 Hc := (da.trans (Dts.same s2)).trans (Dts.but bc hpb)
        refine ⟨_, rfl, rfl, _, rfl, iteF (iteF ?_)⟩
        rcases what with ⟨e, ee, rfl, rfl, z⟩ | ⟨ie, bw, _⟩
        · have lt := (List.getElem?_eq_some_iff.mp ee).1
          refine ⟨bA, dA, lt, ?_, dA.t _ _ et, _, _, _, rfl⟩
          have eq : q = e.q := by
            rw [z] at ez
            injection ez with ez
            injection ez with z1 z2
            injection z2 with z2 _
            injection z1 with z1
            injection z2 with z2
            exact Prod.ext z1.symm z2.symm
          subst eq
          rw [List.take_add_one, ee]
          show PlanAt C_Plan Hc p (Ls ++ hist0 S (es.take i ++ [e]) ++ [runS S (es.take i ++ [e])]) (Es ++ (es.take i ++ [e]))
          rw [hist0_snoc, ← List.append_assoc, ← List.append_assoc, show runS S (es.take i ++ [e]) = stepS (runS S (es.take i)) e by unfold runS; rw [List.foldl_append]; rfl]
          exact Pc
        · exfalso
          rw [ie, List.take_length] at e3 e4
          rcases bw with ⟨ea, z⟩ | ⟨ea, z⟩
          · rcases z with z | ⟨q', z1, z2, z3⟩
            · rw [e2] at z
              cases z
            · rw [ez] at z1
              injection z1 with z1
              injection z1 with y1 y2
              injection y2 with y2 _
              injection y1 with y1
              injection y2 with y2
              exact e3 ea (by rw [show q = q' from Prod.ext y1 y2]; exact z3)
          · exact z q.1 q.2 ez e2 (e4 ea)
      · rcases what with ⟨e, ee, rfl, rfl, z⟩ | ⟨ie, _, bad⟩
        · exfalso
          have can := ch.can i e ee
          have iv : ivB (pairD e.q) = true := iv_ok can.ok
          rcases bw with ⟨ea, y⟩ | ⟨ea, y⟩
          · rcases y with y | ⟨q', y1, y2, y3⟩
            · rw [z, iv] at y
              cases y
            · rw [z] at y1
              injection y1 with y1
              injection y1 with x1 x2
              injection x2 with x2 _
              injection x1 with x1
              injection x2 with x2
              exact (can.no ea).1 (by rw [show e.q = q' from Prod.ext x1 x2]; exact y3)
          · exact y e.q.1 e.q.2 z (by rw [z]; exact iv) (can.yes ea)
        · have bHb : But p H H2 := ba.trans (But.same (s2.trans sd))
          have hpd := sd _ _ hpb
          have hdp := bHb.get (by rw [hp]; exact fun z => nomatch z) nd hpd
          have npd : p ≠ d := fun z => hdp.2 z.symm
          refine put_back T (dx := dxa) (a1 := aa) (b1 := bb) (by rw [upd_ne npd]; exact hpd) fun H' b' hp' => ?_
          have bd : But p H2 (upd H2 d (.xd [("index", .int (i : Nat))])) := fun c o n e => by
            rw [upd_ne (ne_of_none e nd)]
            exact e
          have bAll : But p H H' := (bHb.trans bd).trans b'
          have tAll : Tps H H' := P.tps bAll
          refine bad H' d bAll hdp.1 hdp.2 (by rw [← ie]; exact b' _ _ hdp.2 upd_same) ⟨⟨dxa, a, b, uu, vv, hp', tAll _ _ ha, sts.tps tAll, tAll _ _ hb, edv.tps tAll⟩, pl⟩
    · rintro σ Ha ⟨ba, da, il, Pa, eta, y6, y7, y8, rfl⟩
      have eu : us.length = es.length := by omega
      have good : ∀ H', But p H H' → PlanAt C_Plan H' p (Ls ++ hist0 S es ++ [runS S es]) (Es ++ es) → Q (.int (Es.length + es.length : Nat)) H' := by
        rcases why with ⟨_, z⟩ | ⟨add, pc, vd, e1, _⟩
        · exact z
        · have := (List.getElem?_eq_some_iff.mp e1).1
          omega
      rw [eu, List.take_length] at Pa
      obtain ⟨⟨dxa, aa, bb, uua, vva, hpa, haa, stsa, hba, edva⟩, pla⟩ := id Pa
      refine ⟨.ref p, rfl, p, C_Plan, dxa, _, _, rfl, hpa, T.cl_Plan, T.n_Plan_states, lk_states _ _ _, .ref p, rfl, p, C_Plan, dxa, _, _, rfl, hpa, T.cl_Plan, T.n_Plan_done, lk_done _ _ _, .ref aa, .ref bb, rfl, ?_⟩
      refine ⟨.ref bb, rfl, bb, vva, rfl, .inr (SqT.of hba), ?_⟩
      refine put_back T (dx := dxa) (a1 := aa) (b1 := bb) hpa fun H' b' hp' => ?_
      have tA := Pa.tps b'
      have z := good H' (ba.trans b') ⟨⟨dxa, aa, bb, uua, vva, hp', tA _ _ haa, stsa.tps tA, tA _ _ hba, edva.tps tA⟩, pla⟩
      have lv := edva.length
      rw [List.length_append] at lv
      rw [lv]
      exact z

/-! ### what the law sees of a batch -/
def sp_law_applied (K : PySem.W.Frag) (C : Addr) : Sp := fun vs H Q _ => ∃ (p : Addr) (bv : V) (dd : PyData) (Ls : List St2) (S : St2) (Es es : List Ed), vs = [.ref p, bv] ∧ PlanAt C H p (Ls ++ [S]) Es ∧ Dv K H bv dd ∧ (∀ d ∈ itemsD dd, FitW d) ∧
  (notB dd = true → ∀ H' L, Same H H' → H L = none → H' L = some (.lst [.str "bad edits"]) → Q (.ref L) H') ∧
  (notB dd = false → ∀ k d, (itemsD dd)[k]? = some d → edB d = false → (∀ j d', j < k → (itemsD dd)[j]? = some d' → edB d' = true) → ∀ H' L, Same H H' → H L = none → H' L = some (.lst [.str "bad edit", .int (k : Nat)]) → Q (.ref L) H') ∧
  (notB dd = false → (∀ d ∈ itemsD dd, edB d = true) → (itemsD dd).take es.length = es.map edD ∧ es.length ≤ (itemsD dd).length ∧ Chain S es ∧ Es.length + (itemsD dd).length ≤ 60 ∧
    ((es.length = (itemsD dd).length ∧ ∀ H', But p H H' → PlanAt C H' p (Ls ++ hist0 S es ++ [runS S es]) (Es ++ es) → Q (.int (Es.length + es.length : Nat)) H') ∨
     (∃ add pc vd, (itemsD dd)[es.length]? = some (.tuple [.str (wordOf add pc), vd]) ∧ BadW vd add (sideS pc (runS S es)) ∧ Room2 (runS S es) add pc ∧
       ∀ H' L, But p H H' → H L = none → L ≠ p → H' L = some (.lst [.str "rejected", .int (es.length : Nat)]) → PlanAt C H' p (Ls ++ [S]) Es → Q (.ref L) H')))
theorem ok_law_applied (T : Tx K mg f_is_number f_is_position f_is_tuple_of f_is_interval f_ascending_error f_targets_error f_is_pieces f_without_item f_is_edit f_copied_batch f_with_interval f_without_interval f_edited_state f_law_deck f_law_draw f_law_line f_law_interval f_law_intervals f_law_edit f_law_after f_law_right f_law_begun f_law_applied f_law_failing f_law_bad f_law_batch f_law f_Plan_init f_Plan_apply f_Plan_targets f_Plan_pieces f_Plan_edits f_Plan_record f_Plan_record_or_reject f_Plan_passes f_Plan_require_idle f_Plan_state_at f_Plan_len f_Plan_str f_BadInterval_init f_Duplicate_init f_BadEdit_init f_Rejected_init f_Unknown_init C_Plan X_BadInterval X_SpanError X_Unknown X_Duplicate X_Rejected X_BadEdit X_BadEdits X_Busy d_is_number d_is_position d_is_tuple_of d_is_interval d_ascending_error d_targets_error d_is_pieces d_without_item d_is_edit d_copied_batch d_with_interval d_without_interval d_edited_state d_law_deck d_law_draw d_law_line d_law_interval d_law_intervals d_law_edit d_law_after d_law_right d_law_begun d_law_applied d_law_failing d_law_bad d_law_batch d_law d_Plan_init d_Plan_apply d_Plan_targets d_Plan_pieces d_Plan_edits d_Plan_record d_Plan_record_or_reject d_Plan_passes d_Plan_require_idle d_Plan_state_at d_Plan_len d_Plan_str d_BadInterval_init d_Duplicate_init d_BadEdit_init d_Rejected_init d_Unknown_init t_LAST_POSITION t_MAX_TARGETS t_MAX_PIECES t_MAX_EDITS t_BATCH t_WORDS) : FnOk P w K mg base CX0 14 f_law_applied d_law_applied ["_law_plan", "_law_batch_here"] (sp_law_applied K C_Plan) := by
  refine T.F_law_applied.ok sc_law_applied (fun vs H Q E h => ?_) (fun cdv A outer s H vs Q E hr h => ?_)
  · obtain ⟨p, bv, dd, Ls, S, Es, es, rfl, _⟩ := h
    rfl
  · obtain ⟨p, bv, dd, Ls, S, Es, es, rfl, P, dv, fit, bad1, bad2, all⟩ := h
    refine ⟨_, (pss_one (ps_try_as (i := 2)  (Wout := fun _ _ _ _ => False) rfl rfl sc_law_applied.nd rfl rfl ⟨rfl, by decide, .inl T.xn_SpanError.g⟩ takes0
      (fun W pn xe tk _ => (pss_one (ps_ret (pe_methLD (pv 0) T.cl_Plan T.m_Plan_apply (okx_Plan_apply T) (hr.mono (by decide)) T.b_Plan_apply.choose_spec.2 T.b_Plan_apply.choose_spec.1 (fun σ => passAt tk σ) (pa_cons (pv 1) pa_nil)))))
      (fun ea oe cls ed pn hz hf => (pss_cons (ps_set (i := 3) sc_law_applied.nd rfl (Or.inl rfl) (pe_lst (pa_cons (pe_callB (call_isY hz hf) (by rfl) T.z_isinstance (by decide +kernel) (pa_cons (pv 2) (pa_cons (pe_glob (v := .ref X_Rejected) (by rfl) T.xn_Rejected.g rfl) pa_nil))) (pa_cons (pe_callB (call_isY hz hf) (by rfl) T.z_isinstance (by decide +kernel) (pa_cons (pv 2) (pa_cons (pe_glob (v := .ref X_BadEdit) (by rfl) T.xn_BadEdit.g rfl) pa_nil))) (pa_cons (pe_callB (call_isY hz hf) (by rfl) T.z_isinstance (by decide +kernel) (pa_cons (pv 2) (pa_cons (pe_glob (v := .ref X_BadEdits) (by rfl) T.xn_BadEdits.g rfl) pa_nil))) (pa_cons (pe_callB (call_isY hz hf) (by rfl) T.z_isinstance (by decide +kernel) (pa_cons (pv 2) (pa_cons (pe_glob (v := .ref X_Busy) (by rfl) T.xn_Busy.g rfl) pa_nil))) pa_nil))))))
      (pss_cons (ps_if (PW.pt (pw_or (pt_cmpR op_ne (pe_bmK (K := K) rfl (pe_bm PySem.F.plainAttrs_list PySem.F.slot_list_count PySem.F.type_list_count (show MtR _ "list.count" (rCountD K) from mt_countD (by have z := units65 hr; exact z)) (pv 3) (pa_cons pe_bl pa_nil))) pe_int (nomark _)) (pw_or1 (pt_not (pt_val (pe_callB (call_isY hz hf) (by rfl) T.z_isinstance (by decide +kernel) (pa_cons (pv 2) (pa_cons (pe_bltn (v := .ty "ValueError") (u := .type "ValueError") (by rfl) T.z_ValueError (by decide +kernel) rfl) pa_nil))))))))
      (pss_one (ps_ret (pe_lst (pa_cons pe_str pa_nil))))
      pss_nil)
      (pss_cons (ps_if (pt_val (pe_ix (show IxR _ (rIxL K) from ix_list) (pv 3) pe_int (fun _ _ => rfl)))
      (pss_one (ps_ret (pe_lst (pa_cons pe_str (pa_cons (pe_xf T.xi_Rejected.xf T.xi_Rejected.no hz hf (pv 2)) pa_nil)))))
      pss_nil)
      (pss_cons (ps_if (pt_val (pe_ix (show IxR _ (rIxL K) from ix_list) (pv 3) pe_int (fun _ _ => rfl)))
      (pss_one (ps_ret (pe_lst (pa_cons pe_str (pa_cons (pe_xf T.xi_BadEdit.xf T.xi_BadEdit.no hz hf (pv 2)) pa_nil)))))
      pss_nil)
      (pss_one (ps_ret (pe_op op_rep (pe_lst (pa_cons pe_str pa_nil)) (pe_callTy call_int1 (by rfl) T.z_int (by decide +kernel) (pa_cons (pe_ix (show IxR _ (rIxL K) from ix_list) (pv 3) pe_int (fun _ _ => rfl)) pa_nil)))))))))))), ?_⟩
    obtain ⟨dx, a, b, hp⟩ := P.ipl
    refine ⟨.ref p, rfl, p, dx, _, rfl, hp, lk_no _ _ _ (by decide +kernel), bv, rfl, p, bv, dd, Ls, S, Es, es, rfl, P, dv, fit, fun nb H1 s1 => ?_, fun nb k d e1 e2 e3 H1 dx' s1 nd hd1 => ?_, fun nb allE => ?_⟩
    · refine ⟨true, T.xn_SpanError.exm T.xs_BadEdits_SpanError, fun _ e na => ?_, fun z => nomatch z⟩
      have ex := T.xr_BadEdits.ex
      refine ⟨.ref e, rfl, X_BadEdits, .ref X_Rejected, _, _, rfl, rfl, .inl rfl, ex, .own _, T.xn_Rejected.kit T.xs_BadEdits_Rejected (T.xr_BadEdits.ne T.xs_BadEdits_Rejected), .ref e, rfl, X_BadEdits, .ref X_BadEdit, _, _, rfl, rfl, .inl rfl, ex, .own _, T.xn_BadEdit.kit T.xs_BadEdits_BadEdit (T.xr_BadEdits.ne T.xs_BadEdits_BadEdit), .ref e, rfl, X_BadEdits, .ref X_BadEdits, _, _, rfl, rfl, .inl rfl, ex, .own _, kit_self, .ref e, rfl, X_BadEdits, .ref X_Busy, _, _, rfl, rfl, .inl rfl, ex, .own _, T.xn_Busy.kit T.xs_BadEdits_Busy (T.xr_BadEdits.ne T.xs_BadEdits_Busy), by show 4 ≤ sizeLine; decide, fun L nL => ?_⟩
      have sL := same_new (o := .lst [.bl false, .bl false, .bl true, .bl false]) nL
      have eL := upd_same (H := H1) (a := L) (o := .lst [.bl false, .bl false, .bl true, .bl false])
      generalize upd H1 L (.lst [.bl false, .bl false, .bl true, .bl false]) = HL at *
      refine ⟨.ref L, rfl, .inl ⟨rfl, _, SqL.of eL⟩, L, .bl true, .bool true, [.bool false, .bool false, .bool true, .bool false], rfl, rfl, .lst (SqL.of eL) (.cons (.bl _) (.cons (.bl _) (.cons (.bl _) (.cons (.bl _) .nil)))), .bl true, by decide +kernel, by decide +kernel, rfl, _, rfl, iteNS (congrArg V.int (by decide +kernel)) ?_⟩
      refine ⟨.ref e, rfl, X_BadEdits, .ty "ValueError", _, _, rfl, rfl, .inl rfl, ex, .ty _, kit_bltn (by decide +kernel) T.xv_BadEdits, true, rfl, iteF ?_⟩
      refine ⟨.ref L, rfl, L, _, 0, .bl false, rfl, rfl, SqL.of eL, rfl, false, rfl, iteF ?_⟩
      refine ⟨.ref L, rfl, L, _, 1, .bl false, rfl, rfl, SqL.of eL, rfl, false, rfl, iteF ?_⟩
      refine ⟨by show 1 ≤ sizeLine; decide, fun L2 nL2 => ?_⟩
      have s3 := same_new (o := .lst [.str "bad edits"]) nL2
      have eL2 := upd_same (H := HL) (a := L2) (o := .lst [.str "bad edits"])
      generalize upd HL L2 (.lst [.str "bad edits"]) = H3 at *
      refine ⟨.ref L, rfl, L, _, 2, .bl true, rfl, rfl, SqL.of (s3 _ _ eL), rfl, .inr ⟨true, rfl, L2, 1, _, rfl, rfl, eL2, by decide, by decide, by show 1 ≤ sizeLine; decide, fun L3 nL3 => ?_⟩⟩
      have s4 := same_new (o := .lst [.str "bad edits"]) nL3
      exact bad1 nb _ L3 (s1.trans (sL.trans (s3.trans s4))) (s1.free (sL.free (s3.free nL3))) upd_same
    · refine ⟨true, T.xn_SpanError.exm T.xs_BadEdit_SpanError, fun _ e na => ?_, fun z => nomatch z⟩
      have ex := T.xi_BadEdit.ex
      refine ⟨.ref e, rfl, X_BadEdit, .ref X_Rejected, _, _, rfl, rfl, .inr ⟨dx', _, rfl, hd1⟩, ex, .own _, T.xn_Rejected.kit T.xs_BadEdit_Rejected (T.xi_BadEdit.ne T.xs_BadEdit_Rejected), .ref e, rfl, X_BadEdit, .ref X_BadEdit, _, _, rfl, rfl, .inr ⟨dx', _, rfl, hd1⟩, ex, .own _, kit_self, .ref e, rfl, X_BadEdit, .ref X_BadEdits, _, _, rfl, rfl, .inr ⟨dx', _, rfl, hd1⟩, ex, .own _, T.xn_BadEdits.kit T.xs_BadEdit_BadEdits (T.xi_BadEdit.ne T.xs_BadEdit_BadEdits), .ref e, rfl, X_BadEdit, .ref X_Busy, _, _, rfl, rfl, .inr ⟨dx', _, rfl, hd1⟩, ex, .own _, T.xn_Busy.kit T.xs_BadEdit_Busy (T.xi_BadEdit.ne T.xs_BadEdit_Busy), by show 4 ≤ sizeLine; decide, fun L nL => ?_⟩
      have sL := same_new (o := .lst [.bl false, .bl true, .bl false, .bl false]) nL
      have eL := upd_same (H := H1) (a := L) (o := .lst [.bl false, .bl true, .bl false, .bl false])
      generalize upd H1 L (.lst [.bl false, .bl true, .bl false, .bl false]) = HL at *
      refine ⟨.ref L, rfl, .inl ⟨rfl, _, SqL.of eL⟩, L, .bl true, .bool true, [.bool false, .bool true, .bool false, .bool false], rfl, rfl, .lst (SqL.of eL) (.cons (.bl _) (.cons (.bl _) (.cons (.bl _) (.cons (.bl _) .nil)))), .bl true, by decide +kernel, by decide +kernel, rfl, _, rfl, iteNS (congrArg V.int (by decide +kernel)) ?_⟩
      refine ⟨.ref e, rfl, X_BadEdit, .ty "ValueError", _, _, rfl, rfl, .inr ⟨dx', _, rfl, sL _ _ hd1⟩, ex, .ty _, kit_bltn (by decide +kernel) T.xv_BadEdit, true, rfl, iteF ?_⟩
      refine ⟨.ref L, rfl, L, _, 0, .bl false, rfl, rfl, SqL.of eL, rfl, false, rfl, iteF ?_⟩
      refine ⟨.ref L, rfl, L, _, 1, .bl true, rfl, rfl, SqL.of eL, rfl, true, rfl, iteT ?_⟩
      refine ⟨.ref e, rfl, rfl, rfl, dx', _, .int (k : Nat), rfl, sL _ _ hd1, rfl, by show 2 ≤ sizeLine; decide, fun L3 nL3 => ?_⟩
      have s4 := same_new (o := .lst [.str "bad edit", .int (k : Nat)]) nL3
      exact bad2 nb k d e1 e2 e3 _ L3 (s1.trans (sL.trans s4)) (s1.free (sL.free nL3)) upd_same
    · obtain ⟨tk, le, ch, cnt, why⟩ := all nb allE
      refine ⟨tk, le, ch, cnt, ?_⟩
      rcases why with ⟨eq, good⟩ | ⟨add, pc, vd, e1, e2, e3, bad⟩
      · exact .inl ⟨eq, good⟩
      · refine .inr ⟨add, pc, vd, e1, e2, e3, fun H1 d b1 nd dp hd1 P1 => ?_⟩
        refine ⟨true, T.xn_SpanError.exm T.xs_Rejected_SpanError, fun _ e na => ?_, fun z => nomatch z⟩
        have ex := T.xi_Rejected.ex
        refine ⟨.ref e, rfl, X_Rejected, .ref X_Rejected, _, _, rfl, rfl, .inr ⟨d, _, rfl, hd1⟩, ex, .own _, kit_self, .ref e, rfl, X_Rejected, .ref X_BadEdit, _, _, rfl, rfl, .inr ⟨d, _, rfl, hd1⟩, ex, .own _, T.xn_BadEdit.kit T.xs_Rejected_BadEdit (T.xi_Rejected.ne T.xs_Rejected_BadEdit), .ref e, rfl, X_Rejected, .ref X_BadEdits, _, _, rfl, rfl, .inr ⟨d, _, rfl, hd1⟩, ex, .own _, T.xn_BadEdits.kit T.xs_Rejected_BadEdits (T.xi_Rejected.ne T.xs_Rejected_BadEdits), .ref e, rfl, X_Rejected, .ref X_Busy, _, _, rfl, rfl, .inr ⟨d, _, rfl, hd1⟩, ex, .own _, T.xn_Busy.kit T.xs_Rejected_Busy (T.xi_Rejected.ne T.xs_Rejected_Busy), by show 4 ≤ sizeLine; decide, fun L nL => ?_⟩
        have sL := same_new (o := .lst [.bl true, .bl false, .bl false, .bl false]) nL
        have eL := upd_same (H := H1) (a := L) (o := .lst [.bl true, .bl false, .bl false, .bl false])
        generalize upd H1 L (.lst [.bl true, .bl false, .bl false, .bl false]) = HL at *
        refine ⟨.ref L, rfl, .inl ⟨rfl, _, SqL.of eL⟩, L, .bl true, .bool true, [.bool true, .bool false, .bool false, .bool false], rfl, rfl, .lst (SqL.of eL) (.cons (.bl _) (.cons (.bl _) (.cons (.bl _) (.cons (.bl _) .nil)))), .bl true, by decide +kernel, by decide +kernel, rfl, _, rfl, iteNS (congrArg V.int (by decide +kernel)) ?_⟩
        refine ⟨.ref e, rfl, X_Rejected, .ty "ValueError", _, _, rfl, rfl, .inr ⟨d, _, rfl, sL _ _ hd1⟩, ex, .ty _, kit_bltn (by decide +kernel) T.xv_Rejected, true, rfl, iteF ?_⟩
        refine ⟨.ref L, rfl, L, _, 0, .bl true, rfl, rfl, SqL.of eL, rfl, true, rfl, iteT ?_⟩
        refine ⟨.ref e, rfl, rfl, rfl, d, _, .int (es.length : Nat), rfl, sL _ _ hd1, rfl, by show 2 ≤ sizeLine; decide, fun L3 nL3 => ?_⟩
        have s4 := same_new (o := .lst [.str "rejected", .int (es.length : Nat)]) nL3
        have sz := sL.trans s4
        obtain ⟨dx1, _, _, hp1⟩ := P1.ipl
        have nL0 := b1.get (by rw [hp]; exact fun z => nomatch z) (sL.free nL3) hp1
        exact bad _ L3 (b1.trans (But.same sz)) nL0.1 nL0.2 upd_same (P1.same sz)

/-! ### odd values through draws (the plain deck) -/
/-- the heap but for the deck -/
def OffP (d c : Addr) (H : Hp) : Hp := fun b => if b = d ∨ b = c then none else H b
theorem offP_get {d c : Addr} {H : Hp} {b : Addr} {o : HO} (n : Off d c b) (e : H b = some o) : OffP d c H b = some o := by
  unfold OffP
  rw [if_neg (fun z => z.elim n.1 n.2)]
  exact e
theorem offP_at {d c : Addr} {H : Hp} {b : Addr} {o : HO} (e : OffP d c H b = some o) : b ≠ d ∧ b ≠ c ∧ H b = some o := by
  unfold OffP at e
  by_cases z : b = d ∨ b = c
  · rw [if_pos z] at e
    cases e
  · rw [if_neg z] at e
    exact ⟨fun q => z (.inl q), fun q => z (.inr q), e⟩
theorem offP_sub {d c : Addr} {H : Hp} : Same (OffP d c H) H := fun _ _ e => (offP_at e).2.2
theorem offP_kp {d c : Addr} {H H' : Hp} (k : Kp d c H H') : Same (OffP d c H) (OffP d c H') := fun b o e => by
  obtain ⟨n1, n2, z⟩ := offP_at e
  exact offP_get ⟨n1, n2⟩ (k b o n1 n2 z)
theorem Dk.offT {H : Hp} {d c : Addr} {n : Int} (h : Dk H d c n) {b : Addr} {us : List V} (e : H b = some (.tup us)) : Off d c b := by
  obtain ⟨xs, q, _⟩ := h.cells
  exact ⟨ne_of e h.top (fun z => by cases z), ne_of e q (fun z => by cases z)⟩
theorem ivs_dv {K : PySem.W.Frag} {d c : Addr} {n : Int} {H : Hp} (dk : Dk H d c n) : ∀ {us : List V} {ps : List (Int × Int)}, Ivs H us ps → DvAll K (OffP d c H) us (ps.map pairD)
  | _, _, .nil => .nil
  | _, _, .cons e h => .cons (.tup (offP_get (dk.offT e) e) (.cons (.int _) (.cons (.int _) .nil))) (ivs_dv dk h)
/-- every sign of a text is a sign -/
def okc (x : Str) : Prop := ∀ c ∈ x.cps.toList, c < 16 ^ 8
theorem okc_app {a b : Str} (h : okc a) (g : okc b) : okc (a ++ b) := by
  intro c hc
  have e : (a ++ b).cps = a.cps ++ b.cps := rfl
  rw [e, Array.toList_append] at hc
  exact (List.mem_append.mp hc).elim (h c) (g c)
theorem okc_int (i : Int) : okc (PyData.shown (.int i)) := by
  intro c hc
  have hc : c ∈ (Str.ofString (toString i)).cps.toList := hc
  rw [Str.ofString_eq_toList] at hc
  have hc : c ∈ ((toString i).toList.map Char.toNat) := by simpa using hc
  obtain ⟨x, _, rfl⟩ := List.mem_map.mp hc
  have := x.val.toNat_lt
  show x.val.toNat < 16 ^ 8
  omega
theorem okc_lit {x : Str} (h : (x.cps.toList.all fun c => decide (c < 16 ^ 8)) = true) : okc x := fun c hc => of_decide_eq_true (List.all_eq_true.mp h c hc)
theorem okc_pair (x y : Int) : okc (PyData.shown (.tuple [.int x, .int y])) := by
  have e : PyData.shown (.tuple [.int x, .int y]) = ("(" : Str) ++ (PyData.shown (.int x) ++ (", " : Str) ++ PyData.shown (.int y)) ++ (")" : Str) := by
    show ("(" : Str) ++ Str.join ", " [PyData.shown (.int x), PyData.shown (.int y)] ++ (")" : Str) = _
    rfl
  rw [e]
  exact okc_app (okc_app (okc_lit (by decide +kernel)) (okc_app (okc_app (okc_int x) (okc_lit (by decide +kernel))) (okc_int y))) (okc_lit (by decide +kernel))
theorem sm_shown {n dp : Nat} {d : PyData} (h : Sm n dp d) (c : okc d.shown) (hn : n ≤ 1000) : Sm 50000 0 (.str d.shown) := by
  refine ⟨rfl, ?_, ?_, Nat.le_refl _⟩
  · show (d.shown.cps.toList.all fun c => decide (c < 16 ^ 8)) = true
    exact List.all_eq_true.mpr fun x hx => decide_eq_true (c x hx)
  · have q := PyData.shown_le 40 (by decide) d h.short
    have := h.small
    show d.shown.length ≤ 50000
    omega
def oddE : List PyData := [.none, .tuple [], .list [], .dict [], .int 5, .str "0-3", .tuple [.int 3, .int 2], .tuple [.int 0, .bool true], .tuple [.bool false, .int 1], .tuple [.int 0, .int 1, .int 2], .tuple [.int (-1), .int 0], .list [.int 0, .int 1], .tuple [.int 0, .int (10 ^ 12 + 1)], .tuple [.int 0, .str "1"], .tuple [.none, .int 3], .tuple [.tuple [.int 0, .int 1], .tuple [.int 0, .int 1]], .bool true, .int (10 ^ 20)]
def fineE (d : PyData) : Bool := (d.showable && (d.leavesShort 40 && (decide (d.weight ≤ 1000) && decide (d.depth ≤ 3)))) && d.shown.cps.toList.all fun c => decide (c < 16 ^ 8)
theorem oddE_fine : oddE.all fineE = true := by decide +kernel
theorem oddE_ok {d : PyData} (h : d ∈ oddE) : Sm 1000 3 d ∧ okc d.shown := by
  have h := Bool.and_eq_true_iff.mp (List.all_eq_true.mp oddE_fine d h)
  have h1 := Bool.and_eq_true_iff.mp h.1
  have h2 := Bool.and_eq_true_iff.mp h1.2
  have h3 := Bool.and_eq_true_iff.mp h2.2
  exact ⟨⟨h1.1, h2.1, of_decide_eq_true h3.1, of_decide_eq_true h3.2⟩, okc_lit h.2⟩
/-- a list of data that stays through draws -/
structure OddL (K : PySem.W.Frag) (d c : Addr) (Hx : Hp) (D : Addr) (ds : List PyData) (H' : Hp) : Prop where
  same : Same Hx H'
  off : Off d c D
  ex : ∃ us, H' D = some (.lst us) ∧ DvAll K (OffP d c H') us ds

/-- the heap but for the deck and the lists that stood in H0 -/
def OffN (H0 : Hp) (d c : Addr) (H : Hp) : Hp := fun b => match H0 b with
  | some (.lst _) => none
  | _ => if b = d ∨ b = c then none else H b
theorem offN_lst {H0 : Hp} {d c : Addr} {H : Hp} {b : Addr} {us : List V} (e : H0 b = some (.lst us)) : OffN H0 d c H b = none := by
  unfold OffN
  rw [e]
theorem offN_of {H0 : Hp} {d c : Addr} {H : Hp} {b : Addr} (n : ∀ us, H0 b ≠ some (.lst us)) : OffN H0 d c H b = OffP d c H b := by
  unfold OffN OffP
  split
  · rename_i us e
    exact absurd e (n us)
  · rfl
theorem offN_get {H0 : Hp} {d c : Addr} {H : Hp} {b : Addr} {o : HO} (n : Off d c b) (f : H0 b = none) (e : H b = some o) : OffN H0 d c H b = some o := by
  rw [offN_of fun us z => by rw [f] at z; cases z]
  exact offP_get n e
theorem offN_tup {H0 : Hp} {d c : Addr} {H : Hp} {b : Addr} {us : List V} (k : Kp d c H0 H) (n : Off d c b) (e : H b = some (.tup us)) : OffN H0 d c H b = some (.tup us) := by
  rw [offN_of fun ws z => by rw [k b _ n.1 n.2 z] at e; cases e]
  exact offP_get n e
theorem offN_mono {H0 : Hp} {d c : Addr} {H H' : Hp} (k : ∀ b o, (∀ us, H0 b ≠ some (.lst us)) → OffP d c H b = some o → OffP d c H' b = some o) : Same (OffN H0 d c H) (OffN H0 d c H') := fun b o e => by
  by_cases z : ∃ us, H0 b = some (.lst us)
  · obtain ⟨us, z⟩ := z
    rw [offN_lst z] at e
    cases e
  · have n : ∀ us, H0 b ≠ some (.lst us) := fun us y => z ⟨us, y⟩
    rw [offN_of n] at e ⊢
    exact k b o n e
theorem offN_kp {H0 : Hp} {d c : Addr} {H H' : Hp} (k : Kp d c H H') : Same (OffN H0 d c H) (OffN H0 d c H') := offN_mono fun b o _ e => offP_kp k b o e
theorem offN_sub {H0 : Hp} {d c : Addr} {H : Hp} : Same (OffN H0 d c H) (OffP d c H) := fun b o e => by
  by_cases z : ∃ us, H0 b = some (.lst us)
  · obtain ⟨us, z⟩ := z
    rw [offN_lst z] at e
    cases e
  · rw [offN_of fun us y => z ⟨us, y⟩] at e
    exact e
/-- a list that stood is written -/
theorem offN_upd {H0 : Hp} {d c : Addr} {H : Hp} {B : Addr} {us : List V} {o : HO} (e : H0 B = some (.lst us)) : Same (OffN H0 d c H) (OffN H0 d c (upd H B o)) := offN_mono fun b u n q => by
  have nb : b ≠ B := fun z => n us (z ▸ e)
  obtain ⟨n1, n2, q⟩ := offP_at q
  exact offP_get ⟨n1, n2⟩ (by rw [upd_ne nb]; exact q)
/-! ### items that are no edits -/
def oddB : List PyData := [.none, .list [], .dict [], .str "undo", .tuple [.str "undo", .tuple [.int 0, .int 1]], .tuple [.str "add_target"], .tuple [.str "add_target", .tuple [.int 0, .int 1], .int 1], .list [.str "add_target", .tuple [.int 0, .int 1]], .tuple [.tuple [.int 0, .int 1], .str "add_target"], .tuple [], .tuple [.list [], .tuple [.int 0, .int 1]], .tuple [.str "Add_target", .tuple [.int 0, .int 1]], .tuple [.str "apply", .tuple []], .tuple [.int 5, .tuple [.int 0, .int 1]]]
def fitB : PyData → Bool
  | .tuple [w, _] => SeqAt.shaped w
  | _ => true
theorem fit_of {d : PyData} (h : fitB d = true) : FitW d := fun w x e => by
  rw [e] at h
  exact h
def smallE (d : PyData) : Bool := d.showable && (d.leavesShort 40 && (decide (d.weight ≤ 1000) && decide (d.depth ≤ 3)))
theorem small_of {d : PyData} (h : smallE d = true) : Sm 1000 3 d := by
  have h1 := Bool.and_eq_true_iff.mp h
  have h2 := Bool.and_eq_true_iff.mp h1.2
  have h3 := Bool.and_eq_true_iff.mp h2.2
  exact ⟨h1.1, h2.1, of_decide_eq_true h3.1, of_decide_eq_true h3.2⟩
theorem oddB_fine : (oddB.all fun d => !edB d && (fitB d && smallE d)) = true := by decide +kernel
theorem oddB_ok {d : PyData} (h : d ∈ oddB) : edB d = false ∧ FitW d ∧ Sm 1000 3 d := by
  have h := Bool.and_eq_true_iff.mp (List.all_eq_true.mp oddB_fine d h)
  have h2 := Bool.and_eq_true_iff.mp h.2
  exact ⟨by have z := h.1; rw [Bool.not_eq_true'] at z; exact z, fit_of h2.1, small_of h2.2⟩
def sp_law_bad (K : PySem.W.Frag) : Sp := fun vs H Q _ => ∃ (d : Addr) (c : Addr) (n : Int), vs = [.ref d] ∧ Dk H d c n ∧ 0 ≤ n ∧ n < 999990 ∧
  ∀ H' v dd, Kp d c H H' → Dk H' d c (n + 1) → dd ∈ oddB → Dv K (OffN H d c H') v dd → Q v H'
theorem ok_law_bad (T : Tx K mg f_is_number f_is_position f_is_tuple_of f_is_interval f_ascending_error f_targets_error f_is_pieces f_without_item f_is_edit f_copied_batch f_with_interval f_without_interval f_edited_state f_law_deck f_law_draw f_law_line f_law_interval f_law_intervals f_law_edit f_law_after f_law_right f_law_begun f_law_applied f_law_failing f_law_bad f_law_batch f_law f_Plan_init f_Plan_apply f_Plan_targets f_Plan_pieces f_Plan_edits f_Plan_record f_Plan_record_or_reject f_Plan_passes f_Plan_require_idle f_Plan_state_at f_Plan_len f_Plan_str f_BadInterval_init f_Duplicate_init f_BadEdit_init f_Rejected_init f_Unknown_init C_Plan X_BadInterval X_SpanError X_Unknown X_Duplicate X_Rejected X_BadEdit X_BadEdits X_Busy d_is_number d_is_position d_is_tuple_of d_is_interval d_ascending_error d_targets_error d_is_pieces d_without_item d_is_edit d_copied_batch d_with_interval d_without_interval d_edited_state d_law_deck d_law_draw d_law_line d_law_interval d_law_intervals d_law_edit d_law_after d_law_right d_law_begun d_law_applied d_law_failing d_law_bad d_law_batch d_law d_Plan_init d_Plan_apply d_Plan_targets d_Plan_pieces d_Plan_edits d_Plan_record d_Plan_record_or_reject d_Plan_passes d_Plan_require_idle d_Plan_state_at d_Plan_len d_Plan_str d_BadInterval_init d_Duplicate_init d_BadEdit_init d_Rejected_init d_Unknown_init t_LAST_POSITION t_MAX_TARGETS t_MAX_PIECES t_MAX_EDITS t_BATCH t_WORDS) : FnOk P w K mg base CX0 2 f_law_bad d_law_bad ["_law_deck_here"] (sp_law_bad K) := by
  refine T.F_law_bad.ok sc_law_bad (fun vs H Q E h => ?_) (fun cdv A outer s H vs Q E hr h => ?_)
  · obtain ⟨d, c, n, rfl, _⟩ := h
    rfl
  · obtain ⟨d, c, n, rfl, dk, n0, n1, q⟩ := h
    refine ⟨_, (pss_cons (ps_set (i := 1) sc_law_bad.nd rfl (Or.inl rfl) (pe_lst (pa_cons pe_non (pa_cons (pe_lst pa_nil) (pa_cons pe_dnewK (pa_cons pe_str (pa_cons (pe_tup (pa_cons pe_str (pa_cons (pe_tup (pa_cons pe_int (pa_cons pe_int pa_nil))) pa_nil))) (pa_cons (pe_tup (pa_cons pe_str pa_nil)) (pa_cons (pe_tup (pa_cons pe_str (pa_cons (pe_tup (pa_cons pe_int (pa_cons pe_int pa_nil))) (pa_cons pe_int pa_nil)))) (pa_cons (pe_lst (pa_cons pe_str (pa_cons (pe_tup (pa_cons pe_int (pa_cons pe_int pa_nil))) pa_nil))) pa_nil))))))))))
      (pss_cons (ps_set (i := 1) sc_law_bad.nd rfl (Or.inl rfl) (pe_op op_cat (pv 1) (pe_lst (pa_cons (pe_tup (pa_cons (pe_tup (pa_cons pe_int (pa_cons pe_int pa_nil))) (pa_cons pe_str pa_nil))) (pa_cons (pe_tup pa_nil) (pa_cons (pe_tup (pa_cons (pe_lst pa_nil) (pa_cons (pe_tup (pa_cons pe_int (pa_cons pe_int pa_nil))) pa_nil))) (pa_cons (pe_tup (pa_cons pe_str (pa_cons (pe_tup (pa_cons pe_int (pa_cons pe_int pa_nil))) pa_nil))) (pa_cons (pe_tup (pa_cons pe_str (pa_cons (pe_tup pa_nil) pa_nil))) (pa_cons (pe_tup (pa_cons pe_int (pa_cons (pe_tup (pa_cons pe_int (pa_cons pe_int pa_nil))) pa_nil))) pa_nil)))))))))
      (pss_one (ps_ret (pe_ix ix_list (pv 1) (pe_call (ok_law_draw T) (hr.mono (by decide)) (by rfl) T.g_law_draw T.F_law_draw.kp T.b_law_draw .nil pass0 (pa_cons (pv 0) (pa_cons pe_int pa_nil))) (fun _ _ => rfl)))))), ?_⟩
    refine ⟨by show 0 ≤ sizeLine; decide, fun p1 m1 => ?_⟩
    have s1 := same_new (H := H) (p := p1) (o := .lst []) m1
    have e1 := upd_same (H := H) (a := p1) (o := .lst [])
    generalize upd H p1 (.lst []) = H1 at *
    refine fun p2 m2 => ?_
    have s2 := same_new (H := H1) (p := p2) (o := .dK []) m2
    have e2 := upd_same (H := H1) (a := p2) (o := .dK [])
    generalize upd H1 p2 (.dK []) = H2 at *
    refine ⟨by show 2 ≤ sizeLine; decide, fun p3 m3 => ?_⟩
    have s3 := same_new (H := H2) (p := p3) (o := .tup [.int 0, .int 1]) m3
    have e3 := upd_same (H := H2) (a := p3) (o := .tup [.int 0, .int 1])
    generalize upd H2 p3 (.tup [.int 0, .int 1]) = H3 at *
    refine ⟨by show 2 ≤ sizeLine; decide, fun p4 m4 => ?_⟩
    have s4 := same_new (H := H3) (p := p4) (o := .tup [.str "undo", .ref p3]) m4
    have e4 := upd_same (H := H3) (a := p4) (o := .tup [.str "undo", .ref p3])
    generalize upd H3 p4 (.tup [.str "undo", .ref p3]) = H4 at *
    refine ⟨by show 1 ≤ sizeLine; decide, fun p5 m5 => ?_⟩
    have s5 := same_new (H := H4) (p := p5) (o := .tup [.str "add_target"]) m5
    have e5 := upd_same (H := H4) (a := p5) (o := .tup [.str "add_target"])
    generalize upd H4 p5 (.tup [.str "add_target"]) = H5 at *
    refine ⟨by show 2 ≤ sizeLine; decide, fun p6 m6 => ?_⟩
    have s6 := same_new (H := H5) (p := p6) (o := .tup [.int 0, .int 1]) m6
    have e6 := upd_same (H := H5) (a := p6) (o := .tup [.int 0, .int 1])
    generalize upd H5 p6 (.tup [.int 0, .int 1]) = H6 at *
    refine ⟨by show 3 ≤ sizeLine; decide, fun p7 m7 => ?_⟩
    have s7 := same_new (H := H6) (p := p7) (o := .tup [.str "add_target", .ref p6, .int 1]) m7
    have e7 := upd_same (H := H6) (a := p7) (o := .tup [.str "add_target", .ref p6, .int 1])
    generalize upd H6 p7 (.tup [.str "add_target", .ref p6, .int 1]) = H7 at *
    refine ⟨by show 2 ≤ sizeLine; decide, fun p8 m8 => ?_⟩
    have s8 := same_new (H := H7) (p := p8) (o := .tup [.int 0, .int 1]) m8
    have e8 := upd_same (H := H7) (a := p8) (o := .tup [.int 0, .int 1])
    generalize upd H7 p8 (.tup [.int 0, .int 1]) = H8 at *
    refine ⟨by show 2 ≤ sizeLine; decide, fun p9 m9 => ?_⟩
    have s9 := same_new (H := H8) (p := p9) (o := .lst [.str "add_target", .ref p8]) m9
    have e9 := upd_same (H := H8) (a := p9) (o := .lst [.str "add_target", .ref p8])
    generalize upd H8 p9 (.lst [.str "add_target", .ref p8]) = H9 at *
    refine ⟨by show 8 ≤ sizeLine; decide, fun p10 m10 => ?_⟩
    have s10 := same_new (H := H9) (p := p10) (o := .lst [.non, .ref p1, .ref p2, .str "undo", .ref p4, .ref p5, .ref p7, .ref p9]) m10
    have e10 := upd_same (H := H9) (a := p10) (o := .lst [.non, .ref p1, .ref p2, .str "undo", .ref p4, .ref p5, .ref p7, .ref p9])
    generalize upd H9 p10 (.lst [.non, .ref p1, .ref p2, .str "undo", .ref p4, .ref p5, .ref p7, .ref p9]) = H10 at *
    refine ⟨.ref p10, rfl, by show 2 ≤ sizeLine; decide, fun p11 m11 => ?_⟩
    have s11 := same_new (H := H10) (p := p11) (o := .tup [.int 0, .int 1]) m11
    have e11 := upd_same (H := H10) (a := p11) (o := .tup [.int 0, .int 1])
    generalize upd H10 p11 (.tup [.int 0, .int 1]) = H11 at *
    refine ⟨by show 2 ≤ sizeLine; decide, fun p12 m12 => ?_⟩
    have s12 := same_new (H := H11) (p := p12) (o := .tup [.ref p11, .str "add_target"]) m12
    have e12 := upd_same (H := H11) (a := p12) (o := .tup [.ref p11, .str "add_target"])
    generalize upd H11 p12 (.tup [.ref p11, .str "add_target"]) = H12 at *
    refine ⟨by show 0 ≤ sizeLine; decide, fun p13 m13 => ?_⟩
    have s13 := same_new (H := H12) (p := p13) (o := .tup []) m13
    have e13 := upd_same (H := H12) (a := p13) (o := .tup [])
    generalize upd H12 p13 (.tup []) = H13 at *
    refine ⟨by show 0 ≤ sizeLine; decide, fun p14 m14 => ?_⟩
    have s14 := same_new (H := H13) (p := p14) (o := .lst []) m14
    have e14 := upd_same (H := H13) (a := p14) (o := .lst [])
    generalize upd H13 p14 (.lst []) = H14 at *
    refine ⟨by show 2 ≤ sizeLine; decide, fun p15 m15 => ?_⟩
    have s15 := same_new (H := H14) (p := p15) (o := .tup [.int 0, .int 1]) m15
    have e15 := upd_same (H := H14) (a := p15) (o := .tup [.int 0, .int 1])
    generalize upd H14 p15 (.tup [.int 0, .int 1]) = H15 at *
    refine ⟨by show 2 ≤ sizeLine; decide, fun p16 m16 => ?_⟩
    have s16 := same_new (H := H15) (p := p16) (o := .tup [.ref p14, .ref p15]) m16
    have e16 := upd_same (H := H15) (a := p16) (o := .tup [.ref p14, .ref p15])
    generalize upd H15 p16 (.tup [.ref p14, .ref p15]) = H16 at *
    refine ⟨by show 2 ≤ sizeLine; decide, fun p17 m17 => ?_⟩
    have s17 := same_new (H := H16) (p := p17) (o := .tup [.int 0, .int 1]) m17
    have e17 := upd_same (H := H16) (a := p17) (o := .tup [.int 0, .int 1])
    generalize upd H16 p17 (.tup [.int 0, .int 1]) = H17 at *
    refine ⟨by show 2 ≤ sizeLine; decide, fun p18 m18 => ?_⟩
    have s18 := same_new (H := H17) (p := p18) (o := .tup [.str "Add_target", .ref p17]) m18
    have e18 := upd_same (H := H17) (a := p18) (o := .tup [.str "Add_target", .ref p17])
    generalize upd H17 p18 (.tup [.str "Add_target", .ref p17]) = H18 at *
    refine ⟨by show 0 ≤ sizeLine; decide, fun p19 m19 => ?_⟩
    have s19 := same_new (H := H18) (p := p19) (o := .tup []) m19
    have e19 := upd_same (H := H18) (a := p19) (o := .tup [])
    generalize upd H18 p19 (.tup []) = H19 at *
    refine ⟨by show 2 ≤ sizeLine; decide, fun p20 m20 => ?_⟩
    have s20 := same_new (H := H19) (p := p20) (o := .tup [.str "apply", .ref p19]) m20
    have e20 := upd_same (H := H19) (a := p20) (o := .tup [.str "apply", .ref p19])
    generalize upd H19 p20 (.tup [.str "apply", .ref p19]) = H20 at *
    refine ⟨by show 2 ≤ sizeLine; decide, fun p21 m21 => ?_⟩
    have s21 := same_new (H := H20) (p := p21) (o := .tup [.int 0, .int 1]) m21
    have e21 := upd_same (H := H20) (a := p21) (o := .tup [.int 0, .int 1])
    generalize upd H20 p21 (.tup [.int 0, .int 1]) = H21 at *
    refine ⟨by show 2 ≤ sizeLine; decide, fun p22 m22 => ?_⟩
    have s22 := same_new (H := H21) (p := p22) (o := .tup [.int 5, .ref p21]) m22
    have e22 := upd_same (H := H21) (a := p22) (o := .tup [.int 5, .ref p21])
    generalize upd H21 p22 (.tup [.int 5, .ref p21]) = H22 at *
    refine ⟨by show 6 ≤ sizeLine; decide, fun p23 m23 => ?_⟩
    have s23 := same_new (H := H22) (p := p23) (o := .lst [.ref p12, .ref p13, .ref p16, .ref p18, .ref p20, .ref p22]) m23
    have e23 := upd_same (H := H22) (a := p23) (o := .lst [.ref p12, .ref p13, .ref p16, .ref p18, .ref p20, .ref p22])
    generalize upd H22 p23 (.lst [.ref p12, .ref p13, .ref p16, .ref p18, .ref p20, .ref p22]) = H23 at *
    refine ⟨p10, p23, [.non, .ref p1, .ref p2, .str "undo", .ref p4, .ref p5, .ref p7, .ref p9], [.ref p12, .ref p13, .ref p16, .ref p18, .ref p20, .ref p22], rfl, rfl, s23 _ _ (s22 _ _ (s21 _ _ (s20 _ _ (s19 _ _ (s18 _ _ (s17 _ _ (s16 _ _ (s15 _ _ (s14 _ _ (s13 _ _ (s12 _ _ (s11 _ _ (e10))))))))))))), e23, by show 14 ≤ sizeLine; decide, fun pC mC => ?_⟩
    have hs0 : Same H H23 := s1.trans ( s2.trans ( s3.trans ( s4.trans ( s5.trans ( s6.trans ( s7.trans ( s8.trans ( s9.trans ( s10.trans ( s11.trans ( s12.trans ( s13.trans ( s14.trans ( s15.trans ( s16.trans ( s17.trans ( s18.trans ( s19.trans ( s20.trans ( s21.trans ( s22.trans (s23))))))))))))))))))))))
    have oC := (dk.kept hs0).off mC
    have sC := same_new (o := .lst ([.non, .ref p1, .ref p2, .str "undo", .ref p4, .ref p5, .ref p7, .ref p9] ++ [.ref p12, .ref p13, .ref p16, .ref p18, .ref p20, .ref p22])) mC
    have eC := upd_same (H := H23) (a := pC) (o := .lst ([.non, .ref p1, .ref p2, .str "undo", .ref p4, .ref p5, .ref p7, .ref p9] ++ [.ref p12, .ref p13, .ref p16, .ref p18, .ref p20, .ref p22]))
    generalize upd H23 pC (.lst ([.non, .ref p1, .ref p2, .str "undo", .ref p4, .ref p5, .ref p7, .ref p9] ++ [.ref p12, .ref p13, .ref p16, .ref p18, .ref p20, .ref p22])) = HC at *
    have hs := hs0.trans sC
    have o1 : OffN H d c HC p1 = some _ := offN_get (dk.off m1) m1 (sC _ _ (s23 _ _ (s22 _ _ (s21 _ _ (s20 _ _ (s19 _ _ (s18 _ _ (s17 _ _ (s16 _ _ (s15 _ _ (s14 _ _ (s13 _ _ (s12 _ _ (s11 _ _ (s10 _ _ (s9 _ _ (s8 _ _ (s7 _ _ (s6 _ _ (s5 _ _ (s4 _ _ (s3 _ _ (s2 _ _ (e1))))))))))))))))))))))))
    have o2 : OffN H d c HC p2 = some _ := offN_get (dk.off (s1.free m2)) (s1.free m2) (sC _ _ (s23 _ _ (s22 _ _ (s21 _ _ (s20 _ _ (s19 _ _ (s18 _ _ (s17 _ _ (s16 _ _ (s15 _ _ (s14 _ _ (s13 _ _ (s12 _ _ (s11 _ _ (s10 _ _ (s9 _ _ (s8 _ _ (s7 _ _ (s6 _ _ (s5 _ _ (s4 _ _ (s3 _ _ (e2)))))))))))))))))))))))
    have o3 : OffN H d c HC p3 = some _ := offN_get (dk.off (s1.free (s2.free m3))) (s1.free (s2.free m3)) (sC _ _ (s23 _ _ (s22 _ _ (s21 _ _ (s20 _ _ (s19 _ _ (s18 _ _ (s17 _ _ (s16 _ _ (s15 _ _ (s14 _ _ (s13 _ _ (s12 _ _ (s11 _ _ (s10 _ _ (s9 _ _ (s8 _ _ (s7 _ _ (s6 _ _ (s5 _ _ (s4 _ _ (e3))))))))))))))))))))))
    have o4 : OffN H d c HC p4 = some _ := offN_get (dk.off (s1.free (s2.free (s3.free m4)))) (s1.free (s2.free (s3.free m4))) (sC _ _ (s23 _ _ (s22 _ _ (s21 _ _ (s20 _ _ (s19 _ _ (s18 _ _ (s17 _ _ (s16 _ _ (s15 _ _ (s14 _ _ (s13 _ _ (s12 _ _ (s11 _ _ (s10 _ _ (s9 _ _ (s8 _ _ (s7 _ _ (s6 _ _ (s5 _ _ (e4)))))))))))))))))))))
    have o5 : OffN H d c HC p5 = some _ := offN_get (dk.off (s1.free (s2.free (s3.free (s4.free m5))))) (s1.free (s2.free (s3.free (s4.free m5)))) (sC _ _ (s23 _ _ (s22 _ _ (s21 _ _ (s20 _ _ (s19 _ _ (s18 _ _ (s17 _ _ (s16 _ _ (s15 _ _ (s14 _ _ (s13 _ _ (s12 _ _ (s11 _ _ (s10 _ _ (s9 _ _ (s8 _ _ (s7 _ _ (s6 _ _ (e5))))))))))))))))))))
    have o6 : OffN H d c HC p6 = some _ := offN_get (dk.off (s1.free (s2.free (s3.free (s4.free (s5.free m6)))))) (s1.free (s2.free (s3.free (s4.free (s5.free m6))))) (sC _ _ (s23 _ _ (s22 _ _ (s21 _ _ (s20 _ _ (s19 _ _ (s18 _ _ (s17 _ _ (s16 _ _ (s15 _ _ (s14 _ _ (s13 _ _ (s12 _ _ (s11 _ _ (s10 _ _ (s9 _ _ (s8 _ _ (s7 _ _ (e6)))))))))))))))))))
    have o7 : OffN H d c HC p7 = some _ := offN_get (dk.off (s1.free (s2.free (s3.free (s4.free (s5.free (s6.free m7))))))) (s1.free (s2.free (s3.free (s4.free (s5.free (s6.free m7)))))) (sC _ _ (s23 _ _ (s22 _ _ (s21 _ _ (s20 _ _ (s19 _ _ (s18 _ _ (s17 _ _ (s16 _ _ (s15 _ _ (s14 _ _ (s13 _ _ (s12 _ _ (s11 _ _ (s10 _ _ (s9 _ _ (s8 _ _ (e7))))))))))))))))))
    have o8 : OffN H d c HC p8 = some _ := offN_get (dk.off (s1.free (s2.free (s3.free (s4.free (s5.free (s6.free (s7.free m8)))))))) (s1.free (s2.free (s3.free (s4.free (s5.free (s6.free (s7.free m8))))))) (sC _ _ (s23 _ _ (s22 _ _ (s21 _ _ (s20 _ _ (s19 _ _ (s18 _ _ (s17 _ _ (s16 _ _ (s15 _ _ (s14 _ _ (s13 _ _ (s12 _ _ (s11 _ _ (s10 _ _ (s9 _ _ (e8)))))))))))))))))
    have o9 : OffN H d c HC p9 = some _ := offN_get (dk.off (s1.free (s2.free (s3.free (s4.free (s5.free (s6.free (s7.free (s8.free m9))))))))) (s1.free (s2.free (s3.free (s4.free (s5.free (s6.free (s7.free (s8.free m9)))))))) (sC _ _ (s23 _ _ (s22 _ _ (s21 _ _ (s20 _ _ (s19 _ _ (s18 _ _ (s17 _ _ (s16 _ _ (s15 _ _ (s14 _ _ (s13 _ _ (s12 _ _ (s11 _ _ (s10 _ _ (e9))))))))))))))))
    have o11 : OffN H d c HC p11 = some _ := offN_get (dk.off (s1.free (s2.free (s3.free (s4.free (s5.free (s6.free (s7.free (s8.free (s9.free (s10.free m11))))))))))) (s1.free (s2.free (s3.free (s4.free (s5.free (s6.free (s7.free (s8.free (s9.free (s10.free m11)))))))))) (sC _ _ (s23 _ _ (s22 _ _ (s21 _ _ (s20 _ _ (s19 _ _ (s18 _ _ (s17 _ _ (s16 _ _ (s15 _ _ (s14 _ _ (s13 _ _ (s12 _ _ (e11))))))))))))))
    have o12 : OffN H d c HC p12 = some _ := offN_get (dk.off (s1.free (s2.free (s3.free (s4.free (s5.free (s6.free (s7.free (s8.free (s9.free (s10.free (s11.free m12)))))))))))) (s1.free (s2.free (s3.free (s4.free (s5.free (s6.free (s7.free (s8.free (s9.free (s10.free (s11.free m12))))))))))) (sC _ _ (s23 _ _ (s22 _ _ (s21 _ _ (s20 _ _ (s19 _ _ (s18 _ _ (s17 _ _ (s16 _ _ (s15 _ _ (s14 _ _ (s13 _ _ (e12)))))))))))))
    have o13 : OffN H d c HC p13 = some _ := offN_get (dk.off (s1.free (s2.free (s3.free (s4.free (s5.free (s6.free (s7.free (s8.free (s9.free (s10.free (s11.free (s12.free m13))))))))))))) (s1.free (s2.free (s3.free (s4.free (s5.free (s6.free (s7.free (s8.free (s9.free (s10.free (s11.free (s12.free m13)))))))))))) (sC _ _ (s23 _ _ (s22 _ _ (s21 _ _ (s20 _ _ (s19 _ _ (s18 _ _ (s17 _ _ (s16 _ _ (s15 _ _ (s14 _ _ (e13))))))))))))
    have o14 : OffN H d c HC p14 = some _ := offN_get (dk.off (s1.free (s2.free (s3.free (s4.free (s5.free (s6.free (s7.free (s8.free (s9.free (s10.free (s11.free (s12.free (s13.free m14)))))))))))))) (s1.free (s2.free (s3.free (s4.free (s5.free (s6.free (s7.free (s8.free (s9.free (s10.free (s11.free (s12.free (s13.free m14))))))))))))) (sC _ _ (s23 _ _ (s22 _ _ (s21 _ _ (s20 _ _ (s19 _ _ (s18 _ _ (s17 _ _ (s16 _ _ (s15 _ _ (e14)))))))))))
    have o15 : OffN H d c HC p15 = some _ := offN_get (dk.off (s1.free (s2.free (s3.free (s4.free (s5.free (s6.free (s7.free (s8.free (s9.free (s10.free (s11.free (s12.free (s13.free (s14.free m15))))))))))))))) (s1.free (s2.free (s3.free (s4.free (s5.free (s6.free (s7.free (s8.free (s9.free (s10.free (s11.free (s12.free (s13.free (s14.free m15)))))))))))))) (sC _ _ (s23 _ _ (s22 _ _ (s21 _ _ (s20 _ _ (s19 _ _ (s18 _ _ (s17 _ _ (s16 _ _ (e15))))))))))
    have o16 : OffN H d c HC p16 = some _ := offN_get (dk.off (s1.free (s2.free (s3.free (s4.free (s5.free (s6.free (s7.free (s8.free (s9.free (s10.free (s11.free (s12.free (s13.free (s14.free (s15.free m16)))))))))))))))) (s1.free (s2.free (s3.free (s4.free (s5.free (s6.free (s7.free (s8.free (s9.free (s10.free (s11.free (s12.free (s13.free (s14.free (s15.free m16))))))))))))))) (sC _ _ (s23 _ _ (s22 _ _ (s21 _ _ (s20 _ _ (s19 _ _ (s18 _ _ (s17 _ _ (e16)))))))))
    have o17 : OffN H d c HC p17 = some _ := offN_get (dk.off (s1.free (s2.free (s3.free (s4.free (s5.free (s6.free (s7.free (s8.free (s9.free (s10.free (s11.free (s12.free (s13.free (s14.free (s15.free (s16.free m17))))))))))))))))) (s1.free (s2.free (s3.free (s4.free (s5.free (s6.free (s7.free (s8.free (s9.free (s10.free (s11.free (s12.free (s13.free (s14.free (s15.free (s16.free m17)))))))))))))))) (sC _ _ (s23 _ _ (s22 _ _ (s21 _ _ (s20 _ _ (s19 _ _ (s18 _ _ (e17))))))))
    have o18 : OffN H d c HC p18 = some _ := offN_get (dk.off (s1.free (s2.free (s3.free (s4.free (s5.free (s6.free (s7.free (s8.free (s9.free (s10.free (s11.free (s12.free (s13.free (s14.free (s15.free (s16.free (s17.free m18)))))))))))))))))) (s1.free (s2.free (s3.free (s4.free (s5.free (s6.free (s7.free (s8.free (s9.free (s10.free (s11.free (s12.free (s13.free (s14.free (s15.free (s16.free (s17.free m18))))))))))))))))) (sC _ _ (s23 _ _ (s22 _ _ (s21 _ _ (s20 _ _ (s19 _ _ (e18)))))))
    have o19 : OffN H d c HC p19 = some _ := offN_get (dk.off (s1.free (s2.free (s3.free (s4.free (s5.free (s6.free (s7.free (s8.free (s9.free (s10.free (s11.free (s12.free (s13.free (s14.free (s15.free (s16.free (s17.free (s18.free m19))))))))))))))))))) (s1.free (s2.free (s3.free (s4.free (s5.free (s6.free (s7.free (s8.free (s9.free (s10.free (s11.free (s12.free (s13.free (s14.free (s15.free (s16.free (s17.free (s18.free m19)))))))))))))))))) (sC _ _ (s23 _ _ (s22 _ _ (s21 _ _ (s20 _ _ (e19))))))
    have o20 : OffN H d c HC p20 = some _ := offN_get (dk.off (s1.free (s2.free (s3.free (s4.free (s5.free (s6.free (s7.free (s8.free (s9.free (s10.free (s11.free (s12.free (s13.free (s14.free (s15.free (s16.free (s17.free (s18.free (s19.free m20)))))))))))))))))))) (s1.free (s2.free (s3.free (s4.free (s5.free (s6.free (s7.free (s8.free (s9.free (s10.free (s11.free (s12.free (s13.free (s14.free (s15.free (s16.free (s17.free (s18.free (s19.free m20))))))))))))))))))) (sC _ _ (s23 _ _ (s22 _ _ (s21 _ _ (e20)))))
    have o21 : OffN H d c HC p21 = some _ := offN_get (dk.off (s1.free (s2.free (s3.free (s4.free (s5.free (s6.free (s7.free (s8.free (s9.free (s10.free (s11.free (s12.free (s13.free (s14.free (s15.free (s16.free (s17.free (s18.free (s19.free (s20.free m21))))))))))))))))))))) (s1.free (s2.free (s3.free (s4.free (s5.free (s6.free (s7.free (s8.free (s9.free (s10.free (s11.free (s12.free (s13.free (s14.free (s15.free (s16.free (s17.free (s18.free (s19.free (s20.free m21)))))))))))))))))))) (sC _ _ (s23 _ _ (s22 _ _ (e21))))
    have o22 : OffN H d c HC p22 = some _ := offN_get (dk.off (s1.free (s2.free (s3.free (s4.free (s5.free (s6.free (s7.free (s8.free (s9.free (s10.free (s11.free (s12.free (s13.free (s14.free (s15.free (s16.free (s17.free (s18.free (s19.free (s20.free (s21.free m22)))))))))))))))))))))) (s1.free (s2.free (s3.free (s4.free (s5.free (s6.free (s7.free (s8.free (s9.free (s10.free (s11.free (s12.free (s13.free (s14.free (s15.free (s16.free (s17.free (s18.free (s19.free (s20.free (s21.free m22))))))))))))))))))))) (sC _ _ (s23 _ _ (e22)))
    have all : DvAll K (OffN H d c HC) ([.non, .ref p1, .ref p2, .str "undo", .ref p4, .ref p5, .ref p7, .ref p9] ++ [.ref p12, .ref p13, .ref p16, .ref p18, .ref p20, .ref p22]) oddB := .cons (.non) (.cons (.lst o1 (.nil)) (.cons (.dic o2 .nil) (.cons (.str _) (.cons (.tup o4 (.cons (.str _) (.cons (.tup o3 (.cons (.int _) (.cons (.int _) (.nil)))) (.nil)))) (.cons (.tup o5 (.cons (.str _) (.nil))) (.cons (.tup o7 (.cons (.str _) (.cons (.tup o6 (.cons (.int _) (.cons (.int _) (.nil)))) (.cons (.int _) (.nil))))) (.cons (.lst o9 (.cons (.str _) (.cons (.tup o8 (.cons (.int _) (.cons (.int _) (.nil)))) (.nil)))) (.cons (.tup o12 (.cons (.tup o11 (.cons (.int _) (.cons (.int _) (.nil)))) (.cons (.str _) (.nil)))) (.cons (.tup o13 (.nil)) (.cons (.tup o16 (.cons (.lst o14 (.nil)) (.cons (.tup o15 (.cons (.int _) (.cons (.int _) (.nil)))) (.nil)))) (.cons (.tup o18 (.cons (.str _) (.cons (.tup o17 (.cons (.int _) (.cons (.int _) (.nil)))) (.nil)))) (.cons (.tup o20 (.cons (.str _) (.cons (.tup o19 (.nil)) (.nil)))) (.cons (.tup o22 (.cons (.int _) (.cons (.tup o21 (.cons (.int _) (.cons (.int _) (.nil)))) (.nil)))) (.nil))))))))))))))
    generalize ([.non, .ref p1, .ref p2, .str "undo", .ref p4, .ref p5, .ref p7, .ref p9] ++ [.ref p12, .ref p13, .ref p16, .ref p18, .ref p20, .ref p22] : List V) = items at *
    have len : items.length = 14 := all.length
    refine ⟨.ref pC, rfl, .ref d, rfl, d, c, n, 14, rfl, dk.kept hs, n0, by omega, by decide, by decide, fun Hd r kp dk2 r0 r1 => ?_⟩
    obtain ⟨j, rfl⟩ : ∃ j : Nat, r = j := ⟨r.toNat, by omega⟩
    have hj : j < items.length := by omega
    have ej : items[j]? = some items[j] := List.getElem?_eq_getElem hj
    obtain ⟨dd, ed, hdv⟩ := all.get ej
    refine ⟨pC, items, j, items[j], rfl, rfl, SqL.of (kp.keep oC eC), atI_nat ej, ?_⟩
    exact q _ _ dd ((Kp.same hs).trans kp) dk2 (List.mem_of_getElem? ed) (dv_same (offN_kp kp) hdv)
/-! ### edits that fail -/
def oddV : List PyData := [.none, .tuple [.int 3, .int 2], .tuple [.int 0, .bool true], .list [.int 0, .int 1], .dict [], .str "0-1", .tuple []]
theorem oddV_fine : (oddV.all fun d => !ivB d && smallE d) = true := by decide +kernel
theorem oddV_ok {d : PyData} (h : d ∈ oddV) : ivB d = false ∧ Sm 1000 3 d := by
  have h := Bool.and_eq_true_iff.mp (List.all_eq_true.mp oddV_fine d h)
  exact ⟨by have z := h.1; rw [Bool.not_eq_true'] at z; exact z, small_of h.2⟩
theorem eds_dv {K : PySem.W.Frag} {d c : Addr} {n : Int} {H : Hp} (dk : Dk H d c n) {us : List V} {es : List Ed} (h : Eds H us es) : DvAll K (OffP d c H) us (es.map edD) := by
  induction h with
  | nil => exact .nil
  | cons h1 h2 _ ih => exact .cons (.tup (offP_get (dk.offT h1) h1) (.cons (.str _) (.cons (.tup (offP_get (dk.offT h2) h2) (.cons (.int _) (.cons (.int _) .nil))) .nil))) ih
theorem eds_dvN {K : PySem.W.Frag} {d c : Addr} {n : Int} {H0 H : Hp} (kp : Kp d c H0 H) (dk : Dk H d c n) {us : List V} {es : List Ed} (h : Eds H us es) : DvAll K (OffN H0 d c H) us (es.map edD) := by
  induction h with
  | nil => exact .nil
  | cons h1 h2 _ ih => exact .cons (.tup (offN_tup kp (dk.offT h1) h1) (.cons (.str _) (.cons (.tup (offN_tup kp (dk.offT h2) h2) (.cons (.int _) (.cons (.int _) .nil))) .nil))) ih
theorem eds_of {K : PySem.W.Frag} {H : Hp} : ∀ {es : List Ed} {us : List V}, DvAll K H us (es.map edD) → Eds H us es
  | [], us, h => by
    cases h
    exact .nil
  | e :: es, us, h => by
    cases h with
    | cons a b =>
      obtain ⟨t, x, rfl, h1, h2⟩ := (show Dv K H _ (.tuple [.str (wordE e), .tuple [.int e.q.1, .int e.q.2]]) from a).asEd
      obtain ⟨y, rfl, h3⟩ := h2.asPair
      exact .cons h1 h3 (eds_of b)
/-- an edit that fails for its value -/
def Fails (S : St2) (z : PyData) : Prop := ∃ add pc vd, z = .tuple [.str (wordOf add pc), vd] ∧ BadW vd add (sideS pc S) ∧ Sm 1000 3 vd
def sp_law_failing (K : PySem.W.Frag) : Sp := fun vs H Q _ => ∃ (d c : Addr) (n : Int) (ls : Addr) (S : St2) (cs : List (Int × Int)), vs = [.ref d, .ref ls] ∧ Dk H d c n ∧ 0 ≤ n ∧ n < 800000 ∧ LawS H ls S ∧ Off d c ls ∧ StC cs S ∧ Cells cs ∧ (∀ q ∈ cs, q.2 < 1000000000000) ∧
  ∀ H' v add pc vd, Kp d c H H' → Dk H' d c (n + 2) → Dv K (OffN H d c H') v (.tuple [.str (wordOf add pc), vd]) → BadW vd add (sideS pc S) → Sm 1000 3 vd → Q v H'
theorem ok_law_failing (T : Tx K mg f_is_number f_is_position f_is_tuple_of f_is_interval f_ascending_error f_targets_error f_is_pieces f_without_item f_is_edit f_copied_batch f_with_interval f_without_interval f_edited_state f_law_deck f_law_draw f_law_line f_law_interval f_law_intervals f_law_edit f_law_after f_law_right f_law_begun f_law_applied f_law_failing f_law_bad f_law_batch f_law f_Plan_init f_Plan_apply f_Plan_targets f_Plan_pieces f_Plan_edits f_Plan_record f_Plan_record_or_reject f_Plan_passes f_Plan_require_idle f_Plan_state_at f_Plan_len f_Plan_str f_BadInterval_init f_Duplicate_init f_BadEdit_init f_Rejected_init f_Unknown_init C_Plan X_BadInterval X_SpanError X_Unknown X_Duplicate X_Rejected X_BadEdit X_BadEdits X_Busy d_is_number d_is_position d_is_tuple_of d_is_interval d_ascending_error d_targets_error d_is_pieces d_without_item d_is_edit d_copied_batch d_with_interval d_without_interval d_edited_state d_law_deck d_law_draw d_law_line d_law_interval d_law_intervals d_law_edit d_law_after d_law_right d_law_begun d_law_applied d_law_failing d_law_bad d_law_batch d_law d_Plan_init d_Plan_apply d_Plan_targets d_Plan_pieces d_Plan_edits d_Plan_record d_Plan_record_or_reject d_Plan_passes d_Plan_require_idle d_Plan_state_at d_Plan_len d_Plan_str d_BadInterval_init d_Duplicate_init d_BadEdit_init d_Rejected_init d_Unknown_init t_LAST_POSITION t_MAX_TARGETS t_MAX_PIECES t_MAX_EDITS t_BATCH t_WORDS) : FnOk P w K mg base CX0 3 f_law_failing d_law_failing ["_law_deck_here", "_law_state"] (sp_law_failing K) := by
  refine T.F_law_failing.ok sc_law_failing (fun vs H Q E h => ?_) (fun cdv A outer s H vs Q E hr h => ?_)
  · obtain ⟨d, c, n, ls, S, cs, rfl, _⟩ := h
    rfl
  · obtain ⟨d, c, n, ls, S, cs, rfl, dk, n0, n1, st, offs, sc, cells, top, q⟩ := h
    refine ⟨_, (pss_cons (ps_set (i := 2) sc_law_failing.nd rfl (Or.inl rfl) (pe_ix ix_list (pe_lst (pa_cons pe_non (pa_cons (pe_tup (pa_cons pe_int (pa_cons pe_int pa_nil))) (pa_cons (pe_tup (pa_cons pe_int (pa_cons pe_bl pa_nil))) (pa_cons (pe_lst (pa_cons pe_int (pa_cons pe_int pa_nil))) (pa_cons pe_dnewK (pa_cons pe_str (pa_cons (pe_tup pa_nil) pa_nil)))))))) (pe_call (ok_law_draw T) (hr.mono (by decide)) (by rfl) T.g_law_draw T.F_law_draw.kp T.b_law_draw .nil pass0 (pa_cons (pv 0) (pa_cons pe_int pa_nil))) (fun _ _ => rfl)))
      (pss_cons (ps_set (i := 3) sc_law_failing.nd rfl (Or.inl rfl) (pe_lst (pa_cons (pe_tup (pa_cons pe_str (pa_cons (pv 2) pa_nil))) (pa_cons (pe_tup (pa_cons pe_str (pa_cons (pv 2) pa_nil))) (pa_cons (pe_tup (pa_cons pe_str (pa_cons (pv 2) pa_nil))) (pa_cons (pe_tup (pa_cons pe_str (pa_cons (pe_tup (pa_cons pe_int (pa_cons (pe_op op_pow pe_int pe_int) pa_nil))) pa_nil))) pa_nil))))))
      (pss_cons (ps_set (i := 3) sc_law_failing.nd rfl (Or.inl rfl) (pe_op op_cat (pe_op op_cat (pv 3) (pe_lc (own := [("_law_one", 4)]) (g := (gName 4)) (tt := tYes) (by rfl) sc_law_failing.nd (pi_tup (pe_slice sl_tupA (pe_ix ix_list (pv 1) pe_int (fun _ _ => rfl)) po_none (po_some pe_int))) (blkOk_by (own := [("_law_one", 4)]) (N := N_law_failing) (sc := defScope s_law_failing) (by decide +kernel)) (fun _ _ _ _ _ => (pg_name (i := 4) sc_law_failing.nd rfl (Or.inl rfl))) (fun _ _ _ _ _ => pts_nil) (fun _ _ _ _ _ => (pe_tup (pa_cons pe_str (pa_cons (pv 4) pa_nil)))))) (pe_lc (own := [("_law_one", 4)]) (g := (gName 4)) (tt := tYes) (by rfl) sc_law_failing.nd (pi_tup (pe_slice sl_tupA (pe_ix ix_list (pv 1) pe_int (fun _ _ => rfl)) po_none (po_some pe_int))) (blkOk_by (own := [("_law_one", 4)]) (N := N_law_failing) (sc := defScope s_law_failing) (by decide +kernel)) (fun _ _ _ _ _ => (pg_name (i := 4) sc_law_failing.nd rfl (Or.inl rfl))) (fun _ _ _ _ _ => pts_nil) (fun _ _ _ _ _ => (pe_tup (pa_cons pe_str (pa_cons (pv 4) pa_nil)))))))
      (pss_one (ps_ret (pe_ix ix_list (pv 3) (pe_call (ok_law_draw T) (hr.mono (by decide)) (by rfl) T.g_law_draw T.F_law_draw.kp T.b_law_draw .nil pass0 (pa_cons (pv 0) (pa_cons (pe_callB call_len_seq (by rfl) T.z_len PySem.boot_len (pa_cons (pv 3) pa_nil)) pa_nil))) (fun _ _ => rfl))))))), ?_⟩
    refine ⟨by show 2 ≤ sizeLine; decide, fun p1 m1 => ?_⟩
    have s1 := same_new (H := H) (p := p1) (o := .tup [.int 3, .int 2]) m1
    have e1 := upd_same (H := H) (a := p1) (o := .tup [.int 3, .int 2])
    generalize upd H p1 (.tup [.int 3, .int 2]) = H1 at *
    refine ⟨by show 2 ≤ sizeLine; decide, fun p2 m2 => ?_⟩
    have s2 := same_new (H := H1) (p := p2) (o := .tup [.int 0, .bl true]) m2
    have e2 := upd_same (H := H1) (a := p2) (o := .tup [.int 0, .bl true])
    generalize upd H1 p2 (.tup [.int 0, .bl true]) = H2 at *
    refine ⟨by show 2 ≤ sizeLine; decide, fun p3 m3 => ?_⟩
    have s3 := same_new (H := H2) (p := p3) (o := .lst [.int 0, .int 1]) m3
    have e3 := upd_same (H := H2) (a := p3) (o := .lst [.int 0, .int 1])
    generalize upd H2 p3 (.lst [.int 0, .int 1]) = H3 at *
    refine fun p4 m4 => ?_
    have s4 := same_new (H := H3) (p := p4) (o := .dK []) m4
    have e4 := upd_same (H := H3) (a := p4) (o := .dK [])
    generalize upd H3 p4 (.dK []) = H4 at *
    refine ⟨by show 0 ≤ sizeLine; decide, fun p5 m5 => ?_⟩
    have s5 := same_new (H := H4) (p := p5) (o := .tup []) m5
    have e5 := upd_same (H := H4) (a := p5) (o := .tup [])
    generalize upd H4 p5 (.tup []) = H5 at *
    refine ⟨by show 7 ≤ sizeLine; decide, fun p6 m6 => ?_⟩
    have s6 := same_new (H := H5) (p := p6) (o := .lst [.non, .ref p1, .ref p2, .ref p3, .ref p4, .str "0-1", .ref p5]) m6
    have e6 := upd_same (H := H5) (a := p6) (o := .lst [.non, .ref p1, .ref p2, .ref p3, .ref p4, .str "0-1", .ref p5])
    generalize upd H5 p6 (.lst [.non, .ref p1, .ref p2, .ref p3, .ref p4, .str "0-1", .ref p5]) = H6 at *
    have hs : Same H H6 := s1.trans ( s2.trans ( s3.trans ( s4.trans ( s5.trans (s6)))))
    have o1 : OffN H d c H6 p1 = some _ := offN_get (dk.off m1) m1 (s6 _ _ (s5 _ _ (s4 _ _ (s3 _ _ (s2 _ _ (e1))))))
    have o2 : OffN H d c H6 p2 = some _ := offN_get (dk.off (s1.free m2)) (s1.free m2) (s6 _ _ (s5 _ _ (s4 _ _ (s3 _ _ (e2)))))
    have o3 : OffN H d c H6 p3 = some _ := offN_get (dk.off (s1.free (s2.free m3))) (s1.free (s2.free m3)) (s6 _ _ (s5 _ _ (s4 _ _ (e3))))
    have o4 : OffN H d c H6 p4 = some _ := offN_get (dk.off (s1.free (s2.free (s3.free m4)))) (s1.free (s2.free (s3.free m4))) (s6 _ _ (s5 _ _ (e4)))
    have o5 : OffN H d c H6 p5 = some _ := offN_get (dk.off (s1.free (s2.free (s3.free (s4.free m5))))) (s1.free (s2.free (s3.free (s4.free m5)))) (s6 _ _ (e5))
    have oL := (((((dk.kept s1).kept s2).kept s3).kept s4).kept s5).off m6
    have all : DvAll K (OffN H d c H6) [.non, .ref p1, .ref p2, .ref p3, .ref p4, .str "0-1", .ref p5] oddV := .cons (.non) (.cons (.tup o1 (.cons (.int _) (.cons (.int _) (.nil)))) (.cons (.tup o2 (.cons (.int _) (.cons (.bl _) (.nil)))) (.cons (.lst o3 (.cons (.int _) (.cons (.int _) (.nil)))) (.cons (.dic o4 .nil) (.cons (.str _) (.cons (.tup o5 (.nil)) (.nil)))))))
    generalize ([.non, .ref p1, .ref p2, .ref p3, .ref p4, .str "0-1", .ref p5] : List V) = items at *
    have len : items.length = 7 := all.length
    refine ⟨.ref d, rfl, d, c, n, 7, rfl, dk.kept hs, n0, by omega, by decide, by decide, fun Ha r kpa dka r0 r1 => ?_⟩
    obtain ⟨j, rfl⟩ : ∃ j : Nat, r = j := ⟨r.toNat, by omega⟩
    have hj : j < items.length := by omega
    have ej : items[j]? = some items[j] := List.getElem?_eq_getElem hj
    obtain ⟨vd, ed, hdv0⟩ := all.get ej
    refine ⟨p6, items, j, items[j], rfl, rfl, SqL.of (kpa.keep oL e6), atI_nat ej, ?_⟩
    have hvd := List.mem_of_getElem? ed
    have hdv := dv_same (offN_kp kpa) hdv0
    generalize items[j] = v at *
    have kp0 : Kp d c H Ha := (Kp.same hs).trans kpa
    obtain ⟨ivF, smV⟩ := oddV_ok hvd
    obtain ⟨x, y, xs, ys, els, ex, ix, ey, iy⟩ := (st.keep (kp0.tps dk) fun us e => kp0.keep offs e).ex
    refine ⟨v, rfl, by show 2 ≤ sizeLine; decide, fun t1 nt1 => ?_⟩
    have of1 := dka.off nt1
    have u1 := same_new (o := .tup [.str "add_target", v]) nt1
    have et1 := upd_same (H := Ha) (a := t1) (o := .tup [.str "add_target", v])
    generalize upd Ha t1 (.tup [.str "add_target", v]) = Hb at *
    refine ⟨v, rfl, by show 2 ≤ sizeLine; decide, fun t2 nt2 => ?_⟩
    have of2 := (dka.kept u1).off nt2
    have u2 := same_new (o := .tup [.str "remove_piece", v]) nt2
    have et2 := upd_same (H := Hb) (a := t2) (o := .tup [.str "remove_piece", v])
    generalize upd Hb t2 (.tup [.str "remove_piece", v]) = Hc at *
    refine ⟨v, rfl, by show 2 ≤ sizeLine; decide, fun t3 nt3 => ?_⟩
    have of3 := ((dka.kept u1).kept u2).off nt3
    have u3 := same_new (o := .tup [.str "add_piece", v]) nt3
    have et3 := upd_same (H := Hc) (a := t3) (o := .tup [.str "add_piece", v])
    generalize upd Hc t3 (.tup [.str "add_piece", v]) = Hd at *
    refine ⟨10, 12, rfl, rfl, ⟨by decide, by decide, by decide⟩, by show 2 ≤ sizeLine; decide, fun t5 nt5 => ?_⟩
    have of5 := (((dka.kept u1).kept u2).kept u3).off nt5
    have u5 := same_new (o := .tup [.int 9, .int ((10 : Int) ^ (12 : Int).toNat)]) nt5
    have et5 := upd_same (H := Hd) (a := t5) (o := .tup [.int 9, .int ((10 : Int) ^ (12 : Int).toNat)])
    generalize upd Hd t5 (.tup [.int 9, .int ((10 : Int) ^ (12 : Int).toNat)]) = He at *
    refine ⟨by show 2 ≤ sizeLine; decide, fun t4 nt4 => ?_⟩
    have of4 := ((((dka.kept u1).kept u2).kept u3).kept u5).off nt4
    have u4 := same_new (o := .tup [.str "remove_target", .ref t5]) nt4
    have et4 := upd_same (H := He) (a := t4) (o := .tup [.str "remove_target", .ref t5])
    generalize upd He t4 (.tup [.str "remove_target", .ref t5]) = Hf at *
    refine ⟨by show 4 ≤ sizeLine; decide, fun L1 nL1 => ?_⟩
    have u6 := same_new (o := .lst [.ref t1, .ref t2, .ref t3, .ref t4]) nL1
    have eL1 := upd_same (H := Hf) (a := L1) (o := .lst [.ref t1, .ref t2, .ref t3, .ref t4])
    generalize upd Hf L1 (.lst [.ref t1, .ref t2, .ref t3, .ref t4]) = Hg at *
    have uf : Same Ha Hf := u1.trans (u2.trans (u3.trans (u5.trans u4)))
    have ug := uf.trans u6
    have dkg := dka.kept ug
    have all1 : DvAll K (OffN H d c Hg) [.ref t1, .ref t2, .ref t3, .ref t4] [.tuple [.str "add_target", vd], .tuple [.str "remove_piece", vd], .tuple [.str "add_piece", vd], .tuple [.str "remove_target", .tuple [.int 9, .int (10 ^ 12)]]] := by
      have hdg : Dv K (OffN H d c Hg) v vd := dv_same (offN_kp (Kp.same ug)) hdv
      have fr : ∀ {t : Addr}, Ha t = none → H t = none := fun e => Kp.none kp0 dk dka e
      have g1 := offN_get (H0 := H) (d := d) (c := c) of1 (fr nt1) (((u2.trans (u3.trans (u5.trans u4))).trans u6) _ _ et1)
      have g2 := offN_get (H0 := H) (d := d) (c := c) of2 (fr (u1.free nt2)) (((u3.trans (u5.trans u4)).trans u6) _ _ et2)
      have g3 := offN_get (H0 := H) (d := d) (c := c) of3 (fr (u1.free (u2.free nt3))) (((u5.trans u4).trans u6) _ _ et3)
      have g5 := offN_get (H0 := H) (d := d) (c := c) of5 (fr (u1.free (u2.free (u3.free nt5)))) ((u4.trans u6) _ _ et5)
      have g4 := offN_get (H0 := H) (d := d) (c := c) of4 (fr (u1.free (u2.free (u3.free (u5.free nt4))))) (u6 _ _ et4)
      exact .cons (.tup g1 (.cons (.str _) (.cons hdg .nil))) (.cons (.tup g2 (.cons (.str _) (.cons hdg .nil))) (.cons (.tup g3 (.cons (.str _) (.cons hdg .nil))) (.cons (.tup g4 (.cons (.str _) (.cons (.tup g5 (.cons (.int _) (.cons (.int _) .nil))) .nil))) .nil)))
    have exg := ug _ _ ex
    have eyg := ug _ _ ey
    have elsg := ug _ _ els
    have ixg := ix.same ug
    have iyg := iy.same ug
    refine ⟨.ref L1, rfl, .ref ls, rfl, ls, _, 0, .ref x, rfl, rfl, SqL.of elsg, rfl, 1, rfl, ?_⟩
    refine slA_any exg (fun H4 p4 s4 ep4 => ?_)
    rw [show cutV xs none (some 1) = xs.take 1 from cutTo xs 1] at ep4
    have ix4 := (ixg.same s4).take 1
    have l4 := ix4.length
    refine ⟨p4, rfl, ⟨_, SqT.of ep4⟩, fun D1 nD1 => ?_⟩
    refine lcT (K := K) (a := p4) (xs := xs.take 1) (fun j H' ws => Eds H' ws ((((S.1).take 1).take j).map fun q => ⟨true, false, q⟩)) nD1 (fun H' s => SqT.of (s _ _ (ep4))) (by rw [List.length_take]; omega) (fun _ _ _ _ t r => r.tps t) (fun j H' ws r => (by rw [r.length, List.length_map]; exact List.length_take_le _ _)) (fun _ => .nil) ?_ ?_
    · rintro k z H' N acc hk sk eA sz r no yes
      obtain ⟨o, u, w', rfl, eo, ho⟩ := ix4.get hk
      refine ⟨rfl, .ref o, rfl, by show 2 ≤ sizeLine; decide, fun t nt => ?_⟩
      have s5 := same_new (o := .tup [.str "add_target", .ref o]) nt
      refine yes _ _ s5 ?_
      rw [List.take_add_one, eo, List.map_append]
      exact Eds.snoc (e := ⟨true, false, (u, w')⟩) (r.tps (Tps.same s5)) upd_same (s5 _ _ (sk _ _ ho))
    rintro H5 w1 s5 eD1 r1
    rw [l4, List.take_length] at r1
    refine ⟨L1, D1, _, _, rfl, rfl, (s4.trans s5) _ _ eL1, eD1, by have := r1.length; rw [List.length_map, List.length_take] at this; rw [show sizeLine = 16777216 by decide]; show 4 + w1.length ≤ _; omega, fun C1 nC1 => ?_⟩
    have s6 := same_new (o := .lst ([.ref t1, .ref t2, .ref t3, .ref t4] ++ w1)) nC1
    have eC1 := upd_same (H := H5) (a := C1) (o := .lst ([.ref t1, .ref t2, .ref t3, .ref t4] ++ w1))
    generalize upd H5 C1 (.lst ([.ref t1, .ref t2, .ref t3, .ref t4] ++ w1)) = H6 at *
    have s36 := s4.trans (s5.trans s6)
    refine ⟨.ref ls, rfl, ls, _, 1, .ref y, rfl, rfl, SqL.of (s36 _ _ elsg), rfl, 1, rfl, ?_⟩
    refine slA_any (s36 _ _ eyg) (fun H7 p7 s7 ep7 => ?_)
    rw [show cutV ys none (some 1) = ys.take 1 from cutTo ys 1] at ep7
    have iy7 := ((iyg.same s36).same s7).take 1
    have l7 := iy7.length
    refine ⟨p7, rfl, ⟨_, SqT.of ep7⟩, fun D2 nD2 => ?_⟩
    refine lcT (K := K) (a := p7) (xs := ys.take 1) (fun j H' ws => Eds H' ws ((((S.2).take 1).take j).map fun q => ⟨true, true, q⟩)) nD2 (fun H' s => SqT.of (s _ _ (ep7))) (by rw [List.length_take]; omega) (fun _ _ _ _ t r => r.tps t) (fun j H' ws r => (by rw [r.length, List.length_map]; exact List.length_take_le _ _)) (fun _ => .nil) ?_ ?_
    · rintro k z H' N acc hk sk eA sz r no yes
      obtain ⟨o, u, w', rfl, eo, ho⟩ := iy7.get hk
      refine ⟨rfl, .ref o, rfl, by show 2 ≤ sizeLine; decide, fun t nt => ?_⟩
      have s5 := same_new (o := .tup [.str "add_piece", .ref o]) nt
      refine yes _ _ s5 ?_
      rw [List.take_add_one, eo, List.map_append]
      exact Eds.snoc (e := ⟨true, true, (u, w')⟩) (r.tps (Tps.same s5)) upd_same (s5 _ _ (sk _ _ ho))
    rintro H8 w2 s8 eD2 r2
    rw [l7, List.take_length] at r2
    refine ⟨C1, D2, _, _, rfl, rfl, (s7.trans s8) _ _ eC1, eD2, by have z1 := r1.length; have z2 := r2.length; rw [List.length_map, List.length_take] at z1 z2; rw [show sizeLine = 16777216 by decide, List.length_append]; show 4 + w1.length + w2.length ≤ _; omega, fun C2 nC2 => ?_⟩
    have s9 := same_new (o := .lst (([.ref t1, .ref t2, .ref t3, .ref t4] ++ w1) ++ w2)) nC2
    have eC2 := upd_same (H := H8) (a := C2) (o := .lst (([.ref t1, .ref t2, .ref t3, .ref t4] ++ w1) ++ w2))
    generalize upd H8 C2 (.lst (([.ref t1, .ref t2, .ref t3, .ref t4] ++ w1) ++ w2)) = H9 at *
    have sg9 : Same Hg H9 := s36.trans (s7.trans (s8.trans s9))
    have dk9 := dkg.kept sg9
    have oC2 := ((dkg.kept (s36.trans (s7.trans s8))).off nC2)
    have kp9 : Kp d c H H9 := kp0.trans (Kp.same (ug.trans sg9))
    have all9 : DvAll K (OffN H d c H9) (([.ref t1, .ref t2, .ref t3, .ref t4] ++ w1) ++ w2) (([.tuple [.str "add_target", vd], .tuple [.str "remove_piece", vd], .tuple [.str "add_piece", vd], .tuple [.str "remove_target", .tuple [.int 9, .int (10 ^ 12)]]] ++ ((S.1.take 1).map fun q => (⟨true, false, q⟩ : Ed)).map edD) ++ ((S.2.take 1).map fun q => (⟨true, true, q⟩ : Ed)).map edD) :=
      ((dvAll_same (offN_kp (Kp.same sg9)) all1).append (eds_dvN kp9 dk9 (r1.tps (Tps.same (s6.trans (s7.trans (s8.trans s9))))))).append (eds_dvN kp9 dk9 (r2.tps (Tps.same s9)))
    have okAll : ∀ z ∈ (([.tuple [.str "add_target", vd], .tuple [.str "remove_piece", vd], .tuple [.str "add_piece", vd], .tuple [.str "remove_target", .tuple [.int 9, .int (10 ^ 12)]]] ++ ((S.1.take 1).map fun q => (⟨true, false, q⟩ : Ed)).map edD) ++ ((S.2.take 1).map fun q => (⟨true, true, q⟩ : Ed)).map edD : List PyData), Fails S z := fun z hz => by
      rcases List.mem_append.mp hz with hz | hz
      · rcases List.mem_append.mp hz with hz | hz
        · simp only [List.mem_cons, List.not_mem_nil, or_false] at hz
          rcases hz with rfl | rfl | rfl | rfl
          · exact ⟨true, false, vd, rfl, .inl ⟨rfl, .inl ivF⟩, smV⟩
          · exact ⟨false, true, vd, rfl, .inr ⟨rfl, fun x y _ h => by rw [ivF] at h; cases h⟩, smV⟩
          · exact ⟨true, true, vd, rfl, .inl ⟨rfl, .inl ivF⟩, smV⟩
          · refine ⟨false, false, _, rfl, .inr ⟨rfl, fun x y e _ hm => ?_⟩, small_of (by decide +kernel)⟩
            injection e with e
            injection e with e1 e2
            injection e2 with e2 _
            injection e2 with e2
            have o := (sc.oc false _ hm).ok cells top
            have o2 : y < 1000000000000 := o.2.2
            rw [← e2] at o2
            exact absurd o2 (by decide)
        · obtain ⟨e, he, rfl⟩ := List.mem_map.mp hz
          obtain ⟨q', hq, rfl⟩ := List.mem_map.mp he
          have hm := List.mem_of_mem_take hq
          have ok := sc.so.t.ok q' hm
          exact ⟨true, false, pairD q', rfl, .inl ⟨rfl, .inr ⟨q', rfl, iv_ok ok, hm⟩⟩, (sm_pr ok).mono (by decide) (by decide)⟩
      · obtain ⟨e, he, rfl⟩ := List.mem_map.mp hz
        obtain ⟨q', hq, rfl⟩ := List.mem_map.mp he
        have hm := List.mem_of_mem_take hq
        have ok := sc.so.p.ok q' hm
        exact ⟨true, true, pairD q', rfl, .inl ⟨rfl, .inr ⟨q', rfl, iv_ok ok, hm⟩⟩, (sm_pr ok).mono (by decide) (by decide)⟩
    have lenW : (([V.ref t1, .ref t2, .ref t3, .ref t4] ++ w1) ++ w2).length ≤ 6 := by
      have z1 := r1.length
      have z2 := r2.length
      rw [List.length_map, List.length_take] at z1 z2
      rw [List.length_append, List.length_append]
      show 4 + w1.length + w2.length ≤ 6
      omega
    have lenP : 0 < (([V.ref t1, .ref t2, .ref t3, .ref t4] ++ w1) ++ w2).length := by
      rw [List.length_append, List.length_append]
      show 0 < 4 + w1.length + w2.length
      omega
    generalize (([V.ref t1, .ref t2, .ref t3, .ref t4] ++ w1) ++ w2) = items at *
    refine ⟨.ref C2, rfl, .ref d, rfl, .ref C2, rfl, C2, items, rfl, .inl (SqL.of eC2), d, c, _, (items.length : Int), rfl, dk9, by omega, by omega, by omega, by omega, fun Hz r kpz dkz r0 r1 => ?_⟩
    obtain ⟨j, rfl⟩ : ∃ j : Nat, r = j := ⟨r.toNat, by omega⟩
    have hj : j < items.length := by omega
    have ej : items[j]? = some items[j] := List.getElem?_eq_getElem hj
    obtain ⟨dd, ed, hdz⟩ := all9.get ej
    refine ⟨C2, items, j, items[j], rfl, rfl, SqL.of (kpz.keep oC2 eC2), atI_nat ej, ?_⟩
    obtain ⟨add, pc, vd', rfl, bw, sm⟩ := okAll dd (List.mem_of_getElem? ed)
    exact q _ _ add pc vd' ((kp0.trans (Kp.same (ug.trans sg9))).trans kpz) (dkz.eq (by omega)) (dv_same (offN_kp kpz) hdz) bw sm

/-! ### a batch, and what is due -/
def W21 (U : St2) : Prop := ∀ pc, (sideS pc U).length ≤ 21
theorem w21_step {U : St2} {e : Ed} (h : W21 U) (l : e.add = true → (sideS e.pc U).length ≤ 20) : W21 (stepS U e) := by
  obtain ⟨add, c, q⟩ := e
  have up : ∀ {ps : List (Int × Int)}, ps.length ≤ 21 → (add = true → ps.length ≤ 20) → (upI add q ps).length ≤ 21 := fun {ps} h1 h2 => by
    unfold upI
    split
    · rename_i z
      rw [len_insI]
      have := h2 z
      omega
    · exact Nat.le_trans (wo_len ps q) h1
  intro pc
  cases c with
  | true =>
    cases pc with
    | true => exact up (h true) l
    | false => exact h false
  | false =>
    cases pc with
    | true => exact h true
    | false => exact up (h false) l
theorem hist_get : ∀ (es : List Ed) (S : St2) (i : Nat), i ≤ es.length → (hist0 S es ++ [runS S es])[i]? = some (runS S (es.take i))
  | [], S, i, h => by
    have : i = 0 := by
      have : i ≤ 0 := h
      omega
    subst this
    rfl
  | e :: es, S, 0, _ => rfl
  | e :: es, S, i + 1, h => hist_get es (stepS S e) i (by rw [List.length_cons] at h; omega)
theorem hist_len (S : St2) (es : List Ed) : (hist0 S es ++ [runS S es]).length = es.length + 1 := by
  rw [List.length_append, hist0_len]
  rfl
theorem run_app (S : St2) (xs ys : List Ed) : runS S (xs ++ ys) = runS (runS S xs) ys := by
  unfold runS
  rw [List.foldl_append]
theorem hist_snoc (S : St2) (es : List Ed) (e : Ed) : hist0 S (es ++ [e]) ++ [runS S (es ++ [e])] = (hist0 S es ++ [runS S es]) ++ [stepS (runS S es) e] := by
  rw [hist0_snoc, run_app]
  rfl
theorem Chain.nil {S : St2} (so : StOk S) : Chain S [] := ⟨fun k _ => by rw [List.take_nil]; exact so, fun k e h => nomatch h⟩
theorem Chain.snoc {S : St2} {es : List Ed} {e : Ed} (h : Chain S es) (can : Can (runS S es) e) : Chain S (es ++ [e]) := by
  have last : StOk (runS S es) := by
    have z := h.ok es.length (Nat.le_refl _)
    rw [List.take_length] at z
    exact z
  refine ⟨fun k hk => ?_, fun k x hx => ?_⟩
  · rcases Nat.lt_or_ge es.length k with z | z
    · rw [List.length_append] at hk
      have hk : k ≤ es.length + 1 := hk
      have ek : k = (es ++ [e]).length := by rw [List.length_append]; show k = es.length + 1; omega
      rw [ek, List.take_length, run_app]
      exact last.step can
    · rw [List.take_append_of_le_length z]
      exact h.ok k z
  · rcases Nat.lt_or_ge k es.length with z | z
    · rw [List.getElem?_append_left z] at hx
      rw [List.take_append_of_le_length (by omega)]
      exact h.can k x hx
    · have kl := (List.getElem?_eq_some_iff.mp hx).1
      rw [List.length_append] at kl
      have kl : k < es.length + 1 := kl
      have ek : k = es.length := by omega
      subst ek
      rw [List.getElem?_append_right (Nat.le_refl _), Nat.sub_self] at hx
      cases hx
      rw [List.take_append_of_le_length (Nat.le_refl _), List.take_length]
      exact can
structure RB (H : Hp) (d c l B SL : Addr) (lus : List V) (cs : List (Int × Int)) (us : List V) (es : List Ed) (sus : List V) (Ss : List St2) : Prop where
  el : H l = some (.lst lus)
  iv : Ivs H lus cs
  eB : H B = some (.lst us)
  ev : Eds H us es
  eS : H SL = some (.lst sus)
  st : LSs H (fun a => Off d c a ∧ a ≠ B ∧ a ≠ SL) sus Ss
section
variable {H H' : Hp} {d c l B SL : Addr} {n : Int} {lus : List V} {cs : List (Int × Int)} {us : List V} {es : List Ed} {sus : List V} {Ss : List St2}
theorem RB.same (R : RB H d c l B SL lus cs us es sus Ss) (s : Same H H') : RB H' d c l B SL lus cs us es sus Ss := ⟨s _ _ R.el, R.iv.same s, s _ _ R.eB, R.ev.tps (Tps.same s), s _ _ R.eS, R.st.same s⟩
theorem RB.kp (R : RB H d c l B SL lus cs us es sus Ss) (ol : Off d c l) (oB : Off d c B) (oS : Off d c SL) (k : Kp d c H H') (dk : Dk H d c n) : RB H' d c l B SL lus cs us es sus Ss :=
  ⟨k.keep ol R.el, R.iv.tps (k.tps dk), k.keep oB R.eB, R.ev.tps (k.tps dk), k.keep oS R.eS, R.st.keep (k.tps dk) fun a us h e => k.keep h.1 e⟩
theorem RB.setB (R : RB H d c l B SL lus cs us es sus Ss) (nl : l ≠ B) (nS : SL ≠ B) {us' : List V} {es' : List Ed} (ev : Eds H us' es') : RB (upd H B (.lst us')) d c l B SL lus cs us' es' sus Ss :=
  ⟨by rw [upd_ne nl]; exact R.el, R.iv.tps (Tps.lst R.eB), upd_same, ev.tps (Tps.lst R.eB), by rw [upd_ne nS]; exact R.eS, R.st.keep (Tps.lst R.eB) fun a us h e => by rw [upd_ne h.2.1]; exact e⟩
theorem RB.setS (R : RB H d c l B SL lus cs us es sus Ss) (nl : l ≠ SL) (nS : B ≠ SL) {a : Addr} {U : St2} (h : LawS H a U) (p : Off d c a ∧ a ≠ B ∧ a ≠ SL) : RB (upd H SL (.lst (sus ++ [.ref a]))) d c l B SL lus cs us es (sus ++ [.ref a]) (Ss ++ [U]) := by
  have k : ∀ (a : Addr) (us : List V), (Off d c a ∧ a ≠ B ∧ a ≠ SL) → H a = some (.lst us) → upd H SL (.lst (sus ++ [.ref a])) a = some (.lst us) := fun a us h e => by rw [upd_ne h.2.2]; exact e
  exact ⟨by rw [upd_ne nl]; exact R.el, R.iv.tps (Tps.lst R.eS), by rw [upd_ne nS]; exact R.eB, R.ev.tps (Tps.lst R.eS), upd_same, LSs.snoc (R.st.keep (Tps.lst R.eS) fun a us h e => by rw [upd_ne h.2.2]; exact e) (h.keep (Tps.lst R.eS) fun us e => by rw [upd_ne p.2.2]; exact e) p⟩
end
theorem LSs.weak {H : Hp} {P P' : Addr → Prop} {us : List V} {Ss : List St2} (h : LSs H P us Ss) (k : ∀ a, P a → P' a) : LSs H P' us Ss := by
  induction h with
  | nil => exact .nil
  | cons h p _ ih => exact .cons h (k _ p) ih
theorem kp_upd {d c B : Addr} {H H' : Hp} {o : HO} (k : Kp d c H H') (n : H B = none) : Kp d c H (upd H' B o) := fun b u n1 n2 e => by
  rw [upd_ne (ne_of_none e n)]
  exact k b u n1 n2 e
theorem DvAll.take {K : PySem.W.Frag} {H : Hp} : ∀ {us : List V} {ds : List PyData}, DvAll K H us ds → ∀ k : Nat, DvAll K H (us.take k) (ds.take k)
  | _, _, .nil, k => by rw [List.take_nil, List.take_nil]; exact .nil
  | _, _, .cons a b, 0 => .nil
  | _, _, .cons a b, k + 1 => .cons a (b.take k)
theorem DvAll.drop {K : PySem.W.Frag} {H : Hp} : ∀ {us : List V} {ds : List PyData}, DvAll K H us ds → ∀ k : Nat, DvAll K H (us.drop k) (ds.drop k)
  | _, _, .nil, k => by rw [List.drop_nil, List.drop_nil]; exact .nil
  | _, _, .cons a b, 0 => .cons a b
  | _, _, .cons a b, k + 1 => b.drop k
theorem ins_dv {K : PySem.W.Frag} {d c : Addr} {n : Int} {H : Hp} (dk : Dk H d c n) {us : List V} {es : List Ed} (ev : Eds H us es) {v : V} {z : PyData} (hv : Dv K (OffP d c H) v z) (k : Nat) : DvAll K (OffP d c H) (us.take k ++ [v] ++ us.drop k) ((es.take k).map edD ++ z :: (es.drop k).map edD) := by
  have h := eds_dv (K := K) dk ev
  have x := ((h.take k).append (.cons hv .nil)).append (h.drop k)
  rw [List.map_take, List.map_drop, show (es.map edD).take k ++ z :: (es.map edD).drop k = (es.map edD).take k ++ [z] ++ (es.map edD).drop k by simp]
  exact x
def BDue (d c : Addr) (H : Hp) (S : St2) (es : List Ed) (ds : List PyData) (due : V) : Prop :=
  (due = .non ∧ ds = es.map edD) ∨
  (∃ (L : Addr) (k : Nat) (z : PyData), due = .ref L ∧ H L = some (.lst [.str "rejected", .int (k : Nat)]) ∧ Off d c L ∧ k ≤ es.length ∧ ds = (es.take k).map edD ++ z :: (es.drop k).map edD ∧ Fails (runS S (es.take k)) z) ∨
  (∃ (L : Addr) (k : Nat) (z : PyData), due = .ref L ∧ H L = some (.lst [.str "bad edit", .int (k : Nat)]) ∧ Off d c L ∧ k ≤ es.length ∧ ds = (es.take k).map edD ++ z :: (es.drop k).map edD ∧ z ∈ oddB)
def sp_law_batch (K : PySem.W.Frag) : Sp := fun vs H Q _ => ∃ (d c : Addr) (n : Int) (l : Addr) (lus : List V) (cs : List (Int × Int)) (ls : Addr) (S : St2), vs = [.ref d, .ref l, .ref ls] ∧ Dk H d c n ∧ 0 ≤ n ∧ n < 700000 ∧ Off d c l ∧ H l = some (.lst lus) ∧ Ivs H lus cs ∧ Cells cs ∧ 0 < cs.length ∧ cs.length ≤ 9 ∧ (∀ q ∈ cs, q.2 < 1000000000000) ∧ Off d c ls ∧ LawS H ls S ∧ StC cs S ∧ W21 S ∧
  ∀ H' R bv dd SL sus es due m, Kp d c H H' → Dk H' d c m → n ≤ m → m ≤ n + 60 → H' R = some (.lst [bv, .ref SL, due]) → Dv K (OffP d c H') bv dd → ltB dd = true → H' SL = some (.lst sus) → Off d c SL → LSs H' (Off d c) sus (hist0 S es ++ [runS S es]) → Chain S es → (∀ U ∈ hist0 S es ++ [runS S es], StC cs U ∧ W21 U) → es.length ≤ 6 → BDue d c H' S es (itemsD dd) due → Q (.ref R) H'
theorem ok_law_batch (T : Tx K mg f_is_number f_is_position f_is_tuple_of f_is_interval f_ascending_error f_targets_error f_is_pieces f_without_item f_is_edit f_copied_batch f_with_interval f_without_interval f_edited_state f_law_deck f_law_draw f_law_line f_law_interval f_law_intervals f_law_edit f_law_after f_law_right f_law_begun f_law_applied f_law_failing f_law_bad f_law_batch f_law f_Plan_init f_Plan_apply f_Plan_targets f_Plan_pieces f_Plan_edits f_Plan_record f_Plan_record_or_reject f_Plan_passes f_Plan_require_idle f_Plan_state_at f_Plan_len f_Plan_str f_BadInterval_init f_Duplicate_init f_BadEdit_init f_Rejected_init f_Unknown_init C_Plan X_BadInterval X_SpanError X_Unknown X_Duplicate X_Rejected X_BadEdit X_BadEdits X_Busy d_is_number d_is_position d_is_tuple_of d_is_interval d_ascending_error d_targets_error d_is_pieces d_without_item d_is_edit d_copied_batch d_with_interval d_without_interval d_edited_state d_law_deck d_law_draw d_law_line d_law_interval d_law_intervals d_law_edit d_law_after d_law_right d_law_begun d_law_applied d_law_failing d_law_bad d_law_batch d_law d_Plan_init d_Plan_apply d_Plan_targets d_Plan_pieces d_Plan_edits d_Plan_record d_Plan_record_or_reject d_Plan_passes d_Plan_require_idle d_Plan_state_at d_Plan_len d_Plan_str d_BadInterval_init d_Duplicate_init d_BadEdit_init d_Rejected_init d_Unknown_init t_LAST_POSITION t_MAX_TARGETS t_MAX_PIECES t_MAX_EDITS t_BATCH t_WORDS) : FnOk P w K mg base CX0 5 f_law_batch d_law_batch ["_law_deck_here", "_law_line_here", "_law_state"] (sp_law_batch K) := by
  refine T.F_law_batch.ok sc_law_batch (fun vs H Q E h => ?_) (fun cdv A outer s H vs Q E hr h => ?_)
  · obtain ⟨d, c, n, l, lus, cs, ls, S, rfl, _⟩ := h
    rfl
  · obtain ⟨d, c, n, l, lus, cs, ls, S, rfl, dk, n0, n1, offl, el, iv, cells, l0, l9, top, offs, st, sc, w21, q⟩ := h
    refine ⟨_, (pss_cons (ps_par (by rfl) sc_law_batch.nd (i := 3) (j := 4) rfl rfl (by decide) rfl rfl (pa_cons (pe_lst (pa_cons (pv 2) pa_nil)) (pa_cons (pe_lst pa_nil) pa_nil)) (by rfl))
      (pss_cons (ps_for PassesOwn.never rfl (pi_range1 (by rfl) T.z_range (pa_cons (pe_call (ok_law_draw T) (hr.mono (by decide)) (by rfl) T.g_law_draw T.F_law_draw.kp T.b_law_draw .nil pass0 (pa_cons (pv 0) (pa_cons pe_int pa_nil))) pa_nil)) (pg_name (i := 5) sc_law_batch.nd rfl (Or.inl rfl))
      (pss_cons (ps_expr (pe_bm PySem.F.plainAttrs_list PySem.F.slot_list_append PySem.F.type_list_append mt_append (pv 4) (pa_cons (pe_call (ok_law_edit T) (hr.mono (by decide)) (by rfl) T.g_law_edit T.F_law_edit.kp T.b_law_edit .nil pass0 (pa_cons (pv 0) (pa_cons (pv 1) (pa_cons (pe_ix ix_list (pv 3) (pe_un un_neg pe_int) (fun _ _ => rfl)) pa_nil)))) pa_nil)))
      (pss_one (ps_expr (pe_bm PySem.F.plainAttrs_list PySem.F.slot_list_append PySem.F.type_list_append mt_append (pv 3) (pa_cons (pe_call (ok_law_after T) (hr.mono (by decide)) (by rfl) T.g_law_after T.F_law_after.kp T.b_law_after .nil pass0 (pa_cons (pe_ix ix_list (pv 3) (pe_un un_neg pe_int) (fun _ _ => rfl)) (pa_cons (pe_ix ix_list (pv 4) (pe_un un_neg pe_int) (fun _ _ => rfl)) pa_nil))) pa_nil))))))
      (pss_cons (ps_set (i := 6) sc_law_batch.nd rfl (Or.inl rfl) pe_non)
      (pss_cons (ps_set (i := 7) sc_law_batch.nd rfl (Or.inl rfl) (pe_call (ok_law_draw T) (hr.mono (by decide)) (by rfl) T.g_law_draw T.F_law_draw.kp T.b_law_draw .nil pass0 (pa_cons (pv 0) (pa_cons (pe_op op_add (pe_callB call_len_seq (by rfl) T.z_len PySem.boot_len (pa_cons (pv 4) pa_nil)) pe_int) pa_nil))))
      (pss_cons (ps_set (i := 8) sc_law_batch.nd rfl (Or.inl rfl) (pe_call (ok_law_draw T) (hr.mono (by decide)) (by rfl) T.g_law_draw T.F_law_draw.kp T.b_law_draw .nil pass0 (pa_cons (pv 0) (pa_cons pe_int pa_nil))))
      (C8.pss_cut (ps_if (pt_cmpR op_eq (pv 8) pe_int (nomark _))
      (pss_cons (ps_expr (pe_bm PySem.F.plainAttrs_list PySem.F.slot_list_insert PySem.F.type_list_insert mt_insert (pv 4) (pa_cons (pv 7) (pa_cons (pe_call (ok_law_failing T) (hr.mono (by decide)) (by rfl) T.g_law_failing T.F_law_failing.kp T.b_law_failing .nil pass0 (pa_cons (pv 0) (pa_cons (pe_ix ix_list (pv 3) (pv 7) (fun _ _ => rfl)) pa_nil))) pa_nil))))
      (pss_one (ps_set (i := 6) sc_law_batch.nd rfl (Or.inl rfl) (pe_lst (pa_cons pe_str (pa_cons (pv 7) pa_nil))))))
      pss_nil)
      (C8.pss_cut (ps_if (pt_cmpR op_eq (pv 8) pe_int (nomark _))
      (pss_cons (ps_expr (pe_bm PySem.F.plainAttrs_list PySem.F.slot_list_insert PySem.F.type_list_insert mt_insert (pv 4) (pa_cons (pv 7) (pa_cons (pe_call (ok_law_bad T) (hr.mono (by decide)) (by rfl) T.g_law_bad T.F_law_bad.kp T.b_law_bad .nil pass0 (pa_cons (pv 0) pa_nil)) pa_nil))))
      (pss_one (ps_set (i := 6) sc_law_batch.nd rfl (Or.inl rfl) (pe_lst (pa_cons pe_str (pa_cons (pv 7) pa_nil))))))
      pss_nil)
      (pss_one (ps_ret (pe_lst (pa_cons (pe_ix ix_list (pe_lst (pa_cons (pv 4) (pa_cons (pe_callTy call_tuple_of (by rfl) T.z_tuple (by decide +kernel) (pa_cons (pv 4) pa_nil)) pa_nil))) (pe_call (ok_law_draw T) (hr.mono (by decide)) (by rfl) T.g_law_draw T.F_law_draw.kp T.b_law_draw .nil pass0 (pa_cons (pv 0) (pa_cons pe_int pa_nil))) (fun _ _ => rfl)) (pa_cons (pv 3) (pa_cons (pv 6) pa_nil))))))))))))), ?_⟩
    refine ⟨.ref ls, rfl, by show 1 ≤ sizeLine; decide, fun SL nSL => ?_⟩
    have offSL := dk.off nSL
    have nlS : l ≠ SL := ne_of_none el nSL
    obtain ⟨x0, y0, xs0, ys0, els0, _⟩ := id st.ex
    have nsS : ls ≠ SL := ne_of_none els0 nSL
    have s1 := same_new (o := .lst [.ref ls]) nSL
    have eSL := upd_same (H := H) (a := SL) (o := .lst [.ref ls])
    generalize upd H SL (.lst [.ref ls]) = H1 at *
    refine ⟨by show 0 ≤ sizeLine; decide, fun B nB => ?_⟩
    have dk1 := dk.kept s1
    have offB := dk1.off nB
    have nlB : l ≠ B := ne_of_none (s1 _ _ el) nB
    have nSB : SL ≠ B := ne_of_none eSL nB
    have nsB : ls ≠ B := ne_of_none (s1 _ _ els0) nB
    have nB0 : H B = none := s1.free nB
    have s2 := same_new (o := .lst []) nB
    have eB := upd_same (H := H1) (a := B) (o := .lst [])
    generalize upd H1 B (.lst []) = H2 at *
    refine ⟨_, _, rfl, ?_⟩
    have s12 := s1.trans s2
    have dk2 := dk.kept s12
    have R2 : RB H2 d c l B SL lus cs [] [] [.ref ls] (hist0 S [] ++ [runS S []]) := ⟨s12 _ _ el, iv.same s12, eB, .nil, s2 _ _ eSL, .cons (st.same s12) ⟨offs, nsB, nsS⟩ .nil⟩
    refine ⟨.ref d, rfl, d, c, n, 7, rfl, dk2, by omega, by omega, by decide, by decide, fun H3 r kp3 dk3 r0 r1 => ?_⟩
    have R3 := R2.kp offl offB offSL kp3 dk2
    have kpA : Kp d c H H3 := (Kp.same s12).trans kp3
    refine ⟨r, rfl, by omega, by omega, for_range (D := ⟨_, _, fun _ _ => True, fun _ _ => True⟩) (n := r.toNat) (fun i σ H' => ∃ m us es sus y5, Dk H' d c m ∧ n + 1 ≤ m ∧ m ≤ n + 1 + 4 * i ∧ Kp d c H H' ∧ RB H' d c l B SL lus cs us es sus (hist0 S es ++ [runS S es]) ∧ es.length ≤ i ∧ Chain S es ∧ (∀ U ∈ hist0 S es ++ [runS S es], StC cs U ∧ W21 U) ∧ σ = [some (.ref d), some (.ref l), some (.ref ls), some (.ref SL), some (.ref B), y5, none, none, none])
      ⟨n + 1, [], [], _, _, dk3, by omega, by omega, kpA, R3, Nat.zero_le _, .nil sc.so, (fun U hU => by rw [List.mem_singleton.mp hU]; exact ⟨sc, w21⟩), rfl⟩ ?_ ?_⟩
    all_goals clear R2 R3 kpA dk3 dk2 kp3 s12 s2 s1
    · rintro i σ Ha hi ⟨m, us, es, sus, y5, dka, m0, m1, kpa, Ra, le, ch, all, rfl⟩
      have i7 : i < 7 := by omega
      have lsus := Ra.st.length
      rw [hist_len] at lsus
      have lev := Ra.ev.length
      obtain ⟨lsa, eus, stL, offls, nls1, nls2⟩ := Ra.st.get (hist_get es S es.length (Nat.le_refl _))
      rw [List.take_length] at stL
      have aus : atI sus (-1) = some (.ref lsa) := atI_end (by rw [lsus]; exact eus)
      obtain ⟨scL, wL⟩ := all (runS S es) (List.mem_append_right _ List.mem_cons_self)
      refine ⟨.ref B, rfl, .inl ⟨rfl, _, SqL.of Ra.eB⟩, .ref d, rfl, .ref l, rfl, .ref SL, rfl, 1, rfl, SL, sus, -1, .ref lsa, rfl, rfl, SqL.of Ra.eS, aus, d, c, m, l, lus, cs, lsa, runS S es, rfl, dka, by omega, by omega, offl, Ra.el, Ra.iv, cells, l0, l9, top, offls, stL, scL, fun Hb t e m2 kpb dkb m20 m21 ed can oc l20 => ?_⟩
      have Rb := Ra.kp offl offB offSL kpb dka
      have stb : LawS Hb lsa (runS S es) := stL.keep (kpb.tps dka) fun us e => kpb.keep offls e
      obtain ⟨ta, h1, h2⟩ := id ed
      refine ⟨B, us, _, rfl, rfl, Rb.eB, by rw [lev]; exact small1000 (by omega), ?_⟩
      have Rc := Rb.setB nlB nSB (Rb.ev.snoc h1 h2)
      have dkc : Dk (upd Hb B (.lst (us ++ [.ref t]))) d c m2 := dkb.upd offB
      have kpc := kp_upd (o := .lst (us ++ [.ref t])) (kpa.trans kpb) nB0
      have edc := ed.tps (Tps.lst Rb.eB (vs := us ++ [.ref t]))
      have stc : LawS (upd Hb B (.lst (us ++ [.ref t]))) lsa (runS S es) := stb.keep (Tps.lst Rb.eB) fun us e => by
        rw [upd_ne nls1]
        exact e
      generalize upd Hb B (.lst (us ++ [.ref t])) = Hc at *
      refine ⟨.ref SL, rfl, .inl ⟨rfl, _, SqL.of Rc.eS⟩, .ref SL, rfl, 1, rfl, SL, sus, -1, .ref lsa, rfl, rfl, SqL.of Rc.eS, aus, .ref B, rfl, 1, rfl, B, _, -1, .ref t, rfl, rfl, SqL.of Rc.eB, atI_last _ _, lsa, t, runS S es, e, rfl, stc, edc, scL.so, can, fun Hd ls' sd nlsd std => ?_⟩
      have offsd := dkc.off nlsd
      have nd1 : ls' ≠ SL := (ne_of_none Rc.eS nlsd).symm
      have nd2 : ls' ≠ B := (ne_of_none Rc.eB nlsd).symm
      have Rd := Rc.same sd
      refine ⟨SL, sus, _, rfl, rfl, Rd.eS, by rw [lsus]; exact small1000 (by omega), ?_⟩
      have Re := Rd.setS nlS nSB.symm std ⟨offsd, nd2, nd1⟩
      refine ⟨m2, us ++ [.ref t], es ++ [e], sus ++ [.ref ls'], _, (dkc.kept sd).upd offSL, by omega, by omega, kp_upd (kpc.trans (Kp.same sd)) nSL, ?_, by rw [List.length_append]; show es.length + 1 ≤ i + 1; omega, ch.snoc can, ?_, rfl⟩
      · rw [hist_snoc]
        exact Re
      · rw [hist_snoc]
        intro U hU
        rcases List.mem_append.mp hU with hU | hU
        · exact all U hU
        · rw [List.mem_singleton.mp hU]
          exact ⟨scL.step can oc, w21_step wL l20⟩
    rintro σ Ha ⟨m, us, es, sus, y5, dka, m0, m1, kpa, Ra, le, ch, all, rfl⟩
    have le6 : es.length ≤ 6 := by omega
    have lev := Ra.ev.length
    have lsus := Ra.st.length
    rw [hist_len] at lsus
    refine ⟨.ref d, rfl, .ref B, rfl, B, us, rfl, .inl (SqL.of Ra.eB), _, _, rfl, rfl, d, c, m, _, rfl, dka, by omega, by omega, by omega, by omega, fun Hb rp kpb dkb rp0 rp1 => ?_⟩
    have Rb := Ra.kp offl offB offSL kpb dka
    refine ⟨.ref d, rfl, d, c, _, 5, rfl, dkb, by omega, by omega, by decide, by decide, fun Hc rw' kpc dkc rw0 rw1 => ?_⟩
    have Rc := Rb.kp offl offB offSL kpc dkb
    have kpC := (kpa.trans kpb).trans kpc
    obtain ⟨k, rfl⟩ : ∃ k : Nat, rp = k := ⟨rp.toNat, by omega⟩
    have kl : k ≤ es.length := by omega
    obtain ⟨lsk, eusk, stK, offK, nK1, nK2⟩ := Rc.st.get (hist_get es S k kl)
    obtain ⟨scK, wK⟩ := all _ (List.mem_of_getElem? (hist_get es S k kl))
    refine ⟨(fun σ H' => ∃ (m : Int) (us : List V) (ds : List PyData) (due : V), Dk H' d c m ∧ n ≤ m ∧ m ≤ n + 40 ∧ Kp d c H H' ∧ H' B = some (.lst us) ∧ us.length ≤ 7 ∧ DvAll K (OffP d c H') us ds ∧ H' SL = some (.lst sus) ∧ LSs H' (fun a => Off d c a ∧ a ≠ B ∧ a ≠ SL) sus (hist0 S es ++ [runS S es]) ∧ BDue d c H' S es ds due ∧ (rw' = 1 → due = .non ∧ ds = es.map edD ∧ Eds H' us es) ∧ σ = [some (.ref d), some (.ref l), some (.ref ls), some (.ref SL), some (.ref B), y5, some due, some (.int (k : Nat)), some (.int rw')]), ?_, ?_⟩
    · refine ⟨.int rw', rfl, rfl, _, rfl, ite2 (fun z => ?_) (fun z => ?_)⟩
      · have rz : rw' = 0 := V.int.inj (of_decide_eq_true z)
        refine ⟨.ref B, rfl, .inl ⟨rfl, _, SqL.of Rc.eB⟩, .int (k : Nat), rfl, .ref d, rfl, .ref SL, rfl, .int (k : Nat), rfl, SL, sus, k, .ref lsk, rfl, rfl, SqL.of Rc.eS, atI_nat eusk, d, c, _, lsk, _, cs, rfl, dkc, by omega, by omega, stK, offK, scK, cells, top, fun Hd v add pc vd kpd dkd hv bw sm => ?_⟩
        have eBd := kpd.keep offB Rc.eB
        refine ⟨B, us, (k : Nat), v, rfl, rfl, eBd, by rw [lev]; exact small1000 (by omega), by omega, by omega, ?_⟩
        rw [Int.toNat_natCast]
        have tB := Tps.lst eBd (vs := us.take k ++ [v] ++ us.drop k)
        have ev' : Eds (upd Hd B (.lst (us.take k ++ [v] ++ us.drop k))) us es := (Rc.ev.tps (kpd.tps dkc)).tps tB
        have dk' : Dk (upd Hd B (.lst (us.take k ++ [v] ++ us.drop k))) d c _ := dkd.upd offB
        have hv' := dv_same (offN_sub (d := d) (c := c)) (dv_same (offN_upd (H := Hd) (o := .lst (us.take k ++ [v] ++ us.drop k)) Rc.eB) hv)
        have kp' := kp_upd (o := .lst (us.take k ++ [v] ++ us.drop k)) (kpC.trans kpd) nB0
        have eS' : upd Hd B (.lst (us.take k ++ [v] ++ us.drop k)) SL = some (.lst sus) := by rw [upd_ne nSB]; exact kpd.keep offSL Rc.eS
        have st' : LSs (upd Hd B (.lst (us.take k ++ [v] ++ us.drop k))) (fun a => Off d c a ∧ a ≠ B ∧ a ≠ SL) sus (hist0 S es ++ [runS S es]) := (Rc.st.keep (kpd.tps dkc) fun a us h e => kpd.keep h.1 e).keep tB fun a us h e => by rw [upd_ne h.2.1]; exact e
        have eB' := upd_same (H := Hd) (a := B) (o := .lst (us.take k ++ [v] ++ us.drop k))
        have dvs := ins_dv dk' ev' hv' k
        generalize upd Hd B (.lst (us.take k ++ [v] ++ us.drop k)) = He at *
        refine ⟨.int (k : Nat), rfl, by show 2 ≤ sizeLine; decide, fun L nL => ?_⟩
        have offL := dk'.off nL
        have sL := same_new (o := .lst [.str "rejected", .int (k : Nat)]) nL
        have eL := upd_same (H := He) (a := L) (o := .lst [.str "rejected", .int (k : Nat)])
        generalize upd He L (.lst [.str "rejected", .int (k : Nat)]) = Hf at *
        refine ⟨_, _, _, .ref L, dk'.kept sL, by omega, by omega, kp'.trans (Kp.same sL), sL _ _ eB', ?_, dvAll_same (offP_kp (Kp.same sL)) dvs, sL _ _ eS', st'.same sL, .inr (.inl ⟨L, k, _, rfl, eL, offL, kl, rfl, add, pc, vd, rfl, bw, sm⟩), fun y => absurd (rz.symm.trans y) (by decide), rfl⟩
        rw [List.length_append, List.length_append, List.length_take, List.length_drop]
        show min k us.length + 1 + (us.length - k) ≤ 7
        omega
      · exact ⟨_, us, es.map edD, .non, dkc, by omega, by omega, kpC, Rc.eB, by omega, eds_dv dkc Rc.ev, Rc.eS, Rc.st, .inl ⟨rfl, rfl⟩, fun _ => ⟨rfl, rfl, Rc.ev⟩, rfl⟩
    rintro σ Hd ⟨m3, us3, ds3, due3, dk3, m30, m31, kp3, eB3, lu3, dv3, eS3, st3, due3', g3, rfl⟩
    refine ⟨(fun σ H' => ∃ (m : Int) (us : List V) (ds : List PyData) (due : V), Dk H' d c m ∧ n ≤ m ∧ m ≤ n + 45 ∧ Kp d c H H' ∧ H' B = some (.lst us) ∧ us.length ≤ 7 ∧ DvAll K (OffP d c H') us ds ∧ H' SL = some (.lst sus) ∧ LSs H' (fun a => Off d c a ∧ a ≠ B ∧ a ≠ SL) sus (hist0 S es ++ [runS S es]) ∧ BDue d c H' S es ds due ∧ σ = [some (.ref d), some (.ref l), some (.ref ls), some (.ref SL), some (.ref B), y5, some due, some (.int (k : Nat)), some (.int rw')]), ?_, ?_⟩
    · refine ⟨.int rw', rfl, rfl, _, rfl, ite2 (fun z => ?_) (fun z => ?_)⟩
      · have rz : rw' = 1 := V.int.inj (of_decide_eq_true z)
        obtain ⟨rfl, rfl, ev3⟩ := g3 rz
        have lev3 := ev3.length
        refine ⟨.ref B, rfl, .inl ⟨rfl, _, SqL.of eB3⟩, .int (k : Nat), rfl, .ref d, rfl, d, c, _, rfl, dk3, by omega, by omega, fun He v z4 kp4 dk4 ob hv => ?_⟩
        have eBd := kp4.keep offB eB3
        refine ⟨B, us3, (k : Nat), v, rfl, rfl, eBd, small1000 (by omega), by omega, by omega, ?_⟩
        rw [Int.toNat_natCast]
        have tB := Tps.lst eBd (vs := us3.take k ++ [v] ++ us3.drop k)
        have ev' : Eds (upd He B (.lst (us3.take k ++ [v] ++ us3.drop k))) us3 es := (ev3.tps (kp4.tps dk3)).tps tB
        have dk' : Dk (upd He B (.lst (us3.take k ++ [v] ++ us3.drop k))) d c _ := dk4.upd offB
        have hv' := dv_same (offN_sub (d := d) (c := c)) (dv_same (offN_upd (H := He) (o := .lst (us3.take k ++ [v] ++ us3.drop k)) eB3) hv)
        have kp' := kp_upd (o := .lst (us3.take k ++ [v] ++ us3.drop k)) (kp3.trans kp4) nB0
        have eS' : upd He B (.lst (us3.take k ++ [v] ++ us3.drop k)) SL = some (.lst sus) := by rw [upd_ne nSB]; exact kp4.keep offSL eS3
        have st' : LSs (upd He B (.lst (us3.take k ++ [v] ++ us3.drop k))) (fun a => Off d c a ∧ a ≠ B ∧ a ≠ SL) sus (hist0 S es ++ [runS S es]) := (st3.keep (kp4.tps dk3) fun a us h e => kp4.keep h.1 e).keep tB fun a us h e => by rw [upd_ne h.2.1]; exact e
        have eB' := upd_same (H := He) (a := B) (o := .lst (us3.take k ++ [v] ++ us3.drop k))
        have dvs := ins_dv dk' ev' hv' k
        generalize upd He B (.lst (us3.take k ++ [v] ++ us3.drop k)) = Hf at *
        refine ⟨.int (k : Nat), rfl, by show 2 ≤ sizeLine; decide, fun L nL => ?_⟩
        have offL := dk'.off nL
        have sL := same_new (o := .lst [.str "bad edit", .int (k : Nat)]) nL
        have eL := upd_same (H := Hf) (a := L) (o := .lst [.str "bad edit", .int (k : Nat)])
        generalize upd Hf L (.lst [.str "bad edit", .int (k : Nat)]) = Hg at *
        refine ⟨_, _, _, .ref L, dk'.kept sL, by omega, by omega, kp'.trans (Kp.same sL), sL _ _ eB', ?_, dvAll_same (offP_kp (Kp.same sL)) dvs, sL _ _ eS', st'.same sL, .inr (.inr ⟨L, k, _, rfl, eL, offL, kl, rfl, ob⟩), rfl⟩
        rw [List.length_append, List.length_append, List.length_take, List.length_drop]
        show min k us3.length + 1 + (us3.length - k) ≤ 7
        omega
      · exact ⟨_, us3, ds3, due3, dk3, by omega, by omega, kp3, eB3, lu3, dv3, eS3, st3, due3', rfl⟩
    rintro σ Hw ⟨m5, us5, ds5, due5, dk5, m50, m51, kp5, eB5, lu5, dv5, eS5, st5, due5', rfl⟩
    refine ⟨.ref B, rfl, .ref B, rfl, B, us5, rfl, .inl ⟨SqL.of eB5, fun t nt => ?_⟩⟩
    have offt := dk5.off nt
    have s6 := same_new (o := .tup us5) nt
    have et6 := upd_same (H := Hw) (a := t) (o := .tup us5)
    generalize upd Hw t (.tup us5) = Hx at *
    refine ⟨by show 2 ≤ sizeLine; decide, fun w1 nw1 => ?_⟩
    have dk6 := dk5.kept s6
    have offw := dk6.off nw1
    have s7 := same_new (o := .lst [.ref B, .ref t]) nw1
    have ew := upd_same (H := Hx) (a := w1) (o := .lst [.ref B, .ref t])
    generalize upd Hx w1 (.lst [.ref B, .ref t]) = Hy at *
    have s67 := s6.trans s7
    have dk7 := dk6.kept s7
    refine ⟨.ref d, rfl, d, c, m5, 2, rfl, dk7, by omega, by omega, by decide, by decide, fun Hz r2 kpz dkz r20 r21 => ?_⟩
    have kpW : Kp d c Hw Hz := (Kp.same s67).trans kpz
    have dvz := dvAll_same (offP_kp kpW) dv5
    have oB := offP_get (d := d) (c := c) offB (kpW.keep offB eB5)
    have ot := offP_get (d := d) (c := c) offt (kpz.keep offt (s7 _ _ et6))
    obtain ⟨bv, dd, abv, hbv, ltb, eds5⟩ : ∃ bv dd, atI [V.ref B, .ref t] r2 = some bv ∧ Dv K (OffP d c Hz) bv dd ∧ ltB dd = true ∧ itemsD dd = ds5 := by
      have : r2 = 0 ∨ r2 = 1 := by omega
      rcases this with rfl | rfl
      · exact ⟨.ref B, .list ds5, rfl, .lst oB dvz, rfl, rfl⟩
      · exact ⟨.ref t, .tuple ds5, rfl, .tup ot dvz, rfl, rfl⟩
    refine ⟨w1, _, r2, bv, rfl, rfl, SqL.of (kpz.keep offw ew), abv, .ref SL, rfl, due5, rfl, by show 3 ≤ sizeLine; decide, fun R nR => ?_⟩
    have sR := same_new (o := .lst [bv, .ref SL, due5]) nR
    have kpA := kpW.trans (Kp.same sR)
    refine q _ R bv dd SL sus es due5 _ (kp5.trans kpA) (dkz.kept sR) (by omega) (by omega) upd_same (dv_same (offP_kp (Kp.same sR)) hbv) ltb (kpA.keep offSL eS5) offSL ?_ ch all le6 ?_
    · exact (st5.keep (kpA.tps dk5) fun a us h e => kpA.keep h.1 e).weak fun a h => h.1
    · rw [eds5]
      rcases due5' with h | ⟨L, k, z, h1, h2, h3, h4⟩ | ⟨L, k, z, h1, h2, h3, h4⟩
      · exact .inl h
      · exact .inr (.inl ⟨L, k, z, h1, kpA.keep h3 h2, h3, h4⟩)
      · exact .inr (.inr ⟨L, k, z, h1, kpA.keep h3 h2, h3, h4⟩)

/-- what stands at the start of a turn -/
structure Inv74 (C : Addr) (H : Hp) (d c : Addr) (m : Int) (l : Addr) (lus : List V) (cs : List (Int × Int)) (p ls le : Addr) (evs : List V) (Ls : List St2) (S : St2) (Es : List Ed) : Prop where
  dk : Dk H d c m
  el : H l = some (.lst lus)
  iv : Ivs H lus cs
  st : LawS H ls S
  P : PlanAt C H p (Ls ++ [S]) Es
  ele : H le = some (.lst evs)
  ev : Eds H evs Es
  offl : Off d c l
  offs : Off d c ls
  offe : Off d c le
  sc : StC cs S
  w : W21 S
  eok : ∀ e ∈ Es, EdOk e
theorem mk74 {C : Addr} {H H' : Hp} {d c : Addr} {m : Int} {l : Addr} {lus : List V} {cs : List (Int × Int)} {p ls le dx : Addr} {fs : List (Str × V)} {evs : List V} {Ls : List St2} {S : St2} {Es : List Ed} (dk : Dk H d c m) (el : H l = some (.lst lus)) (iv : Ivs H lus cs) (offl : Off d c l) (hp : H p = some (.ins C dx fs)) (b : But p H H') (P : PlanAt C H' p (Ls ++ [S]) Es)
    (st : LawS H ls S) (ele : H le = some (.lst evs)) (ev : Eds H evs Es) (offs : Off d c ls) (offe : Off d c le) (sc : StC cs S) (w : W21 S) (eok : ∀ e ∈ Es, EdOk e) : Inv74 C H' d c m l lus cs p ls le evs Ls S Es := by
  have kl : ∀ {a : Addr} {us : List V}, H a = some (.lst us) → H' a = some (.lst us) := fun e => b _ _ (ne_of e hp (fun z => by cases z)) e
  have t := b.tps hp
  exact ⟨dk.butp hp b, kl el, iv.tps t, st.keep t fun us e => kl e, P, kl ele, ev.tps t, offl, offs, offe, sc, w, eok⟩
theorem fit_word {add pc : Bool} {x : PyData} : FitW (.tuple [.str (wordOf add pc), x]) := fun a b e => by
  have h : ∀ add pc : Bool, SeqAt.shaped (.str (wordOf add pc)) = true := by decide +kernel
  injection e with e
  injection e with e1 _
  rw [← e1]
  exact h add pc
theorem Eds.app {H : Hp} {us ws : List V} {es fs : List Ed} (h : Eds H us es) (h2 : Eds H ws fs) : Eds H (us ++ ws) (es ++ fs) := by
  induction h with
  | nil => exact h2
  | cons e1 e2 _ ih => exact .cons e1 e2 ih
theorem ed_yes {add pc : Bool} {x : PyData} : edB (.tuple [.str (wordOf add pc), x]) = true := by
  have h : ∀ add pc : Bool, (wordsD.any fun z => PyData.eqv z (.str (wordOf add pc))) = true := by decide +kernel
  exact h add pc
theorem sm_len {n : Nat} (h : n ≤ 60) : Sm 100 0 (.int (n : Nat)) := Sm.int (by
  rw [Int.natAbs_natCast]
  exact Nat.lt_of_le_of_lt h (by decide))
theorem sm_pair {w : Str} {x : PyData} (hw : Sm 100 0 (.str w)) (hx : Sm 1000 3 x) : Sm 2100 4 (.tuple [.str w, x]) := by
  refine (Sm.tup (n := 1000) (dp := 3) fun z hz => ?_).mono (by show 2 * 1001 ≤ 2100; decide) (Nat.le_refl _)
  rcases List.mem_cons.mp hz with rfl | hz
  · exact hw.mono (by decide) (by decide)
  · rw [List.mem_singleton.mp hz]
    exact hx
theorem sm_two {w : Str} (hw : Sm 100 0 (.str w)) {k : Nat} (h : k ≤ 60) : Sm 300 1 (.list [.str w, .int (k : Nat)]) := by
  refine (Sm.lst (n := 100) (dp := 0) fun z hz => ?_).mono (by show 2 * 101 ≤ 300; decide) (Nat.le_refl _)
  rcases List.mem_cons.mp hz with rfl | hz
  · exact hw
  · rw [List.mem_singleton.mp hz]
    exact sm_len h
theorem sm_rej : Sm 100 0 (.str "rejected") := ⟨rfl, by decide +kernel, by decide +kernel, Nat.le_refl _⟩
theorem sm_badE : Sm 100 0 (.str "bad edit") := ⟨rfl, by decide +kernel, by decide +kernel, Nat.le_refl _⟩
theorem sm_seq {dd : PyData} (lt : ltB dd = true) (l : (itemsD dd).length ≤ 7) (h : ∀ z ∈ itemsD dd, Sm 2100 4 z) : Sm 20000 5 dd := by
  cases dd with
  | list ds => exact (Sm.lst (n := 2100) (dp := 4) h).mono (by have l : ds.length ≤ 7 := l; show ds.length * 2101 ≤ 20000; omega) (Nat.le_refl _)
  | tuple ds => exact (Sm.tup (n := 2100) (dp := 4) h).mono (by have l : ds.length ≤ 7 := l; show ds.length * 2101 ≤ 20000; omega) (Nat.le_refl _)
  | _ => cases lt
theorem notB_few {dd : PyData} (lt : ltB dd = true) (l : (itemsD dd).length ≤ 20) : notB dd = false := by
  cases dd with
  | list ds => exact decide_eq_false (by have l : ds.length ≤ 20 := l; omega)
  | tuple ds => exact decide_eq_false (by have l : ds.length ≤ 20 := l; omega)
  | _ => cases lt
theorem BDue.items {d c : Addr} {H : Hp} {S : St2} {es : List Ed} {ds : List PyData} {due : V} (h : BDue d c H S es ds due) (les : es.length ≤ 6) (eok : ∀ e ∈ es, EdOk e) : ds.length ≤ 7 ∧ ∀ z ∈ ds, FitW z ∧ Sm 2100 4 z := by
  have one : ∀ e ∈ es, FitW (edD e) ∧ Sm 2100 4 (edD e) := fun e he => ⟨fit_word, (sm_ed (eok e he)).mono (by decide) (by decide)⟩
  have many : ∀ {k : Nat} {z : PyData}, k ≤ es.length → (FitW z ∧ Sm 2100 4 z) → ds = (es.take k).map edD ++ z :: (es.drop k).map edD → ds.length ≤ 7 ∧ ∀ z ∈ ds, FitW z ∧ Sm 2100 4 z := fun {k z} hk hz e => by
    subst e
    refine ⟨?_, fun x hx => ?_⟩
    · rw [List.length_append, List.length_cons, List.length_map, List.length_map, List.length_take, List.length_drop]
      omega
    · rcases List.mem_append.mp hx with hx | hx
      · obtain ⟨e, he, rfl⟩ := List.mem_map.mp hx
        exact one e (List.mem_of_mem_take he)
      · rcases List.mem_cons.mp hx with rfl | hx
        · exact hz
        · obtain ⟨e, he, rfl⟩ := List.mem_map.mp hx
          exact one e (List.mem_of_mem_drop he)
  rcases h with ⟨_, rfl⟩ | ⟨L, k, z, _, _, _, hk, e, add, pc, vd, rfl, _, sm⟩ | ⟨L, k, z, _, _, _, hk, e, ob⟩
  · refine ⟨by rw [List.length_map]; omega, fun x hx => ?_⟩
    obtain ⟨e, he, rfl⟩ := List.mem_map.mp hx
    exact one e he
  · exact many hk ⟨fit_word, sm_pair (sm_word _ _) sm⟩ e
  · obtain ⟨_, f, sm⟩ := oddB_ok ob
    exact many hk ⟨f, sm.mono (by decide) (by decide)⟩ e
theorem Chain.eok {S : St2} {es : List Ed} (h : Chain S es) : ∀ e ∈ es, EdOk e := fun e he => by
  obtain ⟨i, hi⟩ := List.getElem?_of_mem he
  exact (h.can i e hi).ok
theorem Chain.left {S : St2} {es : List Ed} (h : Chain S es) (k : Nat) : Chain S (es.take k) := by
  refine ⟨fun j hj => ?_, fun j x hx => ?_⟩
  · rw [List.length_take] at hj
    rw [List.take_take, Nat.min_eq_left (by omega)]
    exact h.ok j (by omega)
  · have jl := (List.getElem?_eq_some_iff.mp hx).1
    rw [List.length_take] at jl
    rw [List.getElem?_take_of_lt (by omega)] at hx
    rw [List.take_take, Nat.min_eq_left (by omega)]
    exact h.can j x hx
theorem dts_offP {d c p C dx : Addr} {fs : List (Str × V)} {H H' : Hp} (b : But p H H') (hp : H p = some (.ins C dx fs)) : Dts (OffP d c H) (OffP d c H') := by
  have key : ∀ {a : Addr} {o : HO}, o ≠ .ins C dx fs → OffP d c H a = some o → OffP d c H' a = some o := fun {a o} n e => by
    obtain ⟨n1, n2, e⟩ := offP_at e
    exact offP_get ⟨n1, n2⟩ (b _ _ (ne_of e hp n) e)
  exact ⟨fun a xs e => key (fun z => by cases z) e, fun a xs e => key (fun z => by cases z) e, fun a xs e => key (fun z => by cases z) e⟩
def oddO : List PyData := [.none, .str "undo", .int 5, .dict [], .bool true, .list (List.replicate 21 (.tuple [.str "undo"])), .tuple (List.replicate 21 .none)]
theorem oddO_fine : (oddO.all fun d => notB d && (itemsD d).all fitB) = true := by decide +kernel
theorem dvAll_rep {K : PySem.W.Frag} {H : Hp} {v : V} {z : PyData} (h : Dv K H v z) : ∀ n : Nat, DvAll K H (List.replicate n v) (List.replicate n z)
  | 0 => .nil
  | n + 1 => .cons h (dvAll_rep h n)
def sp_law (K : PySem.W.Frag) : Sp := fun vs H Q _ => ∃ (a : Addr) (ns : List Int), vs = [.ref a] ∧ SqL K H a (ns.map V.int) ∧ ns.length ≤ 63 ∧ ∀ H', Q (.bl true) H'
theorem ok_law (T : Tx K mg f_is_number f_is_position f_is_tuple_of f_is_interval f_ascending_error f_targets_error f_is_pieces f_without_item f_is_edit f_copied_batch f_with_interval f_without_interval f_edited_state f_law_deck f_law_draw f_law_line f_law_interval f_law_intervals f_law_edit f_law_after f_law_right f_law_begun f_law_applied f_law_failing f_law_bad f_law_batch f_law f_Plan_init f_Plan_apply f_Plan_targets f_Plan_pieces f_Plan_edits f_Plan_record f_Plan_record_or_reject f_Plan_passes f_Plan_require_idle f_Plan_state_at f_Plan_len f_Plan_str f_BadInterval_init f_Duplicate_init f_BadEdit_init f_Rejected_init f_Unknown_init C_Plan X_BadInterval X_SpanError X_Unknown X_Duplicate X_Rejected X_BadEdit X_BadEdits X_Busy d_is_number d_is_position d_is_tuple_of d_is_interval d_ascending_error d_targets_error d_is_pieces d_without_item d_is_edit d_copied_batch d_with_interval d_without_interval d_edited_state d_law_deck d_law_draw d_law_line d_law_interval d_law_intervals d_law_edit d_law_after d_law_right d_law_begun d_law_applied d_law_failing d_law_bad d_law_batch d_law d_Plan_init d_Plan_apply d_Plan_targets d_Plan_pieces d_Plan_edits d_Plan_record d_Plan_record_or_reject d_Plan_passes d_Plan_require_idle d_Plan_state_at d_Plan_len d_Plan_str d_BadInterval_init d_Duplicate_init d_BadEdit_init d_Rejected_init d_Unknown_init t_LAST_POSITION t_MAX_TARGETS t_MAX_PIECES t_MAX_EDITS t_BATCH t_WORDS) (hM : ∃ mm, base.Ns sysModules mm) : FnG P w K mg base 16 f_law d_law ["_law_script"] (sp_law K) := by
  refine FnG.of T.F_law sc_law (fun {vs H Q} h => ?_) (fun cdv A outer s H vs Q hr hq h => ?_)
  · obtain ⟨a, ns, rfl, _⟩ := h
    rfl
  · obtain ⟨a, ns, rfl, hS, hlen, q⟩ := h
    refine ⟨_, (pss_cons (ps_set (i := 1) sc_law.nd rfl (Or.inl rfl) (pe_call (ok_law_deck T) (hr.mono (by decide)) (by rfl) T.g_law_deck T.F_law_deck.kp T.b_law_deck .nil pass0 (pa_cons (pv 0) pa_nil)))
      (pss_cons (ps_asg (pe_call (ok_law_begun T) (hr.mono (by decide)) (by rfl) T.g_law_begun T.F_law_begun.kp T.b_law_begun .nil pass0 (pa_cons (pv 1) (pa_cons pe_int pa_nil))) (pg_unl rfl (pgs_cons (pg_name (i := 2) sc_law.nd rfl (Or.inl rfl)) (pgs_cons (pg_name (i := 3) sc_law.nd rfl (Or.inl rfl)) pgs_nil))))
      (pss_cons (ps_set (i := 4) sc_law.nd rfl (Or.inl rfl) (pe_make T.mk_Plan (ok_Plan_init T) (hr.mono (by decide)) (by rfl) T.g_Plan T.b_Plan_init .nil pass0 (pa_cons (pe_ix ix_list (pv 3) pe_int (fun _ _ => rfl)) (pa_cons (pe_ix ix_list (pv 3) pe_int (fun _ _ => rfl)) pa_nil))))
      (pss_cons (ps_set (i := 5) sc_law.nd rfl (Or.inl rfl) (pe_lst pa_nil))
      (pss_cons (ps_for PassesOwn.never rfl (pi_range1 (by rfl) T.z_range (pa_cons (pe_op op_add pe_int (pe_call (ok_law_draw T) (hr.mono (by decide)) (by rfl) T.g_law_draw T.F_law_draw.kp T.b_law_draw .nil pass0 (pa_cons (pv 1) (pa_cons pe_int pa_nil)))) pa_nil)) (pg_name (i := 6) sc_law.nd rfl (Or.inl rfl))
      (pss_cons (ps_asg (pe_call (ok_law_batch T) (hr.mono (by decide)) (by rfl) T.g_law_batch T.F_law_batch.kp T.b_law_batch .nil pass0 (pa_cons (pv 1) (pa_cons (pv 2) (pa_cons (pv 3) pa_nil)))) (pg_unl rfl (pgs_cons (pg_name (i := 7) sc_law.nd rfl (Or.inl rfl)) (pgs_cons (pg_name (i := 8) sc_law.nd rfl (Or.inl rfl)) (pgs_cons (pg_name (i := 9) sc_law.nd rfl (Or.inl rfl)) pgs_nil)))))
      (pss_cons (ps_set (i := 10) sc_law.nd rfl (Or.inl rfl) (pe_callB (call_reprV hM hq hr.units) (by rfl) T.z_repr (by decide +kernel) (pa_cons (pv 7) pa_nil)))
      (C8.pss_cut (ps_if (pt_cmpR op_isN (pv 9) pe_non (nomark _))
      (pss_cons (ps_set (i := 5) sc_law.nd rfl (Or.inl rfl) (pe_op op_cat (pv 5) (pe_callTy call_list_of (by rfl) T.z_list (by decide +kernel) (pa_cons (pv 7) pa_nil))))
      (pss_cons (ps_set (i := 3) sc_law.nd rfl (Or.inl rfl) (pe_ix ix_list (pv 8) (pe_un un_neg pe_int) (fun _ _ => rfl)))
      (pss_one (ps_set (i := 9) sc_law.nd rfl (Or.inl rfl) (pe_callB call_len_seq (by rfl) T.z_len PySem.boot_len (pa_cons (pv 5) pa_nil))))))
      pss_nil)
      (C8.pss_cut (ps_if (PW.pt (pw_or (pt_cmpR op_ne (pe_callB (call_reprV hM hq hr.units) (by rfl) T.z_repr (by decide +kernel) (pa_cons (pe_call (ok_law_applied T) (hr.mono (by decide)) (by rfl) T.g_law_applied T.F_law_applied.kp T.b_law_applied .nil pass0 (pa_cons (pv 4) (pa_cons (pv 7) pa_nil))) pa_nil)) (pe_callB (call_reprV hM hq hr.units) (by rfl) T.z_repr (by decide +kernel) (pa_cons (pv 9) pa_nil)) (nomark _)) (pw_or (pt_cmpR op_ne (pe_callB (call_reprV hM hq hr.units) (by rfl) T.z_repr (by decide +kernel) (pa_cons (pv 7) pa_nil)) (pv 10) (nomark _)) (pw_or1 (pt_not (pt_val (pe_callG (ok_law_right T hM) (hr.mono (by decide)) hq (by rfl) T.g_law_right T.F_law_right.kp T.b_law_right (pa_cons (pv 4) (pa_cons (pv 3) (pa_cons (pv 5) pa_nil))))))))))
      (pss_one (ps_ret pe_bl))
      pss_nil)
      (pss_cons (ps_set (i := 11) sc_law.nd rfl (Or.inl rfl) (pe_ix ix_list (pe_lst (pa_cons pe_non (pa_cons pe_str (pa_cons pe_int (pa_cons pe_dnewK (pa_cons pe_bl (pa_cons (pe_op op_rep (pe_lst (pa_cons (pe_tup (pa_cons pe_str pa_nil)) pa_nil)) pe_int) (pa_cons (pe_op op_repT (pe_tup (pa_cons pe_non pa_nil)) pe_int) pa_nil)))))))) (pe_call (ok_law_draw T) (hr.mono (by decide)) (by rfl) T.g_law_draw T.F_law_draw.kp T.b_law_draw .nil pass0 (pa_cons (pv 1) (pa_cons pe_int pa_nil))) (fun _ _ => rfl)))
      (pss_one (ps_if (PW.pt (pw_or (pt_cmpR (op_neD hr.units) (pe_call (ok_law_applied T) (hr.mono (by decide)) (by rfl) T.g_law_applied T.F_law_applied.kp T.b_law_applied .nil pass0 (pa_cons (pv 4) (pa_cons (pv 11) pa_nil))) (pe_lst (pa_cons pe_str pa_nil)) (nomark _)) (pw_or1 (pt_not (pt_val (pe_callG (ok_law_right T hM) (hr.mono (by decide)) hq (by rfl) T.g_law_right T.F_law_right.kp T.b_law_right (pa_cons (pv 4) (pa_cons (pv 3) (pa_cons (pv 5) pa_nil)))))))))
      (pss_one (ps_ret pe_bl))
      pss_nil))))))))
      (pss_one (ps_ret pe_bl))))))), ?_⟩
    refine ⟨.ref a, rfl, a, ns, rfl, hS, hlen, fun H1 d c s1 nd0 nc dk1 => ?_⟩
    refine ⟨.ref d, rfl, d, c, 0, 7, rfl, dk1, by decide, by decide, by decide, by decide, fun H2 g l l0' lus cs S0 m kp2 dk2 m0 m1 eg el iv cells l0 l1 top offl st offs nls asc1 asc2 oc1 oc2 f1 f2 => ?_⟩
    have tc : ∀ q ∈ cs, q.2 < 1000000000000 := fun q hq => by
      have := top q hq
      omega
    refine ⟨g, _, rfl, SqL.of eg, rfl, .ref l, [.ref l0'], rfl, .ref l0', [], rfl, rfl, ?_⟩
    obtain ⟨x, y, xs, ys, els, ex, ix, ey, iy⟩ := st.ex
    refine ⟨.ref l0', rfl, l0', _, 0, .ref x, rfl, rfl, SqL.of els, rfl, .ref l0', rfl, l0', _, 1, .ref y, rfl, rfl, SqL.of els, rfl, fun p dx np ndx nn => ?_⟩
    have so : StOk S0 := ⟨cells_side cells tc asc1 oc1 (by omega), cells_side cells tc asc2 oc2 (by omega)⟩
    have sc : StC cs S0 := ⟨so, fun pc q hq => by
      cases pc
      · exact oc1 q hq
      · exact oc2 q hq⟩
    have w0 : W21 S0 := fun pc => by
      cases pc
      · show S0.1.length ≤ 21
        omega
      · show S0.2.length ≤ 21
        omega
    have sA : Same H2 (upd (upd H2 dx (.own p)) p (.ins C_Plan dx [])) := fun b o e => by
      rw [upd_ne (ne_of_none e np), upd_ne (ne_of_none e ndx)]
      exact e
    refine ⟨p, dx, x, y, xs, ys, S0, rfl, upd_same, sA _ _ ex, ix.same sA, sA _ _ ey, iy.same sA, so, fun H3 b3 P3 => ⟨rfl, ?_⟩⟩
    have s3 : Same H2 H3 := fun b o e => b3 b o (ne_of_none e np) (sA _ _ e)
    have dk3 := dk2.kept s3
    refine ⟨by show 0 ≤ sizeLine; decide, fun E0 nE0 => ?_⟩
    have offE0 := dk3.off nE0
    have s4 := same_new (o := .lst []) nE0
    have eE0 := upd_same (H := H3) (a := E0) (o := .lst [])
    generalize upd H3 E0 (.lst []) = H4 at *
    have s24 := s3.trans s4
    have dk4 := dk2.kept s24
    refine ⟨.ref d, rfl, d, c, m, 5, rfl, dk4, by omega, by omega, by decide, by decide, fun H5 r kp5 dk5 r0 r1 => ?_⟩
    have kpA : Kp d c H2 H5 := (Kp.same s24).trans kp5
    refine ⟨_, _, rfl, rfl, 1 + r, rfl, by omega, by omega, for_range (D := ⟨_, _, fun _ _ => True, fun _ _ => True⟩) (n := (1 + r).toNat) (fun i σ H' => ∃ m ls le evs Ls S Es y6 y7 y8 y9 y10 y11, Inv74 C_Plan H' d c m l lus cs p ls le evs Ls S Es ∧ 0 ≤ m ∧ m ≤ 100 + 70 * i ∧ Es.length ≤ 6 * i ∧ σ = [some (.ref a), some (.ref d), some (.ref l), some (.ref ls), some (.ref p), some (.ref le), y6, y7, y8, y9, y10, y11])
      ⟨m + 1, l0', E0, [], [], S0, [], _, _, _, _, _, _, ⟨dk5, kpA.keep offl el, iv.tps (kpA.tps dk2), st.keep (kpA.tps dk2) fun us e => kpA.keep offs e, (P3.same s4).keep (kp5.tps dk4) fun C dx fs e => kp5.keep (dk4.noti e) e, kp5.keep offE0 eE0, .nil, offl, offs, offE0, sc, w0, fun e he => nomatch he⟩, by omega, by omega, Nat.zero_le _, rfl⟩ ?_ (fun σ H' _ => q H')⟩
    clear kpA dk5 kp5 dk4 s24 s4 eE0 dk3 s3 P3 b3 sA ex ix ey iy els st el iv eg kp2 dk2
    rintro i σ Ha hi ⟨m, ls, le, evs, Ls, S, Es, y6, y7, y8, y9, y10, y11, Ia, m0, m1, le6, rfl⟩
    have i5 : i < 5 := by omega
    obtain ⟨dxa, aa, ba, hpa⟩ := Ia.P.ipl
    refine ⟨.ref d, rfl, .ref l, rfl, .ref ls, rfl, d, c, m, l, lus, cs, ls, S, rfl, Ia.dk, m0, by omega, Ia.offl, Ia.el, Ia.iv, cells, l0, by omega, tc, Ia.offs, Ia.st, Ia.sc, Ia.w, fun Hb R bv dd SL sus es due m2 kpb dkb mb0 mb1 eR hbv ltb eSL offSL lss ch all les due' => ?_⟩
    have eokE := ch.eok
    obtain ⟨l7, good7⟩ := due'.items les eokE
    have smD := sm_seq ltb l7 fun z hz => (good7 z hz).2
    have nb := notB_few ltb (by omega)
    have fit : ∀ z ∈ itemsD dd, FitW z := fun z hz => (good7 z hz).1
    have tb := kpb.tps Ia.dk
    have elb := kpb.keep Ia.offl Ia.el
    have ivb := Ia.iv.tps tb
    have stb : LawS Hb ls S := Ia.st.keep tb fun us e => kpb.keep Ia.offs e
    have Pb : PlanAt C_Plan Hb p (Ls ++ [S]) Es := Ia.P.keep tb fun C dx fs e => kpb.keep (Ia.dk.noti e) e
    have eleb := kpb.keep Ia.offe Ia.ele
    have evb := Ia.ev.tps tb
    have offl' := Ia.offl
    have offs' := Ia.offs
    have offe' := Ia.offe
    have sc' := Ia.sc
    have w' := Ia.w
    have eok' := Ia.eok
    clear Ia
    refine ⟨R, _, rfl, SqL.of eR, rfl, bv, [.ref SL, due], rfl, .ref SL, [due], rfl, due, [], rfl, rfl, ?_⟩
    refine ⟨bv, rfl, bv, dd, 20000, 5, rfl, dv_same offP_sub hbv, smD, by decide, by decide, ?_⟩
    have lastS := hist_get es S es.length (Nat.le_refl _)
    rw [List.take_length] at lastS
    obtain ⟨scL, wL⟩ := all _ (List.mem_of_getElem? lastS)
    refine ⟨fun σ H' => ∃ ls' le' evs' S' Es' dueX, Same Hb H' ∧ H' le' = some (.lst evs') ∧ Eds H' evs' Es' ∧ Off d c le' ∧ LawS H' ls' S' ∧ Off d c ls' ∧ StC cs S' ∧ W21 S' ∧ (∀ e ∈ Es', EdOk e) ∧
      ((dueX = .int (Es'.length : Nat) ∧ Es' = Es ++ es ∧ S' = runS S es ∧ itemsD dd = es.map edD) ∨ (Es' = Es ∧ S' = S ∧ dueX = due ∧ ((∃ (L : Addr) (k : Nat) (z : PyData), due = .ref L ∧ Hb L = some (.lst [.str "rejected", .int (k : Nat)]) ∧ Off d c L ∧ k ≤ es.length ∧ itemsD dd = (es.take k).map edD ++ z :: (es.drop k).map edD ∧ Fails (runS S (es.take k)) z) ∨
        (∃ (L : Addr) (k : Nat) (z : PyData), due = .ref L ∧ Hb L = some (.lst [.str "bad edit", .int (k : Nat)]) ∧ Off d c L ∧ k ≤ es.length ∧ itemsD dd = (es.take k).map edD ++ z :: (es.drop k).map edD ∧ z ∈ oddB)))) ∧
      σ = [some (.ref a), some (.ref d), some (.ref l), some (.ref ls'), some (.ref p), some (.ref le'), some (.int (0 + (i : Nat))), some bv, some (.ref SL), some dueX, some (.str dd.shown), y11], ?_, ?_⟩
    · rcases due' with ⟨rfl, it⟩ | ⟨L, k, z, rfl, h2⟩ | ⟨L, k, z, rfl, h2⟩
      · refine ⟨_, rfl, rfl, _, rfl, iteT ?_⟩
        obtain ⟨b, us, rfl, hb, dvs, _⟩ := seq_of (dv_same offP_sub hbv) ltb
        rw [it] at dvs
        have eds := eds_of dvs
        have lus' := eds.length
        have levs := evb.length
        refine ⟨.ref le, rfl, .ref b, rfl, b, us, rfl, hb.elim (fun e => .inl (SqL.of e)) (fun e => .inr (SqT.of e)), fun l2 nl2 => ?_⟩
        have s6 := same_new (o := .lst us) nl2
        have el2 := upd_same (H := Hb) (a := l2) (o := .lst us)
        generalize upd Hb l2 (.lst us) = Hc at *
        refine ⟨le, l2, evs, us, rfl, rfl, s6 _ _ eleb, el2, by rw [show sizeLine = 16777216 by decide]; omega, fun le2 nle2 => ?_⟩
        have offe2 := (dkb.kept s6).off nle2
        have s7 := same_new (o := .lst (evs ++ us)) nle2
        have ele2 := upd_same (H := Hc) (a := le2) (o := .lst (evs ++ us))
        generalize upd Hc le2 (.lst (evs ++ us)) = Hd at *
        have s67 := s6.trans s7
        have lsus := lss.length
        rw [hist_len] at lsus
        obtain ⟨lsn, eusn, stn, offn⟩ := lss.get lastS
        refine ⟨.ref SL, rfl, 1, rfl, SL, sus, -1, .ref lsn, rfl, rfl, SqL.of (s67 _ _ eSL), atI_end (by rw [lsus]; exact eusn), ?_⟩
        refine ⟨.ref le2, rfl, le2, _, rfl, .inl (SqL.of ele2), ?_⟩
        refine ⟨lsn, le2, _, runS S es, Es ++ es, _, s67, ele2, (evb.tps (Tps.same s67)).app (eds.tps (Tps.same s67)), offe2, stn.same s67, offn, scL, wL, fun e he => (List.mem_append.mp he).elim (eok' e) (eokE e), .inl ⟨?_, rfl, rfl, it⟩, rfl⟩
        rw [List.length_append, List.length_append, levs, lus']
      · exact ⟨_, rfl, rfl, _, rfl, iteF ⟨ls, le, evs, S, Es, _, Same.refl _, eleb, evb, offe', stb, offs', sc', w', eok', .inr ⟨rfl, rfl, rfl, .inl ⟨L, k, z, rfl, h2⟩⟩, rfl⟩⟩
      · exact ⟨_, rfl, rfl, _, rfl, iteF ⟨ls, le, evs, S, Es, _, Same.refl _, eleb, evb, offe', stb, offs', sc', w', eok', .inr ⟨rfl, rfl, rfl, .inr ⟨L, k, z, rfl, h2⟩⟩, rfl⟩⟩
    rintro σ Hc ⟨ls2, le2, evs2, S2, Es2, dueX, sbc, ele2, ev2, offe2, st2, offs2, sc2, w2, eok2, rel, rfl⟩
    have Pc := Pb.same sbc
    obtain ⟨dxc, ac, bc, hpc⟩ := Pc.ipl
    have dkc := dkb.kept sbc
    have elc := sbc _ _ elb
    have ivc := ivb.same sbc
    have hbc := dv_same (offP_kp (Kp.same sbc)) hbv
    have few60 : Es.length + (itemsD dd).length ≤ 60 := by omega
    refine ⟨(fun σ H' => ∃ m ls le evs Ls S Es y6 y7 y8 y9 y10 y11, Inv74 C_Plan H' d c m l lus cs p ls le evs Ls S Es ∧ 0 ≤ m ∧ m ≤ 160 + 70 * i ∧ Es.length ≤ 6 * (i + 1) ∧ σ = [some (.ref a), some (.ref d), some (.ref l), some (.ref ls), some (.ref p), some (.ref le), y6, y7, y8, y9, y10, y11]), ?_, ?_⟩
    · rcases rel with ⟨rfl, rfl, rfl, it⟩ | ⟨r1, r2, r3, ⟨L, k, z, r4, eL, offL, kl, it, fl⟩ | ⟨L, k, z, r4, eL, offL, kl, it, ob⟩⟩
      · have lit : (itemsD dd).length = es.length := by rw [it, List.length_map]
        refine ⟨.ref p, rfl, bv, rfl, p, bv, dd, Ls, S, Es, es, rfl, Pc, dv_same offP_sub hbc, fit, (fun z => by rw [nb] at z; cases z), (fun _ k z e1 e2 _ => ?_), fun _ _ => ⟨by rw [it, ← List.map_take, List.take_length], by omega, ch, few60, .inl ⟨lit.symm, fun Hd bd Pd => ?_⟩⟩⟩
        · exfalso
          rw [it, List.getElem?_map] at e1
          obtain ⟨e, _, rfl⟩ := Option.map_eq_some_iff.mp e1
          rw [show edB (edD e) = true from ed_yes] at e2
          cases e2
        · refine ⟨.int _, .int _, 100, 0, rfl, .int _, sm_len (n := Es.length + es.length) (by omega), by decide, by decide, ?_⟩
          refine ⟨_, rfl, .int _, .int _, 100, 0, rfl, .int _, sm_len (n := (Es ++ es).length) (by rw [List.length_append]; omega), by decide, by decide, rfl, _, rfl, iteNS (congrArg (fun z : Nat => V.str (PyData.shown (.int (z : Nat)))) (by rw [List.length_append])) ?_⟩
          have hbd := dv_dts (dts_offP bd hpc) hbc
          refine ⟨bv, rfl, bv, dd, 20000, 5, rfl, dv_same offP_sub hbd, smD, by decide, by decide, _, rfl, rfl, _, rfl, iteNS rfl ?_⟩
          have I2 := mk74 dkc elc ivc offl' hpc bd Pd st2 ele2 ev2 offs2 offe2 sc2 w2 eok2
          refine ⟨.ref p, rfl, .ref ls2, rfl, .ref le2, rfl, p, ls2, le2, _, _, _, evs2, rfl, I2.P, sc2.so, I2.st, I2.ele, I2.ev, by rw [List.length_append]; omega, eok2, fun He se => ⟨true, rfl, iteF ?_⟩⟩
          obtain ⟨dxd, ad, bdd, hpd⟩ := Pd.ipl
          have I3 := mk74 I2.dk I2.el I2.iv offl' hpd (But.same se) (I2.P.same se) I2.st I2.ele I2.ev offs2 offe2 sc2 w2 eok2
          exact ⟨m2, ls2, le2, evs2, _, _, _, _, _, _, _, _, _, I3, by omega, by omega, by rw [List.length_append]; omega, rfl⟩
      · obtain rfl := r1.symm
        obtain rfl := r2.symm
        rw [r4] at r3
        subst r3
        obtain ⟨add, pc, vd, rfl, bw, sm⟩ := fl
        have ltk : (es.take k).length = k := by rw [List.length_take, Nat.min_eq_left kl]
        have zk : (itemsD dd)[k]? = some (.tuple [.str (wordOf add pc), vd]) := by
          rw [it, List.getElem?_append_right (by rw [List.length_map, ltk]; exact Nat.le_refl _), List.length_map, ltk, Nat.sub_self]
          rfl
        have room : Room2 (runS S (es.take k)) add pc := fun _ => by
          have z := (all _ (List.mem_of_getElem? (hist_get es S k kl))).2 pc
          split <;> omega
        have lit : k < (itemsD dd).length := (List.getElem?_eq_some_iff.mp zk).1
        refine ⟨.ref p, rfl, bv, rfl, p, bv, dd, Ls, S, Es, es.take k, rfl, Pc, dv_same offP_sub hbc, fit, (fun z => by rw [nb] at z; cases z), (fun _ j z e1 e2 _ => ?_), fun _ _ => ⟨by rw [ltk, it, List.take_append_of_le_length (by rw [List.length_map, ltk]; exact Nat.le_refl _), ← List.map_take, List.take_take, Nat.min_self], by rw [ltk]; omega, ch.left k, few60, .inr ⟨add, pc, vd, by rw [ltk]; exact zk, bw, room, fun Hd L3 bd nL3 L3p eL3 Pd => ?_⟩⟩⟩
        · exfalso
          have hz := List.mem_of_getElem? e1
          rw [it] at hz
          rcases List.mem_append.mp hz with hz | hz
          · obtain ⟨e, _, rfl⟩ := List.mem_map.mp hz
            rw [show edB (edD e) = true from ed_yes] at e2
            cases e2
          · rcases List.mem_cons.mp hz with rfl | hz
            · rw [ed_yes] at e2
              cases e2
            · obtain ⟨e, _, rfl⟩ := List.mem_map.mp hz
              rw [show edB (edD e) = true from ed_yes] at e2
              cases e2
        · rw [ltk] at eL3
          obtain ⟨rd, erd⟩ : ∃ rd, rd = PyData.list [.str "rejected", .int (k : Nat)] := ⟨_, rfl⟩
          have smR : Sm 300 1 rd := erd ▸ sm_two sm_rej (by omega)
          have hbd := dv_dts (dts_offP bd hpc) hbc
          have eLd : Hd L = some (.lst [.str "rejected", .int (k : Nat)]) := bd _ _ (ne_of (sbc _ _ eL) hpc (fun z => by cases z)) (sbc _ _ eL)
          refine ⟨.ref L3, rd, 300, 1, rfl, by rw [erd]; exact .lst eL3 (.cons (.str _) (.cons (.int _) .nil)), smR, by decide, by decide, ?_⟩
          refine ⟨.ref L, rfl, .ref L, rd, 300, 1, rfl, by rw [erd]; exact .lst eLd (.cons (.str _) (.cons (.int _) .nil)), smR, by decide, by decide, rfl, _, rfl, iteNS rfl ?_⟩
          refine ⟨bv, rfl, bv, dd, 20000, 5, rfl, dv_same offP_sub hbd, smD, by decide, by decide, _, rfl, rfl, _, rfl, iteNS rfl ?_⟩
          have I2 := mk74 dkc elc ivc offl' hpc bd Pd st2 ele2 ev2 offs2 offe2 sc2 w2 eok2
          refine ⟨.ref p, rfl, .ref ls2, rfl, .ref le2, rfl, p, ls2, le2, _, _, _, evs2, rfl, I2.P, sc2.so, I2.st, I2.ele, I2.ev, by omega, eok2, fun He se => ⟨true, rfl, iteF ?_⟩⟩
          obtain ⟨dxd, ad, bdd, hpd⟩ := Pd.ipl
          have I3 := mk74 I2.dk I2.el I2.iv offl' hpd (But.same se) (I2.P.same se) I2.st I2.ele I2.ev offs2 offe2 sc2 w2 eok2
          exact ⟨m2, ls2, le2, evs2, _, _, _, _, _, _, _, _, _, I3, by omega, by omega, by omega, rfl⟩
      · obtain rfl := r1.symm
        obtain rfl := r2.symm
        rw [r4] at r3
        subst r3
        obtain ⟨ebF, _, _⟩ := oddB_ok ob
        have ltk : (es.take k).length = k := by rw [List.length_take, Nat.min_eq_left kl]
        have zk : (itemsD dd)[k]? = some z := by
          rw [it, List.getElem?_append_right (by rw [List.length_map, ltk]; exact Nat.le_refl _), List.length_map, ltk, Nat.sub_self]
          rfl
        have pre : ∀ j z', j < k → (itemsD dd)[j]? = some z' → edB z' = true := fun j z' hj e1 => by
          rw [it, List.getElem?_append_left (by rw [List.length_map, ltk]; exact hj), List.getElem?_map] at e1
          obtain ⟨e, _, rfl⟩ := Option.map_eq_some_iff.mp e1
          exact ed_yes
        refine ⟨.ref p, rfl, bv, rfl, p, bv, dd, Ls, S, Es, [], rfl, Pc, dv_same offP_sub hbc, fit, (fun z => by rw [nb] at z; cases z), (fun _ j z' e1 e2 e3 Hd L3 sd nL3 eL3 => ?_), fun _ allE => absurd (allE z (List.mem_of_getElem? zk)) (by rw [ebF]; exact Bool.false_ne_true)⟩
        have jk : j = k := by
          rcases Nat.lt_trichotomy j k with y | y | y
          · rw [pre j z' y e1] at e2
            cases e2
          · exact y
          · have y2 := e3 k z y zk
            rw [ebF] at y2
            cases y2
        subst jk
        have bd : But p Hc Hd := But.same sd
        have Pd := Pc.same sd
        obtain ⟨rd, erd⟩ : ∃ rd, rd = PyData.list [.str "bad edit", .int (j : Nat)] := ⟨_, rfl⟩
        have smR : Sm 300 1 rd := erd ▸ sm_two sm_badE (by omega)
        have hbd := dv_dts (dts_offP bd hpc) hbc
        have eLd := sd _ _ (sbc _ _ eL)
        refine ⟨.ref L3, rd, 300, 1, rfl, by rw [erd]; exact .lst eL3 (.cons (.str _) (.cons (.int _) .nil)), smR, by decide, by decide, ?_⟩
        refine ⟨.ref L, rfl, .ref L, rd, 300, 1, rfl, by rw [erd]; exact .lst eLd (.cons (.str _) (.cons (.int _) .nil)), smR, by decide, by decide, rfl, _, rfl, iteNS rfl ?_⟩
        refine ⟨bv, rfl, bv, dd, 20000, 5, rfl, dv_same offP_sub hbd, smD, by decide, by decide, _, rfl, rfl, _, rfl, iteNS rfl ?_⟩
        have I2 := mk74 dkc elc ivc offl' hpc bd Pd st2 ele2 ev2 offs2 offe2 sc2 w2 eok2
        refine ⟨.ref p, rfl, .ref ls2, rfl, .ref le2, rfl, p, ls2, le2, _, _, _, evs2, rfl, I2.P, sc2.so, I2.st, I2.ele, I2.ev, by omega, eok2, fun He se => ⟨true, rfl, iteF ?_⟩⟩
        obtain ⟨dxd, ad, bdd, hpd⟩ := Pd.ipl
        have I3 := mk74 I2.dk I2.el I2.iv offl' hpd (But.same se) (I2.P.same se) I2.st I2.ele I2.ev offs2 offe2 sc2 w2 eok2
        exact ⟨m2, ls2, le2, evs2, _, _, _, _, _, _, _, _, _, I3, by omega, by omega, by omega, rfl⟩
    clear rel sbc Pc hpc dkc elc ivc hbc st2 ele2 ev2 offs2 offe2 sc2 w2 eok2 few60 lastS scL wL evb eleb Pb stb ivb elb tb fit nb smD good7 l7 eokE due' les all ch lss eSL hbv eR dkb kpb
    rintro σ Hd ⟨m3, ls3, le3, evs3, Ls3, S3, Es3, y6', y7', y8', y9', y10', y11', I3, m30, m31, le3', rfl⟩
    have dk := I3.dk
    refine fun p1 m1 => ?_
    have s1 := same_new (H := Hd) (p := p1) (o := .dK []) m1
    have e1 := upd_same (H := Hd) (a := p1) (o := .dK [])
    generalize upd Hd p1 (.dK []) = H1' at *
    refine ⟨by show 1 ≤ sizeLine; decide, fun p2 m2' => ?_⟩
    have s2 := same_new (o := .tup [.str "undo"]) m2'
    have e2 := upd_same (H := H1') (a := p2) (o := .tup [.str "undo"])
    generalize upd H1' p2 (.tup [.str "undo"]) = H2' at *
    refine ⟨by show 1 ≤ sizeLine; decide, fun p3 m3' => ?_⟩
    have s3 := same_new (o := .lst [.ref p2]) m3'
    have e3 := upd_same (H := H2') (a := p3) (o := .lst [.ref p2])
    generalize upd H2' p3 (.lst [.ref p2]) = H3' at *
    refine ⟨p3, 21, _, rfl, rfl, e3, by decide, by decide, by show 1 * 21 ≤ sizeLine; decide, fun p4 m4 => ?_⟩
    rw [show (List.replicate (21 : Int).toNat [V.ref p2]).flatten = List.replicate 21 (V.ref p2) from rfl]
    have s4 := same_new (o := .lst (List.replicate 21 (V.ref p2))) m4
    have e4 := upd_same (H := H3') (a := p4) (o := .lst (List.replicate 21 (V.ref p2)))
    generalize upd H3' p4 (.lst (List.replicate 21 (V.ref p2))) = H4' at *
    refine ⟨by show 1 ≤ sizeLine; decide, fun p5 m5 => ?_⟩
    have s5 := same_new (o := .tup [.non]) m5
    have e5 := upd_same (H := H4') (a := p5) (o := .tup [.non])
    generalize upd H4' p5 (.tup [.non]) = H5' at *
    refine ⟨p5, 21, _, rfl, rfl, SqT.of e5, (fun e => nomatch e), by decide, by decide, by show 1 ≤ 1000; decide, fun p6 m6 => ?_⟩
    rw [show (List.replicate (21 : Int).toNat [V.non]).flatten = List.replicate 21 V.non from rfl]
    have s6 := same_new (o := .tup (List.replicate 21 V.non)) m6
    have e6 := upd_same (H := H5') (a := p6) (o := .tup (List.replicate 21 V.non))
    generalize upd H5' p6 (.tup (List.replicate 21 V.non)) = H6' at *
    refine ⟨by show 7 ≤ sizeLine; decide, fun pL mL => ?_⟩
    have s16 : Same Hd H6' := s1.trans (s2.trans (s3.trans (s4.trans (s5.trans s6))))
    have oL := (dk.kept s16).off mL
    have s7 := same_new (o := .lst [.non, .str "undo", .int 5, .ref p1, .bl true, .ref p4, .ref p6]) mL
    have eL := upd_same (H := H6') (a := pL) (o := .lst [.non, .str "undo", .int 5, .ref p1, .bl true, .ref p4, .ref p6])
    generalize upd H6' pL (.lst [.non, .str "undo", .int 5, .ref p1, .bl true, .ref p4, .ref p6]) = H7' at *
    have hs := s16.trans s7
    have dk7 := dk.kept hs
    have g1 := offP_get (d := d) (c := c) (dk.off m1) ((s2.trans (s3.trans (s4.trans (s5.trans (s6.trans s7))))) _ _ e1)
    have g2 := offP_get (d := d) (c := c) (dk.off (s1.free m2')) ((s3.trans (s4.trans (s5.trans (s6.trans s7)))) _ _ e2)
    have g4 := offP_get (d := d) (c := c) (dk.off (s1.free (s2.free (s3.free m4)))) ((s5.trans (s6.trans s7)) _ _ e4)
    have g6 := offP_get (d := d) (c := c) (dk.off (s1.free (s2.free (s3.free (s4.free (s5.free m6)))))) (s7 _ _ e6)
    have all : DvAll K (OffP d c H7') [.non, .str "undo", .int 5, .ref p1, .bl true, .ref p4, .ref p6] oddO :=
      .cons .non (.cons (.str _) (.cons (.int _) (.cons (.dic g1 .nil) (.cons (.bl _) (.cons (.lst g4 (dvAll_rep (.tup g2 (.cons (.str _) .nil)) 21)) (.cons (.tup g6 (dvAll_rep .non 21)) .nil))))))
    generalize ([.non, .str "undo", .int 5, .ref p1, .bl true, .ref p4, .ref p6] : List V) = items at *
    have len : items.length = 7 := all.length
    refine ⟨.ref d, rfl, d, c, m3, 7, rfl, dk7, by omega, by omega, by decide, by decide, fun He r kpe dke r0' r1' => ?_⟩
    obtain ⟨j, rfl⟩ : ∃ j : Nat, r = j := ⟨r.toNat, by omega⟩
    have hj : j < items.length := by omega
    have ej : items[j]? = some items[j] := List.getElem?_eq_getElem hj
    obtain ⟨od, ed, hov⟩ := all.get ej
    refine ⟨pL, items, j, items[j], rfl, rfl, SqL.of (kpe.keep oL eL), atI_nat ej, ?_⟩
    have hod := Bool.and_eq_true_iff.mp (List.all_eq_true.mp oddO_fine od (List.mem_of_getElem? ed))
    have fitO : ∀ z ∈ itemsD od, FitW z := fun z hz => fit_of (List.all_eq_true.mp hod.2 z hz)
    have hoe := dv_same offP_sub (dv_same (offP_kp kpe) hov)
    generalize items[j] = ov at *
    have kpI : Kp d c Hd He := (Kp.same hs).trans kpe
    have te := kpI.tps dk
    have Pe : PlanAt C_Plan He p (Ls3 ++ [S3]) Es3 := I3.P.keep te fun C dx fs e => kpI.keep (dk.noti e) e
    obtain ⟨dxe, ae, be, hpe⟩ := Pe.ipl
    refine ⟨.ref p, rfl, ov, rfl, p, ov, od, Ls3, S3, Es3, [], rfl, Pe, hoe, fitO, (fun _ Hf L sf nL eLf => ?_), (fun z => by rw [hod.1] at z; cases z), fun z => by rw [hod.1] at z; cases z⟩
    refine ⟨by show 1 ≤ sizeLine; decide, fun L2 nL2 => ?_⟩
    have s8 := same_new (o := .lst [.str "bad edits"]) nL2
    have eL2 := upd_same (H := Hf) (a := L2) (o := .lst [.str "bad edits"])
    generalize upd Hf L2 (.lst [.str "bad edits"]) = Hg at *
    refine ⟨.list [.str "bad edits"], .list [.str "bad edits"], .lst (SqL.of (s8 _ _ eLf)) (.cons (.str _) .nil), .lst (SqL.of eL2) (.cons (.str _) .nil), by decide +kernel, by decide +kernel, _, rfl, ?_⟩
    rw [show (!PyData.eqv (.list [.str "bad edits"]) (.list [.str "bad edits"])) = false from by decide +kernel]
    refine iteF ?_
    have sfg := sf.trans s8
    have I4 : Inv74 C_Plan Hg d c (m3 + 1) l lus cs p ls3 le3 evs3 Ls3 S3 Es3 := mk74 dke (kpI.keep I3.offl I3.el) (I3.iv.tps te) I3.offl hpe (But.same sfg) (Pe.same sfg) (I3.st.keep te fun us e => kpI.keep I3.offs e) (kpI.keep I3.offe I3.ele) (I3.ev.tps te) I3.offs I3.offe I3.sc I3.w I3.eok
    refine ⟨.ref p, rfl, .ref ls3, rfl, .ref le3, rfl, p, ls3, le3, _, _, _, evs3, rfl, I4.P, I4.sc.so, I4.st, I4.ele, I4.ev, by omega, I4.eok, fun Hh sh => ⟨true, rfl, iteF ?_⟩⟩
    obtain ⟨dxg, ag, bg, hpg⟩ := I4.P.ipl
    exact ⟨m3 + 1, ls3, le3, evs3, _, _, _, _, _, _, _, _, _, mk74 I4.dk I4.el I4.iv I4.offl hpg (But.same sh) (I4.P.same sh) I4.st I4.ele I4.ev I4.offs I4.offe I4.sc I4.w I4.eok, by omega, by omega, le3', rfl⟩

end
theorem all_mk {l : PySem.W.OpenLaw} {w : World} {K : PySem.W.Frag} {h : Heap} {mg : Str → Option Value} {fa f1 f2 f3 f4 f5 f6 f7 f8 f9 f10 f11 f12 f13 f14 f15 f16 f17 f18 f19 f20 f21 f22 f23 f24 f25 f26 f27 f28 f29 f30 f31 f32 f33 f34 f35 f36 f37 f38 f39 f40 f41 f42 f43 f44 C_Plan X_BadInterval X_SpanError X_Unknown X_Duplicate X_Rejected X_BadEdit X_BadEdits X_Busy kD29 kD30 kD31 tW0 : Addr} (X : K.In h) (G : h.Ns mainGlobals mg) (hfa : mg "law" = some (.ref fa))
    {od1 an1 od2 an2 od3 an3 od4 an4 od5 an5 od6 an6 od7 an7 od8 an8 od9 an9 od10 an10 od11 an11 od12 an12 od13 an13 od14 an14 od15 an15 od16 an16 od17 an17 od18 an18 od19 an19 od20 an20 od21 an21 od22 an22 od23 an23 od24 an24 od25 an25 od26 an26 od27 an27 od28 an28 od29 an29 od30 an30 od31 an31 od32 an32 od33 an33 od34 an34 od35 an35 od36 an36 od37 an37 od38 an38 od39 an39 od40 an40 od41 an41 od42 an42 od43 an43 od44 an44 : Option Addr} {sl1 sl2 sl3 sl4 sl5 sl6 sl7 sl8 sl9 sl10 sl11 sl12 sl13 sl14 sl15 sl16 sl17 sl18 sl19 sl20 sl21 sl22 sl23 sl24 sl25 sl26 sl27 sl28 sl29 sl30 sl31 sl32 sl33 sl34 sl35 sl36 sl37 sl38 sl39 sl40 sl41 sl42 sl43 sl44 : Array (Option Value)} {oc1 kV1 dc1 pm1 cd1 ct1 oc2 kV2 dc2 pm2 cd2 ct2 oc3 kV3 dc3 pm3 cd3 ct3 oc4 kV4 dc4 pm4 cd4 ct4 oc5 kV5 dc5 pm5 cd5 ct5 oc6 kV6 dc6 pm6 cd6 ct6 oc7 kV7 dc7 pm7 cd7 ct7 oc8 kV8 dc8 pm8 cd8 ct8 oc9 kV9 dc9 pm9 cd9 ct9 oc10 kV10 dc10 pm10 cd10 ct10 oc11 kV11 dc11 pm11 cd11 ct11 oc12 kV12 dc12 pm12 cd12 ct12 oc13 kV13 dc13 pm13 cd13 ct13 oc14 kV14 dc14 pm14 cd14 ct14 oc15 kV15 dc15 pm15 cd15 ct15 oc16 kV16 dc16 pm16 cd16 ct16 oc17 kV17 dc17 pm17 cd17 ct17 oc18 kV18 dc18 pm18 cd18 ct18 oc19 kV19 dc19 pm19 cd19 ct19 oc20 kV20 dc20 pm20 cd20 ct20 oc21 kV21 dc21 pm21 cd21 ct21 oc22 kV22 dc22 pm22 cd22 ct22 oc23 kV23 dc23 pm23 cd23 ct23 oc24 kV24 dc24 pm24 cd24 ct24 oc25 kV25 dc25 pm25 cd25 ct25 oc26 kV26 dc26 pm26 cd26 ct26 oc27 kV27 dc27 pm27 cd27 ct27 oc28 kV28 dc28 pm28 cd28 ct28 oc29 dc29 pm29 cd29 ct29 oc30 dc30 pm30 cd30 ct30 oc31 dc31 pm31 cd31 ct31 oc32 kV32 dc32 pm32 cd32 ct32 oc33 kV33 dc33 pm33 cd33 ct33 oc34 kV34 dc34 pm34 cd34 ct34 oc35 kV35 dc35 pm35 cd35 ct35 oc36 kV36 dc36 pm36 cd36 ct36 oc37 kV37 dc37 pm37 cd37 ct37 oc38 kV38 dc38 pm38 cd38 ct38 oc39 kV39 dc39 pm39 cd39 ct39 oc40 kV40 dc40 pm40 cd40 ct40 oc41 kV41 dc41 pm41 cd41 ct41 oc42 kV42 dc42 pm42 cd42 ct42 oc43 kV43 dc43 pm43 cd43 ct43 oc44 kV44 dc44 pm44 cd44 ct44 : Value} {tk0 tk1 tk2 tk3 tk4 : Tok}
    (a1 : PySem.W.nsIn K mainGlobals "is_number" = some (some (.ref f1))) (l1 : K.lookup f1 = some ⟨oc1, od1, .func (PySem.W.fnOf "is_number" "is_number" (defArgs s_is_number) (defBody s_is_number) (defScope s_is_number) .none kV1 dc1 pm1 an1 cd1 ct1), sl1⟩) (c1 : PySem.W.codeIn K cd1 "is_number" = true) (k1 : PySem.W.keepIn K (.ref f1) = true)
    (a2 : PySem.W.nsIn K mainGlobals "is_position" = some (some (.ref f2))) (l2 : K.lookup f2 = some ⟨oc2, od2, .func (PySem.W.fnOf "is_position" "is_position" (defArgs s_is_position) (defBody s_is_position) (defScope s_is_position) .none kV2 dc2 pm2 an2 cd2 ct2), sl2⟩) (c2 : PySem.W.codeIn K cd2 "is_position" = true) (k2 : PySem.W.keepIn K (.ref f2) = true)
    (a3 : PySem.W.nsIn K mainGlobals "is_tuple_of" = some (some (.ref f3))) (l3 : K.lookup f3 = some ⟨oc3, od3, .func (PySem.W.fnOf "is_tuple_of" "is_tuple_of" (defArgs s_is_tuple_of) (defBody s_is_tuple_of) (defScope s_is_tuple_of) .none kV3 dc3 pm3 an3 cd3 ct3), sl3⟩) (c3 : PySem.W.codeIn K cd3 "is_tuple_of" = true) (k3 : PySem.W.keepIn K (.ref f3) = true)
    (a4 : PySem.W.nsIn K mainGlobals "is_interval" = some (some (.ref f4))) (l4 : K.lookup f4 = some ⟨oc4, od4, .func (PySem.W.fnOf "is_interval" "is_interval" (defArgs s_is_interval) (defBody s_is_interval) (defScope s_is_interval) .none kV4 dc4 pm4 an4 cd4 ct4), sl4⟩) (c4 : PySem.W.codeIn K cd4 "is_interval" = true) (k4 : PySem.W.keepIn K (.ref f4) = true)
    (a5 : PySem.W.nsIn K mainGlobals "ascending_error" = some (some (.ref f5))) (l5 : K.lookup f5 = some ⟨oc5, od5, .func (PySem.W.fnOf "ascending_error" "ascending_error" (defArgs s_ascending_error) (defBody s_ascending_error) (defScope s_ascending_error) .none kV5 dc5 pm5 an5 cd5 ct5), sl5⟩) (c5 : PySem.W.codeIn K cd5 "ascending_error" = true) (k5 : PySem.W.keepIn K (.ref f5) = true)
    (a6 : PySem.W.nsIn K mainGlobals "targets_error" = some (some (.ref f6))) (l6 : K.lookup f6 = some ⟨oc6, od6, .func (PySem.W.fnOf "targets_error" "targets_error" (defArgs s_targets_error) (defBody s_targets_error) (defScope s_targets_error) .none kV6 dc6 pm6 an6 cd6 ct6), sl6⟩) (c6 : PySem.W.codeIn K cd6 "targets_error" = true) (k6 : PySem.W.keepIn K (.ref f6) = true)
    (a7 : PySem.W.nsIn K mainGlobals "is_pieces" = some (some (.ref f7))) (l7 : K.lookup f7 = some ⟨oc7, od7, .func (PySem.W.fnOf "is_pieces" "is_pieces" (defArgs s_is_pieces) (defBody s_is_pieces) (defScope s_is_pieces) .none kV7 dc7 pm7 an7 cd7 ct7), sl7⟩) (c7 : PySem.W.codeIn K cd7 "is_pieces" = true) (k7 : PySem.W.keepIn K (.ref f7) = true)
    (a8 : PySem.W.nsIn K mainGlobals "without_item" = some (some (.ref f8))) (l8 : K.lookup f8 = some ⟨oc8, od8, .func (PySem.W.fnOf "without_item" "without_item" (defArgs s_without_item) (defBody s_without_item) (defScope s_without_item) .none kV8 dc8 pm8 an8 cd8 ct8), sl8⟩) (c8 : PySem.W.codeIn K cd8 "without_item" = true) (k8 : PySem.W.keepIn K (.ref f8) = true)
    (a9 : PySem.W.nsIn K mainGlobals "is_edit" = some (some (.ref f9))) (l9 : K.lookup f9 = some ⟨oc9, od9, .func (PySem.W.fnOf "is_edit" "is_edit" (defArgs s_is_edit) (defBody s_is_edit) (defScope s_is_edit) .none kV9 dc9 pm9 an9 cd9 ct9), sl9⟩) (c9 : PySem.W.codeIn K cd9 "is_edit" = true) (k9 : PySem.W.keepIn K (.ref f9) = true)
    (a10 : PySem.W.nsIn K mainGlobals "copied_batch" = some (some (.ref f10))) (l10 : K.lookup f10 = some ⟨oc10, od10, .func (PySem.W.fnOf "copied_batch" "copied_batch" (defArgs s_copied_batch) (defBody s_copied_batch) (defScope s_copied_batch) .none kV10 dc10 pm10 an10 cd10 ct10), sl10⟩) (c10 : PySem.W.codeIn K cd10 "copied_batch" = true) (k10 : PySem.W.keepIn K (.ref f10) = true)
    (a11 : PySem.W.nsIn K mainGlobals "with_interval" = some (some (.ref f11))) (l11 : K.lookup f11 = some ⟨oc11, od11, .func (PySem.W.fnOf "with_interval" "with_interval" (defArgs s_with_interval) (defBody s_with_interval) (defScope s_with_interval) .none kV11 dc11 pm11 an11 cd11 ct11), sl11⟩) (c11 : PySem.W.codeIn K cd11 "with_interval" = true) (k11 : PySem.W.keepIn K (.ref f11) = true)
    (a12 : PySem.W.nsIn K mainGlobals "without_interval" = some (some (.ref f12))) (l12 : K.lookup f12 = some ⟨oc12, od12, .func (PySem.W.fnOf "without_interval" "without_interval" (defArgs s_without_interval) (defBody s_without_interval) (defScope s_without_interval) .none kV12 dc12 pm12 an12 cd12 ct12), sl12⟩) (c12 : PySem.W.codeIn K cd12 "without_interval" = true) (k12 : PySem.W.keepIn K (.ref f12) = true)
    (a13 : PySem.W.nsIn K mainGlobals "edited_state" = some (some (.ref f13))) (l13 : K.lookup f13 = some ⟨oc13, od13, .func (PySem.W.fnOf "edited_state" "edited_state" (defArgs s_edited_state) (defBody s_edited_state) (defScope s_edited_state) .none kV13 dc13 pm13 an13 cd13 ct13), sl13⟩) (c13 : PySem.W.codeIn K cd13 "edited_state" = true) (k13 : PySem.W.keepIn K (.ref f13) = true)
    (a14 : PySem.W.nsIn K mainGlobals "_law_deck" = some (some (.ref f14))) (l14 : K.lookup f14 = some ⟨oc14, od14, .func (PySem.W.fnOf "_law_deck" "_law_deck" (defArgs s_law_deck) (defBody s_law_deck) (defScope s_law_deck) .none kV14 dc14 pm14 an14 cd14 ct14), sl14⟩) (c14 : PySem.W.codeIn K cd14 "_law_deck" = true) (k14 : PySem.W.keepIn K (.ref f14) = true)
    (a15 : PySem.W.nsIn K mainGlobals "_law_draw" = some (some (.ref f15))) (l15 : K.lookup f15 = some ⟨oc15, od15, .func (PySem.W.fnOf "_law_draw" "_law_draw" (defArgs s_law_draw) (defBody s_law_draw) (defScope s_law_draw) .none kV15 dc15 pm15 an15 cd15 ct15), sl15⟩) (c15 : PySem.W.codeIn K cd15 "_law_draw" = true) (k15 : PySem.W.keepIn K (.ref f15) = true)
    (a16 : PySem.W.nsIn K mainGlobals "_law_line" = some (some (.ref f16))) (l16 : K.lookup f16 = some ⟨oc16, od16, .func (PySem.W.fnOf "_law_line" "_law_line" (defArgs s_law_line) (defBody s_law_line) (defScope s_law_line) .none kV16 dc16 pm16 an16 cd16 ct16), sl16⟩) (c16 : PySem.W.codeIn K cd16 "_law_line" = true) (k16 : PySem.W.keepIn K (.ref f16) = true)
    (a17 : PySem.W.nsIn K mainGlobals "_law_interval" = some (some (.ref f17))) (l17 : K.lookup f17 = some ⟨oc17, od17, .func (PySem.W.fnOf "_law_interval" "_law_interval" (defArgs s_law_interval) (defBody s_law_interval) (defScope s_law_interval) .none kV17 dc17 pm17 an17 cd17 ct17), sl17⟩) (c17 : PySem.W.codeIn K cd17 "_law_interval" = true) (k17 : PySem.W.keepIn K (.ref f17) = true)
    (a18 : PySem.W.nsIn K mainGlobals "_law_intervals" = some (some (.ref f18))) (l18 : K.lookup f18 = some ⟨oc18, od18, .func (PySem.W.fnOf "_law_intervals" "_law_intervals" (defArgs s_law_intervals) (defBody s_law_intervals) (defScope s_law_intervals) .none kV18 dc18 pm18 an18 cd18 ct18), sl18⟩) (c18 : PySem.W.codeIn K cd18 "_law_intervals" = true) (k18 : PySem.W.keepIn K (.ref f18) = true)
    (a19 : PySem.W.nsIn K mainGlobals "_law_edit" = some (some (.ref f19))) (l19 : K.lookup f19 = some ⟨oc19, od19, .func (PySem.W.fnOf "_law_edit" "_law_edit" (defArgs s_law_edit) (defBody s_law_edit) (defScope s_law_edit) .none kV19 dc19 pm19 an19 cd19 ct19), sl19⟩) (c19 : PySem.W.codeIn K cd19 "_law_edit" = true) (k19 : PySem.W.keepIn K (.ref f19) = true)
    (a20 : PySem.W.nsIn K mainGlobals "_law_after" = some (some (.ref f20))) (l20 : K.lookup f20 = some ⟨oc20, od20, .func (PySem.W.fnOf "_law_after" "_law_after" (defArgs s_law_after) (defBody s_law_after) (defScope s_law_after) .none kV20 dc20 pm20 an20 cd20 ct20), sl20⟩) (c20 : PySem.W.codeIn K cd20 "_law_after" = true) (k20 : PySem.W.keepIn K (.ref f20) = true)
    (a21 : PySem.W.nsIn K mainGlobals "_law_right" = some (some (.ref f21))) (l21 : K.lookup f21 = some ⟨oc21, od21, .func (PySem.W.fnOf "_law_right" "_law_right" (defArgs s_law_right) (defBody s_law_right) (defScope s_law_right) .none kV21 dc21 pm21 an21 cd21 ct21), sl21⟩) (c21 : PySem.W.codeIn K cd21 "_law_right" = true) (k21 : PySem.W.keepIn K (.ref f21) = true)
    (a22 : PySem.W.nsIn K mainGlobals "_law_begun" = some (some (.ref f22))) (l22 : K.lookup f22 = some ⟨oc22, od22, .func (PySem.W.fnOf "_law_begun" "_law_begun" (defArgs s_law_begun) (defBody s_law_begun) (defScope s_law_begun) .none kV22 dc22 pm22 an22 cd22 ct22), sl22⟩) (c22 : PySem.W.codeIn K cd22 "_law_begun" = true) (k22 : PySem.W.keepIn K (.ref f22) = true)
    (a23 : PySem.W.nsIn K mainGlobals "_law_applied" = some (some (.ref f23))) (l23 : K.lookup f23 = some ⟨oc23, od23, .func (PySem.W.fnOf "_law_applied" "_law_applied" (defArgs s_law_applied) (defBody s_law_applied) (defScope s_law_applied) .none kV23 dc23 pm23 an23 cd23 ct23), sl23⟩) (c23 : PySem.W.codeIn K cd23 "_law_applied" = true) (k23 : PySem.W.keepIn K (.ref f23) = true)
    (a24 : PySem.W.nsIn K mainGlobals "_law_failing" = some (some (.ref f24))) (l24 : K.lookup f24 = some ⟨oc24, od24, .func (PySem.W.fnOf "_law_failing" "_law_failing" (defArgs s_law_failing) (defBody s_law_failing) (defScope s_law_failing) .none kV24 dc24 pm24 an24 cd24 ct24), sl24⟩) (c24 : PySem.W.codeIn K cd24 "_law_failing" = true) (k24 : PySem.W.keepIn K (.ref f24) = true)
    (a25 : PySem.W.nsIn K mainGlobals "_law_bad" = some (some (.ref f25))) (l25 : K.lookup f25 = some ⟨oc25, od25, .func (PySem.W.fnOf "_law_bad" "_law_bad" (defArgs s_law_bad) (defBody s_law_bad) (defScope s_law_bad) .none kV25 dc25 pm25 an25 cd25 ct25), sl25⟩) (c25 : PySem.W.codeIn K cd25 "_law_bad" = true) (k25 : PySem.W.keepIn K (.ref f25) = true)
    (a26 : PySem.W.nsIn K mainGlobals "_law_batch" = some (some (.ref f26))) (l26 : K.lookup f26 = some ⟨oc26, od26, .func (PySem.W.fnOf "_law_batch" "_law_batch" (defArgs s_law_batch) (defBody s_law_batch) (defScope s_law_batch) .none kV26 dc26 pm26 an26 cd26 ct26), sl26⟩) (c26 : PySem.W.codeIn K cd26 "_law_batch" = true) (k26 : PySem.W.keepIn K (.ref f26) = true)
    (a27 : PySem.W.nsIn K mainGlobals "law" = some (some (.ref f27))) (l27 : K.lookup f27 = some ⟨oc27, od27, .func (PySem.W.fnOf "law" "law" (defArgs s_law) (defBody s_law) (defScope s_law) .none kV27 dc27 pm27 an27 cd27 ct27), sl27⟩) (c27 : PySem.W.codeIn K cd27 "law" = true) (k27 : PySem.W.keepIn K (.ref f27) = true)
    (a28 : PySem.W.findIn K (.ref C_Plan) "__init__" = some (some (.ref f28))) (i28 : PySem.W.isFn K (.ref f28) = true) (l28 : K.lookup f28 = some ⟨oc28, od28, .func (PySem.W.fnOf "__init__" "Plan.__init__" (defArgs s_Plan_init) (defBody s_Plan_init) (defScope s_Plan_init) .none kV28 dc28 pm28 an28 cd28 ct28), sl28⟩) (c28 : PySem.W.codeIn K cd28 "Plan.__init__" = true) (k28 : PySem.W.keepIn K (.ref f28) = true)
    (a29 : PySem.W.findIn K (.ref C_Plan) "apply" = some (some (.ref f29))) (i29 : PySem.W.isFn K (.ref f29) = true) (l29 : K.lookup f29 = some ⟨oc29, od29, .func (PySem.W.fnOf "apply" "Plan.apply" (defArgs s_Plan_apply) (defBody s_Plan_apply) (defScope s_Plan_apply) .none (.ref kD29) dc29 pm29 an29 cd29 ct29), sl29⟩) (c29 : PySem.W.codeIn K cd29 "Plan.apply" = true) (k29 : PySem.W.keepIn K (.ref f29) = true)
    (q29 : PySem.W.nsIn K kD29 "check" = some (some .none))
    (a30 : PySem.W.findIn K (.ref C_Plan) "targets" = some (some (.ref f30))) (i30 : PySem.W.isFn K (.ref f30) = true) (l30 : K.lookup f30 = some ⟨oc30, od30, .func (PySem.W.fnOf "targets" "Plan.targets" (defArgs s_Plan_targets) (defBody s_Plan_targets) (defScope s_Plan_targets) .none (.ref kD30) dc30 pm30 an30 cd30 ct30), sl30⟩) (c30 : PySem.W.codeIn K cd30 "Plan.targets" = true) (k30 : PySem.W.keepIn K (.ref f30) = true)
    (q30 : PySem.W.nsIn K kD30 "version" = some (some .none))
    (a31 : PySem.W.findIn K (.ref C_Plan) "pieces" = some (some (.ref f31))) (i31 : PySem.W.isFn K (.ref f31) = true) (l31 : K.lookup f31 = some ⟨oc31, od31, .func (PySem.W.fnOf "pieces" "Plan.pieces" (defArgs s_Plan_pieces) (defBody s_Plan_pieces) (defScope s_Plan_pieces) .none (.ref kD31) dc31 pm31 an31 cd31 ct31), sl31⟩) (c31 : PySem.W.codeIn K cd31 "Plan.pieces" = true) (k31 : PySem.W.keepIn K (.ref f31) = true)
    (q31 : PySem.W.nsIn K kD31 "version" = some (some .none))
    (a32 : PySem.W.findIn K (.ref C_Plan) "edits" = some (some (.ref f32))) (i32 : PySem.W.isFn K (.ref f32) = true) (l32 : K.lookup f32 = some ⟨oc32, od32, .func (PySem.W.fnOf "edits" "Plan.edits" (defArgs s_Plan_edits) (defBody s_Plan_edits) (defScope s_Plan_edits) .none kV32 dc32 pm32 an32 cd32 ct32), sl32⟩) (c32 : PySem.W.codeIn K cd32 "Plan.edits" = true) (k32 : PySem.W.keepIn K (.ref f32) = true)
    (a33 : PySem.W.findIn K (.ref C_Plan) "record" = some (some (.ref f33))) (i33 : PySem.W.isFn K (.ref f33) = true) (l33 : K.lookup f33 = some ⟨oc33, od33, .func (PySem.W.fnOf "record" "Plan.record" (defArgs s_Plan_record) (defBody s_Plan_record) (defScope s_Plan_record) .none kV33 dc33 pm33 an33 cd33 ct33), sl33⟩) (c33 : PySem.W.codeIn K cd33 "Plan.record" = true) (k33 : PySem.W.keepIn K (.ref f33) = true)
    (a34 : PySem.W.findIn K (.ref C_Plan) "record_or_reject" = some (some (.ref f34))) (i34 : PySem.W.isFn K (.ref f34) = true) (l34 : K.lookup f34 = some ⟨oc34, od34, .func (PySem.W.fnOf "record_or_reject" "Plan.record_or_reject" (defArgs s_Plan_record_or_reject) (defBody s_Plan_record_or_reject) (defScope s_Plan_record_or_reject) .none kV34 dc34 pm34 an34 cd34 ct34), sl34⟩) (c34 : PySem.W.codeIn K cd34 "Plan.record_or_reject" = true) (k34 : PySem.W.keepIn K (.ref f34) = true)
    (a35 : PySem.W.findIn K (.ref C_Plan) "passes" = some (some (.ref f35))) (i35 : PySem.W.isFn K (.ref f35) = true) (l35 : K.lookup f35 = some ⟨oc35, od35, .func (PySem.W.fnOf "passes" "Plan.passes" (defArgs s_Plan_passes) (defBody s_Plan_passes) (defScope s_Plan_passes) .none kV35 dc35 pm35 an35 cd35 ct35), sl35⟩) (c35 : PySem.W.codeIn K cd35 "Plan.passes" = true) (k35 : PySem.W.keepIn K (.ref f35) = true)
    (a36 : PySem.W.findIn K (.ref C_Plan) "require_idle" = some (some (.ref f36))) (i36 : PySem.W.isFn K (.ref f36) = true) (l36 : K.lookup f36 = some ⟨oc36, od36, .func (PySem.W.fnOf "require_idle" "Plan.require_idle" (defArgs s_Plan_require_idle) (defBody s_Plan_require_idle) (defScope s_Plan_require_idle) .none kV36 dc36 pm36 an36 cd36 ct36), sl36⟩) (c36 : PySem.W.codeIn K cd36 "Plan.require_idle" = true) (k36 : PySem.W.keepIn K (.ref f36) = true)
    (a37 : PySem.W.findIn K (.ref C_Plan) "state_at" = some (some (.ref f37))) (i37 : PySem.W.isFn K (.ref f37) = true) (l37 : K.lookup f37 = some ⟨oc37, od37, .func (PySem.W.fnOf "state_at" "Plan.state_at" (defArgs s_Plan_state_at) (defBody s_Plan_state_at) (defScope s_Plan_state_at) .none kV37 dc37 pm37 an37 cd37 ct37), sl37⟩) (c37 : PySem.W.codeIn K cd37 "Plan.state_at" = true) (k37 : PySem.W.keepIn K (.ref f37) = true)
    (a38 : PySem.W.findIn K (.ref C_Plan) "__len__" = some (some (.ref f38))) (i38 : PySem.W.isFn K (.ref f38) = true) (l38 : K.lookup f38 = some ⟨oc38, od38, .func (PySem.W.fnOf "__len__" "Plan.__len__" (defArgs s_Plan_len) (defBody s_Plan_len) (defScope s_Plan_len) .none kV38 dc38 pm38 an38 cd38 ct38), sl38⟩) (c38 : PySem.W.codeIn K cd38 "Plan.__len__" = true) (k38 : PySem.W.keepIn K (.ref f38) = true)
    (a39 : PySem.W.findIn K (.ref C_Plan) "__str__" = some (some (.ref f39))) (i39 : PySem.W.isFn K (.ref f39) = true) (l39 : K.lookup f39 = some ⟨oc39, od39, .func (PySem.W.fnOf "__str__" "Plan.__str__" (defArgs s_Plan_str) (defBody s_Plan_str) (defScope s_Plan_str) .none kV39 dc39 pm39 an39 cd39 ct39), sl39⟩) (c39 : PySem.W.codeIn K cd39 "Plan.__str__" = true) (k39 : PySem.W.keepIn K (.ref f39) = true)
    (a40 : PySem.W.findIn K (.ref X_BadInterval) "__init__" = some (some (.ref f40))) (i40 : PySem.W.isFn K (.ref f40) = true) (l40 : K.lookup f40 = some ⟨oc40, od40, .func (PySem.W.fnOf "__init__" "BadInterval.__init__" (defArgs s_BadInterval_init) (defBody s_BadInterval_init) (defScope s_BadInterval_init) .none kV40 dc40 pm40 an40 cd40 ct40), sl40⟩) (c40 : PySem.W.codeIn K cd40 "BadInterval.__init__" = true) (k40 : PySem.W.keepIn K (.ref f40) = true)
    (a41 : PySem.W.findIn K (.ref X_Duplicate) "__init__" = some (some (.ref f41))) (i41 : PySem.W.isFn K (.ref f41) = true) (l41 : K.lookup f41 = some ⟨oc41, od41, .func (PySem.W.fnOf "__init__" "Duplicate.__init__" (defArgs s_Duplicate_init) (defBody s_Duplicate_init) (defScope s_Duplicate_init) .none kV41 dc41 pm41 an41 cd41 ct41), sl41⟩) (c41 : PySem.W.codeIn K cd41 "Duplicate.__init__" = true) (k41 : PySem.W.keepIn K (.ref f41) = true)
    (a42 : PySem.W.findIn K (.ref X_BadEdit) "__init__" = some (some (.ref f42))) (i42 : PySem.W.isFn K (.ref f42) = true) (l42 : K.lookup f42 = some ⟨oc42, od42, .func (PySem.W.fnOf "__init__" "BadEdit.__init__" (defArgs s_BadEdit_init) (defBody s_BadEdit_init) (defScope s_BadEdit_init) .none kV42 dc42 pm42 an42 cd42 ct42), sl42⟩) (c42 : PySem.W.codeIn K cd42 "BadEdit.__init__" = true) (k42 : PySem.W.keepIn K (.ref f42) = true)
    (a43 : PySem.W.findIn K (.ref X_Rejected) "__init__" = some (some (.ref f43))) (i43 : PySem.W.isFn K (.ref f43) = true) (l43 : K.lookup f43 = some ⟨oc43, od43, .func (PySem.W.fnOf "__init__" "Rejected.__init__" (defArgs s_Rejected_init) (defBody s_Rejected_init) (defScope s_Rejected_init) .none kV43 dc43 pm43 an43 cd43 ct43), sl43⟩) (c43 : PySem.W.codeIn K cd43 "Rejected.__init__" = true) (k43 : PySem.W.keepIn K (.ref f43) = true)
    (a44 : PySem.W.findIn K (.ref X_Unknown) "__init__" = some (some (.ref f44))) (i44 : PySem.W.isFn K (.ref f44) = true) (l44 : K.lookup f44 = some ⟨oc44, od44, .func (PySem.W.fnOf "__init__" "Unknown.__init__" (defArgs s_Unknown_init) (defBody s_Unknown_init) (defScope s_Unknown_init) .none kV44 dc44 pm44 an44 cd44 ct44), sl44⟩) (c44 : PySem.W.codeIn K cd44 "Unknown.__init__" = true) (k44 : PySem.W.keepIn K (.ref f44) = true)
    (aC_Plan : PySem.W.nsIn K mainGlobals "Plan" = some (some (.ref C_Plan))) (pg_Plan : PySem.W.plainGet K C_Plan Str.empty = true) (hd_Plan : PySem.W.hasDictIn K C_Plan = true) (po_Plan : PySem.W.plainOver K C_Plan = true) (sa_Plan : PySem.W.findIn K (.ref C_Plan) "__setattr__" = some (some (.builtin "object.__setattr__"))) (mk_Plan : PySem.W.makesIn K C_Plan = true) (kc_Plan : PySem.W.keepIn K (.ref C_Plan) = true) (n_states_Plan : PySem.W.findIn K (.ref C_Plan) "states" = some none) (n_done_Plan : PySem.W.findIn K (.ref C_Plan) "done" = some none) (n_busy_Plan : PySem.W.findIn K (.ref C_Plan) "busy" = some none)
    {nm_BadInterval qn_BadInterval : Str} {N_BadInterval : Addr} {bs_BadInterval bm_BadInterval sb_BadInterval : List Value} {sn_BadInterval : List Str} {ab_BadInterval : Bool} {co_BadInterval : Option Bool} {dd_BadInterval : Option Addr} {m0_BadInterval m1_BadInterval m2_BadInterval m3_BadInterval m5_BadInterval : Option Value}
    (aX_BadInterval : PySem.W.nsIn K mainGlobals "BadInterval" = some (some (.ref X_BadInterval))) (iX_BadInterval : PySem.W.isClsIn K X_BadInterval = true) (tX_BadInterval : PySem.W.typeIn K (.ref X_BadInterval) = some (.type "type")) (bX_BadInterval : PySem.W.subIn K (.ref X_BadInterval) (.type "BaseException") = some true) (xG_BadInterval : PySem.W.excInitIn K X_BadInterval bmVE "ValueError.__new__" = true) (oG_BadInterval : PySem.W.excOver K X_BadInterval bmVE = true) (xL_BadInterval : K.lookup X_BadInterval = some (excClassObj nm_BadInterval qn_BadInterval X_BadInterval N_BadInterval bs_BadInterval bm_BadInterval true sn_BadInterval sb_BadInterval ab_BadInterval co_BadInterval dd_BadInterval m0_BadInterval m1_BadInterval m2_BadInterval m3_BadInterval m5_BadInterval "ValueError.__new__")) (rL_BadInterval : PySem.HandSPX.refsVE bm_BadInterval = true) (sX_BadInterval : PySem.W.findIn K (.ref X_BadInterval) "__setattr__" = some (some (.builtin "object.__setattr__"))) (kX_BadInterval : PySem.W.keepIn K (.ref X_BadInterval) = true) (nX_BadInterval : PySem.W.findIn K (.ref X_BadInterval) "value" = some none) (fX_BadInterval : PySem.W.typeIn K (.ref f40) = some (.type "function")) (gX_BadInterval : PySem.W.findIn K (.ref X_BadInterval) "__getattribute__" = some (some (.builtin "BaseException.__getattribute__"))) (hX_BadInterval : PySem.W.findIn K (.ref X_BadInterval) "__getattr__" = some none) (dX_BadInterval : PySem.W.hasDictIn K X_BadInterval = true) (cX_BadInterval : PySem.W.findIn K (.ref X_BadInterval) "__class__" = some (some (.builtin "object.__class__"))) (eX_BadInterval : PySem.W.specialIn K (.builtin "object.__class__") "__get__" = some (some (.builtin "getset_descriptor.__get__"))) (uX_BadInterval : PySem.W.takesIn K (.builtin "object.__class__") = some true) (mX_BadInterval : PySem.W.mroIn K X_BadInterval (.type "object") = some true) (vX_BadInterval : PySem.W.subIn K (.ref X_BadInterval) (.type "ValueError") = some true) (wX_BadInterval : PySem.W.subIn K (.ref X_BadInterval) (.type "LookupError") = some false)
    (aX_SpanError : PySem.W.nsIn K mainGlobals "SpanError" = some (some (.ref X_SpanError))) (iX_SpanError : PySem.W.isClsIn K X_SpanError = true) (tX_SpanError : PySem.W.typeIn K (.ref X_SpanError) = some (.type "type")) (bX_SpanError : PySem.W.subIn K (.ref X_SpanError) (.type "BaseException") = some true)
    (aX_Unknown : PySem.W.nsIn K mainGlobals "Unknown" = some (some (.ref X_Unknown))) (iX_Unknown : PySem.W.isClsIn K X_Unknown = true) (tX_Unknown : PySem.W.typeIn K (.ref X_Unknown) = some (.type "type")) (bX_Unknown : PySem.W.subIn K (.ref X_Unknown) (.type "BaseException") = some true) (xG_Unknown : PySem.W.excInitIn K X_Unknown bmLE "LookupError.__new__" = true) (oG_Unknown : PySem.W.excOver K X_Unknown bmLE = true) (sX_Unknown : PySem.W.findIn K (.ref X_Unknown) "__setattr__" = some (some (.builtin "object.__setattr__"))) (kX_Unknown : PySem.W.keepIn K (.ref X_Unknown) = true) (nX_Unknown : PySem.W.findIn K (.ref X_Unknown) "value" = some none) (fX_Unknown : PySem.W.typeIn K (.ref f44) = some (.type "function")) (gX_Unknown : PySem.W.findIn K (.ref X_Unknown) "__getattribute__" = some (some (.builtin "BaseException.__getattribute__"))) (hX_Unknown : PySem.W.findIn K (.ref X_Unknown) "__getattr__" = some none) (dX_Unknown : PySem.W.hasDictIn K X_Unknown = true) (cX_Unknown : PySem.W.findIn K (.ref X_Unknown) "__class__" = some (some (.builtin "object.__class__"))) (eX_Unknown : PySem.W.specialIn K (.builtin "object.__class__") "__get__" = some (some (.builtin "getset_descriptor.__get__"))) (uX_Unknown : PySem.W.takesIn K (.builtin "object.__class__") = some true) (mX_Unknown : PySem.W.mroIn K X_Unknown (.type "object") = some true) (vX_Unknown : PySem.W.subIn K (.ref X_Unknown) (.type "ValueError") = some false) (wX_Unknown : PySem.W.subIn K (.ref X_Unknown) (.type "LookupError") = some true)
    {nm_Duplicate qn_Duplicate : Str} {N_Duplicate : Addr} {bs_Duplicate bm_Duplicate sb_Duplicate : List Value} {sn_Duplicate : List Str} {ab_Duplicate : Bool} {co_Duplicate : Option Bool} {dd_Duplicate : Option Addr} {m0_Duplicate m1_Duplicate m2_Duplicate m3_Duplicate m5_Duplicate : Option Value}
    (aX_Duplicate : PySem.W.nsIn K mainGlobals "Duplicate" = some (some (.ref X_Duplicate))) (iX_Duplicate : PySem.W.isClsIn K X_Duplicate = true) (tX_Duplicate : PySem.W.typeIn K (.ref X_Duplicate) = some (.type "type")) (bX_Duplicate : PySem.W.subIn K (.ref X_Duplicate) (.type "BaseException") = some true) (xG_Duplicate : PySem.W.excInitIn K X_Duplicate bmVE "ValueError.__new__" = true) (oG_Duplicate : PySem.W.excOver K X_Duplicate bmVE = true) (xL_Duplicate : K.lookup X_Duplicate = some (excClassObj nm_Duplicate qn_Duplicate X_Duplicate N_Duplicate bs_Duplicate bm_Duplicate true sn_Duplicate sb_Duplicate ab_Duplicate co_Duplicate dd_Duplicate m0_Duplicate m1_Duplicate m2_Duplicate m3_Duplicate m5_Duplicate "ValueError.__new__")) (rL_Duplicate : PySem.HandSPX.refsVE bm_Duplicate = true) (sX_Duplicate : PySem.W.findIn K (.ref X_Duplicate) "__setattr__" = some (some (.builtin "object.__setattr__"))) (kX_Duplicate : PySem.W.keepIn K (.ref X_Duplicate) = true) (nX_Duplicate : PySem.W.findIn K (.ref X_Duplicate) "value" = some none) (fX_Duplicate : PySem.W.typeIn K (.ref f41) = some (.type "function")) (gX_Duplicate : PySem.W.findIn K (.ref X_Duplicate) "__getattribute__" = some (some (.builtin "BaseException.__getattribute__"))) (hX_Duplicate : PySem.W.findIn K (.ref X_Duplicate) "__getattr__" = some none) (dX_Duplicate : PySem.W.hasDictIn K X_Duplicate = true) (cX_Duplicate : PySem.W.findIn K (.ref X_Duplicate) "__class__" = some (some (.builtin "object.__class__"))) (eX_Duplicate : PySem.W.specialIn K (.builtin "object.__class__") "__get__" = some (some (.builtin "getset_descriptor.__get__"))) (uX_Duplicate : PySem.W.takesIn K (.builtin "object.__class__") = some true) (mX_Duplicate : PySem.W.mroIn K X_Duplicate (.type "object") = some true) (vX_Duplicate : PySem.W.subIn K (.ref X_Duplicate) (.type "ValueError") = some true) (wX_Duplicate : PySem.W.subIn K (.ref X_Duplicate) (.type "LookupError") = some false)
    {nm_Rejected qn_Rejected : Str} {N_Rejected : Addr} {bs_Rejected bm_Rejected sb_Rejected : List Value} {sn_Rejected : List Str} {ab_Rejected : Bool} {co_Rejected : Option Bool} {dd_Rejected : Option Addr} {m0_Rejected m1_Rejected m2_Rejected m3_Rejected m5_Rejected : Option Value}
    (aX_Rejected : PySem.W.nsIn K mainGlobals "Rejected" = some (some (.ref X_Rejected))) (iX_Rejected : PySem.W.isClsIn K X_Rejected = true) (tX_Rejected : PySem.W.typeIn K (.ref X_Rejected) = some (.type "type")) (bX_Rejected : PySem.W.subIn K (.ref X_Rejected) (.type "BaseException") = some true) (xL_Rejected : K.lookup X_Rejected = some (excClassObj nm_Rejected qn_Rejected X_Rejected N_Rejected bs_Rejected bm_Rejected true sn_Rejected sb_Rejected ab_Rejected co_Rejected dd_Rejected m0_Rejected m1_Rejected m2_Rejected m3_Rejected m5_Rejected "ValueError.__new__")) (rL_Rejected : PySem.HandSPX.refsVE bm_Rejected = true) (sX_Rejected : PySem.W.findIn K (.ref X_Rejected) "__setattr__" = some (some (.builtin "object.__setattr__"))) (kX_Rejected : PySem.W.keepIn K (.ref X_Rejected) = true) (nX_Rejected : PySem.W.findIn K (.ref X_Rejected) "index" = some none) (fX_Rejected : PySem.W.typeIn K (.ref f43) = some (.type "function")) (gX_Rejected : PySem.W.findIn K (.ref X_Rejected) "__getattribute__" = some (some (.builtin "BaseException.__getattribute__"))) (hX_Rejected : PySem.W.findIn K (.ref X_Rejected) "__getattr__" = some none) (dX_Rejected : PySem.W.hasDictIn K X_Rejected = true) (cX_Rejected : PySem.W.findIn K (.ref X_Rejected) "__class__" = some (some (.builtin "object.__class__"))) (eX_Rejected : PySem.W.specialIn K (.builtin "object.__class__") "__get__" = some (some (.builtin "getset_descriptor.__get__"))) (uX_Rejected : PySem.W.takesIn K (.builtin "object.__class__") = some true) (mX_Rejected : PySem.W.mroIn K X_Rejected (.type "object") = some true) (vX_Rejected : PySem.W.subIn K (.ref X_Rejected) (.type "ValueError") = some true) (wX_Rejected : PySem.W.subIn K (.ref X_Rejected) (.type "LookupError") = some false)
    {nm_BadEdit qn_BadEdit : Str} {N_BadEdit : Addr} {bs_BadEdit bm_BadEdit sb_BadEdit : List Value} {sn_BadEdit : List Str} {ab_BadEdit : Bool} {co_BadEdit : Option Bool} {dd_BadEdit : Option Addr} {m0_BadEdit m1_BadEdit m2_BadEdit m3_BadEdit m5_BadEdit : Option Value}
    (aX_BadEdit : PySem.W.nsIn K mainGlobals "BadEdit" = some (some (.ref X_BadEdit))) (iX_BadEdit : PySem.W.isClsIn K X_BadEdit = true) (tX_BadEdit : PySem.W.typeIn K (.ref X_BadEdit) = some (.type "type")) (bX_BadEdit : PySem.W.subIn K (.ref X_BadEdit) (.type "BaseException") = some true) (xL_BadEdit : K.lookup X_BadEdit = some (excClassObj nm_BadEdit qn_BadEdit X_BadEdit N_BadEdit bs_BadEdit bm_BadEdit true sn_BadEdit sb_BadEdit ab_BadEdit co_BadEdit dd_BadEdit m0_BadEdit m1_BadEdit m2_BadEdit m3_BadEdit m5_BadEdit "ValueError.__new__")) (rL_BadEdit : PySem.HandSPX.refsVE bm_BadEdit = true) (sX_BadEdit : PySem.W.findIn K (.ref X_BadEdit) "__setattr__" = some (some (.builtin "object.__setattr__"))) (kX_BadEdit : PySem.W.keepIn K (.ref X_BadEdit) = true) (nX_BadEdit : PySem.W.findIn K (.ref X_BadEdit) "index" = some none) (fX_BadEdit : PySem.W.typeIn K (.ref f42) = some (.type "function")) (gX_BadEdit : PySem.W.findIn K (.ref X_BadEdit) "__getattribute__" = some (some (.builtin "BaseException.__getattribute__"))) (hX_BadEdit : PySem.W.findIn K (.ref X_BadEdit) "__getattr__" = some none) (dX_BadEdit : PySem.W.hasDictIn K X_BadEdit = true) (cX_BadEdit : PySem.W.findIn K (.ref X_BadEdit) "__class__" = some (some (.builtin "object.__class__"))) (eX_BadEdit : PySem.W.specialIn K (.builtin "object.__class__") "__get__" = some (some (.builtin "getset_descriptor.__get__"))) (uX_BadEdit : PySem.W.takesIn K (.builtin "object.__class__") = some true) (mX_BadEdit : PySem.W.mroIn K X_BadEdit (.type "object") = some true) (vX_BadEdit : PySem.W.subIn K (.ref X_BadEdit) (.type "ValueError") = some true) (wX_BadEdit : PySem.W.subIn K (.ref X_BadEdit) (.type "LookupError") = some false)
    (aX_BadEdits : PySem.W.nsIn K mainGlobals "BadEdits" = some (some (.ref X_BadEdits))) (iX_BadEdits : PySem.W.isClsIn K X_BadEdits = true) (tX_BadEdits : PySem.W.typeIn K (.ref X_BadEdits) = some (.type "type")) (bX_BadEdits : PySem.W.subIn K (.ref X_BadEdits) (.type "BaseException") = some true) (xX_BadEdits : PySem.W.excIn K X_BadEdits bmVE "ValueError.__new__" = true) (kX_BadEdits : PySem.W.keepIn K (.ref X_BadEdits) = true) (gX_BadEdits : PySem.W.findIn K (.ref X_BadEdits) "__getattribute__" = some (some (.builtin "BaseException.__getattribute__"))) (hX_BadEdits : PySem.W.findIn K (.ref X_BadEdits) "__getattr__" = some none) (dX_BadEdits : PySem.W.hasDictIn K X_BadEdits = true) (cX_BadEdits : PySem.W.findIn K (.ref X_BadEdits) "__class__" = some (some (.builtin "object.__class__"))) (eX_BadEdits : PySem.W.specialIn K (.builtin "object.__class__") "__get__" = some (some (.builtin "getset_descriptor.__get__"))) (uX_BadEdits : PySem.W.takesIn K (.builtin "object.__class__") = some true) (mX_BadEdits : PySem.W.mroIn K X_BadEdits (.type "object") = some true) (vX_BadEdits : PySem.W.subIn K (.ref X_BadEdits) (.type "ValueError") = some true)
    (aX_Busy : PySem.W.nsIn K mainGlobals "Busy" = some (some (.ref X_Busy))) (iX_Busy : PySem.W.isClsIn K X_Busy = true) (tX_Busy : PySem.W.typeIn K (.ref X_Busy) = some (.type "type")) (bX_Busy : PySem.W.subIn K (.ref X_Busy) (.type "BaseException") = some true)
    (sX_BadInterval_SpanError : PySem.W.subIn K (.ref X_BadInterval) (.ref X_SpanError) = some true)
    (sX_BadInterval_Unknown : PySem.W.subIn K (.ref X_BadInterval) (.ref X_Unknown) = some false)
    (sX_Duplicate_SpanError : PySem.W.subIn K (.ref X_Duplicate) (.ref X_SpanError) = some true)
    (sX_Duplicate_Unknown : PySem.W.subIn K (.ref X_Duplicate) (.ref X_Unknown) = some false)
    (sX_Unknown_SpanError : PySem.W.subIn K (.ref X_Unknown) (.ref X_SpanError) = some false)
    (sX_Unknown_Unknown : PySem.W.subIn K (.ref X_Unknown) (.ref X_Unknown) = some true)
    (sX_Rejected_SpanError : PySem.W.subIn K (.ref X_Rejected) (.ref X_SpanError) = some true)
    (sX_Rejected_Rejected : PySem.W.subIn K (.ref X_Rejected) (.ref X_Rejected) = some true)
    (sX_Rejected_BadEdit : PySem.W.subIn K (.ref X_Rejected) (.ref X_BadEdit) = some false)
    (sX_Rejected_BadEdits : PySem.W.subIn K (.ref X_Rejected) (.ref X_BadEdits) = some false)
    (sX_Rejected_Busy : PySem.W.subIn K (.ref X_Rejected) (.ref X_Busy) = some false)
    (sX_BadEdit_SpanError : PySem.W.subIn K (.ref X_BadEdit) (.ref X_SpanError) = some true)
    (sX_BadEdit_Rejected : PySem.W.subIn K (.ref X_BadEdit) (.ref X_Rejected) = some false)
    (sX_BadEdit_BadEdit : PySem.W.subIn K (.ref X_BadEdit) (.ref X_BadEdit) = some true)
    (sX_BadEdit_BadEdits : PySem.W.subIn K (.ref X_BadEdit) (.ref X_BadEdits) = some false)
    (sX_BadEdit_Busy : PySem.W.subIn K (.ref X_BadEdit) (.ref X_Busy) = some false)
    (sX_BadEdits_SpanError : PySem.W.subIn K (.ref X_BadEdits) (.ref X_SpanError) = some true)
    (sX_BadEdits_Rejected : PySem.W.subIn K (.ref X_BadEdits) (.ref X_Rejected) = some false)
    (sX_BadEdits_BadEdit : PySem.W.subIn K (.ref X_BadEdits) (.ref X_BadEdit) = some false)
    (sX_BadEdits_BadEdits : PySem.W.subIn K (.ref X_BadEdits) (.ref X_BadEdits) = some true)
    (sX_BadEdits_Busy : PySem.W.subIn K (.ref X_BadEdits) (.ref X_Busy) = some false)
    {tw0_0 tw0_1 tw0_2 tw0_3 : Tok} {odW0 : Option Addr} {nW0 : Nat} {slW0 : Array (Option Value)}
    (y0 : PySem.W.nsIn K mainGlobals "LAST_POSITION" = some (some (.int 1000000000000 tk0))) (y1 : PySem.W.nsIn K mainGlobals "MAX_TARGETS" = some (some (.int 24 tk1))) (y2 : PySem.W.nsIn K mainGlobals "MAX_PIECES" = some (some (.int 30 tk2))) (y3 : PySem.W.nsIn K mainGlobals "MAX_EDITS" = some (some (.int 60 tk3))) (y4 : PySem.W.nsIn K mainGlobals "BATCH" = some (some (.int 20 tk4))) (yW0 : PySem.W.nsIn K mainGlobals "WORDS" = some (some (.ref tW0))) (lW0 : K.lookup tW0 = some ⟨.type "tuple", odW0, .seq #[.str "add_target" tw0_0, .str "add_piece" tw0_1, .str "remove_target" tw0_2, .str "remove_piece" tw0_3] nW0, slW0⟩) (z0 : PySem.W.nsIn K mainGlobals "ValueError" = some none) (z1 : PySem.W.nsIn K mainGlobals "abs" = some none) (z2 : PySem.W.nsIn K mainGlobals "bool" = some none) (z3 : PySem.W.nsIn K mainGlobals "enumerate" = some none) (z4 : PySem.W.nsIn K mainGlobals "int" = some none) (z5 : PySem.W.nsIn K mainGlobals "isinstance" = some none) (z6 : PySem.W.nsIn K mainGlobals "len" = some none) (z7 : PySem.W.nsIn K mainGlobals "list" = some none) (z8 : PySem.W.nsIn K mainGlobals "range" = some none) (z9 : PySem.W.nsIn K mainGlobals "repr" = some none) (z10 : PySem.W.nsIn K mainGlobals "set" = some none) (z11 : PySem.W.nsIn K mainGlobals "sorted" = some none) (z12 : PySem.W.nsIn K mainGlobals "str" = some none) (z13 : PySem.W.nsIn K mainGlobals "tuple" = some none) :
    ∃ fd : FuncData, (∀ (s : Shared) (v : Value), BindsTo s fd ⟨[v], []⟩ [("_law_script", v)]) ∧ ∀ base : Heap, K.In base → base.Ns mainGlobals mg → (∃ mm, base.Ns sysModules mm) → FnG l.prog w K mg base 16 fa fd ["_law_script"] (sp_law K) := by
  have e := hfa.symm.trans (PySem.W.mg_of X G a27)
  cases e
  have F1 := fun_mk (st := s_is_number) l1 c1 k1
  have b1 := F1.binds (ps := ["value"]) fun _ _ _ _ _ _ us hl => match us, hl with | [_], _ => rfl
  have F2 := fun_mk (st := s_is_position) l2 c2 k2
  have b2 := F2.binds (ps := ["value"]) fun _ _ _ _ _ _ us hl => match us, hl with | [_], _ => rfl
  have F3 := fun_mk (st := s_is_tuple_of) l3 c3 k3
  have b3 := F3.binds (ps := ["value", "length"]) fun _ _ _ _ _ _ us hl => match us, hl with | [_, _], _ => rfl
  have F4 := fun_mk (st := s_is_interval) l4 c4 k4
  have b4 := F4.binds (ps := ["value"]) fun _ _ _ _ _ _ us hl => match us, hl with | [_], _ => rfl
  have F5 := fun_mk (st := s_ascending_error) l5 c5 k5
  have b5 := F5.binds (ps := ["value", "most"]) fun _ _ _ _ _ _ us hl => match us, hl with | [_, _], _ => rfl
  have F6 := fun_mk (st := s_targets_error) l6 c6 k6
  have b6 := F6.binds (ps := ["value"]) fun _ _ _ _ _ _ us hl => match us, hl with | [_], _ => rfl
  have F7 := fun_mk (st := s_is_pieces) l7 c7 k7
  have b7 := F7.binds (ps := ["value"]) fun _ _ _ _ _ _ us hl => match us, hl with | [_], _ => rfl
  have F8 := fun_mk (st := s_without_item) l8 c8 k8
  have b8 := F8.binds (ps := ["items", "item"]) fun _ _ _ _ _ _ us hl => match us, hl with | [_, _], _ => rfl
  have F9 := fun_mk (st := s_is_edit) l9 c9 k9
  have b9 := F9.binds (ps := ["value"]) fun _ _ _ _ _ _ us hl => match us, hl with | [_], _ => rfl
  have F10 := fun_mk (st := s_copied_batch) l10 c10 k10
  have b10 := F10.binds (ps := ["value"]) fun _ _ _ _ _ _ us hl => match us, hl with | [_], _ => rfl
  have F11 := fun_mk (st := s_with_interval) l11 c11 k11
  have b11 := F11.binds (ps := ["intervals", "value", "bound"]) fun _ _ _ _ _ _ us hl => match us, hl with | [_, _, _], _ => rfl
  have F12 := fun_mk (st := s_without_interval) l12 c12 k12
  have b12 := F12.binds (ps := ["intervals", "value"]) fun _ _ _ _ _ _ us hl => match us, hl with | [_, _], _ => rfl
  have F13 := fun_mk (st := s_edited_state) l13 c13 k13
  have b13 := F13.binds (ps := ["state", "word", "value"]) fun _ _ _ _ _ _ us hl => match us, hl with | [_, _, _], _ => rfl
  have F14 := fun_mk (st := s_law_deck) l14 c14 k14
  have b14 := F14.binds (ps := ["_law_script"]) fun _ _ _ _ _ _ us hl => match us, hl with | [_], _ => rfl
  have F15 := fun_mk (st := s_law_draw) l15 c15 k15
  have b15 := F15.binds (ps := ["_law_deck_here", "_law_many"]) fun _ _ _ _ _ _ us hl => match us, hl with | [_, _], _ => rfl
  have F16 := fun_mk (st := s_law_line) l16 c16 k16
  have b16 := F16.binds (ps := ["_law_deck_here", "_law_most"]) fun _ _ _ _ _ _ us hl => match us, hl with | [_, _], _ => rfl
  have F17 := fun_mk (st := s_law_interval) l17 c17 k17
  have b17 := F17.binds (ps := ["_law_deck_here", "_law_line_here"]) fun _ _ _ _ _ _ us hl => match us, hl with | [_, _], _ => rfl
  have F18 := fun_mk (st := s_law_intervals) l18 c18 k18
  have b18 := F18.binds (ps := ["_law_deck_here", "_law_line_here", "_law_most"]) fun _ _ _ _ _ _ us hl => match us, hl with | [_, _, _], _ => rfl
  have F19 := fun_mk (st := s_law_edit) l19 c19 k19
  have b19 := F19.binds (ps := ["_law_deck_here", "_law_line_here", "_law_state"]) fun _ _ _ _ _ _ us hl => match us, hl with | [_, _, _], _ => rfl
  have F20 := fun_mk (st := s_law_after) l20 c20 k20
  have b20 := F20.binds (ps := ["_law_state", "_law_edit_here"]) fun _ _ _ _ _ _ us hl => match us, hl with | [_, _], _ => rfl
  have F21 := fun_mk (st := s_law_right) l21 c21 k21
  have b21 := F21.binds (ps := ["_law_plan", "_law_state", "_law_edits"]) fun _ _ _ _ _ _ us hl => match us, hl with | [_, _, _], _ => rfl
  have F22 := fun_mk (st := s_law_begun) l22 c22 k22
  have b22 := F22.binds (ps := ["_law_deck_here", "_law_most"]) fun _ _ _ _ _ _ us hl => match us, hl with | [_, _], _ => rfl
  have F23 := fun_mk (st := s_law_applied) l23 c23 k23
  have b23 := F23.binds (ps := ["_law_plan", "_law_batch_here"]) fun _ _ _ _ _ _ us hl => match us, hl with | [_, _], _ => rfl
  have F24 := fun_mk (st := s_law_failing) l24 c24 k24
  have b24 := F24.binds (ps := ["_law_deck_here", "_law_state"]) fun _ _ _ _ _ _ us hl => match us, hl with | [_, _], _ => rfl
  have F25 := fun_mk (st := s_law_bad) l25 c25 k25
  have b25 := F25.binds (ps := ["_law_deck_here"]) fun _ _ _ _ _ _ us hl => match us, hl with | [_], _ => rfl
  have F26 := fun_mk (st := s_law_batch) l26 c26 k26
  have b26 := F26.binds (ps := ["_law_deck_here", "_law_line_here", "_law_state"]) fun _ _ _ _ _ _ us hl => match us, hl with | [_, _, _], _ => rfl
  have F27 := fun_mk (st := s_law) l27 c27 k27
  have b27 := F27.binds (ps := ["_law_script"]) fun _ _ _ _ _ _ us hl => match us, hl with | [_], _ => rfl
  have F28 := fun_mk (st := s_Plan_init) l28 c28 k28
  have b28 := F28.binds (ps := ["self", "targets", "pieces"]) fun _ _ _ _ _ _ us hl => match us, hl with | [_, _, _], _ => rfl
  have F29 : FunD K "apply" "Plan.apply" (defArgs s_Plan_apply) (defBody s_Plan_apply) (defScope s_Plan_apply) [] [("check", V.non)] f29 _ := ⟨⟨oc29, od29, .none, .ref kD29, dc29, pm29, an29, cd29, ct29, sl29, rfl, l29, c29, .inl ⟨rfl, rfl⟩, .inr ⟨kD29, rfl, fun q hq => by rw [List.mem_singleton.mp hq]; exact ⟨.none, q29, rfl⟩⟩⟩, k29⟩
  have b29 := F29.binds0 (ps := ["self", "edits", "check"]) 2 (fun z => nomatch z) rfl fun D _ _ _ _ _ us ks h1 h2 => match us, ks, h1, h2 with | [_, _], [_], _, _ => ⟨_, _, _, _, _, _, rfl, rfl, rfl⟩
  have kb29 := F29.kbinds0 (ps := ["self", "edits", "check"]) 2 ["check"] [] (fun us _ ws => us ++ ws) (fun z => nomatch z) (fun q hq => nomatch hq) (fun r1 _ r3 => r1.append r3) fun D _ _ _ _ _ us mv ws h1 h2 h3 => match us, mv, ws, h1, h2, h3 with | [_, _], [], [_], _, _, _ => rfl
  have F30 : FunD K "targets" "Plan.targets" (defArgs s_Plan_targets) (defBody s_Plan_targets) (defScope s_Plan_targets) [] [("version", V.non)] f30 _ := ⟨⟨oc30, od30, .none, .ref kD30, dc30, pm30, an30, cd30, ct30, sl30, rfl, l30, c30, .inl ⟨rfl, rfl⟩, .inr ⟨kD30, rfl, fun q hq => by rw [List.mem_singleton.mp hq]; exact ⟨.none, q30, rfl⟩⟩⟩, k30⟩
  have b30 := F30.binds0 (ps := ["self", "version"]) 1 (fun z => nomatch z) rfl fun D _ _ _ _ _ us ks h1 h2 => match us, ks, h1, h2 with | [_], [_], _, _ => ⟨_, _, _, _, _, _, rfl, rfl, rfl⟩
  have kb30 := F30.kbinds0 (ps := ["self", "version"]) 1 ["version"] [] (fun us _ ws => us ++ ws) (fun z => nomatch z) (fun q hq => nomatch hq) (fun r1 _ r3 => r1.append r3) fun D _ _ _ _ _ us mv ws h1 h2 h3 => match us, mv, ws, h1, h2, h3 with | [_], [], [_], _, _, _ => rfl
  have F31 : FunD K "pieces" "Plan.pieces" (defArgs s_Plan_pieces) (defBody s_Plan_pieces) (defScope s_Plan_pieces) [] [("version", V.non)] f31 _ := ⟨⟨oc31, od31, .none, .ref kD31, dc31, pm31, an31, cd31, ct31, sl31, rfl, l31, c31, .inl ⟨rfl, rfl⟩, .inr ⟨kD31, rfl, fun q hq => by rw [List.mem_singleton.mp hq]; exact ⟨.none, q31, rfl⟩⟩⟩, k31⟩
  have b31 := F31.binds0 (ps := ["self", "version"]) 1 (fun z => nomatch z) rfl fun D _ _ _ _ _ us ks h1 h2 => match us, ks, h1, h2 with | [_], [_], _, _ => ⟨_, _, _, _, _, _, rfl, rfl, rfl⟩
  have kb31 := F31.kbinds0 (ps := ["self", "version"]) 1 ["version"] [] (fun us _ ws => us ++ ws) (fun z => nomatch z) (fun q hq => nomatch hq) (fun r1 _ r3 => r1.append r3) fun D _ _ _ _ _ us mv ws h1 h2 h3 => match us, mv, ws, h1, h2, h3 with | [_], [], [_], _, _, _ => rfl
  have F32 := fun_mk (st := s_Plan_edits) l32 c32 k32
  have b32 := F32.binds (ps := ["self"]) fun _ _ _ _ _ _ us hl => match us, hl with | [_], _ => rfl
  have F33 := fun_mk (st := s_Plan_record) l33 c33 k33
  have b33 := F33.binds (ps := ["self", "word", "value"]) fun _ _ _ _ _ _ us hl => match us, hl with | [_, _, _], _ => rfl
  have F34 := fun_mk (st := s_Plan_record_or_reject) l34 c34 k34
  have b34 := F34.binds (ps := ["self", "index", "word", "value"]) fun _ _ _ _ _ _ us hl => match us, hl with | [_, _, _, _], _ => rfl
  have F35 := fun_mk (st := s_Plan_passes) l35 c35 k35
  have b35 := F35.binds (ps := ["self", "check"]) fun _ _ _ _ _ _ us hl => match us, hl with | [_, _], _ => rfl
  have F36 := fun_mk (st := s_Plan_require_idle) l36 c36 k36
  have b36 := F36.binds (ps := ["self"]) fun _ _ _ _ _ _ us hl => match us, hl with | [_], _ => rfl
  have F37 := fun_mk (st := s_Plan_state_at) l37 c37 k37
  have b37 := F37.binds (ps := ["self", "version"]) fun _ _ _ _ _ _ us hl => match us, hl with | [_, _], _ => rfl
  have F38 := fun_mk (st := s_Plan_len) l38 c38 k38
  have b38 := F38.binds (ps := ["self"]) fun _ _ _ _ _ _ us hl => match us, hl with | [_], _ => rfl
  have F39 := fun_mk (st := s_Plan_str) l39 c39 k39
  have b39 := F39.binds (ps := ["self"]) fun _ _ _ _ _ _ us hl => match us, hl with | [_], _ => rfl
  have F40 := fun_mk (st := s_BadInterval_init) l40 c40 k40
  have b40 := F40.binds (ps := ["self", "value"]) fun _ _ _ _ _ _ us hl => match us, hl with | [_, _], _ => rfl
  have F41 := fun_mk (st := s_Duplicate_init) l41 c41 k41
  have b41 := F41.binds (ps := ["self", "value"]) fun _ _ _ _ _ _ us hl => match us, hl with | [_, _], _ => rfl
  have F42 := fun_mk (st := s_BadEdit_init) l42 c42 k42
  have b42 := F42.binds (ps := ["self", "index"]) fun _ _ _ _ _ _ us hl => match us, hl with | [_, _], _ => rfl
  have F43 := fun_mk (st := s_Rejected_init) l43 c43 k43
  have b43 := F43.binds (ps := ["self", "index"]) fun _ _ _ _ _ _ us hl => match us, hl with | [_, _], _ => rfl
  have F44 := fun_mk (st := s_Unknown_init) l44 c44 k44
  have b44 := F44.binds (ps := ["self", "value"]) fun _ _ _ _ _ _ us hl => match us, hl with | [_, _], _ => rfl
  have T : Tx K mg _ _ _ _ _ _ _ _ _ _ _ _ _ _ _ _ _ _ _ _ _ _ _ _ _ _ _ _ _ _ _ _ _ _ _ _ _ _ _ _ _ _ _ _ _ _ _ _ _ _ _ _ _ _ _ _ _ _ _ _ _ _ _ _ _ _ _ _ _ _ _ _ _ _ _ _ _ _ _ _ _ _ _ _ _ _ _ _ _ _ _ _ _ _ _ _ _ tk0 tk1 tk2 tk3 tk4 tW0 := ⟨F1, b1, PySem.W.mg_of X G a1, F2, b2, PySem.W.mg_of X G a2, F3, b3, PySem.W.mg_of X G a3, F4, b4, PySem.W.mg_of X G a4, F5, b5, PySem.W.mg_of X G a5, F6, b6, PySem.W.mg_of X G a6, F7, b7, PySem.W.mg_of X G a7, F8, b8, PySem.W.mg_of X G a8, F9, b9, PySem.W.mg_of X G a9, F10, b10, PySem.W.mg_of X G a10, F11, b11, PySem.W.mg_of X G a11, F12, b12, PySem.W.mg_of X G a12, F13, b13, PySem.W.mg_of X G a13, F14, b14, PySem.W.mg_of X G a14, F15, b15, PySem.W.mg_of X G a15, F16, b16, PySem.W.mg_of X G a16, F17, b17, PySem.W.mg_of X G a17, F18, b18, PySem.W.mg_of X G a18, F19, b19, PySem.W.mg_of X G a19, F20, b20, PySem.W.mg_of X G a20, F21, b21, PySem.W.mg_of X G a21, F22, b22, PySem.W.mg_of X G a22, F23, b23, PySem.W.mg_of X G a23, F24, b24, PySem.W.mg_of X G a24, F25, b25, PySem.W.mg_of X G a25, F26, b26, PySem.W.mg_of X G a26, F27, b27, PySem.W.mg_of X G a27, F28, b28, ⟨a28, i28, k28⟩, F29, b29, kb29.choose_spec, ⟨a29, i29, k29⟩, F30, b30, kb30.choose_spec, ⟨a30, i30, k30⟩, F31, b31, kb31.choose_spec, ⟨a31, i31, k31⟩, F32, b32, ⟨a32, i32, k32⟩, F33, b33, ⟨a33, i33, k33⟩, F34, b34, ⟨a34, i34, k34⟩, F35, b35, ⟨a35, i35, k35⟩, F36, b36, ⟨a36, i36, k36⟩, F37, b37, ⟨a37, i37, k37⟩, F38, b38, ⟨a38, i38, k38⟩, F39, b39, ⟨a39, i39, k39⟩, F40, b40, F41, b41, F42, b42, F43, b43, F44, b44, PySem.W.mg_of X G y0, PySem.W.mg_of X G y1, PySem.W.mg_of X G y2, PySem.W.mg_of X G y3, PySem.W.mg_of X G y4, PySem.W.mg_of X G yW0, ⟨_, _, _, lW0, rfl, rfl, by show 4 ≤ sizeLine; decide, (.cons ⟨_, rfl⟩ (.cons ⟨_, rfl⟩ (.cons ⟨_, rfl⟩ (.cons ⟨_, rfl⟩ Paired.nil))))⟩, PySem.W.mg_none_of X G z0, PySem.W.mg_none_of X G z1, PySem.W.mg_none_of X G z2, PySem.W.mg_none_of X G z3, PySem.W.mg_none_of X G z4, PySem.W.mg_none_of X G z5, PySem.W.mg_none_of X G z6, PySem.W.mg_none_of X G z7, PySem.W.mg_none_of X G z8, PySem.W.mg_none_of X G z9, PySem.W.mg_none_of X G z10, PySem.W.mg_none_of X G z11, PySem.W.mg_none_of X G z12, PySem.W.mg_none_of X G z13, ⟨pg_Plan, hd_Plan, po_Plan, sa_Plan⟩, PySem.W.mg_of X G aC_Plan, ⟨mk_Plan, a28, i28, kc_Plan⟩, n_states_Plan, n_done_Plan, n_busy_Plan, ⟨PySem.W.mg_of X G aX_BadInterval, iX_BadInterval, tX_BadInterval, bX_BadInterval⟩, ⟨PySem.W.mg_of X G aX_SpanError, iX_SpanError, tX_SpanError, bX_SpanError⟩, ⟨PySem.W.mg_of X G aX_Unknown, iX_Unknown, tX_Unknown, bX_Unknown⟩, ⟨PySem.W.mg_of X G aX_Duplicate, iX_Duplicate, tX_Duplicate, bX_Duplicate⟩, ⟨PySem.W.mg_of X G aX_Rejected, iX_Rejected, tX_Rejected, bX_Rejected⟩, ⟨PySem.W.mg_of X G aX_BadEdit, iX_BadEdit, tX_BadEdit, bX_BadEdit⟩, ⟨PySem.W.mg_of X G aX_BadEdits, iX_BadEdits, tX_BadEdits, bX_BadEdits⟩, ⟨PySem.W.mg_of X G aX_Busy, iX_Busy, tX_Busy, bX_Busy⟩, ⟨⟨⟨nm_BadInterval, qn_BadInterval, N_BadInterval, bs_BadInterval, bm_BadInterval, sn_BadInterval, sb_BadInterval, ab_BadInterval, co_BadInterval, dd_BadInterval, m0_BadInterval, m1_BadInterval, m2_BadInterval, m3_BadInterval, m5_BadInterval, xL_BadInterval, rL_BadInterval⟩, sX_BadInterval, bX_BadInterval, tX_BadInterval, kX_BadInterval⟩, a40, fX_BadInterval, nX_BadInterval, ⟨gX_BadInterval, hX_BadInterval, bX_BadInterval, dX_BadInterval, cX_BadInterval, eX_BadInterval, uX_BadInterval, mX_BadInterval⟩⟩, ⟨xG_BadInterval, oG_BadInterval, sX_BadInterval, kX_BadInterval, tX_BadInterval, a40, fX_BadInterval, nX_BadInterval, ⟨gX_BadInterval, hX_BadInterval, bX_BadInterval, dX_BadInterval, cX_BadInterval, eX_BadInterval, uX_BadInterval, mX_BadInterval⟩⟩, vX_BadInterval, wX_BadInterval, sX_BadInterval_SpanError, sX_BadInterval_Unknown, ⟨⟨⟨nm_Duplicate, qn_Duplicate, N_Duplicate, bs_Duplicate, bm_Duplicate, sn_Duplicate, sb_Duplicate, ab_Duplicate, co_Duplicate, dd_Duplicate, m0_Duplicate, m1_Duplicate, m2_Duplicate, m3_Duplicate, m5_Duplicate, xL_Duplicate, rL_Duplicate⟩, sX_Duplicate, bX_Duplicate, tX_Duplicate, kX_Duplicate⟩, a41, fX_Duplicate, nX_Duplicate, ⟨gX_Duplicate, hX_Duplicate, bX_Duplicate, dX_Duplicate, cX_Duplicate, eX_Duplicate, uX_Duplicate, mX_Duplicate⟩⟩, ⟨xG_Duplicate, oG_Duplicate, sX_Duplicate, kX_Duplicate, tX_Duplicate, a41, fX_Duplicate, nX_Duplicate, ⟨gX_Duplicate, hX_Duplicate, bX_Duplicate, dX_Duplicate, cX_Duplicate, eX_Duplicate, uX_Duplicate, mX_Duplicate⟩⟩, vX_Duplicate, wX_Duplicate, sX_Duplicate_SpanError, sX_Duplicate_Unknown, ⟨xG_Unknown, oG_Unknown, sX_Unknown, kX_Unknown, tX_Unknown, a44, fX_Unknown, nX_Unknown, ⟨gX_Unknown, hX_Unknown, bX_Unknown, dX_Unknown, cX_Unknown, eX_Unknown, uX_Unknown, mX_Unknown⟩⟩, vX_Unknown, wX_Unknown, sX_Unknown_SpanError, sX_Unknown_Unknown, ⟨⟨⟨nm_Rejected, qn_Rejected, N_Rejected, bs_Rejected, bm_Rejected, sn_Rejected, sb_Rejected, ab_Rejected, co_Rejected, dd_Rejected, m0_Rejected, m1_Rejected, m2_Rejected, m3_Rejected, m5_Rejected, xL_Rejected, rL_Rejected⟩, sX_Rejected, bX_Rejected, tX_Rejected, kX_Rejected⟩, a43, fX_Rejected, nX_Rejected, ⟨gX_Rejected, hX_Rejected, bX_Rejected, dX_Rejected, cX_Rejected, eX_Rejected, uX_Rejected, mX_Rejected⟩⟩, vX_Rejected, wX_Rejected, sX_Rejected_SpanError, sX_Rejected_Rejected, sX_Rejected_BadEdit, sX_Rejected_BadEdits, sX_Rejected_Busy, ⟨⟨⟨nm_BadEdit, qn_BadEdit, N_BadEdit, bs_BadEdit, bm_BadEdit, sn_BadEdit, sb_BadEdit, ab_BadEdit, co_BadEdit, dd_BadEdit, m0_BadEdit, m1_BadEdit, m2_BadEdit, m3_BadEdit, m5_BadEdit, xL_BadEdit, rL_BadEdit⟩, sX_BadEdit, bX_BadEdit, tX_BadEdit, kX_BadEdit⟩, a42, fX_BadEdit, nX_BadEdit, ⟨gX_BadEdit, hX_BadEdit, bX_BadEdit, dX_BadEdit, cX_BadEdit, eX_BadEdit, uX_BadEdit, mX_BadEdit⟩⟩, vX_BadEdit, wX_BadEdit, sX_BadEdit_SpanError, sX_BadEdit_Rejected, sX_BadEdit_BadEdit, sX_BadEdit_BadEdits, sX_BadEdit_Busy, ⟨xX_BadEdits, kX_BadEdits, ⟨gX_BadEdits, hX_BadEdits, bX_BadEdits, dX_BadEdits, cX_BadEdits, eX_BadEdits, uX_BadEdits, mX_BadEdits⟩⟩, vX_BadEdits, sX_BadEdits_SpanError, sX_BadEdits_Rejected, sX_BadEdits_BadEdit, sX_BadEdits_BadEdits, sX_BadEdits_Busy⟩
  exact ⟨_, fun s v => .of_eq rfl, fun base _ _ hM => ok_law T hM⟩
end L9
open PySem PySem.W PyProof.Rows
set_option maxHeartbeats 0 in
theorem PySem.Challenge.cw_fewspans_k74_batches_applied_holds : PySem.Challenge.rw_fewspans_k74_batches_applied.Holds := by
  w_on; o_law; k_head; (case hw => w_witness2)
  k_fill
  refine L9.quiet_walk (l := PySem.Challenge.rw_fewspans_k74_batches_applied) (n := 63) (k := 16) (x := "_law_script") (sp := fun w => L9.sp_law _) (by decide +kernel) rfl (by decide) rfl ⟨rfl, by decide, by decide⟩ (fun w h Y => PySem.W.kIn_of Y) ?F (fun _ _ a ns hl _ hS => ⟨a, ns, rfl, hS, hl, fun _ => rfl⟩)
  case F =>
    intro w mg fa h KX G hmg
    refine' L9.all_mk KX G hmg ?a1 ?l1 ?c1 ?k1 ?a2 ?l2 ?c2 ?k2 ?a3 ?l3 ?c3 ?k3 ?a4 ?l4 ?c4 ?k4 ?a5 ?l5 ?c5 ?k5 ?a6 ?l6 ?c6 ?k6 ?a7 ?l7 ?c7 ?k7 ?a8 ?l8 ?c8 ?k8 ?a9 ?l9 ?c9 ?k9 ?a10 ?l10 ?c10 ?k10 ?a11 ?l11 ?c11 ?k11 ?a12 ?l12 ?c12 ?k12 ?a13 ?l13 ?c13 ?k13 ?a14 ?l14 ?c14 ?k14 ?a15 ?l15 ?c15 ?k15 ?a16 ?l16 ?c16 ?k16 ?a17 ?l17 ?c17 ?k17 ?a18 ?l18 ?c18 ?k18 ?a19 ?l19 ?c19 ?k19 ?a20 ?l20 ?c20 ?k20 ?a21 ?l21 ?c21 ?k21 ?a22 ?l22 ?c22 ?k22 ?a23 ?l23 ?c23 ?k23 ?a24 ?l24 ?c24 ?k24 ?a25 ?l25 ?c25 ?k25 ?a26 ?l26 ?c26 ?k26 ?a27 ?l27 ?c27 ?k27 ?a28 ?i28 ?l28 ?c28 ?k28 ?a29 ?i29 ?l29 ?c29 ?k29 ?q29 ?a30 ?i30 ?l30 ?c30 ?k30 ?q30 ?a31 ?i31 ?l31 ?c31 ?k31 ?q31 ?a32 ?i32 ?l32 ?c32 ?k32 ?a33 ?i33 ?l33 ?c33 ?k33 ?a34 ?i34 ?l34 ?c34 ?k34 ?a35 ?i35 ?l35 ?c35 ?k35 ?a36 ?i36 ?l36 ?c36 ?k36 ?a37 ?i37 ?l37 ?c37 ?k37 ?a38 ?i38 ?l38 ?c38 ?k38 ?a39 ?i39 ?l39 ?c39 ?k39 ?a40 ?i40 ?l40 ?c40 ?k40 ?a41 ?i41 ?l41 ?c41 ?k41 ?a42 ?i42 ?l42 ?c42 ?k42 ?a43 ?i43 ?l43 ?c43 ?k43 ?a44 ?i44 ?l44 ?c44 ?k44 ?aC_Plan ?pg_Plan ?hd_Plan ?po_Plan ?sa_Plan ?mk_Plan ?kc_Plan ?n_states_Plan ?n_done_Plan ?n_busy_Plan ?aX_BadInterval ?iX_BadInterval ?tX_BadInterval ?bX_BadInterval ?xG_BadInterval ?oG_BadInterval ?xL_BadInterval ?rL_BadInterval ?sX_BadInterval ?kX_BadInterval ?nX_BadInterval ?fX_BadInterval ?gX_BadInterval ?hX_BadInterval ?dX_BadInterval ?cX_BadInterval ?eX_BadInterval ?uX_BadInterval ?mX_BadInterval ?vX_BadInterval ?wX_BadInterval ?aX_SpanError ?iX_SpanError ?tX_SpanError ?bX_SpanError ?aX_Unknown ?iX_Unknown ?tX_Unknown ?bX_Unknown ?xG_Unknown ?oG_Unknown ?sX_Unknown ?kX_Unknown ?nX_Unknown ?fX_Unknown ?gX_Unknown ?hX_Unknown ?dX_Unknown ?cX_Unknown ?eX_Unknown ?uX_Unknown ?mX_Unknown ?vX_Unknown ?wX_Unknown ?aX_Duplicate ?iX_Duplicate ?tX_Duplicate ?bX_Duplicate ?xG_Duplicate ?oG_Duplicate ?xL_Duplicate ?rL_Duplicate ?sX_Duplicate ?kX_Duplicate ?nX_Duplicate ?fX_Duplicate ?gX_Duplicate ?hX_Duplicate ?dX_Duplicate ?cX_Duplicate ?eX_Duplicate ?uX_Duplicate ?mX_Duplicate ?vX_Duplicate ?wX_Duplicate ?aX_Rejected ?iX_Rejected ?tX_Rejected ?bX_Rejected ?xL_Rejected ?rL_Rejected ?sX_Rejected ?kX_Rejected ?nX_Rejected ?fX_Rejected ?gX_Rejected ?hX_Rejected ?dX_Rejected ?cX_Rejected ?eX_Rejected ?uX_Rejected ?mX_Rejected ?vX_Rejected ?wX_Rejected ?aX_BadEdit ?iX_BadEdit ?tX_BadEdit ?bX_BadEdit ?xL_BadEdit ?rL_BadEdit ?sX_BadEdit ?kX_BadEdit ?nX_BadEdit ?fX_BadEdit ?gX_BadEdit ?hX_BadEdit ?dX_BadEdit ?cX_BadEdit ?eX_BadEdit ?uX_BadEdit ?mX_BadEdit ?vX_BadEdit ?wX_BadEdit ?aX_BadEdits ?iX_BadEdits ?tX_BadEdits ?bX_BadEdits ?xX_BadEdits ?kX_BadEdits ?gX_BadEdits ?hX_BadEdits ?dX_BadEdits ?cX_BadEdits ?eX_BadEdits ?uX_BadEdits ?mX_BadEdits ?vX_BadEdits ?aX_Busy ?iX_Busy ?tX_Busy ?bX_Busy ?sX_BadInterval_SpanError ?sX_BadInterval_Unknown ?sX_Duplicate_SpanError ?sX_Duplicate_Unknown ?sX_Unknown_SpanError ?sX_Unknown_Unknown ?sX_Rejected_SpanError ?sX_Rejected_Rejected ?sX_Rejected_BadEdit ?sX_Rejected_BadEdits ?sX_Rejected_Busy ?sX_BadEdit_SpanError ?sX_BadEdit_Rejected ?sX_BadEdit_BadEdit ?sX_BadEdit_BadEdits ?sX_BadEdit_Busy ?sX_BadEdits_SpanError ?sX_BadEdits_Rejected ?sX_BadEdits_BadEdit ?sX_BadEdits_BadEdits ?sX_BadEdits_Busy ?y0 ?y1 ?y2 ?y3 ?y4 ?yW0 ?lW0 ?z0 ?z1 ?z2 ?z3 ?z4 ?z5 ?z6 ?z7 ?z8 ?z9 ?z10 ?z11 ?z12 ?z13
    (case aC_Plan => k_is)
    (case aX_BadInterval => k_is)
    (case aX_SpanError => k_is)
    (case aX_Unknown => k_is)
    (case aX_Duplicate => k_is)
    (case aX_Rejected => k_is)
    (case aX_BadEdit => k_is)
    (case aX_BadEdits => k_is)
    (case aX_Busy => k_is)
    (case a1 => k_is)
    (case l1 => k_is)
    (case c1 => k_is)
    (case k1 => k_is)
    (case a2 => k_is)
    (case l2 => k_is)
    (case c2 => k_is)
    (case k2 => k_is)
    (case a3 => k_is)
    (case l3 => k_is)
    (case c3 => k_is)
    (case k3 => k_is)
    (case a4 => k_is)
    (case l4 => k_is)
    (case c4 => k_is)
    (case k4 => k_is)
    (case a5 => k_is)
    (case l5 => k_is)
    (case c5 => k_is)
    (case k5 => k_is)
    (case a6 => k_is)
    (case l6 => k_is)
    (case c6 => k_is)
    (case k6 => k_is)
    (case a7 => k_is)
    (case l7 => k_is)
    (case c7 => k_is)
    (case k7 => k_is)
    (case a8 => k_is)
    (case l8 => k_is)
    (case c8 => k_is)
    (case k8 => k_is)
    (case a9 => k_is)
    (case l9 => k_is)
    (case c9 => k_is)
    (case k9 => k_is)
    (case a10 => k_is)
    (case l10 => k_is)
    (case c10 => k_is)
    (case k10 => k_is)
    (case a11 => k_is)
    (case l11 => k_is)
    (case c11 => k_is)
    (case k11 => k_is)
    (case a12 => k_is)
    (case l12 => k_is)
    (case c12 => k_is)
    (case k12 => k_is)
    (case a13 => k_is)
    (case l13 => k_is)
    (case c13 => k_is)
    (case k13 => k_is)
    (case a14 => k_is)
    (case l14 => k_is)
    (case c14 => k_is)
    (case k14 => k_is)
    (case a15 => k_is)
    (case l15 => k_is)
    (case c15 => k_is)
    (case k15 => k_is)
    (case a16 => k_is)
    (case l16 => k_is)
    (case c16 => k_is)
    (case k16 => k_is)
    (case a17 => k_is)
    (case l17 => k_is)
    (case c17 => k_is)
    (case k17 => k_is)
    (case a18 => k_is)
    (case l18 => k_is)
    (case c18 => k_is)
    (case k18 => k_is)
    (case a19 => k_is)
    (case l19 => k_is)
    (case c19 => k_is)
    (case k19 => k_is)
    (case a20 => k_is)
    (case l20 => k_is)
    (case c20 => k_is)
    (case k20 => k_is)
    (case a21 => k_is)
    (case l21 => k_is)
    (case c21 => k_is)
    (case k21 => k_is)
    (case a22 => k_is)
    (case l22 => k_is)
    (case c22 => k_is)
    (case k22 => k_is)
    (case a23 => k_is)
    (case l23 => k_is)
    (case c23 => k_is)
    (case k23 => k_is)
    (case a24 => k_is)
    (case l24 => k_is)
    (case c24 => k_is)
    (case k24 => k_is)
    (case a25 => k_is)
    (case l25 => k_is)
    (case c25 => k_is)
    (case k25 => k_is)
    (case a26 => k_is)
    (case l26 => k_is)
    (case c26 => k_is)
    (case k26 => k_is)
    (case a27 => k_is)
    (case l27 => k_is)
    (case c27 => k_is)
    (case k27 => k_is)
    (case a28 => k_is)
    (case i28 => k_is)
    (case l28 => k_is)
    (case c28 => k_is)
    (case k28 => k_is)
    (case a29 => k_is)
    (case i29 => k_is)
    (case l29 => k_is)
    (case c29 => k_is)
    (case k29 => k_is)
    (case q29 => k_is)
    (case a30 => k_is)
    (case i30 => k_is)
    (case l30 => k_is)
    (case c30 => k_is)
    (case k30 => k_is)
    (case q30 => k_is)
    (case a31 => k_is)
    (case i31 => k_is)
    (case l31 => k_is)
    (case c31 => k_is)
    (case k31 => k_is)
    (case q31 => k_is)
    (case a32 => k_is)
    (case i32 => k_is)
    (case l32 => k_is)
    (case c32 => k_is)
    (case k32 => k_is)
    (case a33 => k_is)
    (case i33 => k_is)
    (case l33 => k_is)
    (case c33 => k_is)
    (case k33 => k_is)
    (case a34 => k_is)
    (case i34 => k_is)
    (case l34 => k_is)
    (case c34 => k_is)
    (case k34 => k_is)
    (case a35 => k_is)
    (case i35 => k_is)
    (case l35 => k_is)
    (case c35 => k_is)
    (case k35 => k_is)
    (case a36 => k_is)
    (case i36 => k_is)
    (case l36 => k_is)
    (case c36 => k_is)
    (case k36 => k_is)
    (case a37 => k_is)
    (case i37 => k_is)
    (case l37 => k_is)
    (case c37 => k_is)
    (case k37 => k_is)
    (case a38 => k_is)
    (case i38 => k_is)
    (case l38 => k_is)
    (case c38 => k_is)
    (case k38 => k_is)
    (case a39 => k_is)
    (case i39 => k_is)
    (case l39 => k_is)
    (case c39 => k_is)
    (case k39 => k_is)
    (case a40 => k_is)
    (case i40 => k_is)
    (case l40 => k_is)
    (case c40 => k_is)
    (case k40 => k_is)
    (case a41 => k_is)
    (case i41 => k_is)
    (case l41 => k_is)
    (case c41 => k_is)
    (case k41 => k_is)
    (case a42 => k_is)
    (case i42 => k_is)
    (case l42 => k_is)
    (case c42 => k_is)
    (case k42 => k_is)
    (case a43 => k_is)
    (case i43 => k_is)
    (case l43 => k_is)
    (case c43 => k_is)
    (case k43 => k_is)
    (case a44 => k_is)
    (case i44 => k_is)
    (case l44 => k_is)
    (case c44 => k_is)
    (case k44 => k_is)
    (case pg_Plan => k_is)
    (case hd_Plan => k_is)
    (case po_Plan => k_is)
    (case sa_Plan => k_is)
    (case mk_Plan => k_is)
    (case kc_Plan => k_is)
    (case n_states_Plan => k_is)
    (case n_done_Plan => k_is)
    (case n_busy_Plan => k_is)
    (case iX_BadInterval => k_is)
    (case tX_BadInterval => k_is)
    (case bX_BadInterval => k_is)
    (case xG_BadInterval => kx_is)
    (case oG_BadInterval => kx_is)
    (case xL_BadInterval => k_is)
    (case rL_BadInterval => rfl)
    (case sX_BadInterval => k_is)
    (case kX_BadInterval => k_is)
    (case nX_BadInterval => k_is)
    (case fX_BadInterval => k_is)
    (case gX_BadInterval => k_is)
    (case hX_BadInterval => k_is)
    (case dX_BadInterval => k_is)
    (case cX_BadInterval => k_is)
    (case eX_BadInterval => k_is)
    (case uX_BadInterval => k_is)
    (case mX_BadInterval => k_is)
    (case vX_BadInterval => k_is)
    (case wX_BadInterval => k_is)
    (case iX_SpanError => k_is)
    (case tX_SpanError => k_is)
    (case bX_SpanError => k_is)
    (case iX_Unknown => k_is)
    (case tX_Unknown => k_is)
    (case bX_Unknown => k_is)
    (case xG_Unknown => kx_is)
    (case oG_Unknown => kx_is)
    (case sX_Unknown => k_is)
    (case kX_Unknown => k_is)
    (case nX_Unknown => k_is)
    (case fX_Unknown => k_is)
    (case gX_Unknown => k_is)
    (case hX_Unknown => k_is)
    (case dX_Unknown => k_is)
    (case cX_Unknown => k_is)
    (case eX_Unknown => k_is)
    (case uX_Unknown => k_is)
    (case mX_Unknown => k_is)
    (case vX_Unknown => k_is)
    (case wX_Unknown => k_is)
    (case iX_Duplicate => k_is)
    (case tX_Duplicate => k_is)
    (case bX_Duplicate => k_is)
    (case xG_Duplicate => kx_is)
    (case oG_Duplicate => kx_is)
    (case xL_Duplicate => k_is)
    (case rL_Duplicate => rfl)
    (case sX_Duplicate => k_is)
    (case kX_Duplicate => k_is)
    (case nX_Duplicate => k_is)
    (case fX_Duplicate => k_is)
    (case gX_Duplicate => k_is)
    (case hX_Duplicate => k_is)
    (case dX_Duplicate => k_is)
    (case cX_Duplicate => k_is)
    (case eX_Duplicate => k_is)
    (case uX_Duplicate => k_is)
    (case mX_Duplicate => k_is)
    (case vX_Duplicate => k_is)
    (case wX_Duplicate => k_is)
    (case iX_Rejected => k_is)
    (case tX_Rejected => k_is)
    (case bX_Rejected => k_is)
    (case xL_Rejected => k_is)
    (case rL_Rejected => rfl)
    (case sX_Rejected => k_is)
    (case kX_Rejected => k_is)
    (case nX_Rejected => k_is)
    (case fX_Rejected => k_is)
    (case gX_Rejected => k_is)
    (case hX_Rejected => k_is)
    (case dX_Rejected => k_is)
    (case cX_Rejected => k_is)
    (case eX_Rejected => k_is)
    (case uX_Rejected => k_is)
    (case mX_Rejected => k_is)
    (case vX_Rejected => k_is)
    (case wX_Rejected => k_is)
    (case iX_BadEdit => k_is)
    (case tX_BadEdit => k_is)
    (case bX_BadEdit => k_is)
    (case xL_BadEdit => k_is)
    (case rL_BadEdit => rfl)
    (case sX_BadEdit => k_is)
    (case kX_BadEdit => k_is)
    (case nX_BadEdit => k_is)
    (case fX_BadEdit => k_is)
    (case gX_BadEdit => k_is)
    (case hX_BadEdit => k_is)
    (case dX_BadEdit => k_is)
    (case cX_BadEdit => k_is)
    (case eX_BadEdit => k_is)
    (case uX_BadEdit => k_is)
    (case mX_BadEdit => k_is)
    (case vX_BadEdit => k_is)
    (case wX_BadEdit => k_is)
    (case iX_BadEdits => k_is)
    (case tX_BadEdits => k_is)
    (case bX_BadEdits => k_is)
    (case xX_BadEdits => k_exc)
    (case kX_BadEdits => k_is)
    (case gX_BadEdits => k_is)
    (case hX_BadEdits => k_is)
    (case dX_BadEdits => k_is)
    (case cX_BadEdits => k_is)
    (case eX_BadEdits => k_is)
    (case uX_BadEdits => k_is)
    (case mX_BadEdits => k_is)
    (case vX_BadEdits => k_is)
    (case iX_Busy => k_is)
    (case tX_Busy => k_is)
    (case bX_Busy => k_is)
    (case sX_BadInterval_SpanError => k_is)
    (case sX_BadInterval_Unknown => k_is)
    (case sX_Duplicate_SpanError => k_is)
    (case sX_Duplicate_Unknown => k_is)
    (case sX_Unknown_SpanError => k_is)
    (case sX_Unknown_Unknown => k_is)
    (case sX_Rejected_SpanError => k_is)
    (case sX_Rejected_Rejected => k_is)
    (case sX_Rejected_BadEdit => k_is)
    (case sX_Rejected_BadEdits => k_is)
    (case sX_Rejected_Busy => k_is)
    (case sX_BadEdit_SpanError => k_is)
    (case sX_BadEdit_Rejected => k_is)
    (case sX_BadEdit_BadEdit => k_is)
    (case sX_BadEdit_BadEdits => k_is)
    (case sX_BadEdit_Busy => k_is)
    (case sX_BadEdits_SpanError => k_is)
    (case sX_BadEdits_Rejected => k_is)
    (case sX_BadEdits_BadEdit => k_is)
    (case sX_BadEdits_BadEdits => k_is)
    (case sX_BadEdits_Busy => k_is)
    (case y0 => k_is)
    (case y1 => k_is)
    (case y2 => k_is)
    (case y3 => k_is)
    (case y4 => k_is)
    (case yW0 => k_is)
    (case lW0 => k_is)
    (case z0 => k_is)
    (case z1 => k_is)
    (case z2 => k_is)
    (case z3 => k_is)
    (case z4 => k_is)
    (case z5 => k_is)
    (case z6 => k_is)
    (case z7 => k_is)
    (case z8 => k_is)
    (case z9 => k_is)
    (case z10 => k_is)
    (case z11 => k_is)
    (case z12 => k_is)
    (case z13 => k_is)
