import PyProof.Rows.All
import Wide.All
import OpenK.AllK
import Wide.FinOn
import PySem.Challenge.RW_fewspans_k77_plan_equality_and_errors
import HandS.ForMost
import HandS.Wide
import HandS.IsInst
import HandS.Conv
import HandS.TupLe
import HandS.Strs
import HandS.SetFor
import HandS.Style
import HandS.TupSets
import HandS.Keys
import HandS.Sort
import HandS.SortOrd
import HandS.SortRule
import HandS.SortKw
import HandS.SetBool
import HandS.TupAny
import HandS.Zip
import HandS.NoneIn
import HandS.Deep
import KE.GoesEnum
import KE.GoesMore
import HandS.Lambda
import HandS.CallLocal
import KE.DataCmp
import HandS.EndTab
import KE.KMinBuiltin
import HandS.TupMul
import PyProof.NeKinds
import HandS.Defaults
import HandS.MakeKwOnly
import HandS.OwnEq
import HandS.FStr
import KE.KCallOwn
import HandS.ExcIs
import HandS.ExcOwn
import HandS.CallSlots
import HandS.WordsExc
import HandS.TryMany
import HandS.Codes
import HandS.ExcInit
import KE.KExcIs
import KE.KExcInit
import KE.KExcLine
import HandS.ExcField
import HandS.Text
import PyProof.StrOps2
import HandS.StrMore
import HandS.Flow
import HandS.ReplaceLit
import HandS.ForExc
import HandS.Finally
import HandS.RaiseFrom
import HandS.SuiteRaise
import HandS.HotCalls
import HandS.Hot
import HandS.ExcCtx
import HandS.ExcInitHot
import HandS.ExcValue
set_option Elab.async false
set_option linter.all false
set_option maxRecDepth 100000
set_option maxHeartbeats 4000000
namespace L9
open PySem PySem.Spec PyProof.Rows L2

/-! ### set(xs), xs a list of ints: the library has it of tuples; the walk is a list's here -/
section
variable {P : Program} {w : World} {A : Around} {E : Value → Shared → Prop} {s : Shared}
abbrev noSet (w : World) : Obj := { cls := .type "set", dict := none, data := .set #[] 0 (.fresh 0 0 (!w.params.followText "set-order")) }
theorem setL_ints {l : Addr} {its : Array Value} (ns : List Int) {Q : Value → Shared → Prop} (quiet : A.handled = none) (isL : s.heap.IsList l its) (allI : IntsAre its.toList ns) (few : ns.length + 1 < scanBound)
    (fin : ∀ (h2 : Heap) (tk n : Nat), SetR w h2 s.heap.objs.size (fun j => decide (j ∈ ns)) n → n ≤ ns.length → (∀ b o, s.heap.get? b = some o → h2.get? b = some o) → Q (.ref s.heap.objs.size) { s with heap := h2, toks := tk }) :
    wpAny (model P w) A (call (.type "set") [.ref l]) Q E s := by
  have size : its.size = ns.length := by
    rw [← Array.length_toList]
    exact allI.length
  obtain ⟨cA, tA, mA⟩ := F.called_set.mro
  have f1 := F.called_set.made
  have f2 := F.called_set.sub
  refine wpAny_call (codeAny_of_tree (?_ : wpAny _ _ (callAny (.type "set") _) _ _ _))
  refine wpAny_pure (And.intro (Code.quiet_builtin _ (by decide +kernel)) (codeAny_builtin F.entry_type_call ?_))
  rw [Around.under_plain (weight_type_call_type "set" [Value.ref l] []) rfl]
  have f3 := F.called_set.notType
  have f4 := F.called_set.canCreate
  have f5 := F.typeCall_set_1 (Value.ref l)
  repeat any_goals first | assumption | wp_step
  refine codeAny_mono (code_set_led1 (.ref l) (E := E) (Q₁ := fun v s1 => v = .ref s.heap.objs.size ∧ s1 = { s with heap := s.heap.push (noSet w) }) (And.intro rfl rfl)) fun r s1 h1 => ?_
  match r, h1 with
  | .error e, h1 => exact h1
  | .ok (.ret v), h1 =>
    obtain ⟨rfl, rfl⟩ := h1
    have at0 : (s.heap.push (noSet w)).get? s.heap.objs.size = some (noSet w) := Heap.get?_push_size _ rfl
    have ty0 : Shared.TypeIs { s with heap := s.heap.push (noSet w) } (.ref s.heap.objs.size) "set" := Exists.intro _ (And.intro at0 rfl)
    have f6 := F.called_set.init.lookup
    have f7 := F.called_set.init.bind (Value.ref s.heap.objs.size)
    repeat any_goals first | assumption | wp_step
    let Z : Value → Shared → Prop := fun v s2 => v = .none ∧ ∃ h2 tk n, s2 = { s with heap := h2, toks := tk } ∧ SetR w h2 s.heap.objs.size (fun j => decide (j ∈ ns)) n ∧ n ≤ ns.length ∧ ∀ b o, s.heap.get? b = some o → h2.get? b = some o
    refine codeAny_mono (codeAny_call_builtin (R := wants Z E) F.called_set.init.plain F.entry_set_init (check_set_init_1 ty0 ?_)) fun r2 s2 h2 => ?_
    · obtain ⟨o, eo, ec, k, ed⟩ := isL
      obtain ⟨oc, od, oD, oS⟩ := o
      simp only at ec ed
      subst ec ed
      have lt : l < s.heap.objs.size := Heap.lt_size eo
      have eo1 : (s.heap.push (noSet w)).get? l = some { cls := .type "list", dict := od, data := .seq its k, slots := oS } := Heap.get?_push_of_some _ eo
      have g1 := F.sub_list_set
      have g2 := F.sub_list_frozenset
      have g3 : (Value.type "list" == Value.type "dict") = false := by decide
      have isL1 : (s.heap.push (noSet w)).IsList l its := Exists.intro _ (And.intro eo1 (And.intro rfl (Exists.intro k rfl)))
      unfold Builtin.«set.__init__» Builtin.Frozenset.updateFrom noKeywords
      generalize keep : pyIter = itr
      wp_walk
      subst keep
      refine wpAny_pyIter_list isL1 (wpAny_bind (wpAny_runValue ?_))
      have quiet3 : A.in1.in1.in1.handled = none := by simp [quiet]
      have sz : (s.heap.push (noSet w)).objs.size = s.heap.objs.size + 1 := Heap.size_push ..
      have lI : l ≠ (s.heap.push (noSet w)).objs.size := by
        rw [sz]
        exact Nat.ne_of_lt (Nat.lt_succ_of_lt lt)
      have out : s.heap.objs.size ∉ [(s.heap.push (noSet w)).objs.size, l] := by
        rw [sz]
        intro z
        rcases List.mem_cons.mp z with z | z
        · exact absurd z (Nat.ne_of_lt (Nat.lt_succ_self _))
        · exact absurd (List.mem_singleton.mp z) (Nat.ne_of_gt lt)
      have vals : ∀ (i : Nat) (v : Value), its[i]? = some v → ∃ j t, ns[i]? = some j ∧ v = .int j t := fun i v hv => by
        have lti : i < ns.length := by
          rw [← size]
          exact (Array.getElem?_eq_some_iff.mp hv).1
        obtain ⟨t, e⟩ := allI.int_at i v (by rw [Array.getElem?_toList]; exact hv)
        have en := List.getElem?_eq_getElem lti
        refine ⟨_, t, en, e.trans ?_⟩
        rw [List.getD_eq_getElem?_getD, en]
        rfl
      refine set_update_ints (Walks.list quiet3 _ l lI its).toS s.heap.objs.size out ns size few vals (its.size - 0) 0 _ rfl (Nat.zero_le _) (And.intro (Exists.intro _ (And.intro (Heap.get?_push_size _ rfl) (And.intro rfl rfl))) (isL1.push _)) ?start ?last
      case start =>
        exact ⟨0, Nat.le_refl _, setR_new_at (Heap.get?_push_of_some _ at0)⟩
      case last =>
        intro s3 n mv le R
        obtain ⟨h3, g3', d3, tk3, o3⟩ := s3
        have m1 : g3' = s.gens := mv.gens
        have m2 : d3 = s.drawn := mv.drawn
        have m3 : o3 = s.os := mv.os
        subst m1 m2 m3
        refine wpAny_pure (?_ : wpAny _ _ (ret Value.none) _ _ _)
        rw [size] at le
        refine wpAny_pure (And.intro rfl ⟨h3, tk3, n, rfl, R, le, fun b o e => ?_⟩)
        have lb := Heap.lt_size e
        refine mv.heap b o (fun z => ?_) (Heap.get?_push_of_some _ (Heap.get?_push_of_some _ e))
        rcases List.mem_cons.mp z with z | z
        · exact absurd z (Nat.ne_of_lt lb)
        · have z1 := List.mem_singleton.mp z
          rw [sz] at z1
          exact absurd z1 (Nat.ne_of_lt (Nat.lt_succ_of_lt lb))
    · match r2, h2 with
      | .error e, h2 => exact h2
      | .ok (.ret v), h2 =>
        obtain ⟨rfl, h', tk, n, rfl, R, le, kp⟩ := h2
        repeat any_goals first | assumption | wp_step
        exact fin h' tk n R le kp
      | .ok .next, h2 => exact h2
      | .ok .brk, h2 => exact h2
      | .ok .cont, h2 => exact h2
  | .ok .next, h1 => exact h1
  | .ok .brk, h1 => exact h1
  | .ok .cont, h1 => exact h1
end
section
variable {X : Cx}
def rSetOfI (K : PySem.W.Frag) (w : World) : List V → Hp → VK → Prop := fun xs H Q => ∃ (l : Addr) (ns : List Int), xs = [V.ref l] ∧ SqL K H l (ns.map V.int) ∧ ns.length < 60 ∧
  ∀ (H' : Hp) a n, Same H H' → H a = none → H' a = some (SetO w a (fun j => decide (j ∈ ns)) n) → n ≤ ns.length → Q (.ref a) H'
theorem cr_setOfI (calm : X.calm = true) : CallR X (.type "set") (rSetOfI X.K X.w) := by
  intro pins s σ H xs us Q I r h
  obtain ⟨l, ns, rfl, hl, few, q⟩ := h
  rw [Vals.ref1 r]
  obtain ⟨its, rv, pl, _⟩ := I.list hl
  refine setL_ints (P := X.prog) (w := X.w) ns (I.ok.hd calm) pl.isList (ints_of_vals rv) (by unfold scanBound; omega) fun h2 tk n R le kp => ?_
  exact ⟨.ref s.heap.objs.size, _, I.laid (t' := tk) kp (Nat.le_refl _) (setO_new R), rfl, q _ _ n (fun b x e => by rw [upd_ne (ne_of_none e (I.hok.fresh (Nat.le_refl _)))]; exact e) (I.hok.fresh (Nat.le_refl _)) upd_same le⟩
end

/-! ### set(t), t a tuple of tuples of ints: the library has it of lists; the walk is a tuple's here -/
section
variable {P : Program} {w : World} {A : Around} {E : Value → Shared → Prop} {s : Shared}
abbrev noSetT (w : World) : Obj := { cls := .type "set", dict := none, data := .set #[] 0 (.fresh 0 0 (!w.params.followText "set-order")) }
theorem setT_tups {l : Addr} {its : Array Value} (ks : List (Addr × List Int)) {Q : Value → Shared → Prop} (quiet : A.handled = none) (isT : s.heap.IsTuple l its) (refs : its.toList = ks.map fun p => Value.ref p.1)
    (tk : ∀ p ∈ ks, IsT P w s.heap p.2 p.1) (few : ks.length < 64) (un : A.units + 3 < cLine)
    (fin : ∀ (h2 : Heap) (tk : Nat) L es ep t, SetTR P w h2 s.heap.objs.size L es ep t → Got ks ks.length L → (∀ b o, s.heap.get? b = some o → h2.get? b = some o) → Q (.ref s.heap.objs.size) { s with heap := h2, toks := tk }) :
    wpAny (model P w) A (call (.type "set") [.ref l]) Q E s := by
  have size : its.size = ks.length := by
    rw [← Array.length_toList, refs, List.length_map]
  obtain ⟨cA, tA, mA⟩ := F.called_set.mro
  have f1 := F.called_set.made
  have f2 := F.called_set.sub
  refine wpAny_call (codeAny_of_tree (?_ : wpAny _ _ (callAny (.type "set") _) _ _ _))
  refine wpAny_pure (And.intro (Code.quiet_builtin _ (by decide +kernel)) (codeAny_builtin F.entry_type_call ?_))
  rw [Around.under_plain (weight_type_call_type "set" [Value.ref l] []) rfl]
  have f3 := F.called_set.notType
  have f4 := F.called_set.canCreate
  have f5 := F.typeCall_set_1 (Value.ref l)
  repeat any_goals first | assumption | wp_step
  refine codeAny_mono (code_set_led1 (.ref l) (E := E) (Q₁ := fun v s1 => v = .ref s.heap.objs.size ∧ s1 = { s with heap := s.heap.push (noSetT w) }) (And.intro rfl rfl)) fun r s1 h1 => ?_
  match r, h1 with
  | .error e, h1 => exact h1
  | .ok (.ret v), h1 =>
    obtain ⟨rfl, rfl⟩ := h1
    have at0 : (s.heap.push (noSetT w)).get? s.heap.objs.size = some (noSetT w) := Heap.get?_push_size _ rfl
    have ty0 : Shared.TypeIs { s with heap := s.heap.push (noSetT w) } (.ref s.heap.objs.size) "set" := Exists.intro _ (And.intro at0 rfl)
    have f6 := F.called_set.init.lookup
    have f7 := F.called_set.init.bind (Value.ref s.heap.objs.size)
    repeat any_goals first | assumption | wp_step
    let Z : Value → Shared → Prop := fun v s2 => v = .none ∧ ∃ h2 tk L es ep t, s2 = { s with heap := h2, toks := tk } ∧ SetTR P w h2 s.heap.objs.size L es ep t ∧ Got ks ks.length L ∧ ∀ b o, s.heap.get? b = some o → h2.get? b = some o
    refine codeAny_mono (codeAny_call_builtin (R := wants Z E) F.called_set.init.plain F.entry_set_init (check_set_init_1 ty0 ?_)) fun r2 s2 h2 => ?_
    · obtain ⟨o, eo, ec, k, ed⟩ := isT
      obtain ⟨oc, od, oD, oS⟩ := o
      simp only at ec ed
      subst ec ed
      have lt : l < s.heap.objs.size := Heap.lt_size eo
      have eo1 : (s.heap.push (noSetT w)).get? l = some { cls := .type "tuple", dict := od, data := .seq its k, slots := oS } := Heap.get?_push_of_some _ eo
      have g1 := F.sub_tuple_set
      have g2 := F.sub_tuple_frozenset
      have g3 : (Value.type "tuple" == Value.type "dict") = false := by decide
      have isT1 : (s.heap.push (noSetT w)).IsTuple l its := Exists.intro _ (And.intro eo1 (And.intro rfl (Exists.intro k rfl)))
      unfold Builtin.«set.__init__» Builtin.Frozenset.updateFrom noKeywords
      generalize keep : pyIter = itr
      wp_walk
      subst keep
      refine wpAny_pyIter_tuple isT1 (wpAny_bind (wpAny_runValue ?_))
      have quiet3 : A.in1.in1.in1.handled = none := by simp [quiet]
      have sz : (s.heap.push (noSetT w)).objs.size = s.heap.objs.size + 1 := Heap.size_push ..
      have lI : l ≠ (s.heap.push (noSetT w)).objs.size := by
        rw [sz]
        exact Nat.ne_of_lt (Nat.lt_succ_of_lt lt)
      have out : s.heap.objs.size ∉ [(s.heap.push (noSetT w)).objs.size, l] := by
        rw [sz]
        intro z
        rcases List.mem_cons.mp z with z | z
        · exact absurd z (Nat.ne_of_lt (Nat.lt_succ_self _))
        · exact absurd (List.mem_singleton.mp z) (Nat.ne_of_gt lt)
      have vals : ∀ (i : Nat) (v : Value), its[i]? = some v → ∃ p, ks[i]? = some p ∧ v = .ref p.1 := fun i v hv => by
        have z : its.toList[i]? = some v := by
          rw [Array.getElem?_toList]
          exact hv
        rw [refs, List.getElem?_map] at z
        obtain ⟨p, e1, e2⟩ := Option.map_eq_some_iff.mp z
        exact Exists.intro p (And.intro e1 e2.symm)
      have beyond : ∀ b, s.heap.objs.size ≤ b → s.heap.get? b = none := fun b hb => by
        cases z : s.heap.get? b with
        | none => rfl
        | some o => exact (Nat.lt_irrefl _ (Nat.lt_of_lt_of_le (Heap.lt_size z) hb)).elim
      refine set_update_tups (Walks.tuple quiet3 _ l lI its).toS s.heap.objs.size out ks size few vals s.heap tk (beyond _ (Nat.le_refl _)) (fun b hb => beyond b ?_) un (its.size - 0) 0 _ rfl (Nat.zero_le _) (And.intro (Exists.intro _ (And.intro (Heap.get?_push_size _ rfl) (And.intro rfl rfl))) (isT1.push _)) (fun b o e => Heap.get?_push_of_some _ (Heap.get?_push_of_some _ e)) ?start ?last
      · rw [List.mem_singleton.mp hb, sz]
        exact Nat.le_succ _
      case start =>
        exact ⟨[], #[], 0, _, setTR_fresh (Heap.get?_push_of_some _ at0), Got.zero ks⟩
      case last =>
        intro s3 L es ep t mv R got kp
        obtain ⟨h3, g3', d3, tk3, o3⟩ := s3
        have m1 : g3' = s.gens := mv.gens
        have m2 : d3 = s.drawn := mv.drawn
        have m3 : o3 = s.os := mv.os
        subst m1 m2 m3
        refine wpAny_pure (?_ : wpAny _ _ (ret Value.none) _ _ _)
        rw [size] at got
        exact wpAny_pure (And.intro rfl ⟨h3, tk3, L, es, ep, t, rfl, R, got, kp⟩)
    · match r2, h2 with
      | .error e, h2 => exact h2
      | .ok (.ret v), h2 =>
        obtain ⟨rfl, h', tk, L, es, ep, t, rfl, R, got, kp⟩ := h2
        repeat any_goals first | assumption | wp_step
        exact fin h' tk L es ep t R got kp
      | .ok .next, h2 => exact h2
      | .ok .brk, h2 => exact h2
      | .ok .cont, h2 => exact h2
  | .ok .next, h1 => exact h1
  | .ok .brk, h1 => exact h1
  | .ok .cont, h1 => exact h1
end
section
variable {X : Cx}
def rSetOfTT (K : PySem.W.Frag) (P : Program) (w : World) : List V → Hp → VK → Prop := fun xs H Q => ∃ (l : Addr) (ks : List (Addr × List Int)), xs = [V.ref l] ∧ SqT K H l (ks.map fun p => V.ref p.1) ∧ (∀ p ∈ ks, SqT K H p.1 (p.2.map V.int)) ∧ ks.length < 64 ∧
  ∀ a L, H a = none → (∀ p ∈ L, p ∈ ks) → (∀ p ∈ ks, p.2 ∈ L.map (·.2)) → Q (.ref a) (upd H a (SetTO P w a L))
theorem cr_setOfTT (calm : X.calm = true) (units : X.A.units + 64 < cLine) : CallR X (.type "set") (rSetOfTT X.K X.prog X.w) := by
  intro pins s σ H xs us Q I r h
  obtain ⟨l, ks, rfl, hl, hk, few, q⟩ := h
  rw [Vals.ref1 r]
  obtain ⟨its, rv, pl, _⟩ := I.tuple hl
  have nn : H s.heap.objs.size = none := I.hok.fresh (Nat.le_refl _)
  refine setT_tups (P := X.prog) (w := X.w) (its := its.toArray) ks (I.ok.hd calm) pl (by simpa using refs_of_vals rv) (fun p hp => I.isT (hk p hp)) few (by omega) fun h2 tk L es ep t R got kp => ?_
  exact ⟨.ref s.heap.objs.size, _, I.laid (t' := tk) kp (Nat.le_refl _) (setTO_new R.t0), rfl, q _ L nn (fun p hp => List.mem_of_mem_take (got.sub p hp)) (fun p hp => got.all p (by rw [List.take_length]; exact hp))⟩
end

/-! ### defs that are run where no text-making of the machine is under way (repr, str of nested data ask for it) -/
abbrev Quiet (A : Around) : Prop := A.guards = some []
structure FnG (P : Program) (w : World) (K : PySem.W.Frag) (mg : Str → Option Value) (base : Heap) (k : Nat) (f : Addr) (fd : FuncData) (ps : List Str) (sp : Sp) : Prop where
  size : ∀ {vs H Q}, sp vs H Q E0 → vs.length = ps.length
  go : ∀ {A outer s H us vs Q}, Room k A → Quiet A → Env0 P w K mg base A outer s H → BindsTo s fd ⟨us, []⟩ (ps.zip us) → Vals vs us → sp vs H Q E0 →
    codeAny (model P w) A (.call (.ref f) ⟨us, []⟩) (CR CX0 outer P w H s Q E0) s
section
variable {P : Program} {w : World} {K : PySem.W.Frag} {mg : Str → Option Value} {base : Heap}
theorem FnG.of {x qual : Str} {st : Stmt} {f : Addr} {fd : FuncData} {N ps : List Str} {k : Nat} {sp : Sp} (F : Fun K x qual st f fd) (S : FnScope N ps (defScope st))
    (size : ∀ {vs H Q}, sp vs H Q E0 → vs.length = ps.length)
    (body : ∀ cdv A outer s H vs Q, Room k (A.deeper (envOfC qual (defScope st) s.heap.objs.size f cdv)) → Quiet (A.deeper (envOfC qual (defScope st) s.heap.objs.size f cdv)) → sp vs H Q E0 →
      ∃ t, PSs (cxOf CX0 P w K mg base N qual (defScope st) f cdv A outer s H E0).nox (defBody st) t ∧ t { nx := fun _ H' => Q .non H', rt := Q } (start N vs) H) :
    FnG P w K mg base (k + 1) f fd ps sp := by
  obtain ⟨oc, od, kV, doc, pm, an, cdv, ct, osl, rfl, look, code⟩ := F.ex
  constructor
  · exact size
  intro A outer s H us vs Q room quiet e0 bind rel want
  have inH : K.In s.heap := e0.mod.kin.keeps fun b o q => (e0.bs b o q).1
  have lim := e0.mod.nolimit.keeps (fun b o q => (e0.bs b o q).1)
  have kinds : ∀ y ∈ ps.zip us, (defScope st).names.lookup y.1 = some .local ∨ ((defScope st).names.lookup y.1 = some .cell ∧ ((cellsFrom (s.heap.objs.size + 1) (defScope st).names []).lookup y.1).isSome = true) := by
    rintro ⟨n, v⟩ hy
    have hn := (List.of_mem_zip hy).1
    cases S.par n hn with
    | inl q => exact Or.inl q
    | inr q => exact Or.inr ⟨q, PySem.W.cellsFrom_some _ _ _ (Or.inl q)⟩
  apply codeAny_call_function room.depth (inH _ _ look) rfl S.co S.gen rfl (PySem.W.codeRec_of inH code)
  apply bind
  apply wpAny_newFunctionEnv_cells S.kind kinds
  intro env he s1 x
  subst he
  refine And.intro (lim.keeps x.toInCall.keep) (codeAny_func ?_)
  obtain ⟨t, ht, hq⟩ := body cdv A outer s H vs Q (room.deeper _) quiet want
  have I := inv_start (CX := CX0) (E := E0) S room.hd e0 (size want) rel x
  apply wpAny_mono (ht.nox.run [] s1 (start N vs) H _ I hq)
  · intro fl s' hs
    cases fl with
    | ret u =>
      obtain ⟨v, σ', H', J, rv, q⟩ := hs
      exact Exists.intro v ⟨H', J.os, J.bare, J.base, J.hok, rv, q⟩
    | next =>
      obtain ⟨σ', H', J, q⟩ := hs
      exact Exists.intro V.non ⟨H', J.os, J.bare, J.base, J.hok, rfl, q⟩
    | brk => exact hs.elim fun _ h => h.elim fun _ h => h.2.elim
    | cont => exact hs.elim fun _ h => h.elim fun _ h => h.2.elim
  · intro e s' hs
    exact hs
end
section
variable {X : Cx} {k : Nat} {f : Addr} {fd : FuncData} {ps : List Str} {sp : Sp} {x : Str} {p pos : Pos} {e : Expr} {es : List Expr} {t : TA}
theorem pe_callG (F : FnG X.prog X.w X.K X.mg X.base k f fd ps sp) (room : Room k X.A) (quiet : Quiet X.A) (hg : Gl X x) (hm : X.mg x = some (.ref f)) (keep : PySem.W.keepIn X.K (.ref f) = true) (bind : Binds X.K fd ps [])
    (args : PA X (e :: es) t) (hdb : (x == ("__debug__" : Str)) = false := by decide) (star : starEach (e :: es) X.env = (false, eval e X.env) :: starEach es X.env := by rfl) (plain : (backTo pos (starEach es X.env)).any (·.1) = false := by rfl) :
    PE X (.Call (.Name x p) (e :: es) [] pos) (tCall sp [] E0 t) := by
  constructor
  intro pins s σ H Q I h
  apply wpAny_Call_Name_kw
  apply ld_glob I hg hm _ hdb
  apply PySem.W.callWith_K (h₀ := X.base) I.ok.mod.kin keep _ star plain
  apply thn (args.run pos pins s σ H _ I h)
  rintro us s1 ⟨vs, H1, I1, rel, q⟩
  refine And.intro I1.kIn ?_
  have q' : sp vs H1 Q E0 := by
    have z := q
    rw [List.append_nil] at z
    exact z
  have same : us.length = ps.length := rel.length.symm.trans (F.size q')
  have b := bind s1 us I1.kIn (by rw [List.append_nil]; exact same)
  rw [List.append_nil] at b
  apply wpAny_call
  apply codeAny_mono (F.go room quiet I1.env0 b rel q')
  intro r s' hr
  match r, hr with
  | .error _, hr => exact hr.elim
  | .ok (.ret u), hr => exact I1.after hr
  | .ok .next, hr => exact False.elim hr
  | .ok .brk, hr => exact False.elim hr
  | .ok .cont, hr => exact False.elim hr
end
/-! ### repr of data at any depth -/
structure Sm (n dp : Nat) (d : PyData) : Prop where
  shows : d.showable = true
  short : d.leavesShort 40 = true
  small : d.weight ≤ n
  flat : d.depth ≤ dp
theorem Sm.mono {n m dp dq : Nat} {d : PyData} (h : Sm n dp d) (h1 : n ≤ m) (h2 : dp ≤ dq) : Sm m dq d := ⟨h.shows, h.short, Nat.le_trans h.small h1, Nat.le_trans h.flat h2⟩
theorem Sm.none : Sm 0 0 .none := ⟨rfl, rfl, Nat.le_refl _, Nat.le_refl _⟩
theorem Sm.bool (b : Bool) : Sm 0 0 (.bool b) := ⟨rfl, rfl, Nat.le_refl _, Nat.le_refl _⟩
theorem log2_small {i : Int} (h : i.natAbs < 10 ^ 30) : i.natAbs.log2 < 100 := PySem.Flt.log2_lt_of (by decide) (Nat.lt_trans h (by decide))
theorem Sm.int {i : Int} (h : i.natAbs < 10 ^ 30) : Sm 100 0 (.int i) := by
  have l := log2_small h
  refine ⟨decide_eq_true (Nat.lt_trans l (by decide)), decide_eq_true ?_, ?_, Nat.le_refl _⟩
  · have q := int_text_length_le10 (a := i) (k := 30) (by decide) h
    show (Str.ofString (toString i)).length ≤ 40
    rw [PySem.ofString_length]
    exact Nat.le_trans q (by decide)
  · show (if i == 0 then 0 else i.natAbs.log2 + 1) ≤ 100
    split <;> omega
theorem smAll {n dp : Nat} : ∀ {ds : List PyData}, (∀ d ∈ ds, Sm n dp d) → PyData.showableAll ds = true ∧ PyData.leavesShortAll 40 ds = true ∧ PyData.weightAll ds ≤ ds.length * (n + 1) ∧ PyData.depthAll ds ≤ dp
  | [], _ => ⟨rfl, rfl, Nat.zero_le _, Nat.zero_le _⟩
  | d :: ds, h => by
    obtain ⟨a, b, c, e⟩ := smAll (ds := ds) fun x hx => h x (List.mem_cons_of_mem _ hx)
    have z := h d List.mem_cons_self
    refine ⟨?_, ?_, ?_, ?_⟩
    · show (d.showable && PyData.showableAll ds) = true
      rw [z.shows, a]
      rfl
    · show (d.leavesShort 40 && PyData.leavesShortAll 40 ds) = true
      rw [z.short, b]
      rfl
    · show d.weight + 1 + PyData.weightAll ds ≤ (ds.length + 1) * (n + 1)
      have := z.small
      rw [Nat.add_mul]
      omega
    · show max d.depth (PyData.depthAll ds) ≤ dp
      exact Nat.max_le.mpr ⟨z.flat, e⟩
theorem Sm.tup {n dp : Nat} {ds : List PyData} (h : ∀ d ∈ ds, Sm n dp d) : Sm (ds.length * (n + 1)) (dp + 1) (.tuple ds) :=
  let ⟨a, b, c, e⟩ := smAll h
  ⟨a, b, c, Nat.succ_le_succ e⟩
theorem Sm.lst {n dp : Nat} {ds : List PyData} (h : ∀ d ∈ ds, Sm n dp d) : Sm (ds.length * (n + 1)) (dp + 1) (.list ds) :=
  let ⟨a, b, c, e⟩ := smAll h
  ⟨a, b, c, Nat.succ_le_succ e⟩
theorem Sm.fits {n dp : Nat} {d : PyData} (h : Sm n dp d) (hn : n ≤ 300000) : d.shown.length ≤ sizeLine := by
  have q := PyData.shown_le 40 (by decide) d h.short
  have := h.small
  have e : sizeLine = 16777216 := by decide
  rw [e]
  omega
/-- data with dicts in it; its lists stand in the heap by themselves -/
def keyD : Key → PyData
  | .inl i => .int i
  | .inr x => .str x
mutual
inductive Dv (K : PySem.W.Frag) (H : Hp) : V → PyData → Prop
  | non : Dv K H .non .none
  | bl (b : Bool) : Dv K H (.bl b) (.bool b)
  | int (i : Int) : Dv K H (.int i) (.int i)
  | str (x : Str) : Dv K H (.str x) (.str x)
  | lst {a : Addr} {xs : List V} {ds : List PyData} : H a = some (.lst xs) → DvAll K H xs ds → Dv K H (.ref a) (.list ds)
  | tup {a : Addr} {xs : List V} {ds : List PyData} : H a = some (.tup xs) → DvAll K H xs ds → Dv K H (.ref a) (.tuple ds)
  | dic {a : Addr} {kvs : List (Key × V)} {ds : List PyData} : H a = some (.dK kvs) → DvAll K H (kvs.map (·.2)) ds → Dv K H (.ref a) (.dict ((kvs.map fun p => keyD p.1).zip ds))
inductive DvAll (K : PySem.W.Frag) (H : Hp) : List V → List PyData → Prop
  | nil : DvAll K H [] []
  | cons {v : V} {vs : List V} {d : PyData} {ds : List PyData} : Dv K H v d → DvAll K H vs ds → DvAll K H (v :: vs) (d :: ds)
end
theorem DvAll.length {K : PySem.W.Frag} {H : Hp} : ∀ {vs : List V} {ds : List PyData}, DvAll K H vs ds → vs.length = ds.length
  | _, _, .nil => rfl
  | _, _, .cons _ h => by rw [List.length_cons, List.length_cons, h.length]
theorem keys_read {P : Program} {w : World} {h : Heap} : ∀ {es : List DictEntry} {vs : List (Key × Value)}, Pairs (mixKind P w) es vs → ReadsAll h (es.map (·.key)) (vs.map fun p => keyD p.1) []
  | _, _, .nil => .nil
  | _, _, .cons (e := e) (kv := kv) hk _ r => by
    have one : Reads h e.key (keyD kv.1) [] := by
      rcases keyIs_shape hk with ⟨i, t, e1, e2⟩ | ⟨x, t, e1, e2⟩
      · rw [e1, e2]
        exact .int i t
      · rw [e1, e2]
        exact .str x t
    exact ReadsAll.cons one (keys_read r)
theorem vals_read {P : Program} {w : World} : ∀ {es : List DictEntry} {vs : List (Key × Value)}, Pairs (mixKind P w) es vs → es.map (·.val) = vs.map (·.2)
  | _, _, .nil => rfl
  | _, _, .cons _ hv r => by rw [List.map_cons, List.map_cons, hv, vals_read r]
theorem kv_vals : ∀ {kvs : List (Key × V)} {vs : List (Key × Value)}, KV kvs vs → Vals (kvs.map (·.2)) (vs.map (·.2)) ∧ (vs.map fun p => keyD p.1) = kvs.map fun p => keyD p.1
  | _, _, .nil => ⟨.nil, rfl⟩
  | _, _, .cons h r => by
    obtain ⟨a, b⟩ := kv_vals r
    refine ⟨.cons h.2 a, ?_⟩
    rw [List.map_cons, List.map_cons, b, h.1]
section
variable {X : Cx} {pins : List (Addr × Obj)} {σ : L2.St} {H : Hp} {s : Shared}
theorem Dv.reads (I : Inv X pins σ H s) (mods : ∃ mm, X.base.Ns sysModules mm) {v : V} {d : PyData} (h : Dv X.K H v d) : ∀ u : Value, RelV v u → ∃ as, Reads s.heap u d as ∧ sysModules ∉ as := by
  have free : H sysModules = none := by
    obtain ⟨mm, o, es, ep, e, _⟩ := mods
    exact (I.bs _ o e).2
  refine Dv.rec (K := X.K) (H := H) (motive_1 := fun v d _ => ∀ u : Value, RelV v u → ∃ as, Reads s.heap u d as ∧ sysModules ∉ as) (motive_2 := fun vs ds _ => ∀ us : List Value, Vals vs us → ∃ as, ReadsAll s.heap us ds as ∧ sysModules ∉ as) ?_ ?_ ?_ ?_ ?_ ?_ ?_ ?_ ?_ h
  · intro u r
    cases r
    exact ⟨_, .none, fun z => nomatch z⟩
  · intro b u r
    cases r
    exact ⟨_, .bool b, fun z => nomatch z⟩
  · intro i u r
    obtain ⟨t, rfl⟩ := r
    exact ⟨_, .int i t, fun z => nomatch z⟩
  · intro x u r
    obtain ⟨t, rfl⟩ := r
    exact ⟨_, .str x t, fun z => nomatch z⟩
  · intro a xs ds e _ ih u r
    cases r
    obtain ⟨_, its, n, rv, q⟩ := I.hok a _ e
    obtain ⟨as, ra, na⟩ := ih _ rv
    refine ⟨a :: as, .list q rfl rfl (by simpa using ra), fun z => ?_⟩
    rcases List.mem_cons.mp z with z | z
    · rw [← z, free] at e
      cases e
    · exact na z
  · intro a xs ds e _ ih u r
    cases r
    obtain ⟨_, its, rv, o, ho, hc, n, hd⟩ := I.hok a _ e
    obtain ⟨as, ra, na⟩ := ih _ rv
    exact ⟨as, .tuple ho hc hd (by simpa using ra), na⟩
  · intro a kvs ds e hall ih u r
    cases r
    obtain ⟨_, hne, vs, kv, o, es, ep, ho, ex, hd, _, prs, _⟩ := I.hok a _ e
    obtain ⟨rv, ek⟩ := kv_vals kv
    obtain ⟨as, ra, na⟩ := ih _ rv
    have len : (kvs.map fun p => keyD p.1).length = ds.length := by
      have z := hall.length
      rw [List.length_map] at z
      rw [List.length_map, z]
    refine ⟨_, .dict ho ex.1 hd (as := []) (bs := as) ?_ ?_, fun z => ?_⟩
    · rw [List.map_fst_zip (by omega), ← ek]
      exact keys_read prs
    · rw [List.map_snd_zip (by omega), vals_read prs]
      exact ra
    · rcases List.mem_cons.mp z with z | z
      · rw [← z] at hne
        exact absurd hne (by decide)
      · exact na z
  · intro us r
    cases r
    exact ⟨_, .nil, fun z => nomatch z⟩
  · intro v vs d ds _ _ ih1 ih2 us r
    cases r with
    | cons r1 r2 =>
      obtain ⟨as, ra, na⟩ := ih1 _ r1
      obtain ⟨bs, rb, nb⟩ := ih2 _ r2
      refine ⟨_, .cons ra rb, fun z => ?_⟩
      rcases List.mem_append.mp z with z | z
      · exact na z
      · exact nb z
theorem call_reprV (mods : ∃ mm, X.base.Ns sysModules mm) (quiet : Quiet X.A) (units : X.A.units + 64 < cLine) : CallR X (.builtin "repr")
    (fun xs H Q => ∃ v d n dp, xs = [v] ∧ Dv X.K H v d ∧ Sm n dp d ∧ n ≤ 300000 ∧ dp ≤ 60 ∧ Q (.str d.shown) H) := by
  intro pins s σ H xs us Q I r h
  obtain ⟨v, d, n, dp, rfl, hd, sm, hn, hdp, q⟩ := h
  obtain ⟨u, rfl, ru⟩ := vals1 r
  have fits := sm.fits hn
  have flat := sm.flat
  obtain ⟨as, rd, off⟩ := Dv.reads I mods hd _ ru
  cases hd with
  | non =>
    cases ru
    exact PySem.P.repr_of_none ⟨.str _, H, I.tok _, ⟨_, rfl⟩, q⟩
  | bl b =>
    cases ru
    exact PySem.P.repr_of_bool ⟨.str _, H, I.tok _, ⟨_, rfl⟩, q⟩
  | int i =>
    obtain ⟨t, rfl⟩ := ru
    exact PySem.P.repr_of_int (of_decide_eq_true sm.shows) ⟨.str _, H, I.tok _, ⟨_, rfl⟩, q⟩
  | str x =>
    obtain ⟨t, rfl⟩ := ru
    exact PySem.P.repr_of_str ⟨.str _, H, I.tok _, ⟨_, rfl⟩, q⟩ fits
  | _ =>
    cases ru
    exact repr_of_reads' rd sm.shows (fun _ => off) quiet (by omega) (fun _ _ e => e) (fun h' t tk more => ⟨.str _, H, I.kept more, ⟨_, rfl⟩, q⟩) fits
end
theorem Dp.noDict {K : PySem.W.Frag} {H : Hp} {v : V} {d : PyData} (h : Dp K H v d) : d.hasDict = false := by
  refine Dp.rec (K := K) (H := H) (motive_1 := fun v d _ => d.hasDict = false) (motive_2 := fun vs ds _ => PyData.hasDictAll ds = false) ?_ ?_ ?_ ?_ ?_ ?_ ?_ ?_ h
  all_goals intros
  all_goals simp_all [PyData.hasDict, PyData.hasDictAll]
section
variable {X : Cx}
theorem call_reprD (quiet : Quiet X.A) (units : X.A.units + 64 < cLine) : CallR X (.builtin "repr")
    (fun xs H Q => ∃ v d n dp, xs = [v] ∧ Dp X.K H v d ∧ Sm n dp d ∧ n ≤ 300000 ∧ dp ≤ 60 ∧ Q (.str d.shown) H) := by
  intro pins s σ H xs us Q I r h
  obtain ⟨v, d, n, dp, rfl, hd, sm, hn, hdp, q⟩ := h
  obtain ⟨u, rfl, ru⟩ := vals1 r
  have fits := sm.fits hn
  have flat := sm.flat
  obtain ⟨as, rd⟩ := Dp.reads I d v u hd ru
  cases hd with
  | non =>
    cases ru
    exact PySem.P.repr_of_none ⟨.str _, H, I.tok _, ⟨_, rfl⟩, q⟩
  | bl b =>
    cases ru
    exact PySem.P.repr_of_bool ⟨.str _, H, I.tok _, ⟨_, rfl⟩, q⟩
  | int i =>
    obtain ⟨t, rfl⟩ := ru
    exact PySem.P.repr_of_int (of_decide_eq_true sm.shows) ⟨.str _, H, I.tok _, ⟨_, rfl⟩, q⟩
  | str x =>
    obtain ⟨t, rfl⟩ := ru
    exact PySem.P.repr_of_str ⟨.str _, H, I.tok _, ⟨_, rfl⟩, q⟩ fits
  | lst h1 h2 =>
    cases ru
    exact repr_of_reads' rd sm.shows (PyData.noDict_hsm (Dp.noDict (Dp.lst h1 h2))) quiet (by omega) (fun _ _ e => e) (fun h' t tk more => ⟨.str _, H, I.kept more, ⟨_, rfl⟩, q⟩) fits
  | tup h1 h2 =>
    cases ru
    exact repr_of_reads' rd sm.shows (PyData.noDict_hsm (Dp.noDict (Dp.tup h1 h2))) quiet (by omega) (fun _ _ e => e) (fun h' t tk more => ⟨.str _, H, I.kept more, ⟨_, rfl⟩, q⟩) fits
end
/-! ### the end of a law row whose def is of the quiet kind -/
theorem quiet_law {P : Program} {w : World} {K : PySem.W.Frag} {mg mb : Str → Option Value} {k : Nat} {fa a : Addr} {fd : FuncData} {x : Str} {sp : Sp} {s₁ : Shared} {vs : List Value} {ns : List Int}
    (inK : K.In s₁.heap) (glob : s₁.heap.Ns mainGlobals mg) (blt : s₁.heap.Ns builtinsNs mb) (bltIs : ∀ y : Str, y ≠ "__name__" → mb y = bootBuiltins y) (lim : s₁.heap.NoLimit) (gens : s₁.gens = #[]) (mods : ∃ mm, s₁.heap.Ns sysModules mm)
    (here : s₁.heap.get? a = some { cls := .type "list", data := .seq vs.toArray }) (whole : IntsAre vs ns) (few : ns.length ≤ sizeLine) (room : Room k callerA)
    (F : ∀ base : Heap, K.In base → base.Ns mainGlobals mg → (∃ mm, base.Ns sysModules mm) → FnG P w K mg base k fa fd [x] sp) (bind : ∀ (s : Shared) (u : Value), BindsTo s fd ⟨[u], []⟩ [(x, u)])
    (want : ∀ H : Hp, Only H → SqL K H a (ns.map V.int) → sp [.ref a] H (fun v _ => v = .bl true) E0) :
    codeAny (model P w) callerA (.call (.ref fa) ⟨[.ref a], []⟩) (fun r s' => r = .ok (.ret (.bool true)) ∧ OldK s₁.heap s'.heap ∧ s'.os = s₁.os ∧ AllBare s'.gens) s₁ := by
  have rel := vals_ints whole
  -- H: the script alone, or nothing
  have main : ∀ H : Hp, Only H → SqL K H a (ns.map V.int) → HOk P w H s₁.heap → (∀ b u, H b = some u → b = a ∧ K.lookup b = none) →
      codeAny (model P w) callerA (.call (.ref fa) ⟨[.ref a], []⟩) (fun r s' => r = .ok (.ret (.bool true)) ∧ OldK s₁.heap s'.heap ∧ s'.os = s₁.os ∧ AllBare s'.gens) s₁ := by
    intro H only sq ok apart
    have untold : ∀ {b o}, s₁.heap.get? b = some o → (b = a → False) → H b = none := by
      intro b o e ne
      cases q : H b with
      | none => rfl
      | some u => exact (ne (apart b u q).1).elim
    have ns1 : ∀ {b m}, s₁.heap.Ns b m → (hidT s₁.heap H).Ns b m := by
      rintro b m ⟨o, es, ep, e, d, r⟩
      refine ⟨o, es, ep, hidT_get e (untold e fun z => ?_), d, r⟩
      subst z
      rw [here] at e
      cases e
      cases d
    have kIn : K.In (hidT s₁.heap H) := by
      intro b o e
      apply hidT_get (inK b o e)
      cases q : H b with
      | none => rfl
      | some u =>
        have z := (apart b u q).2
        rw [e] at z
        cases z
    have lim1 : (hidT s₁.heap H).NoLimit := by
      obtain ⟨mc, h1, h2⟩ := lim
      exact ⟨mc, ns1 h1, h2⟩
    have e0 : Env0 P w K mg (hidT s₁.heap H) callerA [] s₁ H := {
      frames := rfl, mod := ⟨kIn, ns1 glob, ⟨mb, ns1 blt, bltIs⟩, lim1⟩, bs := fun _ _ e => of_hidT e, bsz := Nat.le_of_eq (hidT_size _ _), funs := True.intro, frf := (fun _ hb => nomatch hb), hok := ok, bare := .of_eq gens }
    apply codeAny_mono ((F _ kIn (ns1 glob) (mods.elim fun mm h => ⟨mm, ns1 h⟩)).go (us := [.ref a]) (vs := [.ref a]) room rfl e0 (bind s₁ _) (.cons rfl .nil) (want H only sq))
    intro r s' hr
    match r, hr with
    | .error _, hr => exact hr.elim
    | .ok .next, hr => exact False.elim hr
    | .ok .brk, hr => exact False.elim hr
    | .ok .cont, hr => exact False.elim hr
    | .ok (.ret u), hr =>
      obtain ⟨v, H', os, bare, un, ok', rv, q⟩ := hr
      cases (show v = V.bl true from q)
      cases (show u = Value.bool true from rv)
      refine ⟨rfl, OldK.of_keep ?_, os, bare⟩
      intro b o e
      cases only b with
      | inl n => exact un.keep b o e n (fun z => nomatch z) (fun z => nomatch z)
      | inr n =>
        obtain ⟨ob, xs, z⟩ := n
        have e1 := (ok b _ z).1
        have e2 := (ok' b _ (un.frzs b ob _ z)).1
        rw [e] at e1
        cases e1
        exact e2
  have small : (ns.map V.int).length ≤ sizeLine := by rw [List.length_map]; exact few
  cases known : K.lookup a with
  | some o =>
    have e := inK a o known
    rw [here] at e
    cases e
    have sz : vs.length ≤ sizeLine := by rw [← rel.length]; exact small
    exact main (fun _ => none) (fun _ => .inl rfl) (.inr ⟨_, vs.toArray, _, known, rfl, rfl, rfl, by simpa using sz, by simpa using rel⟩) (fun _ _ z => nomatch z) (fun _ _ z => nomatch z)
  | none =>
    have at1 : ∀ {b u}, (if b = a then some (HO.frz { cls := .type "list", data := .seq vs.toArray } (.lst (ns.map V.int))) else none) = some u → b = a := by
      intro b u z
      by_cases hb : b = a
      · exact hb
      · rw [if_neg hb] at z
        cases z
    refine main (fun b => if b = a then some (.frz { cls := .type "list", data := .seq vs.toArray } (.lst (ns.map V.int))) else none) (fun b => ?_) (.inl (.inr ⟨{ cls := .type "list", data := .seq vs.toArray }, if_pos rfl⟩)) (fun b u z => ?_) (fun b u z => ?_)
    · by_cases hb : b = a
      · exact .inr ⟨_, _, if_pos hb⟩
      · exact .inl (if_neg hb)
    · have hb := at1 z
      subst hb
      have z2 := (if_pos rfl).symm.trans z
      cases z2
      exact ⟨here, small, vs, _, rel, here⟩
    · have hb := at1 z
      subst hb
      exact ⟨rfl, known⟩
theorem quiet_walk {l : PySem.W.OpenLaw} {n k : Nat} {q : Program} {loose : List Str} {XP : (Str → Option Value) → Heap → Prop} {YP : World → Heap → Prop} {d : DefRec} {K : Params → PySem.W.Frag} {sp : World → Sp} {x : Str}
    (noImport : importsNone q = true) (most : l.most = some n) (n2 : n ≤ sizeLine) (defaults : d.params.defaults = []) (room : Room k callerA) (hY : ∀ (w : World) (h : Heap), YP w h → (K w.params).In h)
    (F : ∀ (w : World) (mg : Str → Option Value) (fa : Addr) (h : Heap), (K w.params).In h → h.Ns mainGlobals mg → mg d.name = some (.ref fa) →
      ∃ fd : FuncData, (∀ (s : Shared) (u : Value), BindsTo s fd ⟨[u], []⟩ [(x, u)]) ∧ ∀ base : Heap, (K w.params).In base → base.Ns mainGlobals mg → (∃ mm, base.Ns sysModules mm) → FnG l.prog w (K w.params) mg base k fa fd [x] (sp w))
    (want : ∀ (w : World) (H : Hp) (a : Addr) (ns : List Int), ns.length ≤ n → Only H → SqL (K w.params) H a (ns.map V.int) → sp w [.ref a] H (fun v _ => v = .bl true) E0) :
    PySem.W.WalkO q loose XP YP l.row.toRowW d [] (fun f vs => PySem.call f vs) := by
  apply Att.attach_call most defaults
  intro w s₀ s₁ mg mb fa o pm cd doc a vs ns G Y ho hd hcd hmg hobj hints hlen hg
  obtain ⟨fd, hb, hF⟩ := F w mg fa _ (hY w _ Y) G.T.g hmg
  exact quiet_law (hY w _ Y) G.T.g G.T.b G.T.builtins G.T.nolimit hg ((G.T.seer noImport).mods.elim fun mm h => ⟨mm, h.1⟩) hobj hints (Nat.le_trans hlen n2) room hF hb fun H o1 s1 => want w H a ns hlen o1 s1

/-! ### a op1 b op2 c op3 .. : chains of any length -/
section
variable {X : Cx}
structure PCh (X : Cx) (ops : List CmpOp) (es : List Expr) (t : V → TE) : Prop where
  run : ∀ (pos : Pos) (pins : List (Addr × Obj)) (s : Shared) (σ : L2.St) (H : Hp) (Q : VK) (x : V) (v : Value), Inv X pins σ H s → RelV x v → t x σ H Q → wpAny (model X.prog X.w) X.A (compareChain pos v ops (evalEach es X.env)) (EP X pins σ Q) X.xe s
structure PChT (X : Cx) (ops : List CmpOp) (es : List Expr) (t : V → TE) : Prop where
  run : ∀ (pos : Pos) (pins : List (Addr × Obj)) (s : Shared) (σ : L2.St) (H : Hp) (Q : Bool → Hp → Prop) (x : V) (v : Value), Inv X pins σ H s → RelV x v → (t x σ H fun y H' => ∃ k, y = .bl k ∧ Q k H') → wpAny (model X.prog X.w) X.A (testChain pos v ops (evalEach es X.env)) (TP X pins σ Q) X.xe s
def tLast (r : R2) (tb : TE) : V → TE := fun x σ H Q => tb σ H fun y H2 => r x y H2 Q
def tLink (r : R2) (tb : TE) (rest : V → TE) : V → TE := fun x σ H Q => tb σ H fun y H2 => r x y H2 fun z H3 => ∃ k, z = .bl k ∧ (if k = true then rest y σ H3 Q else Q (.bl false) H3)
def tCh (ta : TE) (rest : V → TE) : TE := fun σ H Q => ta σ H fun x H1 => rest x σ H1 Q
theorem pch_last {op : CmpOp} {r : R2} {b : Expr} {tb : TE} (ho : OpR X (compareOp op) r) (hb : PE X b tb) : PCh X [op] [b] (tLast r tb) :=
  ⟨fun pos pins s σ H Q x v I rx h => chain_last (thn (hb.run pins s σ H _ I h) fun u s2 ⟨y, H2, I2, r2, q2⟩ => ho pins s2 σ H2 x y v u Q I2 rx r2 q2)⟩
theorem pch_link {op op' : CmpOp} {ops : List CmpOp} {r : R2} {b b' : Expr} {bs : List Expr} {tb : TE} {rest : V → TE} (ho : OpR X (compareOp op) r) (hb : PE X b tb) (hr : PCh X (op' :: ops) (b' :: bs) rest) : PCh X (op :: op' :: ops) (b :: b' :: bs) (tLink r tb rest) := by
  refine ⟨fun pos pins s σ H Q x v I rx h => ?_⟩
  refine chain_link (thn (hb.run pins s σ H _ I h) fun u s2 ⟨y, H2, I2, r2, q2⟩ => thn (ho pins s2 σ H2 x y v u _ I2 rx r2 q2) fun d s3 ⟨z, H3, I3, r3, k, e, q3⟩ => ?_)
  subst e
  cases r3
  refine wpAny_truthy_bool ?_
  cases k with
  | false => exact ite_ff ⟨.bl false, H3, I3, rfl, q3⟩
  | true => exact ite_tt (hr.run pos pins s3 σ H3 Q y u I3 r2 q3)
theorem pe_chN {op op' : CmpOp} {ops : List CmpOp} {a b b' : Expr} {bs : List Expr} {pos : Pos} {ta : TE} {rest : V → TE} (ha : PE X a ta) (hr : PCh X (op :: op' :: ops) (b :: b' :: bs) rest)
    (hm : lastMarks (op :: op' :: ops) (b :: b' :: bs) = false := by with_unfolding_all rfl) : PE X (.Compare a (op :: op' :: ops) (b :: b' :: bs) pos) (tCh ta rest) :=
  ⟨fun pins s σ H Q I h => Compare_chain (thn (ha.run pins s σ H _ I h) fun v s1 ⟨x, H1, I1, r1, q1⟩ => hr.run pos pins s1 σ H1 Q x v I1 r1 q1) hm⟩
theorem pchT_last {op : CmpOp} {r : R2} {b : Expr} {tb : TE} (ho : OpR X (compareOp op) r) (hb : PE X b tb) : PChT X [op] [b] (tLast r tb) := by
  refine ⟨fun pos pins s σ H Q x v I rx h => ?_⟩
  refine test_last (thn (hb.run pins s σ H _ I h) fun u s2 ⟨y, H2, I2, r2, q2⟩ => thn (ho pins s2 σ H2 x y v u _ I2 rx r2 q2) fun d s3 ⟨z, H3, I3, r3, k, e, q3⟩ => ?_)
  subst e
  cases r3
  exact wpAny_truthy_bool ⟨H3, I3, q3⟩
theorem pchT_link {op op' : CmpOp} {ops : List CmpOp} {r : R2} {b b' : Expr} {bs : List Expr} {tb : TE} {rest : V → TE} (ho : OpR X (compareOp op) r) (hb : PE X b tb) (hr : PChT X (op' :: ops) (b' :: bs) rest) : PChT X (op :: op' :: ops) (b :: b' :: bs) (tLink r tb rest) := by
  refine ⟨fun pos pins s σ H Q x v I rx h => ?_⟩
  refine test_link (thn (hb.run pins s σ H _ I h) fun u s2 ⟨y, H2, I2, r2, q2⟩ => thn (ho pins s2 σ H2 x y v u _ I2 rx r2 q2) fun d s3 ⟨z, H3, I3, r3, k, e, q3⟩ => ?_)
  subst e
  cases r3
  refine wpAny_truthy_bool ?_
  cases k with
  | false =>
    obtain ⟨k', e', q'⟩ := q3
    cases e'
    exact ite_ff ⟨H3, I3, q'⟩
  | true => exact ite_tt (hr.run pos pins s3 σ H3 Q y u I3 r2 q3)
theorem pt_chN {op op' : CmpOp} {ops : List CmpOp} {a b b' : Expr} {bs : List Expr} {pos : Pos} {ta : TE} {rest : V → TE} (ha : PE X a ta) (hr : PChT X (op :: op' :: ops) (b :: b' :: bs) rest)
    (hm : lastMarks (op :: op' :: ops) (b :: b' :: bs) = false := by with_unfolding_all rfl) : PT X (.Compare a (op :: op' :: ops) (b :: b' :: bs) pos) (tTest (tCh ta rest)) :=
  ⟨fun pins s σ H Q I h => isTrue_chain (thn (ha.run pins s σ H _ I h) fun v s1 ⟨x, H1, I1, r1, q1⟩ => hr.run pos pins s1 σ H1 Q x v I1 r1 q1) hm⟩
end

theorem pi_listK {X : Cx} {K : PySem.W.Frag} {tg l : Expr} {tl : TE} (hK : X.K = K) (hl : PE X l tl) : PI X tg l (iList K tl) := hK ▸ pi_list hl
theorem pi_tupK {X : Cx} {K : PySem.W.Frag} {tg l : Expr} {tl : TE} (hK : X.K = K) (hl : PE X l tl) : PI X tg l (iTup K tl) := hK ▸ pi_tup hl

/-! ### enumerate of a tuple -/
section
open Sem (wp)
set_option maxHeartbeats 4000000 in
theorem enum_of_tuple (t : Addr) (items : Array Value) : Meets (Builtin.«enumerate.__new__» ⟨[.type "enumerate", .ref t], []⟩) (fun _ R s => s.heap.IsTuple t items ∧
    R (.ok (.ret (.ref (s.heap.push { cls := .type "tuple_iterator", data := .fields #[.ref t, .int 0 0] }).objs.size)))
      { s with heap := (s.heap.push { cls := .type "tuple_iterator", data := .fields #[.ref t, .int 0 0] }).push { cls := .type "enumerate", data := .fields #[.none, .bool false, .ref s.heap.objs.size, rawInt 0, .none, .none] } }) := by
  refine .of_wp fun prog w A R s h => ?_
  obtain ⟨hp, g, d, tk, os⟩ := s
  obtain ⟨isT, h⟩ := h
  have sub := sub_enumerate
  have start : ∀ {A' : Around} {E : Value → Shared → Prop} {Q : Value → Shared → Prop}, Q (.ref hp.objs.size) ⟨hp.push { cls := .type "tuple_iterator", data := .fields #[.ref t, .int 0 0] }, g, d, tk, os⟩ → wpAny (model prog w) A' (pyIter (.ref t)) Q E ⟨hp, g, d, tk, os⟩ := by
    intro A' E Q q
    exact (begins_tuple t items).iter prog w A' E ⟨hp, g, d, tk, os⟩ Q isT q
  wp_walk using start
  refine wpAny_stack_any fun st => wpAny_pure ?_
  split
  · rename_i cc _ _ _ _ _
    cases (cc == Value.type "enumerate") <;> (wp_walk using start; exact Exists.intro _ ⟨rfl, h⟩)
  · wp_walk using start
    exact Exists.intro _ ⟨rfl, h⟩
end
theorem call_enumT {prog : Program} {w : World} {A : Around} {E : Value → Shared → Prop} {s : Shared} {t : Addr} {items : Array Value} {Q : Value → Shared → Prop} (isT : s.heap.IsTuple t items)
    (h : ∀ h', IsEnum h' (s.heap.objs.size + 1) s.heap.objs.size 0 .none → h'.IsTupleIter s.heap.objs.size t 0 → (∀ b o, s.heap.get? b = some o → h'.get? b = some o) → Q (.ref (s.heap.objs.size + 1)) { s with heap := h' }) :
    wpAny (model prog w) A (call (.type "enumerate") [.ref t]) Q E s := by
  refine callType_new F.called_enumerate (by decide) (F.typeCall_enumerate_1 _) (F.newCall_enumerate_1 _) (fun obj => F.args_object_init_2 obj _) F.entry_enumerate_new (enum_of_tuple t items) (And.intro isT ?_)
  have size : (s.heap.push { cls := .type "tuple_iterator", data := .fields #[.ref t, .int 0 0] }).objs.size = s.heap.objs.size + 1 := Heap.size_push ..
  show _ ∧ _
  rw [size]
  have made := Heap.get?_push_size (s.heap.push { cls := .type "tuple_iterator", data := .fields #[.ref t, .int 0 0] }) (o := { cls := .type "enumerate", data := .fields #[.none, .bool false, .ref s.heap.objs.size, rawInt 0, .none, .none] }) rfl
  rw [size] at made
  refine ⟨⟨_, made, rfl⟩, h _ made ⟨_, Heap.get?_push_of_some _ (Heap.get?_push_size _ rfl), rfl, rfl⟩ ?_⟩
  intro b o e
  exact Heap.get?_push_of_some _ (Heap.get?_push_of_some _ e)
/-- the tuple at a, each item in a new pair with its place -/
def IteT (K : PySem.W.Frag) (a : Addr) (N : Nat) : It where
  go := fun i H => ∃ (xs : List V) (x : V), SqT K H a xs ∧ xs[i]? = some x ∧ xs.length = N
  yld := fun i H v H' => ∃ t x, v = .ref t ∧ H t = none ∧ H' = upd H t (.tup [.int (i : Nat), x]) ∧ ∀ xs, SqT K H a xs → xs[i]? = some x
  stop := fun i H => ∃ xs : List V, SqT K H a xs ∧ xs.length = N ∧ N ≤ i
theorem turn_enumT {P : Program} {w : World} {K : PySem.W.Frag} {elts : List Expr} {kk : Nat} {tpos : Pos} (a e it : Addr) (N : Nat) :
    Turn P w K (.Tuple elts kk tpos) (IteT K a N) [e, it] e (fun i h => (∃ old, IsEnum h e it ((i : Nat) : Int) old) ∧ h.IsTupleIter it a i ∧ e ≠ it ∧ i ≤ N) := by
  have two : ∀ {b : Addr}, b ∈ [e, it] → b = e ∨ b = it := fun hb => by simpa using hb
  constructor
  · simp
  · rintro i h ⟨⟨old, he⟩, ⟨o, ho, hc, hd⟩, _, _⟩ b hb
    rcases two hb with rfl | rfl
    · exact ⟨_, he, fun v q => nomatch q⟩
    · refine ⟨o, ho, fun v q => ?_⟩
      rw [hd] at q
      cases q
  · rintro i h h' ⟨⟨old, he⟩, hi, hne, hN⟩ k
    exact ⟨⟨old, k e (by simp) _ he⟩, hi.at fun o q => k it (by simp) o q, hne, hN⟩
  · intro X hP hw hK hc i pins s σ H E I hf st hg
    subst hP hw hK
    obtain ⟨⟨old, he⟩, hit, hne, hN⟩ := st
    obtain ⟨xs, x, hq, hx, hxN⟩ := hg
    have inside := (List.getElem?_eq_some_iff.mp hx).1
    obtain ⟨its, rv, p, _⟩ := I.tuple hq
    obtain ⟨u, hu, ru⟩ := rv.get hx
    have isT : s.heap.IsTuple a its.toArray := p
    have apart : a ≠ it := by
      rintro rfl
      obtain ⟨o1, q1, c1, _⟩ := hit
      obtain ⟨o2, q2, c2, _⟩ := isT
      rw [q1] at q2
      cases q2
      rw [c1] at c2
      exact absurd (Value.type.inj c2) (by decide)
    have hea : e ≠ a := by
      rintro rfl
      obtain ⟨o2, q2, c2, _⟩ := isT
      rw [he] at q2
      cases q2
      exact absurd (Value.type.inj c2) (by decide)
    have lte : e < s.heap.objs.size := Heap.lt_size he
    have lti : it < s.heap.objs.size := hit.elim fun _ q => Heap.lt_size q.1
    have less : i < its.toArray.size := by
      have z := (List.getElem?_eq_some_iff.mp hu).1
      rw [List.size_toArray]
      exact z
    apply wpAny_pyNext_enum_itemD (Draws.tuple (A := X.A.in1) (I.ok.hd hc) it a apart its.toArray) he ⟨hit, isT⟩ less hne (by simp [hne, hea])
    intro y h' tk hy ho st' hT hsz hk
    have ey : y = u := by
      have z : its[i]? = some y := by simpa using hy
      rw [hu] at z
      exact (Option.some.inj z).symm
    subst ey
    refine ⟨_, rfl, wpAny_letOwnedTupleGo_enum (s := { s with heap := h', toks := tk + 1 }) ho fun h2 he2 sb => ?_⟩
    have kept : ∀ b o, b ∉ [e, it] → s.heap.get? b = some o → h2.get? b = some o := by
      intro b o nb q
      have n1 : b ≠ e := fun z => nb (by simp [z])
      have n2 : b ≠ it := fun z => nb (by simp [z])
      exact (sb.2 b n1).trans (hk b o n1 n2 q)
    have hT2 : h2.get? s.heap.objs.size = some { cls := .type "tuple", data := .seq #[.int i tk, y] } := (sb.2 _ (Nat.ne_of_gt lte)).trans hT
    have I1 : Inv X pins σ (upd H s.heap.objs.size (.tup [.int (i : Nat), x])) { s with heap := h2, toks := tk + 1 } := by
      refine I.turnedNew (ch := [e, it]) kept hf (Nat.le_refl _) ⟨by show 2 ≤ sizeLine; decide, [.int i tk, y], .cons ⟨_, rfl⟩ (.cons ru .nil), ?_⟩
      exact ⟨_, hT2, rfl, _, rfl⟩
    refine ⟨.ref s.heap.objs.size, _, I1, rfl, ⟨_, x, rfl, I.hok.fresh (Nat.le_refl _), rfl, fun ys hys => ?_⟩, ⟨⟨y, ?_⟩, ?_, hne, by omega⟩, fun b hb => ?_⟩
    · rw [I.tuple_inj hys hq]
      exact hx
    · have cast : ((i + 1 : Nat) : Int) = (i : Int) + 1 := by omega
      rw [cast]
      exact he2
    · exact st'.1.at fun o q => (sb.2 it hne.symm).trans q
    · have lt : b < s.heap.objs.size := by
        rcases two hb with rfl | rfl
        · exact lte
        · exact lti
      rw [upd_ne (Nat.ne_of_lt lt)]
      exact (hf b hb).1
  · intro X hP hw hK hc i pins s σ H E I hf st hg
    subst hP hw hK
    obtain ⟨⟨old, he⟩, hit, hne, hN⟩ := st
    obtain ⟨xs, hq, hxN, hx⟩ := hg
    obtain ⟨its, rv, p, _⟩ := I.tuple hq
    have isT : s.heap.IsTuple a its.toArray := p
    have apart : a ≠ it := by
      rintro rfl
      obtain ⟨o1, q1, c1, _⟩ := hit
      obtain ⟨o2, q2, c2, _⟩ := isT
      rw [q1] at q2
      cases q2
      rw [c1] at c2
      exact absurd (Value.type.inj c2) (by decide)
    obtain ⟨f0, f1, f2, f3, f4, f5⟩ := hf it (by simp)
    have len := rv.length
    have at1 : i = its.toArray.size := by
      rw [List.size_toArray]
      omega
    subst at1
    apply wpAny_pyNext_enum_endD (Draws.tuple (A := X.A.in1) (I.ok.hd hc) it a apart its.toArray) he ⟨hit, isT⟩
    intro h' eb
    exact And.intro rfl (I.turned (t' := s.toks) (fun b o hb q => eb b o hb q) f0 f1 f3 f4 f5)
  · rintro A i s Q E ⟨⟨_, he⟩, _⟩ h
    exact wpAny_pyIter_enum he h
def iEnumT (K : PySem.W.Frag) (ta : TA) : TI := fun σ H R => ta σ H fun vs H1 => ∃ a xs, vs = [.ref a] ∧ SqT K H1 a xs ∧ R (IteT K a xs.length) H1
theorem pi_enumT {X : Cx} {e : Expr} {ta : TA} {p pos tpos : Pos} {elts : List Expr} {kk : Nat} (hg : Gl X "enumerate") (hm : X.mg "enumerate" = none) (args : PA X [e] ta) (star : starEach [e] X.env = [(false, eval e X.env)] := by rfl) :
    PI X (.Tuple elts kk tpos) (.Call (.Name "enumerate" p) [e] [] pos) (iEnumT X.K ta) := by
  constructor
  intro pins s σ H R I h
  refine Call_ (ld_blt I hg hm boot_enumerate ?_)
  refine PyProof.Rows.callWith_type1 (thn (args.run pos pins s σ H _ I h) ?_) star rfl
  rintro us s1 ⟨vs, H1, I1, rel, a, xs, rfl, sq, q⟩
  obtain ⟨u, rfl, ru⟩ := vals1 rel
  cases ru
  obtain ⟨its, rv, isT, _⟩ := I1.tuple sq
  refine call_enumT (items := its.toArray) isT fun h' he hit hk => wpAny_pyIter_enum he ?_
  have fresh : ∀ b ∈ [s1.heap.objs.size + 1, s1.heap.objs.size], s1.heap.objs.size ≤ b := by
    intro b hb
    have z : b = s1.heap.objs.size + 1 ∨ b = s1.heap.objs.size := by simpa using hb
    rcases z with rfl | rfl
    · exact Nat.le_add_right _ _
    · exact Nat.le_refl _
  exact ⟨_, _, _, _, H1, rfl, I1.kept hk, turn_enumT a (s1.heap.objs.size + 1) s1.heap.objs.size xs.length, ⟨⟨.none, he⟩, hit, Nat.succ_ne_self _, Nat.zero_le _⟩, fun b hb => I1.fpOk (fresh b hb) (I1.hok.fresh (fresh b hb)), q⟩

/-! ### t[::-1] of a tuple; xs == [], xs != [] of a list that may hold anything -/
section
open HT
variable {prog : Program} {w : World} {A : Around} {E : Value → Shared → Prop} {s : Shared}
theorem adjust_rev (n : Nat) : Builtin.Slice.sliceAdjust none none (-1) (n : Int) = ((n : Int) - 1, -1) := by
  unfold Builtin.Slice.sliceAdjust
  have h1 : (-1 : Int) < 0 := by decide
  simp only [h1, if_true]
theorem places_rev (n : Nat) : Builtin.Slice.slicePlaces ((n : Int) - 1) (-1) (-1) = n := by
  unfold Builtin.Slice.slicePlaces
  have h1 : ¬ ((-1 : Int) > 0) := by decide
  simp only [h1, if_false]
  have h2 : (-(-1) : Int) = 1 := by decide
  rw [h2, Int.ediv_one]
  split <;> omega
theorem sliceApplied_rev {sl : Addr} {vl vu vs : Value} {n : Nat} {Q : Int × Int × Nat → Shared → Prop} (hs : s.heap.IsSliceOf sl vl vu vs) (pl : IsPart vl none) (pu : IsPart vu none) (pt : IsPart vs (some (-1)))
    (h : Q ((n : Int) - 1, -1, n) s) : wpAny (model prog w) A (Builtin.Slice.sliceApplied (.ref sl) (pure (n : Int))) Q E s := by
  obtain ⟨os, hos, hcs, hds⟩ := id hs
  unfold Builtin.Slice.sliceApplied Builtin.Slice.sliceFields
  refine wpAny_bind (wpAny_bind (wpAny_field hos hds (x := vl) rfl (wpAny_bind (wpAny_field hos hds (x := vu) rfl (wpAny_bind (wpAny_field hos hds (x := vs) rfl (wpAny_pure ?_)))))))
  refine wpAny_bind (slicePart_ pt ?_)
  show wpAny _ _ (if ((-1 : Int) == 0) = true then _ else _) _ _ s
  rw [if_neg (by decide)]
  refine wpAny_bind (slicePart_ pl (wpAny_bind (slicePart_ pu (wpAny_bind (wpAny_pure ?_)))))
  show wpAny _ _ (match Builtin.Slice.sliceAdjust none none (-1) (n : Int) with | (lo, hi) => pure (lo, (-1 : Int), Builtin.Slice.slicePlaces lo hi (-1))) _ _ s
  rw [adjust_rev]
  show wpAny _ _ (pure ((n : Int) - 1, (-1 : Int), Builtin.Slice.slicePlaces ((n : Int) - 1) (-1) (-1))) _ _ s
  rw [places_rev]
  exact wpAny_pure h
theorem pick_rev (xs : Array Value) : ((List.range xs.size).filterMap fun (k : Nat) => xs[((xs.size : Int) - 1 + (k : Int) * (-1)).toNat]?) = xs.toList.reverse := by
  have e : ∀ m : Nat, m ≤ xs.size → ((List.range m).filterMap fun (k : Nat) => xs[((xs.size : Int) - 1 + (k : Int) * (-1)).toNat]?) = xs.toList.reverse.take m := by
    intro m
    induction m with
    | zero => intro _; rfl
    | succ m ih =>
      intro hm
      rw [List.range_succ, List.filterMap_append, ih (by omega), List.take_add_one]
      congr 1
      have e1 : ((xs.size : Int) - 1 + (m : Int) * (-1)).toNat = xs.size - 1 - m := by omega
      have e2 : xs.toList.reverse[m]? = xs[xs.size - 1 - m]? := by
        rw [List.getElem?_reverse (by rw [Array.length_toList]; omega), Array.length_toList, Array.getElem?_toList]
      rw [e2]
      have lt : xs.size - 1 - m < xs.size := by omega
      simp only [List.filterMap_cons, List.filterMap_nil, e1]
      rw [Array.getElem?_eq_getElem lt]
      rfl
  rw [e _ (Nat.le_refl _), List.take_of_length_le (by rw [List.length_reverse, Array.length_toList]; exact Nat.le_refl _)]
theorem getItem_tuple_rev {t sl : Addr} {items : Array Value} {vl vu vs : Value} {Q : Value → Shared → Prop} (ht : IsTup s.heap t items) (hs : s.heap.IsSliceOf sl vl vu vs) (pl : IsPart vl none) (pu : IsPart vu none) (pt : IsPart vs (some (-1)))
    (h : Q (.ref s.heap.objs.size) { s with heap := s.heap.push { cls := .type "tuple", data := .seq items.toList.reverse.toArray } })
    (hsz : items.size ≤ sizeLine) : wpAny (model prog w) A (getItem (.ref t) (.ref sl)) Q E s := by
  have htake : sizeOk (.seq items.toList.reverse.toArray) := by
    show items.toList.reverse.toArray.size ≤ sizeLine
    rw [List.size_toArray, List.length_reverse, Array.length_toList]
    omega
  obtain ⟨os, hos, hcs, hds⟩ := id hs
  have hTs : s.TypeIs (.ref sl) "slice" := ⟨os, hos, hcs⟩
  unfold getItem
  try with_reducible refine wpAny_holding ?_
  first | refine wpAny_bind (wpAny_pure ?_) | skip
  refine wpAny_bind (wpAny_sequenceKey ht.typeIs (by decide) ?_)
  refine wpAny_bind (wpAny_callSpecial?_slot (name := Str.ofString "__getitem__") ht.typeIs PyProof.Rows.slot_tuple_getitem
    (wpAny_call_entry PyProof.Rows.slot_tuple_getitem ht.typeIs entry_tuple_getitem ?_ (args_tuple_getitem _ _)))
  show wpAny _ _ (Builtin.Tuple.tupleItemsOf (.ref t) >>= _) _ _ s
  refine wpAny_bind (tupleItemsOf_ ht ?_)
  refine wpAny_bind (wpAny_typeOf hTs ?_)
  rw [if_pos (by decide)]
  refine wpAny_bind (sliceApplied_rev hs pl pu pt ?_)
  have hno : ¬ ((((items.size : Int) - 1) == 0 && (-1 : Int) == 1 && items.size == items.size) = true) := by
    intro q
    rw [Bool.and_eq_true, Bool.and_eq_true] at q
    exact absurd q.1.2 (by decide)
  show wpAny _ _ (if (((items.size : Int) - 1) == 0 && (-1 : Int) == 1 && items.size == items.size) = true then _ else _) _ _ s
  rw [if_neg hno, pick_rev]
  first
    | exact wpAny_bind (m := Builtin.Tuple.tupleExact _) (wpAny_newObj_type (wpAny_pure ⟨_, rfl, wpAny_pure h⟩) htake)
    | exact wpAny_bind (m := Builtin.Tuple.tupleExact _) (wpAny_newObj_type (wpAny_bind (wpAny_pure (wpAny_pure ⟨_, rfl, wpAny_pure h⟩))) htake)
    | exact wpAny_bind (wpAny_bind (m := Builtin.Tuple.tupleExact _) (wpAny_newObj_type (wpAny_pure (wpAny_pure ⟨_, rfl, wpAny_pure h⟩)) htake))
    | exact wpAny_bind (wpAny_bind (m := Builtin.Tuple.tupleExact _) (wpAny_newObj_type (wpAny_pure ⟨_, rfl, wpAny_pure h⟩) htake))
end
section
variable {X : Cx}
def tRevT (K : PySem.W.Frag) (te : TE) : TE := fun σ H Q => te σ H fun x H1 => ∃ a xs, x = .ref a ∧ SqT K H1 a xs ∧ ∀ p, H1 p = none → Q (.ref p) (upd H1 p (.tup xs.reverse))
theorem pe_revT {e : Expr} {te : TE} {k : Nat} {p1 p2 p3 pos : Pos} (he : PE X e te) : PE X (.Subscript e (.Slice none none (some (.UnaryOp .USub (.Constant (.int 1) k p1) p2)) p3) pos) (tRevT X.K te) := by
  refine ⟨fun pins s σ H Q I h => ?_⟩
  refine Subscript_ (thn (he.run pins s σ H _ I h) fun v s1 ⟨x, H1, I1, r1, q1⟩ => ?_)
  obtain ⟨a, xs, ex, hx, q⟩ := q1
  subst ex
  cases r1
  have hst : PO X (some (.UnaryOp .USub (.Constant (.int 1) k p1) p2)) (tPart (tUn (rU fun i => .int (-i)) (tC (.int 1)))) := po_some (pe_un un_neg pe_int)
  refine wpAny_Slice (thn (po_none.run pins s1 σ H1 (fun o H2 => o = none ∧ H2 = H1) I1 ⟨rfl, rfl⟩) fun vl s2 ⟨l, H2, I2, pl, el, e2⟩ => ?_)
  subst el e2
  refine thn (po_none.run pins s2 σ H2 (fun o H3 => o = none ∧ H3 = H2) I2 ⟨rfl, rfl⟩) fun vu s3 ⟨u, H3, I3, pu, eu, e3⟩ => ?_
  subst eu e3
  refine thn (hst.run pins s3 σ H3 (fun o H4 => o = some (-1) ∧ H4 = H3) I3 ⟨1, rfl, -1, rfl, rfl, rfl⟩) fun vs s4 ⟨o, H4, I4, ps, eo, e4⟩ => ?_
  subst eo e4
  have I5 : Inv X pins σ H4 { s4 with heap := s4.heap.push { cls := .type "slice", data := .fields #[vl, vu, vs] } } := I4.kept (t' := s4.toks) fun b ob q => Heap.get?_push_of_some _ q
  obtain ⟨its, r, ht, hz⟩ := I5.tuple hx
  have hlen := r.length
  show wpAny (model X.prog X.w) X.A (subscriptTail e (.Slice none none (some (.UnaryOp .USub (.Constant (.int 1) k p1) p2)) p3) (.ref a) (.ref s4.heap.objs.size)) (EP X pins σ Q) X.xe { s4 with heap := s4.heap.push { cls := .type "slice", data := .fields #[vl, vu, vs] } }
  refine tail_any (ops := [.ref a, .ref s4.heap.objs.size]) ht.typeIs (PyProof.Rows.slot_tuple_getitem.lookup) ?_ (by with_unfolding_all rfl)
  refine getItem_tuple_rev ht (Heap.IsSliceOf.new _ vl vu vs) pl pu ps ?_ (by rw [List.size_toArray]; omega)
  refine ⟨.ref _, _, I5.laid (t' := s4.toks) (o := .tup xs.reverse) (fun b ob q => Heap.get?_push_of_some _ q) (Nat.le_refl _) ?_, rfl, q _ (I5.hok.fresh (Nat.le_refl _))⟩
  exact ⟨by rw [List.length_reverse]; exact hz, _, r.reverse, IsTup.new _ _⟩
def rEqL (K : PySem.W.Frag) : R2 := fun x y H Q => ∃ (a b : Addr) (xs : List V), x = .ref a ∧ y = .ref b ∧ SqL K H a xs ∧ SqL K H b [] ∧ Q (.bl xs.isEmpty) H
def rNeL (K : PySem.W.Frag) : R2 := fun x y H Q => ∃ (a b : Addr) (xs : List V), x = .ref a ∧ y = .ref b ∧ SqL K H a xs ∧ SqL K H b [] ∧ Q (.bl (!xs.isEmpty)) H
theorem op_eqL (units : X.A.units < cLine) : OpR X (compareOp .Eq) (rEqL X.K) := by
  intro pins s σ H x y v u Q I rx ry h
  obtain ⟨a, b, xs, rfl, rfl, ha, hb, q⟩ := h
  cases rx
  cases ry
  obtain ⟨its, r1, p1, _⟩ := I.list ha
  obtain ⟨its2, r2, p2, _⟩ := I.list hb
  cases r2
  cases r1 with
  | nil =>
    exact SeqAt.eq_listAt (e := fun _ => true) p1.isList p2.isList rfl units (fun j h1 h2 => absurd h2 (Nat.not_lt_zero j)) ⟨.bl true, H, I, rfl, q⟩
  | cons r t =>
    exact SeqAt.eq_list_lengthsAt p1.isList p2.isList (by simp) units ⟨.bl false, H, I, rfl, q⟩
theorem op_neL (units : X.A.units < cLine) : OpR X (compareOp .NotEq) (rNeL X.K) := by
  intro pins s σ H x y v u Q I rx ry h
  obtain ⟨a, b, xs, rfl, rfl, ha, hb, q⟩ := h
  cases rx
  cases ry
  obtain ⟨its, r1, p1, _⟩ := I.list ha
  obtain ⟨its2, r2, p2, _⟩ := I.list hb
  cases r2
  cases r1 with
  | nil =>
    exact SeqAt.RcNeAt.lists (e := fun _ => true) p1.isList p2.isList rfl units (fun j h1 h2 => absurd h2 (Nat.not_lt_zero j)) X.prog X.w X.xe (EP X pins σ Q) ⟨.bl false, H, I, rfl, q⟩
  | cons r t =>
    exact SeqAt.RcNeAt.lists_lengths p1.isList p2.isList (by simp) units X.prog X.w X.xe (EP X pins σ Q) ⟨.bl true, H, I, rfl, q⟩
end

/-! ### x in t, x not in t, for a tuple of data -/
theorem units65 {k : Nat} {A : Around} (r : Room k A) : A.units + 65 < cLine := by
  have := r.un
  omega
section
variable {X : Cx}
def rInT (K : PySem.W.Frag) : R2 := fun x y H Q => ∃ d ds, Dp K H x d ∧ Dp K H y (.tuple ds) ∧ SeqAt.shaped d = true ∧ SeqAt.shaped (.tuple ds) = true ∧ Q (.bl (ds.any fun z => PyData.eqv z d)) H
def rNotInT (K : PySem.W.Frag) : R2 := fun x y H Q => ∃ d ds, Dp K H x d ∧ Dp K H y (.tuple ds) ∧ SeqAt.shaped d = true ∧ SeqAt.shaped (.tuple ds) = true ∧ Q (.bl (!ds.any fun z => PyData.eqv z d)) H
theorem op_inT (units : X.A.units + 65 < cLine) : OpR X (compareOp .In) (rInT X.K) := by
  intro pins s σ H x y v u Q I rx ry ⟨d, ds, dx, dy, sx, sy, q⟩
  obtain ⟨_, r1⟩ := Dp.reads I d x v dx rx
  obtain ⟨_, r2⟩ := Dp.reads I (.tuple ds) y u dy ry
  have l2 : PyData.canLayAll0 ds = true := SeqAt.canLay_of_shaped sy
  exact SeqAt.in_tuple_reads r2 r1 l2 (SeqAt.canLay_of_shaped sx) (room_in_shaped sx units) (Exists.intro (V.bl _) ⟨H, I, rfl, q⟩)
theorem op_notInT (units : X.A.units + 65 < cLine) : OpR X (compareOp .NotIn) (rNotInT X.K) := by
  intro pins s σ H x y v u Q I rx ry ⟨d, ds, dx, dy, sx, sy, q⟩
  obtain ⟨_, r1⟩ := Dp.reads I d x v dx rx
  obtain ⟨_, r2⟩ := Dp.reads I (.tuple ds) y u dy ry
  have l2 : PyData.canLayAll0 ds = true := SeqAt.canLay_of_shaped sy
  exact SeqAt.notIn_tuple_reads r2 r1 l2 (SeqAt.canLay_of_shaped sx) (room_in_shaped sx units) (Exists.intro (V.bl _) ⟨H, I, rfl, q⟩)
end
theorem for_zipU {K : PySem.W.Frag} {a b : Addr} {xs ys : List V} {g : TG} {tb : TS} {D : Ends} {σ : L2.St} {H : Hp} (Pv : Nat → L2.St → Hp → Prop) (h0 : Pv 0 σ H) (hq : ∀ i σ H, Pv i σ H → SqT K H a xs ∧ SqT K H b ys)
    (hs : ∀ (i : Nat) (x y : V) (T : Addr) (σ : L2.St) (H : Hp), xs[i]? = some x → ys[i]? = some y → Pv i σ H → H T = none → g (.ref T) σ (upd H T (.tup [x, y])) fun σ2 H2 => tb { D with nx := Pv (i + 1), ct := Pv (i + 1), bk := D.nx } σ2 H2) (hd : ∀ i σ H, i ≤ xs.length → Pv i σ H → D.nx σ H) :
    ∃ W : Nat → Nat → L2.St → Hp → Prop, (∃ m, W 0 m σ H) ∧ ∀ i m σ H, W i m σ H →
      ((RZ.ItzT K a b).stop i H ∧ D.nx σ H) ∨ ((RZ.ItzT K a b).go i H ∧ ∃ N : L2.St → Hp → Prop, (∀ σ' H', N σ' H' → ∃ m', m' < m ∧ W (i + 1) m' σ' H') ∧ ∀ v H', (RZ.ItzT K a b).yld i H v H' → g v σ H' fun σ2 H2 => tb { D with nx := N, ct := N, bk := D.nx } σ2 H2) := by
  refine ⟨fun i m σ H => m = xs.length - i ∧ i ≤ xs.length ∧ Pv i σ H, ⟨_, rfl, Nat.zero_le _, h0⟩, ?_⟩
  rintro i m σ H ⟨rfl, hi, p⟩
  obtain ⟨q1, q2⟩ := hq i σ H p
  by_cases c : i < xs.length ∧ i < ys.length
  · refine .inr ⟨⟨xs, ys, xs[i]'c.1, ys[i]'c.2, q1, q2, List.getElem?_eq_getElem c.1, List.getElem?_eq_getElem c.2⟩, Pv (i + 1), fun σ' H' p' => ⟨xs.length - (i + 1), by omega, rfl, by omega, p'⟩, fun v H' hy => ?_⟩
    obtain ⟨T, x, y, rfl, nT, rfl, f1, f2⟩ := hy
    exact hs i x y T σ H (f1 xs q1) (f2 ys q2) p nT
  · exact .inl ⟨⟨xs, ys, q1, q2, by omega⟩, hd i σ H hi p⟩

/-- a statement that is never come to -/
theorem ps_never {X : Cx} {st : Stmt} : PS X st (fun _ _ _ => False) := ⟨fun _ _ _ _ _ _ h => h.elim⟩

/-! ### a walk over a tuple, whatever its body is (comprehensions with two for) -/
theorem walkT {K : PySem.W.Frag} {a : Addr} {xs : List V} {B : V → Hp → (Hp → Prop) → Prop} {H0 : Hp} {Qd : Hp → Prop} (Pv : Nat → Hp → Prop) (h0 : Pv 0 H0) (hl : ∀ i H, i ≤ xs.length → Pv i H → SqT K H a xs)
    (hs : ∀ i x H, xs[i]? = some x → Pv i H → B x H (Pv (i + 1))) (hd : ∀ H, Pv xs.length H → Qd H) :
    ∃ W : Nat → Nat → Hp → Prop, (∃ m, W 0 m H0) ∧ ∀ i m H, W i m H →
      ((Itt K a).stop i H ∧ Qd H) ∨ ((Itt K a).go i H ∧ ∃ Nx : Hp → Prop, (∀ H', Nx H' → ∃ m', m' < m ∧ W (i + 1) m' H') ∧ ∀ x H', (Itt K a).yld i H x H' → B x H' Nx) := by
  refine ⟨fun i m H => m = xs.length - i ∧ i ≤ xs.length ∧ Pv i H, ⟨xs.length, by simp, Nat.zero_le _, h0⟩, ?_⟩
  rintro i m H ⟨rfl, hi, p⟩
  have q := hl i H hi p
  by_cases hlt : i < xs.length
  · refine .inr ⟨⟨xs, xs[i], q, by simp [hlt]⟩, Pv (i + 1), fun H' p' => ⟨xs.length - (i + 1), by omega, rfl, hlt, p'⟩, fun x H' y => ?_⟩
    obtain ⟨e, y⟩ := y
    subst e
    exact hs i x _ (y xs q) p
  · have e : i = xs.length := by omega
    subst e
    exact .inl ⟨⟨xs, q, by omega⟩, hd H p⟩

/-! ### max(xs, key=f), f a built-in that makes an int of an item and changes nothing -/
section
variable {prog : Program} {w : World} {A : Around} {E : Value → Shared → Prop} {s : Shared} {l : Addr} {kid : String} {vs : List Value} {Q : Value → Shared → Prop}
/-- all objects stay -/
abbrev Stay (h h' : Heap) : Prop := ∀ b o, h.get? b = some o → h'.get? b = some o
theorem isL_stay {h h' : Heap} {a : Addr} {xs : Array Value} (k : Stay h h') (x : h.IsList a xs) : h'.IsList a xs := let ⟨o, e, r⟩ := x; ⟨o, k _ _ e, r⟩
theorem isT_stay {h h' : Heap} {a : Addr} {xs : Array Value} (k : Stay h h') (x : IsTup h a xs) : IsTup h' a xs := let ⟨o, e, r⟩ := x; ⟨o, k _ _ e, r⟩
def KeyAt (prog : Program) (w : World) (A : Around) (s : Shared) (f : Value) (vs : List Value) (kf : Nat → Int) : Prop :=
  ∀ (i : Nat) (v : Value), vs[i]? = some v → ∀ (h : Heap) (tk : Nat), Stay s.heap h →
    wpAny (model prog w) A (call f [v]) (fun x s' => ∃ h' tk' t, s' = { s with heap := h', toks := tk' } ∧ x = .int (kf i) t ∧ Stay h h') (fun _ _ => False) { s with heap := h, toks := tk }
/-- the first of the greatest keys -/
def Topmost (kf : Nat → Int) (n i : Nat) : Prop := ∀ j, j < n → kf j ≤ kf i ∧ (j < i → kf j < kf i)
theorem maxKey_loop {I S : Addr} {R : Result → Shared → Prop} (kf : Nat → Int) (hh : A.handled = none) (isL : s.heap.IsList l vs.toArray) (lI : l ≠ I) (SI : S ≠ I) (nI : s.heap.get? I = none) (nS : s.heap.get? S = none) (key : KeyAt prog w A.in1 s (.builtin kid) vs kf)
    (fin : ∀ i v h' tk', vs[i]? = some v → Topmost kf vs.length i → Stay s.heap h' → R (.ok (.ret v)) { s with heap := h', toks := tk' }) :
    ∀ (r j i : Nat) (h : Heap) (tk : Nat) (vb : Value) (tb : Tok) (c : Nat), vs.length - (j + 1) = r → j + 1 ≤ vs.length → Stay s.heap h →
      h.get? S = some (seqObj "list" #[vb, .int (kf i) tb] c) → h.IsListIter I l (j + 1) → vs[i]? = some vb → i ≤ j → Topmost kf (j + 1) i →
      codeAny (model prog w) A (.builtin "max.loop" ⟨[.ref I, .builtin kid, .ref S], []⟩) R { s with heap := h, toks := tk } := by
  have nm : (toString "max" ++ toString ".loop" : String) = "max.loop" := by decide
  have wk := Walks.list (prog := prog) (w := w) (A := A.in1) hh I l lI vs.toArray
  have sz : vs.toArray.size = vs.length := List.size_toArray ..
  have off : ∀ {h h' : Heap} {x : Addr}, s.heap.get? x = none → Stay s.heap h → (∀ b o, b ≠ x → h.get? b = some o → h'.get? b = some o) → Stay s.heap h' := fun nx st k b o e => k b o (fun z => by rw [z, nx] at e; cases e) (st b o e)
  intro r
  induction r with
  | zero =>
    intro j i h tk vb tb c er jl st gS it ev ij top
    have last : j + 1 = vs.length := by omega
    refine codeAny_builtin (b := _) PySem.F.entry_max_loop ?_
    rw [Around.under_plainId (PySem.F.plain_max_loop) _]
    show wpAny _ A.in1 (seqItems? (Value.ref S) >>= _) _ _ _
    refine wpAny_bind (wpAny_seqItems (gS) rfl ?_)
    show wpAny _ A.in1 (tryCatch (pyNext (Value.ref I)) _ >>= _) _ _ _
    refine wpAny_bind (wpAny_tryCatch (wk.done _ _ _ ⟨by rw [sz, ← last]; exact it, isL_stay st isL⟩ fun h1 tk1 k1 => ?_))
    have st1 := off nI st (fun b o nb e => k1 b o (fun z => nb (List.mem_singleton.mp z)) e)
    have gS1 := k1 S _ (fun z => SI (List.mem_singleton.mp z)) gS
    have u1 := Heap.SameBut.update h1 S (Obj.mapSeq (fun _ => (#[] : Array Value)))
    show wpAny _ A.in1 (updateSeq S (fun _ => #[]) >>= fun _ => _) _ _ _
    refine wpAny_bind (wpAny_updateSeq gS1 rfl (wpAny_bind (wpAny_letGo (wpAny_pure ?_))))
    exact fin i vb _ _ ev (by rw [← last]; exact top) (off nS st1 fun b o nb e => (u1.2 b nb).trans e)
  | succ r ih =>
    intro j i h tk vb tb c er jl st gS it ev ij top
    have more : j + 1 < vs.length := by omega
    refine codeAny_builtin (b := _) PySem.F.entry_max_loop ?_
    rw [Around.under_plainId (PySem.F.plain_max_loop) _]
    show wpAny _ A.in1 (seqItems? (Value.ref S) >>= _) _ _ _
    refine wpAny_bind (wpAny_seqItems (gS) rfl ?_)
    show wpAny _ A.in1 (tryCatch (pyNext (Value.ref I)) _ >>= _) _ _ _
    refine wpAny_bind (wpAny_tryCatch (wk.item (j + 1) _ _ _ (by rw [sz]; exact more) ⟨it, isL_stay st isL⟩ fun v h1 tk1 pv it1 k1 => ?_))
    have ev1 : vs[j + 1]? = some v := by simpa using pv
    obtain ⟨oI, gI, cI, dI⟩ := it1.1
    have st1 := off nI st (fun b o nb e => k1 b o (fun z => nb (List.mem_singleton.mp z)) e)
    have gS1 := k1 S _ (fun z => SI (List.mem_singleton.mp z)) gS
    show wpAny _ A.in1 (tryCatch (holding [v] (call (Value.builtin kid) [v])) _ >>= _) _ _ _
    refine wpAny_bind (wpAny_tryCatch (wpAny_holding (wpAny_mono (key (j + 1) v ev1 h1 tk1 st1) (fun x s2 hx => ?_) (fun _ _ no => no.elim))))
    obtain ⟨h2, tk2, t2, rfl, rfl, k2⟩ := hx
    have st2 : Stay s.heap h2 := fun b o e => k2 b o (st1 b o e)
    have gS2 := k2 _ _ gS1
    have gI2 := k2 _ _ gI
    show wpAny _ A.in1 (tryCatch (holding [v, Value.int (kf (j + 1)) t2] (richCompare .Gt (.int (kf (j + 1)) t2) (.int (kf i) tb) >>= _)) _ >>= _) _ _ _
    refine wpAny_bind (wpAny_tryCatch (wpAny_holding (wpAny_bind (CmpOf.ints_gt (prog := prog) (w := w) (A := A.in1) (P := fun n u => ∃ t, u = .int (kf n) t) kf (fun n u z => z) (j + 1) i _ _ _ _ _ ⟨t2, rfl⟩ ⟨tb, rfl⟩ ?_))))
    refine wpAny_bind (wpAny_holding (wpAny_truthy_bool (wpAny_bind (wpAny_letGo (wpAny_pure ?_)))))
    by_cases up : kf (j + 1) > kf i
    · have u1 := Heap.SameBut.update h2 S (Obj.mapSeq (fun _ => #[v, .int (kf (j + 1)) t2]))
      obtain ⟨c2, gS3⟩ : ∃ c2, (h2.update S (Obj.mapSeq fun _ => #[v, .int (kf (j + 1)) t2])).get? S = some (seqObj "list" #[v, .int (kf (j + 1)) t2] c2) := ⟨_, get?_update_seq gS2 fun _ => _⟩
      simp only [up, decide_true, if_true]
      refine wpAny_bind (wpAny_updateSeq gS2 rfl (wpAny_bind (wpAny_letGo ?_)))
      rw [nm]
      refine wpAny_pure ⟨plainId_quiet (PySem.F.plain_max_loop) _, ih (j + 1) (j + 1) _ _ v t2 c2 (by omega) more (off nS st2 fun b o nb e => (u1.2 b nb).trans e) gS3 ⟨oI, (u1.2 I SI.symm).trans gI2, cI, dI⟩ ev1 (Nat.le_refl _) fun n hn => ?_⟩
      by_cases e : n = j + 1
      · subst e
        exact ⟨Int.le_refl _, fun z => absurd z (Nat.lt_irrefl _)⟩
      · have := (top n (by omega)).1
        exact ⟨by omega, fun _ => by omega⟩
    · simp only [up, decide_false, Bool.false_eq_true, if_false]
      refine wpAny_bind (wpAny_letGo ?_)
      rw [nm]
      refine wpAny_pure ⟨plainId_quiet (PySem.F.plain_max_loop) _, ih (j + 1) i _ _ vb tb c (by omega) more st2 gS2 ⟨oI, gI2, cI, dI⟩ ev (by omega) fun n hn => ?_⟩
      by_cases e : n = j + 1
      · subst e
        exact ⟨by omega, fun z => absurd z (by omega)⟩
      · exact top n (by omega)
theorem maxKey (kf : Nat → Int) (hh : A.handled = none) (isL : s.heap.IsList l vs.toArray) (some1 : 0 < vs.length) (key : KeyAt prog w A.in1 s (.builtin kid) vs kf)
    (fin : ∀ i v h' tk', vs[i]? = some v → Topmost kf vs.length i → Stay s.heap h' → Q v { s with heap := h', toks := tk' }) :
    wpAny (model prog w) A (call (.builtin "max") [.ref l] [(Str.ofString "key", .builtin kid)]) Q E s := by
  have nm : (toString "max" ++ toString ".loop" : String) = "max.loop" := by decide
  have isL0 := isL
  obtain ⟨ol, gl, _⟩ := isL0
  have ll : l < s.heap.objs.size := Heap.lt_size gl
  refine kmb_tree PySem.F.kind_max PySem.F.plain_max PySem.F.entry_max (kmb_max_key _ _) ?_
  show wpAny _ A.in1 (Builtin.Builtins.bindParams "max" ["key", "default"] 0 ⟨[], [(Str.ofString "key", Value.builtin kid)]⟩ >>= _) _ _ s
  refine wpAny_bind (wpAny_of_eq (show Builtin.Builtins.bindParams "max" ["key", "default"] 0 ⟨[], [(Str.ofString "key", Value.builtin kid)]⟩ = pure [some (.builtin kid), none] from rfl) ?_)
  refine wpAny_bind (wpAny_pure (wpAny_bind (wpAny_pyIter_list isL (wpAny_bind (wpAny_newList ?_ (Nat.zero_le _))))))
  rw [nm]
  have it0 := Heap.get?_push_size s.heap (o := { cls := .type "list_iterator", data := .fields #[.ref l, .int 0 0] }) rfl
  have z1 : (s.heap.push { cls := .type "list_iterator", data := .fields #[.ref l, .int 0 0] }).objs.size = s.heap.objs.size + 1 := Heap.size_push ..
  have k1 : Stay s.heap (s.heap.push { cls := .type "list_iterator", data := .fields #[.ref l, .int 0 0] }) := fun b o e => Heap.get?_push_of_some _ e
  generalize s.heap.push { cls := .type "list_iterator", data := .fields #[.ref l, .int 0 0] } = g1 at *
  have gS := Heap.get?_push_size g1 (o := seqObj "list" #[] 0) rfl
  have k2 : Stay g1 (g1.push (seqObj "list" #[] 0)) := fun b o e => Heap.get?_push_of_some _ e
  have gI := k2 _ _ it0
  generalize g1.push (seqObj "list" #[] 0) = g2 at *
  rw [z1] at gS ⊢
  have st2 : Stay s.heap g2 := fun b o e => k2 b o (k1 b o e)
  have nI : s.heap.get? s.heap.objs.size = none := Heap.get?_none_of_le (Nat.le_refl _)
  have nS : s.heap.get? (s.heap.objs.size + 1) = none := Heap.get?_none_of_le (Nat.le_succ _)
  have SI : s.heap.objs.size + 1 ≠ s.heap.objs.size := Nat.succ_ne_self _
  have lI : l ≠ s.heap.objs.size := Nat.ne_of_lt ll
  have wk := Walks.list (prog := prog) (w := w) (A := A.in1) hh s.heap.objs.size l lI vs.toArray
  have sz : vs.toArray.size = vs.length := List.size_toArray ..
  have off : ∀ {h h' : Heap} {x : Addr}, s.heap.get? x = none → Stay s.heap h → (∀ b o, b ≠ x → h.get? b = some o → h'.get? b = some o) → Stay s.heap h' := fun nx st k b o e => k b o (fun z => by rw [z, nx] at e; cases e) (st b o e)
  refine wpAny_pure ⟨plainId_quiet (PySem.F.plain_max_loop) _, codeAny_builtin (b := _) PySem.F.entry_max_loop ?_⟩
  rw [Around.under_plainId (PySem.F.plain_max_loop) _]
  show wpAny _ A.in1 (seqItems? (Value.ref _) >>= _) _ _ _
  refine wpAny_bind (wpAny_seqItems (gS) rfl ?_)
  show wpAny _ A.in1 (tryCatch (pyNext (Value.ref s.heap.objs.size)) _ >>= _) _ _ _
  refine wpAny_bind (wpAny_tryCatch (wk.item 0 _ _ _ (by rw [sz]; exact some1) ⟨⟨_, gI, rfl, rfl⟩, isL_stay st2 isL⟩ fun v h1 tk1 pv it1 kk => ?_))
  have ev1 : vs[0]? = some v := by simpa using pv
  obtain ⟨oI, gI1, cI, dI⟩ := it1.1
  have st1 := off nI st2 (fun b o nb e => kk b o (fun z => nb (List.mem_singleton.mp z)) e)
  have gS1 := kk _ _ (fun z => SI (List.mem_singleton.mp z)) gS
  show wpAny _ A.in1 (tryCatch (holding [v] (call (Value.builtin kid) [v])) _ >>= _) _ _ _
  refine wpAny_bind (wpAny_tryCatch (wpAny_holding (wpAny_mono (key 0 v ev1 h1 tk1 st1) (fun x s2 hx => ?_) (fun _ _ no => no.elim))))
  obtain ⟨h2, tk2, t2, rfl, rfl, k3⟩ := hx
  have gS2 := k3 _ _ gS1
  have u1 := Heap.SameBut.update h2 (s.heap.objs.size + 1) (Obj.mapSeq (fun _ => #[v, .int (kf 0) t2]))
  obtain ⟨c2, gS3⟩ : ∃ c2, (h2.update (s.heap.objs.size + 1) (Obj.mapSeq fun _ => #[v, .int (kf 0) t2])).get? (s.heap.objs.size + 1) = some (seqObj "list" #[v, .int (kf 0) t2] c2) := ⟨_, get?_update_seq gS2 fun _ => _⟩
  show wpAny _ A.in1 (updateSeq (s.heap.objs.size + 1) (fun _ => #[v, .int (kf 0) t2]) >>= _) _ _ _
  refine wpAny_bind (wpAny_updateSeq gS2 rfl ?_)
  rw [nm]
  refine wpAny_pure ⟨plainId_quiet (PySem.F.plain_max_loop) _, maxKey_loop kf hh isL lI SI nI nS key fin _ 0 0 _ _ v t2 c2 rfl some1 (off nS (fun b o e => k3 b o (st1 b o e)) fun b o nb e => (u1.2 b nb).trans e) gS3 ⟨oI, (u1.2 _ SI.symm).trans (k3 _ _ gI1), cI, dI⟩ ev1 (Nat.le_refl _) fun n hn => ?_⟩
  have e : n = 0 := by omega
  subst e
  exact ⟨Int.le_refl _, fun z => absurd z (Nat.lt_irrefl _)⟩
end
/-- max([x, y], key=len), x and y tuples -/
def rMaxLen (K : PySem.W.Frag) : List V → Hp → VK → Prop := fun vs H Q => ∃ (a b c : Addr) (xs ys : List V), vs = [.ref a] ∧ SqL K H a [.ref b, .ref c] ∧ SqT K H b xs ∧ SqT K H c ys ∧ Q (.ref (if xs.length < ys.length then c else b)) H
theorem pe_maxLen {X : Cx} {e : Expr} {p q kp pos : Pos} {t : TA} (hc : X.calm = true) (hg : Gl X "max") (hm : X.mg "max" = none) (hg2 : Gl X "len") (hm2 : X.mg "len" = none) (ha : PA X [e] t)
    (he : backTo pos (starEach [e] X.env) = (false, eval e X.env) :: backTo pos (starEach [] X.env) := by rfl) (hpl : (backTo pos (starEach [e] X.env)).any (·.1) = false := by rfl) :
    PE X (.Call (.Name "max" p) [e] [⟨some "key", .Name "len" q, kp⟩] pos) (tCB (rMaxLen X.K) t) := by
  refine ⟨fun pins s σ H Q I h => ?_⟩
  refine wpAny_Call_Name_kw (ld_blt (u := .builtin "max") I hg hm (by decide +kernel) ?_)
  refine PyProof.Rows.callWith_kw (thn (ha.run pos pins s σ H _ I h) fun us s1 ⟨vs, H1, I1, r1, q1⟩ => ?_) he hpl (by rfl) (by rfl)
  show wpAny _ _ (evalAll [(do let v ← eval (.Name "len" q) X.env; standAt pos; pure v)]) _ _ s1
  refine wpAny_evalAll_cons (wpAny_bind (ld_blt (u := .builtin "len") I1 hg2 hm2 (by decide +kernel) (wpAny_bind (wpAny_standAt (wpAny_pure (wpAny_evalAll_nil ?_))))))
  obtain ⟨a, b, c, xs, ys, rfl, hl, hb, hc2, qq⟩ := q1
  rw [Vals.ref1 r1]
  obtain ⟨its, rv, isL, _⟩ := I1.list hl
  obtain ⟨u, u', rfl, ru, ru'⟩ := vals2 rv
  obtain rfl : u = Value.ref b := ru
  obtain rfl : u' = Value.ref c := ru'
  obtain ⟨i1, v1, t1, z1⟩ := I1.tuple hb
  obtain ⟨i2, v2, t2, z2⟩ := I1.tuple hc2
  have l1 := v1.length
  have l2 := v2.length
  have fit : ∀ {n : Nat}, n ≤ sizeLine → ((n : Nat) : Int) < 2 ^ 63 := fun {n} z => by
    rw [show sizeLine = 16777216 by decide] at z
    omega
  refine maxKey (vs := [Value.ref b, Value.ref c]) (fun i => if i = 0 then (i1.length : Int) else i2.length) (I1.ok.hd hc) isL.isList (Nat.zero_lt_succ _) (fun i v hv h' tk st => ?_) (fun i v h' tk' hv top st => ?_)
  · match i, hv with
    | 0, hv =>
      cases hv
      refine PyProof.Rows.len_tuple (isT_stay st t1) (fit (by rw [List.size_toArray, ← l1]; exact z1)) ⟨_, _, _, rfl, by rw [List.size_toArray]; rfl, fun _ _ e => e⟩
    | 1, hv =>
      cases hv
      refine PyProof.Rows.len_tuple (isT_stay st t2) (fit (by rw [List.size_toArray, ← l2]; exact z2)) ⟨_, _, _, rfl, by rw [List.size_toArray]; rfl, fun _ _ e => e⟩
  · match i, hv with
    | 0, hv =>
      cases hv
      have := (top 1 (Nat.lt_succ_self 1)).1
      replace this : (i2.length : Int) ≤ i1.length := this
      rw [if_neg (by omega)] at qq
      exact ⟨V.ref _, H1, I1.kept st, rfl, qq⟩
    | 1, hv =>
      cases hv
      have := (top 0 (Nat.zero_lt_succ _)).2 (by decide)
      replace this : (i1.length : Int) < i2.length := this
      rw [if_pos (by omega)] at qq
      exact ⟨V.ref _, H1, I1.kept st, rfl, qq⟩

/-! ### a min-max theorem: demands are rectangles, intervals are points -/
abbrev Dem := Int × Int × Int
def sv (z : Int × Int) (d : Dem) : Bool := decide (d.2.1 ≤ z.1 ∧ z.1 ≤ d.1 ∧ d.1 ≤ z.2 ∧ z.2 ≤ d.2.2)
def cf (d e : Dem) : Bool := decide ((e.2.1 ≤ d.1 ∧ d.1 ≤ e.2.2) ∧ d.2.1 ≤ e.1 ∧ e.1 ≤ d.2.2)
def Vd (d : Dem) : Prop := d.2.1 ≤ d.1 ∧ d.1 ≤ d.2.2
theorem sv_iff' {z : Int × Int} {d : Dem} : sv z d = true ↔ d.2.1 ≤ z.1 ∧ z.1 ≤ d.1 ∧ d.1 ≤ z.2 ∧ z.2 ≤ d.2.2 := decide_eq_true_iff
theorem cf_iff {d e : Dem} : cf d e = true ↔ (e.2.1 ≤ d.1 ∧ d.1 ≤ e.2.2) ∧ d.2.1 ≤ e.1 ∧ e.1 ≤ d.2.2 := decide_eq_true_iff
theorem cf_comm (d e : Dem) : cf d e = cf e d := by
  rw [Bool.eq_iff_iff, cf_iff, cf_iff]
  exact ⟨fun h => ⟨h.2, h.1⟩, fun h => ⟨h.2, h.1⟩⟩
theorem cf_of_sv {z : Int × Int} {d e : Dem} (h1 : sv z d = true) (h2 : sv z e = true) : cf d e = true := by
  rw [sv_iff'] at h1 h2
  rw [cf_iff]
  omega
theorem cf_self {d : Dem} (h : Vd d) : cf d d = true := by
  rw [cf_iff]
  exact ⟨h, h⟩
/-- how many of the demands the point serves -/
def cov (L : List Dem) (z : Int × Int) : Nat := L.countP (sv z)
theorem cov_nil (z : Int × Int) : cov [] z = 0 := rfl
theorem cov_cons (d : Dem) (L : List Dem) (z : Int × Int) : cov (d :: L) z = cov L z + (if sv z d = true then 1 else 0) := List.countP_cons
theorem cov_app (L M : List Dem) (z : Int × Int) : cov (L ++ M) z = cov L z + cov M z := List.countP_append
theorem cov_perm {L M : List Dem} (h : L.Perm M) (z : Int × Int) : cov L z = cov M z := h.countP_eq _
/-- no two of them conflict -/
def Ind (L : List Dem) : Prop := L.Pairwise fun d e => cf d e = false
theorem Ind.cov_le {L : List Dem} (h : Ind L) (z : Int × Int) : cov L z ≤ 1 := by
  induction L with
  | nil => exact Nat.zero_le _
  | cons d L ih =>
    have p := List.pairwise_cons.mp h
    rw [cov_cons]
    split
    · next s =>
      have e : cov L z = 0 := List.countP_eq_zero.mpr fun e he c => by
        have := p.1 e he
        rw [cf_of_sv s c] at this
        cases this
      omega
    · have := ih p.2
      omega
structure Fam (F : List Dem) : Prop where
  ok : ∀ d ∈ F, 0 ≤ d.2.1 ∧ Vd d
  ex : ∀ d ∈ F, ∀ e ∈ F, d.1 < e.1 → d.2.1 < e.2.1 → d.2.2 < e.2.2 → cf d e = true → (d.1, e.2) ∈ F ∧ (e.1, d.2) ∈ F
  cross : ∀ d ∈ F, ∀ e ∈ F, cf d e = true → d.2 = e.2 ∨ (d.2.1 < e.2.1 ∧ d.2.2 < e.2.2) ∨ (e.2.1 < d.2.1 ∧ e.2.2 < d.2.2)
theorem sv_exch {z : Int × Int} {d e : Dem} (h1 : d.1 < e.1) (h2 : d.2.1 < e.2.1) (h3 : d.2.2 < e.2.2) (c : cf d e = true) :
    (if sv z (d.1, e.2) = true then 1 else 0) + (if sv z (e.1, d.2) = true then 1 else 0) ≤ (if sv z d = true then 1 else 0) + (if sv z e = true then 1 else 0) := by
  have c := cf_iff.mp c
  simp only [sv_iff']
  split <;> split <;> split <;> split <;> omega
def pot (L : List Dem) : Int := (L.map fun d => d.1 * (d.2.1 + d.2.2)).sum
theorem pot_cons (d : Dem) (L : List Dem) : pot (d :: L) = d.1 * (d.2.1 + d.2.2) + pot L := by
  unfold pot
  rw [List.map_cons, List.sum_cons]
theorem pot_nonneg {L : List Dem} (h : ∀ d ∈ L, 0 ≤ d.2.1 ∧ Vd d) : 0 ≤ pot L := by
  induction L with
  | nil => exact Int.le_refl _
  | cons d L ih =>
    rw [pot_cons]
    have := ih fun e he => h e (List.mem_cons_of_mem _ he)
    have q := h d List.mem_cons_self
    unfold Vd at q
    have : 0 ≤ d.1 * (d.2.1 + d.2.2) := Int.mul_nonneg (by omega) (by omega)
    omega
theorem pot_perm {L M : List Dem} (h : L.Perm M) : pot L = pot M := by
  induction h with
  | nil => rfl
  | cons x _ ih => rw [pot_cons, pot_cons, ih]
  | swap x y l =>
    rw [pot_cons, pot_cons, pot_cons, pot_cons]
    omega
  | trans _ _ i1 i2 => rw [i1, i2]
def Corner (d e : Dem) : Prop := cf d e = true ∧ d.1 < e.1 ∧ d.2.1 < e.2.1 ∧ d.2.2 < e.2.2
theorem pull2 {L : List Dem} {d e : Dem} (hd : d ∈ L) (he : e ∈ L) (ne : d ≠ e) : ∃ R, L.Perm (d :: e :: R) := by
  have p1 := List.perm_cons_erase hd
  have he' : e ∈ L.erase d := (List.mem_erase_of_ne (Ne.symm ne)).mpr he
  exact ⟨(L.erase d).erase e, p1.trans ((List.perm_cons_erase he').cons d)⟩
theorem uncross {F : List Dem} (fam : Fam F) : ∀ (n : Nat) (L : List Dem), (∀ d ∈ L, d ∈ F) → (pot L).toNat < n → ∃ M : List Dem, (∀ d ∈ M, d ∈ F) ∧ M.length = L.length ∧ (∀ z, cov M z ≤ cov L z) ∧ ∀ d ∈ M, ∀ e ∈ M, ¬ Corner d e := by
  intro n
  induction n with
  | zero => exact fun _ _ h => absurd h (Nat.not_lt_zero _)
  | succ n ih =>
    intro L hL hn
    by_cases c : ∀ d ∈ L, ∀ e ∈ L, ¬ Corner d e
    · exact ⟨L, hL, rfl, fun _ => Nat.le_refl _, c⟩
    · have ⟨d, hd, e, he, k⟩ : ∃ d ∈ L, ∃ e ∈ L, Corner d e := by
        refine Classical.byContradiction fun z => c fun d hd e he k => z ⟨d, hd, e, he, k⟩
      obtain ⟨k1, k2, k3, k4⟩ := k
      have ne : d ≠ e := fun z => by
        subst z
        exact absurd k2 (Int.lt_irrefl _)
      obtain ⟨R, pm⟩ := pull2 hd he ne
      have x := fam.ex d (hL d hd) e (hL e he) k2 k3 k4 k1
      have hR : ∀ f ∈ R, f ∈ F := fun f hf => hL f (pm.mem_iff.mpr (List.mem_cons_of_mem _ (List.mem_cons_of_mem _ hf)))
      have hN : ∀ f ∈ (d.1, e.2) :: (e.1, d.2) :: R, f ∈ F := fun f hf => by
        rcases List.mem_cons.mp hf with rfl | hf
        · exact x.1
        rcases List.mem_cons.mp hf with rfl | hf
        · exact x.2
        · exact hR f hf
      have less : pot ((d.1, e.2) :: (e.1, d.2) :: R) < pot L := by
        rw [pot_perm pm, pot_cons, pot_cons, pot_cons, pot_cons]
        show d.1 * (e.2.1 + e.2.2) + (e.1 * (d.2.1 + d.2.2) + pot R) < d.1 * (d.2.1 + d.2.2) + (e.1 * (e.2.1 + e.2.2) + pot R)
        have : 0 < (e.1 - d.1) * ((e.2.1 + e.2.2) - (d.2.1 + d.2.2)) := Int.mul_pos (by omega) (by omega)
        rw [Int.sub_mul, Int.mul_sub, Int.mul_sub] at this
        omega
      have nn := pot_nonneg fun f hf => fam.ok f (hN f hf)
      obtain ⟨M, m1, m2, m3, m4⟩ := ih _ hN (by omega)
      refine ⟨M, m1, by rw [m2, pm.length_eq]; rfl, fun z => Nat.le_trans (m3 z) ?_, m4⟩
      rw [cov_perm pm, cov_cons, cov_cons, cov_cons, cov_cons]
      have := sv_exch (z := z) k2 k3 k4 k1
      omega
/-- e lies across d -/
def Und (e d : Dem) : Prop := d.2.1 ≤ e.2.1 ∧ e.1 ≤ d.1 ∧ d.2.2 ≤ e.2.2
theorem und_of {F : List Dem} (fam : Fam F) {d e : Dem} (hd : d ∈ F) (he : e ∈ F) (c : cf d e = true) (n1 : ¬ Corner d e) (n2 : ¬ Corner e d) : Und d e ∨ Und e d := by
  unfold Und
  rcases fam.cross d hd e he c with h | h | h
  · rw [h]
    omega
  · have : ¬ d.1 < e.1 := fun z => n1 ⟨c, z, h.1, h.2⟩
    omega
  · have : ¬ e.1 < d.1 := fun z => n2 ⟨by rw [cf_comm]; exact c, z, h.1, h.2⟩
    omega
def leD (d e : Dem) : Bool := decide (d.1 - d.2.1 < e.1 - e.2.1 ∨ (d.1 - d.2.1 = e.1 - e.2.1 ∧ e.2.2 ≤ d.2.2))
theorem leD_total (a b : Dem) : (leD a b || leD b a) = true := by
  unfold leD
  rw [Bool.or_eq_true, decide_eq_true_eq, decide_eq_true_eq]
  omega
theorem leD_trans (a b c : Dem) : leD a b = true → leD b c = true → leD a c = true := by
  unfold leD
  rw [decide_eq_true_eq, decide_eq_true_eq, decide_eq_true_eq]
  omega
theorem und_le {F : List Dem} (fam : Fam F) {f e : Dem} (hf : f ∈ F) (he : e ∈ F) (c : cf f e = true) (n1 : ¬ Corner f e) (n2 : ¬ Corner e f) (le : leD f e = true) : Und f e := by
  have le := of_decide_eq_true le
  rcases und_of fam hf he c n1 n2 with h | h
  · exact h
  · unfold Und at *
    omega
def gre : Nat → List Dem → List Dem
  | 0, _ => []
  | _, [] => []
  | n + 1, d :: R => d :: gre n (R.filter fun e => !cf d e)
def lef : Nat → List Dem → List Dem
  | 0, L => L
  | _, [] => []
  | n + 1, d :: R => (R.filter fun e => cf d e) ++ lef n (R.filter fun e => !cf d e)
theorem gre_lef : ∀ (n : Nat) (L : List Dem), L.Perm (gre n L ++ lef n L)
  | 0, L => List.Perm.refl _
  | n + 1, [] => List.Perm.refl _
  | n + 1, d :: R => by
    have ih := gre_lef n (R.filter fun e => !cf d e)
    show (d :: R).Perm (d :: (gre n (R.filter fun e => !cf d e) ++ ((R.filter fun e => cf d e) ++ lef n (R.filter fun e => !cf d e))))
    refine List.Perm.cons d ?_
    have p1 := (List.filter_append_perm (fun e => cf d e) R).symm
    refine p1.trans ?_
    refine ((List.Perm.refl (R.filter fun e => cf d e)).append ih).trans ?_
    rw [← List.append_assoc, ← List.append_assoc]
    exact List.perm_append_comm.append_right _
theorem gre_sub (n : Nat) (L : List Dem) : ∀ d ∈ gre n L, d ∈ L := fun d hd => (gre_lef n L).mem_iff.mpr (List.mem_append_left _ hd)
theorem lef_sub (n : Nat) (L : List Dem) : ∀ d ∈ lef n L, d ∈ L := fun d hd => (gre_lef n L).mem_iff.mpr (List.mem_append_right _ hd)
theorem gre_ind : ∀ (n : Nat) (L : List Dem), Ind (gre n L)
  | 0, _ => List.Pairwise.nil
  | n + 1, [] => List.Pairwise.nil
  | n + 1, d :: R => by
    refine List.pairwise_cons.mpr ⟨fun e he => ?_, gre_ind n _⟩
    have := (List.mem_filter.mp (gre_sub n _ e he)).2
    rw [Bool.not_eq_true'] at this
    exact this
theorem gre_in : ∀ (n : Nat) (A B : List Dem) (e : Dem), A.length < n → e ∈ gre n (A ++ e :: B) ∨ ∃ f ∈ A, cf f e = true
  | 0, _, _, _, h => absurd h (Nat.not_lt_zero _)
  | n + 1, [], B, e, _ => .inl List.mem_cons_self
  | n + 1, d :: A, B, e, h => by
    by_cases c : cf d e = true
    · exact .inr ⟨d, List.mem_cons_self, c⟩
    · have eq : (A ++ e :: B).filter (fun x => !cf d x) = A.filter (fun x => !cf d x) ++ e :: B.filter (fun x => !cf d x) := by
        rw [List.filter_append, List.filter_cons_of_pos (by rw [Bool.not_eq_true] at c; rw [c]; rfl)]
      have l : (A.filter fun x => !cf d x).length < n := Nat.lt_of_le_of_lt (List.length_filter_le _ _) (Nat.lt_of_succ_lt_succ h)
      rcases gre_in n (A.filter fun x => !cf d x) (B.filter fun x => !cf d x) e l with g | ⟨f, hf, k⟩
      · refine .inl (List.mem_cons_of_mem _ ?_)
        show e ∈ gre n ((A ++ e :: B).filter fun x => !cf d x)
        rw [eq]
        exact g
      · exact .inr ⟨f, List.mem_cons_of_mem _ (List.mem_filter.mp hf).1, k⟩
theorem cov_lt {z w : Int × Int} {f : Dem} : ∀ {L : List Dem}, f ∈ L → (∀ c ∈ L, sv z c = true → sv w c = true) → sv z f = false → sv w f = true → cov L z < cov L w
  | [], hf, _, _, _ => nomatch hf
  | d :: L, hf, h, n, y => by
    rw [cov_cons, cov_cons]
    have le : cov L z ≤ cov L w := List.countP_mono_left fun c hc => h c (List.mem_cons_of_mem _ hc)
    have h1 := h d List.mem_cons_self
    rcases List.mem_cons.mp hf with rfl | hf
    · rw [n, y]
      simp
      omega
    · have ih := cov_lt hf (fun c hc => h c (List.mem_cons_of_mem _ hc)) n y
      split
      · next s => rw [if_pos (h1 s)]; omega
      · split <;> omega
theorem first_of {p : Dem → Bool} : ∀ {L : List Dem}, (∃ d ∈ L, p d = true) → ∃ A e B, L = A ++ e :: B ∧ p e = true ∧ ∀ f ∈ A, p f = false
  | [], h => by
    obtain ⟨d, hd, _⟩ := h
    cases hd
  | d :: L, h => by
    by_cases c : p d = true
    · exact ⟨[], d, L, rfl, c, fun f hf => nomatch hf⟩
    · obtain ⟨x, hx, px⟩ := h
      rcases List.mem_cons.mp hx with rfl | hx
      · exact absurd px c
      · obtain ⟨A, e, B, r1, r2, r3⟩ := first_of ⟨x, hx, px⟩
        refine ⟨d :: A, e, B, by rw [r1]; rfl, r2, fun f hf => ?_⟩
        rcases List.mem_cons.mp hf with rfl | hf
        · exact Bool.not_eq_true _ ▸ c
        · exact r3 f hf
theorem lef_cov {F : List Dem} (fam : Fam F) {L : List Dem} (hL : ∀ d ∈ L, d ∈ F) (nc : ∀ d ∈ L, ∀ e ∈ L, ¬ Corner d e) (srt : L.Pairwise fun d e => leD d e = true) {m : Nat} (hm : ∀ z, cov L z ≤ m + 1) (z : Int × Int) : cov (lef L.length L) z ≤ m := by
  have sum := cov_perm (gre_lef L.length L) z
  rw [cov_app] at sum
  have top := hm z
  by_cases g : ∃ d ∈ gre L.length L, sv z d = true
  · have : 0 < cov (gre L.length L) z := List.countP_pos_iff.mpr g
    omega
  · by_cases s : ∃ d ∈ L, sv z d = true
    · obtain ⟨A, e, B, rfl, se, nA⟩ := first_of s
      have la : A.length < (A ++ e :: B).length := by
        rw [List.length_append, List.length_cons]
        omega
      rcases gre_in _ A B e la with q | ⟨f, hf, k⟩
      · exact absurd ⟨e, q, se⟩ g
      · have mf : f ∈ A ++ e :: B := List.mem_append_left _ hf
        have me : e ∈ A ++ e :: B := List.mem_append_right _ List.mem_cons_self
        have pw := List.pairwise_append.mp srt
        have u1 := und_le fam (hL f mf) (hL e me) k (nc f mf e me) (nc e me f mf) (pw.2.2 f hf e List.mem_cons_self)
        have w : cov (A ++ e :: B) z < cov (A ++ e :: B) (f.1, z.2) := by
          have vf := (fam.ok f (hL f mf)).2
          have ve := sv_iff'.mp se
          refine cov_lt mf (fun c hc sc => ?_) (nA f hf) ?_
          · have u2 : Und e c := by
              rcases List.mem_append.mp hc with h | h
              · rw [nA c h] at sc
                cases sc
              · rcases List.mem_cons.mp h with rfl | h
                · exact ⟨Int.le_refl _, Int.le_refl _, Int.le_refl _⟩
                · exact und_le fam (hL e me) (hL c hc) (cf_of_sv se sc) (nc e me c hc) (nc c hc e me) ((List.pairwise_cons.mp pw.2.1).1 c h)
            have sc := sv_iff'.mp sc
            rw [sv_iff']
            unfold Und Vd at *
            show c.2.1 ≤ f.1 ∧ f.1 ≤ c.1 ∧ c.1 ≤ z.2 ∧ z.2 ≤ c.2.2
            omega
          · rw [sv_iff']
            unfold Und Vd at *
            show f.2.1 ≤ f.1 ∧ f.1 ≤ f.1 ∧ f.1 ≤ z.2 ∧ z.2 ≤ f.2.2
            omega
        have := hm (f.1, z.2)
        omega
    · have : cov L z = 0 := List.countP_eq_zero.mpr fun d hd c => s ⟨d, hd, c⟩
      omega
theorem len_le {F : List Dem} (fam : Fam F) {k : Nat} (hk : ∀ I, Ind I → (∀ d ∈ I, d ∈ F) → I.length ≤ k) : ∀ (m : Nat) (L : List Dem), (∀ d ∈ L, d ∈ F) → (∀ d ∈ L, ∀ e ∈ L, ¬ Corner d e) → (∀ z, cov L z ≤ m) → L.length ≤ m * k
  | 0, L, hL, _, hm => by
    cases L with
    | nil => exact Nat.zero_le _
    | cons d L =>
      have v := (fam.ok d (hL d List.mem_cons_self)).2
      have := hm (d.1, d.1)
      rw [cov_cons, if_pos (sv_iff'.mpr (by unfold Vd at v; exact ⟨v.1, Int.le_refl _, Int.le_refl _, v.2⟩))] at this
      omega
  | m + 1, L, hL, nc, hm => by
    have pm := List.mergeSort_perm L leD
    have srt := List.pairwise_mergeSort leD_trans leD_total L
    generalize L.mergeSort leD = S at *
    have hS : ∀ d ∈ S, d ∈ L := fun d hd => pm.mem_iff.mp hd
    have hl := lef_cov fam (fun d hd => hL d (hS d hd)) (fun d hd e he => nc d (hS d hd) e (hS e he)) srt (m := m) (fun z => by rw [cov_perm pm]; exact hm z)
    have sub := lef_sub S.length S
    have ih := len_le fam hk m (lef S.length S) (fun d hd => hL d (hS d (sub d hd))) (fun d hd e he => nc d (hS d (sub d hd)) e (hS e (sub e he))) hl
    have g := hk _ (gre_ind S.length S) fun d hd => hL d (hS d (gre_sub _ _ d hd))
    have e := (gre_lef S.length S).length_eq
    have e2 := pm.length_eq
    rw [List.length_append] at e
    rw [Nat.add_mul]
    omega
theorem sum_lt {α : Type} {f : α → Nat} : ∀ {Z : List α} {w : α}, w ∈ Z → (∀ x ∈ Z, f x ≤ 1) → f w = 0 → (Z.map f).sum + 1 ≤ Z.length
  | [], _, h, _, _ => nomatch h
  | x :: Z, w, h, h1, h0 => by
    have le : ∀ Y : List α, (∀ x ∈ Y, f x ≤ 1) → (Y.map f).sum ≤ Y.length := by
      intro Y
      induction Y with
      | nil => exact fun _ => Nat.le_refl _
      | cons y Y ih =>
        intro hy
        have := ih fun x hx => hy x (List.mem_cons_of_mem _ hx)
        have := hy y List.mem_cons_self
        rw [List.map_cons, List.sum_cons, List.length_cons]
        omega
    have r := le Z fun x hx => h1 x (List.mem_cons_of_mem _ hx)
    have hx := h1 x List.mem_cons_self
    rw [List.map_cons, List.sum_cons, List.length_cons]
    rcases List.mem_cons.mp h with rfl | h
    · omega
    · have := sum_lt h (fun x hx => h1 x (List.mem_cons_of_mem _ hx)) h0
      omega
theorem cov_flat {α : Type} (I : α → List Dem) (z : Int × Int) : ∀ Z : List α, cov (Z.flatMap I) z = (Z.map fun w => cov (I w) z).sum
  | [] => rfl
  | x :: Z => by
    rw [List.flatMap_cons, cov_app, cov_flat I z Z, List.map_cons, List.sum_cons]
theorem len_flat {α β : Type} (I : α → List β) {k : Nat} : ∀ Z : List α, (∀ w ∈ Z, (I w).length = k) → (Z.flatMap I).length = Z.length * k
  | [], _ => by simp
  | x :: Z, h => by
    rw [List.flatMap_cons, List.length_append, len_flat I Z fun w hw => h w (List.mem_cons_of_mem _ hw), h x List.mem_cons_self, List.length_cons, Nat.add_mul]
    omega
theorem top_of (F : List Dem) : ∃ M : Nat, ∀ d ∈ F, d.2.2 ≤ M := by
  induction F with
  | nil => exact ⟨0, fun d hd => nomatch hd⟩
  | cons d F ih =>
    obtain ⟨M, h⟩ := ih
    refine ⟨M + d.2.2.toNat, fun e he => ?_⟩
    rcases List.mem_cons.mp he with rfl | he
    · omega
    · have := h e he
      omega
def box (M : Nat) : List (Int × Int) := (List.range (M + 1)).flatMap fun (x : Nat) => (List.range (M + 1)).map fun (y : Nat) => ((x : Int), (y : Int))
theorem mem_box {M : Nat} {z : Int × Int} (h : 0 ≤ z.1 ∧ z.1 ≤ M) (h2 : 0 ≤ z.2 ∧ z.2 ≤ M) : z ∈ box M := by
  unfold box
  refine List.mem_flatMap.mpr ⟨z.1.toNat, List.mem_range.mpr (by omega), List.mem_map.mpr ⟨z.2.toNat, List.mem_range.mpr (by omega), ?_⟩⟩
  exact Prod.ext (by show ((z.1.toNat : Nat) : Int) = z.1; omega) (by show ((z.2.toNat : Nat) : Int) = z.2; omega)
/-- a point that every largest selection has to pay for -/
theorem hits {F : List Dem} (fam : Fam F) {k : Nat} (hk : ∀ I, Ind I → (∀ d ∈ I, d ∈ F) → I.length ≤ k + 1) : ∃ z, ∀ I, Ind I → (∀ d ∈ I, d ∈ F) → I.length = k + 1 → ∃ d ∈ I, sv z d = true := by
  refine Classical.byContradiction fun no => ?_
  have miss : ∀ z, ∃ I, Ind I ∧ (∀ d ∈ I, d ∈ F) ∧ I.length = k + 1 ∧ ∀ d ∈ I, sv z d = false := fun z => by
    refine Classical.byContradiction fun h => no ⟨z, fun I i1 i2 i3 => Classical.byContradiction fun n => h ⟨I, i1, i2, i3, fun d hd => ?_⟩⟩
    rw [← Bool.not_eq_true]
    exact fun s => n ⟨d, hd, s⟩
  obtain ⟨I, hI⟩ := Classical.axiomOfChoice miss
  obtain ⟨M, hM⟩ := top_of F
  have hsub : ∀ d ∈ (box M).flatMap I, d ∈ F := fun d hd => by
    obtain ⟨w, _, h⟩ := List.mem_flatMap.mp hd
    exact (hI w).2.1 d h
  have hlen := len_flat I (k := k + 1) (box M) fun w _ => (hI w).2.2.1
  have pos : 0 < (box M).length := List.length_pos_of_mem (mem_box (M := M) (z := (0, 0)) ⟨by decide, by show (0 : Int) ≤ M; omega⟩ ⟨by decide, by show (0 : Int) ≤ M; omega⟩)
  have hc : ∀ z, cov ((box M).flatMap I) z ≤ (box M).length - 1 := fun z => by
    by_cases b : (0 ≤ z.1 ∧ z.1 ≤ M) ∧ 0 ≤ z.2 ∧ z.2 ≤ M
    · have s := sum_lt (f := fun w => cov (I w) z) (mem_box b.1 b.2) (fun x _ => (hI x).1.cov_le z) (List.countP_eq_zero.mpr fun d hd c => by
        rw [(hI z).2.2.2 d hd] at c
        cases c)
      rw [cov_flat]
      omega
    · have : cov ((box M).flatMap I) z = 0 := List.countP_eq_zero.mpr fun d hd c => b (by
        have c := sv_iff'.mp c
        have o := fam.ok d (hsub d hd)
        have t := hM d (hsub d hd)
        unfold Vd at o
        omega)
      omega
  obtain ⟨N, n1, n2, n3, n4⟩ := uncross fam _ _ hsub (Nat.lt_succ_self _)
  have := len_le fam hk ((box M).length - 1) N n1 n4 fun z => Nat.le_trans (n3 z) (hc z)
  rw [n2, hlen] at this
  obtain ⟨b, eb⟩ : ∃ b, (box M).length = b + 1 := ⟨(box M).length - 1, by omega⟩
  rw [eb, Nat.add_sub_cancel, Nat.add_mul, Nat.one_mul] at this
  omega
theorem Fam.rest {F : List Dem} (fam : Fam F) (z : Int × Int) : Fam (F.filter fun d => !sv z d) := by
  have hs : ∀ d, d ∈ F.filter (fun d => !sv z d) → d ∈ F ∧ sv z d = false := fun d hd => by
    have := List.mem_filter.mp hd
    exact ⟨this.1, by rw [← Bool.not_eq_true']; exact this.2⟩
  refine ⟨fun d hd => fam.ok d (hs d hd).1, fun d hd e he h1 h2 h3 c => ?_, fun d hd e he c => fam.cross d (hs d hd).1 e (hs e he).1 c⟩
  have x := fam.ex d (hs d hd).1 e (hs e he).1 h1 h2 h3 c
  have y := sv_exch (z := z) h1 h2 h3 c
  rw [(hs d hd).2, (hs e he).2] at y
  simp at y
  exact ⟨List.mem_filter.mpr ⟨x.1, by rw [y.1]; rfl⟩, List.mem_filter.mpr ⟨x.2, by rw [y.2]; rfl⟩⟩
/-- as many points as the largest selection has serve all -/
theorem min_max : ∀ (k : Nat) {F : List Dem}, Fam F → (∀ I, Ind I → (∀ d ∈ I, d ∈ F) → I.length ≤ k) → ∃ S : List (Int × Int), S.length ≤ k ∧ ∀ d ∈ F, ∃ z ∈ S, sv z d = true
  | 0, F, fam, hk => ⟨[], Nat.le_refl _, fun d hd => by
    have := hk [d] (List.pairwise_singleton _ _) fun e he => by
      rw [List.mem_singleton.mp he]
      exact hd
    exact absurd this (by simp)⟩
  | k + 1, F, fam, hk => by
    obtain ⟨z, hz⟩ := hits fam hk
    obtain ⟨S, s1, s2⟩ := min_max k (fam.rest z) fun I i1 i2 => by
      have sub : ∀ d ∈ I, d ∈ F ∧ sv z d = false := fun d hd => by
        have := List.mem_filter.mp (i2 d hd)
        exact ⟨this.1, by rw [← Bool.not_eq_true']; exact this.2⟩
      have le := hk I i1 fun d hd => (sub d hd).1
      by_cases e : I.length = k + 1
      · obtain ⟨d, hd, s⟩ := hz I i1 (fun d hd => (sub d hd).1) e
        rw [(sub d hd).2] at s
        cases s
      · omega
    refine ⟨z :: S, by rw [List.length_cons]; omega, fun d hd => ?_⟩
    by_cases s : sv z d = true
    · exact ⟨z, List.mem_cons_self, s⟩
    · obtain ⟨w, hw, q⟩ := s2 d (List.mem_filter.mpr ⟨hd, by rw [Bool.not_eq_true] at s; rw [s]; rfl⟩)
      exact ⟨w, List.mem_cons_of_mem _ hw, q⟩

/-! ### instances: len(o), str(o) by own defs; t += u; o.m(k = v) -/
section
variable {prog : Program} {w : World} {A : Around} {E : Value → Shared → Prop} {s : Shared}
theorem iconcat_meets {T id : String} {B : Builtin} {a b : Value} {S : PySem.Spec} {Q : Value → Shared → Prop} (ha : s.TypeIs a T) (hb : s.TypeIs b T) (hno : typeLookup (.type T) (dunderI "add") = pure none)
    (hfill : fillsNumberSlot (.type T) "add" = pure false) (hseq : seqSlot? (.type T) "__add__" = pure (some (.builtin id))) (slot : Slot T "__add__" id)
    (entry : entryFor table id = some B) (args : argsOk id ⟨[a, b], []⟩) (g : Meets (B ⟨[a, b], []⟩) S) (h : S A (wants Q E) s) : wpAny (model prog w) A (inplaceOp .Add a b) Q E s :=
  wpAny_inplaceOp_concat ha hb hno hfill hseq (call_meets slot ha entry args g h)
theorem noI_tuple_add : typeLookup (.type "tuple") (dunderI "add") = pure none := by rw [typeLookup_type, builtinLookup_eq_fast]; kernel_rfl
theorem icat_tup0 {t b : Addr} {ws : List Value} {Q : Value → Shared → Prop} (ht : IsTup s.heap t ([] : List Value).toArray) (hb : IsTup s.heap b ws.toArray) (h : Q (.ref b) s) : wpAny (model prog w) A (inplaceOp .Add (.ref t) (.ref b)) Q E s := by
  obtain ⟨⟨cls, dd, data, sl⟩, ho, hc, n, hd⟩ := id ht
  obtain ⟨⟨cls2, dd2, data2, sl2⟩, ho2, hc2, n2, hd2⟩ := id hb
  simp only at hc hd hc2 hd2
  subst hc hd hc2 hd2
  exact iconcat_meets ⟨_, ho, rfl⟩ ⟨_, ho2, rfl⟩ noI_tuple_add noFill_tuple_add seq_tuple_add PySem.F.slot_tuple_add PySem.F.entry_tuple_add (PySem.F.args_tuple_add_2 _ _)
    (tuple_addW0 t b ([] : List Value).toArray ws.toArray n n2 dd dd2 sl sl2 (by simp)) ⟨ho, ho2, h⟩
theorem icat_tup {t b : Addr} {vs ws : List Value} {Q : Value → Shared → Prop} (ht : IsTup s.heap t vs.toArray) (hb : IsTup s.heap b ws.toArray) (hv : vs ≠ [])
    (h1 : ws = [] → Q (.ref t) s) (h2 : ws ≠ [] → Q (.ref s.heap.objs.size) { s with heap := s.heap.push { cls := .type "tuple", data := .seq (vs ++ ws).toArray } })
    (hsz : vs.length + ws.length ≤ sizeLine) : wpAny (model prog w) A (inplaceOp .Add (.ref t) (.ref b)) Q E s := by
  obtain ⟨⟨cls, dd, data, sl⟩, ho, hc, n, hd⟩ := id ht
  obtain ⟨⟨cls2, dd2, data2, sl2⟩, ho2, hc2, n2, hd2⟩ := id hb
  simp only at hc hd hc2 hd2
  subst hc hd hc2 hd2
  have e : vs.toArray ++ ws.toArray = (vs ++ ws).toArray := by simp
  by_cases hw : ws = []
  · exact iconcat_meets ⟨_, ho, rfl⟩ ⟨_, ho2, rfl⟩ noI_tuple_add noFill_tuple_add seq_tuple_add PySem.F.slot_tuple_add PySem.F.entry_tuple_add (PySem.F.args_tuple_add_2 _ _)
      (tuple_addW1 t b vs.toArray ws.toArray n n2 dd dd2 sl sl2 (by simpa using hv) (by simp [hw])) ⟨ho, ho2, h1 hw⟩
  · refine iconcat_meets ⟨_, ho, rfl⟩ ⟨_, ho2, rfl⟩ noI_tuple_add noFill_tuple_add seq_tuple_add PySem.F.slot_tuple_add PySem.F.entry_tuple_add (PySem.F.args_tuple_add_2 _ _)
      (tuple_addW2 t b vs.toArray ws.toArray n n2 dd dd2 sl sl2 (by simpa using hv) (by simpa using hw) (by rw [List.size_toArray, List.size_toArray]; exact hsz)) ⟨ho, ho2, ?_⟩
    rw [e]
    exact h2 hw
end
section
variable {X : Cx}
/-- t += u (tuples) -/
theorem in_catA : InOp X .Add (rCatA X.K) := by
  intro pins s σ H x y v u Q I rx ry h
  obtain ⟨a, b, xs, ys, rfl, rfl, ha, hb, hz, q0, q1, q2⟩ := h
  by_cases hx : xs = []
  · subst hx
    cases rx
    cases ry
    obtain ⟨its, r1, p1, _⟩ := I.tuple ha
    obtain ⟨its2, r2, p2, _⟩ := I.tuple hb
    cases r1
    exact icat_tup0 p1 p2 ⟨.ref b, H, I, rfl, q0 rfl⟩
  · cases rx
    cases ry
    obtain ⟨its, r1, p1, _⟩ := I.tuple ha
    obtain ⟨its2, r2, p2, _⟩ := I.tuple hb
    refine icat_tup p1 p2 (fun z => hx (r1.nil_iff.mp z)) (fun z => ⟨.ref a, H, I, rfl, q1 hx (r2.nil_iff.mp z)⟩) (fun z => ?_) (by rw [← r1.length, ← r2.length]; exact hz)
    refine ⟨.ref s.heap.objs.size, _, I.laid (t' := s.toks) (o := .tup (xs ++ ys)) (fun b ob q => Heap.get?_push_of_some _ q) (Nat.le_refl _) ?_, rfl, q2 hx (fun w => z (r2.nil_iff.mpr w)) _ (I.hok.fresh (Nat.le_refl _))⟩
    exact ⟨by rw [List.length_append]; exact hz, _, r1.append r2, IsTup.new _ _⟩
/-- an own def called from within a builtin -/
theorem run_own {A : Around} {CX : CXT} {k : Nat} {f : Addr} {fd : FuncData} {ps : List Str} {sp : Sp} {E : XK} {pins : List (Addr × Obj)} {σ : L2.St} {H : Hp} {s : Shared} {Q : VK} {us : List Value} {vs : List V}
    (F : FnOk X.prog X.w X.K X.mg X.base CX k f fd ps sp) (hb : Binds X.K fd ps []) (hx : Passes CX X E) (hA : Room k A) (fr : A.frames = X.A.frames) (I : Inv X pins σ H s) (r : Vals vs us) (h : sp vs H Q E) :
    wpAny (model X.prog X.w) A (call (.ref f) us) (EP X pins σ Q) X.xe s := by
  have e0 : Env0 X.prog X.w X.K X.mg X.base A X.stack s H := by
    have e := I.env0
    exact ⟨by rw [fr]; exact e.frames, e.mod, e.bs, e.bsz, e.funs, e.frf, e.hok, e.bare⟩
  have hl := F.len _ _ _ _ h
  refine wpAny_call (codeAny_mono (F.run A X.stack s H ⟨us, []⟩ us vs Q E hA e0 (by
    have := hb s us I.kIn (by simpa using r.length.symm.trans hl)
    simpa using this) r h) fun r s' hq => ?_)
  cases r with
  | error e => exact hx pins σ H s e s' I hq
  | ok fl =>
    cases fl with
    | ret w => exact I.after hq
    | next => exact False.elim hq
    | brk => exact False.elim hq
    | cont => exact False.elim hq
theorem ins_inst {pins : List (Addr × Obj)} {σ : L2.St} {H : Hp} {s : Shared} {a C dx : Addr} {fs : List (Str × V)} (I : Inv X pins σ H s) (ha : H a = some (.ins C dx fs)) : ∃ ox od, PySem.W.InstAt s.heap a ox C od := by
  obtain ⟨mA, J, _⟩ := ins_get I.hok ha
  obtain ⟨od, J, _⟩ := J.look
  exact ⟨_, _, J⟩
/-- len(o), o's class with an own __len__ -/
def rLenOwn (C : Addr) (sp : Sp) (E : XK) : List V → Hp → VK → Prop := fun xs H Q => ∃ a dx fs, xs = [V.ref a] ∧ H a = some (.ins C dx fs) ∧ sp [.ref a] H (fun v H' => ∃ n : Int, v = .int n ∧ (0 ≤ n ∧ n < 2 ^ 63) ∧ Q (.int n) H') E
theorem cr_lenOwn {CX : CXT} {k : Nat} {C f : Addr} {fd : FuncData} {ps : List Str} {sp : Sp} {E : XK} (F : FnOk X.prog X.w X.K X.mg X.base CX k f fd ps sp) (hs : PySem.W.findIn X.K (.ref C) "__len__" = some (some (.ref f))) (hf : PySem.W.isFn X.K (.ref f) = true)
    (hb : Binds X.K fd ps []) (hx : Passes CX X E) (hr : Room (k + 1) X.A) : CallR X (.builtin "len") (rLenOwn C sp E) := by
  intro pins s σ H xs us Q I r h
  obtain ⟨a, dx, fs, rfl, ha, hsp⟩ := h
  rw [Vals.ref1 r]
  obtain ⟨ox, od, J⟩ := ins_inst I ha
  obtain ⟨m, hF⟩ := I.fr
  refine PySem.W.len_K hF I.ok.mod.kin J hs hf (wpAny_mono (run_own F hb hx hr.in1 rfl I (us := [.ref a]) (vs := [.ref a]) (.cons rfl .nil) hsp) (fun v s' z => ?_) fun _ _ x => x)
  obtain ⟨v', H', I', rv, n, rfl, hn, q⟩ := z
  obtain ⟨t, rfl⟩ := (show ∃ t, v = Value.int n t from rv)
  exact ⟨hn, .int n, H', I'.tok _, ⟨_, rfl⟩, q⟩
/-- str(o), o's class with an own __str__ -/
def rStrOwn (C : Addr) (sp : Sp) (E : XK) : List V → Hp → VK → Prop := fun xs H Q => ∃ a dx fs, xs = [V.ref a] ∧ H a = some (.ins C dx fs) ∧ sp [.ref a] H (fun v H' => ∃ n : Str, v = .str n ∧ Q (.str n) H') E
theorem cr_strOwn {CX : CXT} {k : Nat} {C f : Addr} {fd : FuncData} {ps : List Str} {sp : Sp} {E : XK} (F : FnOk X.prog X.w X.K X.mg X.base CX k f fd ps sp) (hs : PySem.W.findIn X.K (.ref C) "__str__" = some (some (.ref f))) (hf : PySem.W.isFn X.K (.ref f) = true)
    (hb : Binds X.K fd ps []) (hx : Passes CX X E) (hr : Room (k + 2) X.A) : CallR X (.type "str") (rStrOwn C sp E) := by
  intro pins s σ H xs us Q I r h
  obtain ⟨a, dx, fs, rfl, ha, hsp⟩ := h
  rw [Vals.ref1 r]
  obtain ⟨ox, od, J⟩ := ins_inst I ha
  have h2 : Room k X.A.in1.in1 := hr.in1.in1
  refine PySem.W.kso_call (h2.units0) I.kIn J hs hf (wpAny_mono (run_own F hb hx h2 rfl I (us := [.ref a]) (vs := [.ref a]) (.cons rfl .nil) hsp) (fun v s' z => ?_) fun _ _ x => x)
  obtain ⟨v', H', I', rv, n, rfl, q⟩ := z
  obtain ⟨t, rfl⟩ := (show ∃ t, v = Value.str n t from rv)
  exact ⟨.str n, H', I', ⟨_, rfl⟩, q⟩
/-- o.m(k = v, ..) -/
def tMethK (C : Addr) (m : Str) (n : Nat) (sp : Sp) (gV : List V → List V → List V) (E : XK) (ta : TE) (tk : TA) : TE := fun σ H Q => ta σ H fun x H1 => ∃ a dx fs, x = .ref a ∧ H1 a = some (.ins C dx fs) ∧ fs.lookup m = none ∧
  tk σ H1 fun zs H2 => zs.length = n ∧ sp (gV [.ref a] zs) H2 Q E
theorem pe_methK0 {CX : CXT} {k : Nat} {f C : Addr} {fd : FuncData} {ps ks : List Str} {sp : Sp} {E : XK} {m : Str} {pos apos : Pos} {o : Expr} {kws : List Keyword} {ta : TE} {tk : TA} {g : List Value → List Value → List Value} {gV : List V → List V → List V} {pl : Sem Bool}
    (he : PE X o ta) (c : Cls X.K C) (hm : Meth X.K C m f) (F : FnOk X.prog X.w X.K X.mg X.base CX k f fd ps sp) (hr : Room k X.A) (hb : KBn X.K fd ps 1 ks g gV) (hx : Passes CX X E) (hkw : PK X kws tk)
    (hall : (backToKw pos (keywordEach kws X.env)).all (·.1.isSome) = true := by rfl) (hks : (backToKw pos (keywordEach kws X.env)).filterMap (·.1) = ks := by rfl)
    (hpl : ((backTo pos (starEach [] X.env)).any (·.1) || (backToKw pos (keywordEach kws X.env)).any (·.1.isNone)) = false := by rfl)
    (ht : eval (.Call (.Attribute o m apos) [] kws pos) X.env = (do
      let ov ← eval o X.env
      standAt apos.atName
      let (f, first) ← holding [ov] (getMethod ov m pl)
      callWith pos f first (backTo pos (starEach [] X.env)) (backToKw pos (keywordEach kws X.env))) := by rfl) :
    PE X (.Call (.Attribute o m apos) [] kws pos) (tMethK C m ks.length sp gV E ta tk) := by
  refine ⟨fun pins s σ H Q I h => ?_⟩
  refine PySem.W.methodCall_KW (pl := pl) (thn (he.run pins s σ H _ I h) fun u s1 ⟨x, H1, I1, rx, a, dx, fs, ex, ea, l, q⟩ => ?_) ht
  subst ex
  obtain rfl : u = Value.ref a := rx
  refine getmeth_ok I1 ea c hm l ?_
  refine PySem.W.callWith_KW0 (first := [.ref a]) (h₀ := X.base) I.ok.mod.kin hm.kp hall (thn (hkw.run pos pins s1 σ H1 _ I1 q) fun ws s2 ⟨zs, H2, I2, rz, l2, q2⟩ => ⟨I2.kIn, ?_⟩) hpl
  rw [hks]
  exact run_fnN (us := [.ref a]) (vs := [.ref a]) F hr hb hx I2 (.cons rfl .nil) rz rfl l2 q2
end

/-! ### own errors without own __init__: raised without arguments, out of a method; isinstance of a caught one -/
abbrev bmVE : List Value := [.type "ValueError", .type "Exception", .type "BaseException", .type "object"]
/-- a class that a clause or isinstance names -/
structure XcN (K : PySem.W.Frag) (mg : Str → Option Value) (x : Str) (C : Addr) : Prop where
  g : mg x = some (.ref C)
  ic : PySem.W.isClsIn K C = true
  ty : PySem.W.typeIn K (.ref C) = some (.type "type")
  ba : PySem.W.subIn K (.ref C) (.type "BaseException") = some true
/-- a class that is raised -/
structure XcR (K : PySem.W.Frag) (C : Addr) : Prop where
  xP : PySem.W.excIn K C bmVE "ValueError.__new__" = true
  kP : PySem.W.keepIn K (.ref C) = true
  ex : ExcC K C
section
variable {K : PySem.W.Frag} {mg : Str → Option Value}
theorem XcN.exm {x : Str} {D C : Addr} {b : Bool} (N : XcN K mg x C) (s : PySem.W.subIn K (.ref D) (.ref C) = some b) : PySem.W.exmOne K (.ref D) (.ref C) = some b := by
  have e1 : (PySem.W.subIn K (.ref C) (.type "BaseException") == some true) = true := by rw [N.ba] <;> rfl
  have e2 : ((PySem.W.clsIn K C).isSome && PySem.W.typeIn K (.ref C) == some (.type "type")) = true := by
    have h : (PySem.W.clsIn K C).isSome = true := N.ic
    rw [h, N.ty] <;> rfl
  show (if (PySem.W.subIn K (.ref C) (.type "BaseException") == some true) = true then (if ((PySem.W.clsIn K C).isSome && PySem.W.typeIn K (.ref C) == some (.type "type")) = true then PySem.W.subIn K (.ref D) (.ref C) else none) else none) = some b
  rw [if_pos e1, if_pos e2]
  exact s
theorem XcN.kit {x : Str} {D C : Addr} {b : Bool} (N : XcN K mg x C) (s : PySem.W.subIn K (.ref D) (.ref C) = some b) (ne : D ≠ C) : PySem.W.kitOne K (.ref D) (.ref C) = some b := by
  have e2 : ((PySem.W.clsIn K C).isSome && PySem.W.typeIn K (.ref C) == some (.type "type")) = true := by
    have h : (PySem.W.clsIn K C).isSome = true := N.ic
    rw [h, N.ty] <;> rfl
  have e0 : ¬ ((Value.ref D == Value.ref C) = true) := fun h => ne (Value.ref.inj (beq_iff_eq.mp h))
  show (if (Value.ref D == Value.ref C) = true then some true else (if ((PySem.W.clsIn K C).isSome && PySem.W.typeIn K (.ref C) == some (.type "type")) = true then PySem.W.subIn K (.ref D) (.ref C) else none)) = some b
  rw [if_neg e0, if_pos e2]
  exact s
theorem kit_self {D : Addr} : PySem.W.kitOne K (.ref D) (.ref D) = some true := by
  show (if (Value.ref D == Value.ref D) = true then some true else _) = some true
  rw [if_pos (beq_self_eq_true _)]
theorem kit_bltn {D : Addr} {T : String} {b : Bool} (m : PySem.W.kitMeta T = true) (s : PySem.W.subIn K (.ref D) (.type T) = some b) : PySem.W.kitOne K (.ref D) (.type T) = some b := by
  have e0 : ¬ ((Value.ref D == Value.type T) = true) := fun h => nomatch beq_iff_eq.mp h
  show (if (Value.ref D == Value.type T) = true then some true else (if PySem.W.kitMeta T = true then PySem.W.subIn K (.ref D) (.type T) else none)) = some b
  rw [if_neg e0, if_pos m]
  exact s
theorem exc_self {C : Addr} {bmB : List Value} {n : String} (q : PySem.W.excIn K C bmB n = true) : PySem.W.subIn K (.ref C) (.ref C) = some true := by
  unfold PySem.W.excIn at q
  split at q
  · rename_i dd cd sl ho
    split at q
    · rename_i C' bm k0 k1 k2 k3 n' k5 hm hs
      simp only [Bool.and_eq_true, beq_iff_eq] at q
      obtain ⟨⟨⟨⟨⟨rfl, _⟩, _⟩, _⟩, _⟩, _⟩ := q
      have hc : PySem.W.clsIn K C' = some cd := by
        unfold PySem.W.clsIn
        rw [ho] <;> rfl
      show PySem.W.mroIn K C' (.ref C') = some true
      unfold PySem.W.mroIn
      rw [hc]
      show (if cd.mro.isEmpty = true then none else some (cd.mro.contains (.ref C'))) = some true
      rw [hm, List.contains_cons, beq_self_eq_true]
      rfl
    · cases q
  · cases q
theorem XcR.ne {C D : Addr} (R : XcR K D) (h : PySem.W.subIn K (.ref D) (.ref C) = some false) : D ≠ C := fun e => by
  have z := exc_self R.xP
  rw [e] at z h
  rw [z] at h
  cases h
/-- no instance of any of these -/
theorem kit_none {D : Addr} (R : XcR K D) : ∀ {l : List (Str × Addr)}, (∀ p ∈ l, XcN K mg p.1 p.2 ∧ PySem.W.subIn K (.ref D) (.ref p.2) = some false) → PySem.W.kitAny K (.ref D) (l.map fun p => Value.ref p.2) = some false
  | [], _ => rfl
  | p :: l, h => kitAny_cons ((h p List.mem_cons_self).1.kit (h p List.mem_cons_self).2 (R.ne (h p List.mem_cons_self).2)) (fun _ => kit_none R fun q hq => h q (List.mem_cons_of_mem _ hq)) (fun z => nomatch z)
end
section
variable {X : Cx}
theorem pmk_own0 {C : Addr} {bmB : List Value} {B newId initId : String} {x : Str} {p pos : Pos} (F : ExcBaseFacts B newId initId bmB) (q : PySem.W.excIn X.K C bmB newId = true) (gC : X.mg x = some (.ref C)) (kC : PySem.W.keepIn X.K (.ref C) = true) (r : Raises X (.ref C)) (hg : Gl X x)
    (hdb : (x == ("__debug__" : Str)) = false := by decide) : PMk X (.Call (.Name x p) [] [] pos) (fun _ H Q => Q (.ref C) none H) := by
  intro pins s σ H Q I h
  refine wpAny_Call_Name_kw (ld_glob I hg gC ?_ hdb)
  refine PySem.W.callWith_K0 (first := []) I.kIn kC ?_
  show wpAny _ _ (call (.ref C) []) _ _ _
  obtain ⟨bm, N, nm, qn, bs, hdct, sn, sub, ab, col, dd, k0, k1, k2, k3, k5, mN, hC, hN, hni, T⟩ := exc_obj I.kIn q
  refine wpAny_call_exc_subT F T hC hN hni (fun h' e hm => ?_) (by show 0 ≤ sizeLine; decide)
  exact mk_of I hm r h (I.hok.gone hm.new)
/-- raise C() -/
theorem ps_raise0 {W : WX} {C : Addr} {x : Str} {p pos pos2 : Pos} (hc : X.calm = true) (tk : Takes X W) (N : XcN X.K X.mg x C) (R : XcR X.K C) (hg : Gl X x) (hdb : (x == ("__debug__" : Str)) = false := by decide) :
    PS X (.Raise (some (.Call (.Name x p) [] [] pos)) none pos2) (fun _ σ H => W (.ref C) none σ H) :=
  ps_raise hc tk (pmk_own0 PySem.F.excBase_ValueError R.xP N.g R.kP (raises_own N.ba N.ty) hg hdb)
variable {CX : CXT} {k : Nat} {f C : Addr} {fd : FuncData} {ps : List Str} {sp : Sp} {E : L2.St → XK} {x m : Str} {p pos apos : Pos} {e o : Expr} {es : List Expr} {ta : TE} {t : TA}
def tMethL (C : Addr) (m : Str) (sp : Sp) (E : L2.St → XK) (ta : TE) (t : TA) : TE := fun σ H Q => ta σ H fun x H1 => ∃ a dx fs, x = .ref a ∧ H1 a = some (.ins C dx fs) ∧ fs.lookup m = none ∧ t σ H1 fun vs H2 => sp (.ref a :: vs) H2 Q (E σ)
/-- o.m(), which may raise -/
theorem pe_methL0 {pl : Sem Bool} (he : PE X o ta) (c : Cls X.K C) (hm : Meth X.K C m f) (F : FnOk X.prog X.w X.K X.mg X.base CX k f fd ps sp) (hr : Room k X.A) (hb : Binds X.K fd ps []) (hx : ∀ σ, PassesAt CX X σ (E σ))
    (ht : eval (.Call (.Attribute o m apos) [] [] pos) X.env = (do
      let ov ← eval o X.env
      standAt apos.atName
      let (f, first) ← holding [ov] (getMethod ov m pl)
      callWith pos f first (backTo pos (starEach [] X.env)) (backToKw pos (keywordEach [] X.env))) := by rfl) :
    PE X (.Call (.Attribute o m apos) [] [] pos) (tMethL C m sp E ta tNil) := by
  refine ⟨fun pins s σ H Q I h => ?_⟩
  refine PySem.W.methodCall_KW (pl := pl) (thn (he.run pins s σ H _ I h) fun u s1 ⟨x, H1, I1, rx, a, dx, fs, ex, ea, l, q⟩ => ?_) ht
  subst ex
  obtain rfl : u = Value.ref a := rx
  refine getmeth_ok I1 ea c hm l ?_
  exact PySem.W.callWith_K0 (first := [.ref a]) I1.kIn hm.kp (run_fnS (us := [.ref a]) (vs := [.ref a]) F hr hb (hx σ) I1 (.cons rfl .nil) q)
/-- o.m(e, ..), which may raise -/
theorem pe_methL {pl : Sem Bool} (he : PE X o ta) (c : Cls X.K C) (hm : Meth X.K C m f) (F : FnOk X.prog X.w X.K X.mg X.base CX k f fd ps sp) (hr : Room k X.A) (hb : Binds X.K fd ps []) (hx : ∀ σ, PassesAt CX X σ (E σ)) (ha : PA X (e :: es) t)
    (hst : starEach (e :: es) X.env = (false, eval e X.env) :: starEach es X.env := by rfl) (hpl : (backTo pos (starEach es X.env)).any (·.1) = false := by rfl)
    (ht : eval (.Call (.Attribute o m apos) (e :: es) [] pos) X.env = (do
      let ov ← eval o X.env
      standAt apos.atName
      let (f, first) ← holding [ov] (getMethod ov m pl)
      callWith pos f first (backTo pos (starEach (e :: es) X.env)) (backToKw pos (keywordEach [] X.env))) := by rfl) :
    PE X (.Call (.Attribute o m apos) (e :: es) [] pos) (tMethL C m sp E ta t) := by
  refine ⟨fun pins s σ H Q I h => ?_⟩
  refine PySem.W.methodCall_KW (pl := pl) (thn (he.run pins s σ H _ I h) fun u s1 ⟨x, H1, I1, rx, a, dx, fs, ex, ea, l, q⟩ => ?_) ht
  subst ex
  obtain rfl : u = Value.ref a := rx
  refine getmeth_ok I1 ea c hm l ?_
  refine PySem.W.callWith_K (first := [.ref a]) (h₀ := X.base) I.ok.mod.kin hm.kp (thn (ha.run pos pins s1 σ H1 _ I1 q) fun us s2 ⟨vs, H2, I2, r, q2⟩ => ⟨I2.kIn, ?_⟩) hst hpl
  exact run_fnS (us := .ref a :: us) (vs := .ref a :: vs) F hr hb (hx σ) I2 (.cons rfl r) q2
/-- isinstance(e, c), e the exception (without a dict) that the suite holds -/
def rIsX (K : PySem.W.Frag) (a : Addr) (cls : Value) (d : Option Addr) : List V → Hp → VK → Prop := fun xs H Q => ∃ (D : Addr) (c : V) (cv : Value) (b : Bool), xs = [.ref a, c] ∧ cls = .ref D ∧ d = none ∧ ExcC K D ∧ ClsV c cv ∧ PySem.W.kitOne K (.ref D) cv = some b ∧ Q (.bl b) H
/-- isinstance(e, (c1, c2, ..)) -/
def rIsXT (K : PySem.W.Frag) (a : Addr) (cls : Value) (d : Option Addr) : List V → Hp → VK → Prop := fun xs H Q => ∃ (D tp : Addr) (cs : List V) (us : List Value) (b : Bool), xs = [.ref a, .ref tp] ∧ cls = .ref D ∧ d = none ∧ ExcC K D ∧ H tp = some (.tup cs) ∧ Paired ClsV cs us ∧ PySem.W.kitAny K (.ref D) us = some b ∧ Q (.bl b) H
theorem held_inst {a D : Addr} {oe : Obj} {pn pins : List (Addr × Obj)} {σ : L2.St} {H : Hp} {s : Shared} (I : Inv (X.suite a ((a, oe) :: pn)) pins σ H s) (hz : Zc (.ref D) none oe) (hf : ∃ vs, oe.data = .fields vs) : PySem.W.InstAt s.heap a oe D none := by
  obtain ⟨hget, _⟩ := I.pin (a, oe) (List.mem_append.mpr (.inl List.mem_cons_self))
  obtain ⟨vs, hv⟩ := hf
  obtain ⟨oc, od, oda, osl⟩ := oe
  obtain ⟨h1, h2⟩ := hz
  dsimp only at h1 h2 hv
  subst h1 h2 hv
  exact ⟨hget, rfl, rfl, trivial⟩
theorem call_isX {a : Addr} {cls : Value} {d : Option Addr} {oe : Obj} {pn : List (Addr × Obj)} (hz : Zc cls d oe) (hf : ∃ vs, oe.data = .fields vs) : CallR (X.suite a ((a, oe) :: pn)) (.builtin "isinstance") (rIsX X.K a cls d) := by
  intro pins s σ H xs us Q I r h
  obtain ⟨D, c, cv, b, rfl, rfl, rfl, C, hcv, e, q⟩ := h
  cases r with
  | cons rx rr =>
    cases rr with
    | cons rt rr =>
      cases rr
      cases rx
      have ec := hcv.eq rt
      subst ec
      exact PySem.W.kia_one (PySem.W.handS_kitx_exc C.hg C.hk C.hs C.hd C.ha C.hn C.ht C.hm) I.kIn (held_inst I hz hf) e (fun z => nomatch z) fun tk => ⟨.bl b, H, I.kept (t' := tk) fun _ _ z => z, rfl, q⟩
theorem call_isXT {a : Addr} {cls : Value} {d : Option Addr} {oe : Obj} {pn : List (Addr × Obj)} (hz : Zc cls d oe) (hf : ∃ vs, oe.data = .fields vs) : CallR (X.suite a ((a, oe) :: pn)) (.builtin "isinstance") (rIsXT X.K a cls d) := by
  intro pins s σ H xs us Q I r h
  obtain ⟨D, tp, cs, ws, b, rfl, rfl, rfl, C, hT, k, e, q⟩ := h
  cases r with
  | cons rx rr =>
    cases rr with
    | cons rt rr =>
      cases rr
      cases rx
      cases rt
      obtain ⟨_, its, rv, o, h1, h2, n, h3⟩ := (show ObjOk X.prog X.w H s.heap tp (.tup cs) from I.hok tp _ hT)
      have e3 := ClsV.all k rv
      subst e3
      obtain ⟨oc, od, dt, sl⟩ := o
      simp only at h2 h3
      subst h2 h3
      exact PySem.W.kia_tup (PySem.W.handS_kitx_exc C.hg C.hk C.hs C.hd C.ha C.hn C.ht C.hm) I.kIn (held_inst I hz hf) h1 e (fun z => nomatch z) fun tk => ⟨.bl b, H, I.tok tk, rfl, q⟩
end

/-! ### own errors with an own __init__ of one field: raised, asked for their class, their field read -/
section
open PySem.W
variable {prog : Program} {w : World} {A : Around} {E : Value → Shared → Prop} {K : Frag} {D x : Addr} {ox : Obj} {od : Option Obj} {s : Shared}
/-- e.__class__ of an error that has a dict (the library has it of one without) -/
theorem cls_of_dict {Q : Option Value → Shared → Prop} (C : ExcC K D) (X : K.In s.heap) (I : InstAt s.heap x ox D od) (h : Q (some (.ref D)) { s with toks := s.toks + 1 }) : wpAny (model prog w) A (getAttr? (.ref x) "__class__") Q E s := by
  have some_cls : (clsIn K D).isSome = true := by
    obtain ⟨cd, hc, _⟩ := any_some C.hd
    rw [hc]
    rfl
  have found := looks_find (M := model prog w) X I (findObj_dataE (od := od) some_cls C.ha C.hn C.ht)
  obtain ⟨hp, g, d, t, os⟩ := s
  have own := I.type (M := model prog w)
  have isE : Looks (model prog w) hp (isInstance (.ref x) (.type "BaseException")) true := own.andThen (looks_subIn X C.hs)
  have notObj : (Value.builtin "BaseException.__getattribute__" == Value.builtin "object.__getattribute__") = false := by decide +kernel
  unfold getAttr? getAttrBy? getAttrBy
  refine wpAny_bind (wpAny_mkText (wpAny_bind (wpAny_attempt (wpAny_holding (wpAny_bind (own.at (wpAny_bind ((looks_findIn X C.hg).at ?_))))))))
  show wpAny _ _ (if (onTheHeap (Value.ref D) && Value.builtin "BaseException.__getattribute__" == Value.builtin "object.__getattribute__") = true then _ else _) _ _ _
  rw [show (onTheHeap (Value.ref D) && Value.builtin "BaseException.__getattribute__" == Value.builtin "object.__getattribute__") = false by rw [notObj]; rfl, if_neg Bool.false_ne_true]
  unfold getAttrByItsOwn hookBefore
  refine wpAny_bind ?_
  rw [if_pos (show onTheHeap (Value.ref D) = true from rfl)]
  refine (looks_findIn X C.hk).at (wpAny_bind (wpAny_attempt (wpAny_holding ?_)))
  unfold callGetattribute
  rw [show (false && onTheHeap (Value.builtin "BaseException.__getattribute__")) = false from rfl, if_neg Bool.false_ne_true]
  unfold boundAndCalled
  rw [PySem.F.excAttr_ValueError.ga.bind (.ref x)]
  refine wpAny_bind (wpAny_pure ?_)
  show wpAny _ _ (call (.builtin "BaseException.__getattribute__") [.ref x, .str "__class__" t]) _ _ _
  refine wpAny_call (codeAny_call_builtin PySem.F.excAttr_ValueError.ga.plain PySem.F.entry_bexc_ga ?_)
  refine @check_slot (model prog w) _ _ ⟨hp, g, d, t + 1, os⟩ "BaseException.__getattribute__" "BaseException" "__getattribute__" (.ref x) [.str "__class__" t] [] _ (by decide +kernel) (by decide +kernel) isE (PySem.F.args_bexc_ga (.ref x) (.str "__class__" t)) ?_
  unfold Builtin.«object.__getattribute__»
  refine wpAny_bind (wpAny_of_eq (a := ((Value.ref x : Value), [Value.str "__class__" t])) (by first | rfl | (simp only [slotArgs]; rfl)) ?_)
  refine wpAny_bind (wpAny_pure (wpAny_bind (own.at (wpAny_bind (found.at ?_)))))
  show wpAny _ _ (holding [Value.builtin "object.__class__"] (call (.builtin "getset_descriptor.__get__") [.builtin "object.__class__", .ref x, .ref D]) >>= ret) _ _ _
  refine wpAny_bind (wpAny_holding (wpAny_call (class_get (s := ⟨hp, g, d, t + 1, os⟩) X I C.hm (wpAny_pure ?_))))
  show wpAny _ _ (handedOut (.ref D)) _ _ _
  rw [handedOut_of (v := .ref D) rfl]
  first
    | exact wpAny_pure (wpAny_pure h)
    | exact wpAny_pure h
    | exact wpAny_pure (wpAny_bind (wpAny_pure (wpAny_pure h)))
theorem kitx_dict (C : ExcC K D) : KitX K (.ref x) (.ref D) (fun h => InstAt h x ox D od) where
  ty := fun _ _ _ I => I.type
  it := fun _ _ X _ => by
    obtain ⟨cd, hc, _⟩ := any_some C.hd
    unfold clsIn at hc
    split at hc
    · rename_i ho
      intro A' Q' E' s' k q
      unfold isType loadHead
      exact wpAny_bind (wpAny_loadPart (k _ _ (X _ _ ho)) (wpAny_pure q))
    · cases hc
  ne := fun h tp dd its n sl X htp => by
    obtain ⟨cd, hc, _⟩ := any_some C.hd
    refine Bool.eq_false_iff.mpr fun q => ?_
    obtain rfl : D = tp := Value.ref.inj (beq_iff_eq.mp q)
    unfold clsIn at hc
    split at hc
    · rename_i ho
      have z := (X _ _ ho).symm.trans htp
      cases z
    · cases hc
  ca := fun X I k => cls_of_dict C X I k
end
/-- an error's dict, if it has one -/
def ExD (H : Hp) (d : Option Addr) : Prop := d = none ∨ ∃ dd fs, d = some dd ∧ H dd = some (.xd fs)
/-- what the written part says of a class with an own __init__ that sets the field f -/
structure XcI (K : PySem.W.Frag) (C fI : Addr) (f : Str) : Prop where
  ox : OexC K C
  iC : PySem.W.findIn K (.ref C) "__init__" = some (some (.ref fI))
  tI : PySem.W.typeIn K (.ref fI) = some (.type "function")
  no : PySem.W.findIn K (.ref C) f = some none
  ex : ExcC K C
theorem XcI.xf {K : PySem.W.Frag} {C fI : Addr} {f : Str} (I : XcI K C fI f) : XfC K C := ⟨I.ex.hg, I.ex.hk, I.ex.hs, I.ex.hd⟩
theorem oex_self {K : PySem.W.Frag} {C : Addr} (O : OexC K C) : PySem.W.subIn K (.ref C) (.ref C) = some true := by
  obtain ⟨nm, q, N, bs, bm, sn, sub, ab, col, dd, k0, k1, k2, k3, k5, h, _⟩ := O.cls
  show PySem.W.mroIn K C (.ref C) = some true
  unfold PySem.W.mroIn PySem.W.clsIn
  rw [h]
  show (if (Value.ref C :: bm).isEmpty = true then none else some ((Value.ref C :: bm).contains (.ref C))) = some true
  rw [List.contains_cons, beq_self_eq_true]
  rfl
theorem XcI.ne {K : PySem.W.Frag} {C D fI : Addr} {f : Str} (R : XcI K D fI f) (h : PySem.W.subIn K (.ref D) (.ref C) = some false) : D ≠ C := fun e => by
  have z := oex_self R.ox
  rw [e] at z h
  rw [z] at h
  cases h
theorem kit_noneI {K : PySem.W.Frag} {mg : Str → Option Value} {D fI : Addr} {f : Str} (R : XcI K D fI f) : ∀ {l : List (Str × Addr)}, (∀ p ∈ l, XcN K mg p.1 p.2 ∧ PySem.W.subIn K (.ref D) (.ref p.2) = some false) → PySem.W.kitAny K (.ref D) (l.map fun p => Value.ref p.2) = some false
  | [], _ => rfl
  | p :: l, h => kitAny_cons ((h p List.mem_cons_self).1.kit (h p List.mem_cons_self).2 (R.ne (h p List.mem_cons_self).2)) (fun _ => kit_noneI R fun q hq => h q (List.mem_cons_of_mem _ hq)) (fun z => nomatch z)
def sp_exc_init (K : PySem.W.Frag) (C : Addr) (f : Str) : Sp := fun vs H Q _ => ∃ (a : Addr) (v : V), vs = [.ref a, v] ∧ H a = some (exo a C none) ∧ ∀ dx, H dx = none → dx ≠ a → Q .non (upd (upd H dx (exd dx [(f, v)])) a (exo a C (some dx)))
section
variable {X : Cx}
/-- the args, with more said of them than is asked -/
def tMono (ta : TA) : TA := fun σ H R => ∃ S, ta σ H S ∧ ∀ vs H1, S vs H1 → R vs H1
theorem pa_mono {es : List Expr} {ta : TA} (h : PA X es ta) : PA X es (tMono ta) := ⟨fun pos pins s σ H Q I q => by
  obtain ⟨S, h1, h2⟩ := q
  refine thn (h.run pos pins s σ H S I h1) fun us s1 hh => ?_
  obtain ⟨vs, H1, I1, r, z⟩ := hh
  exact ⟨vs, H1, I1, r, h2 _ _ z⟩⟩
def tMk1 (C : Addr) (f : Str) (ta : TA) : L2.St → Hp → XK → Prop := fun σ H Q => ta σ H fun vs H1 => ∃ v, vs = [v] ∧ ∀ d, H1 d = none → Q (.ref C) (some d) (upd H1 d (.xd [(f, v)]))
theorem pmk_1 {x f : Str} {C fI : Addr} {k : Nat} {fd : FuncData} {ps : List Str} {p pos : Pos} {e : Expr} {ta : TA} (N : XcN X.K X.mg x C) (I : XcI X.K C fI f) (F1 : FnOk X.prog X.w X.K X.mg X.base CX0 k fI fd ps (sp_exc_init X.K C f)) (hr : Room (k + 1) X.A) (hb : Binds X.K fd ps [])
    (hg : Gl X x) (ha : PA X [e] ta) (hdb : (x == ("__debug__" : Str)) = false := by decide) (he : starEach (e :: []) X.env = (false, eval e X.env) :: starEach [] X.env := by rfl) (hpl : (backTo pos (starEach [] X.env)).any (·.1) = false := by rfl) :
    PMk X (.Call (.Name x p) [e] [] pos) (tMk1 C f ta) := by
  intro pins s σ H Q J h
  refine pmk_oex (dvs := []) I.ox I.iC I.tI F1 hr hb .nil (fun _ _ _ _ _ _ _ h => h.elim) hg N.g (pa_mono ha) hdb he hpl pins s σ H Q J ⟨_, h, fun vs H1 h1 => ?_⟩
  obtain ⟨v, rfl, q⟩ := h1
  refine ⟨by show 1 ≤ 1000; decide, fun a na => ⟨a, v, rfl, upd_same, fun dx nd ne => ⟨rfl, dx, [(f, v)], upd_same, ?_, ?_, ?_⟩⟩⟩
  · rw [upd_ne ne]
    exact upd_same
  · rw [upd_ne ne] at nd
    exact nd
  · have nd1 : H1 dx = none := by
      rw [upd_ne ne] at nd
      exact nd
    have z := q dx nd1
    have e2 : upd H1 dx (.xd [(f, v)]) = upd (del (upd (upd (upd H1 a (exo a C none)) dx (exd dx [(f, v)])) a (exo a C (some dx))) a) dx (.xd [(f, v)]) := by
      funext b
      by_cases hb : b = dx
      · rw [hb, upd_same, upd_same]
      · rw [upd_ne hb, upd_ne hb]
        by_cases ha : b = a
        · rw [ha, del_same, na]
        · rw [del_ne ha, upd_ne ha, upd_ne hb, upd_ne ha]
    rw [← e2]
    exact z
/-- raise C(e) -/
theorem ps_raise1 {W : WX} {x f : Str} {C fI : Addr} {k : Nat} {fd : FuncData} {ps : List Str} {p pos pos2 : Pos} {e : Expr} {ta : TA} (hc : X.calm = true) (tk : Takes X W) (N : XcN X.K X.mg x C) (I : XcI X.K C fI f) (F1 : FnOk X.prog X.w X.K X.mg X.base CX0 k fI fd ps (sp_exc_init X.K C f)) (hr : Room (k + 1) X.A) (hb : Binds X.K fd ps [])
    (hg : Gl X x) (ha : PA X [e] ta) (hdb : (x == ("__debug__" : Str)) = false := by decide) (he : starEach (e :: []) X.env = (false, eval e X.env) :: starEach [] X.env := by rfl) (hpl : (backTo pos (starEach [] X.env)).any (·.1) = false := by rfl) :
    PS X (.Raise (some (.Call (.Name x p) [e] [] pos)) none pos2) (fun _ σ H => tMk1 C f ta σ H fun cls d H' => W cls d σ H') := ps_raise hc tk (pmk_1 N I F1 hr hb hg ha hdb he hpl)
/-- isinstance(e, c), e the error that the suite holds, with a dict or without -/
def rIsY (K : PySem.W.Frag) (a : Addr) (cls : Value) (d : Option Addr) : List V → Hp → VK → Prop := fun xs H Q => ∃ (D : Addr) (c : V) (cv : Value) (b : Bool), xs = [.ref a, c] ∧ cls = .ref D ∧ ExD H d ∧ ExcC K D ∧ ClsV c cv ∧ PySem.W.kitOne K (.ref D) cv = some b ∧ Q (.bl b) H
def rIsYT (K : PySem.W.Frag) (a : Addr) (cls : Value) (d : Option Addr) : List V → Hp → VK → Prop := fun xs H Q => ∃ (D tp : Addr) (cs : List V) (us : List Value) (b : Bool), xs = [.ref a, .ref tp] ∧ cls = .ref D ∧ ExD H d ∧ ExcC K D ∧ H tp = some (.tup cs) ∧ Paired ClsV cs us ∧ PySem.W.kitAny K (.ref D) us = some b ∧ Q (.bl b) H
theorem held_instD {a D : Addr} {oe : Obj} {d : Option Addr} {pn pins : List (Addr × Obj)} {σ : L2.St} {H : Hp} {s : Shared} (I : Inv (X.suite a ((a, oe) :: pn)) pins σ H s) (hz : Zc (.ref D) d oe) (hf : ∃ vs, oe.data = .fields vs) (hd : ExD H d) : ∃ od, PySem.W.InstAt s.heap a oe D od := by
  rcases hd with rfl | ⟨dd, fs, rfl, e⟩
  · exact ⟨none, held_inst I hz hf⟩
  · obtain ⟨hget, _⟩ := I.pin (a, oe) (List.mem_append.mpr (.inl List.mem_cons_self))
    obtain ⟨vs, hv⟩ := hf
    obtain ⟨mA, hns, _⟩ := (show ObjOk X.prog X.w H s.heap dd (.xd fs) from I.hok dd _ e)
    obtain ⟨od, ho, _⟩ := lookIn_ns hns
    exact ⟨some od, hget, hz.1, by unfold PySem.W.notCls; rw [hv] <;> rfl, by rw [hz.2]; exact ho⟩
theorem call_isY {a : Addr} {cls : Value} {d : Option Addr} {oe : Obj} {pn : List (Addr × Obj)} (hz : Zc cls d oe) (hf : ∃ vs, oe.data = .fields vs) : CallR (X.suite a ((a, oe) :: pn)) (.builtin "isinstance") (rIsY X.K a cls d) := by
  intro pins s σ H xs us Q I r h
  obtain ⟨D, c, cv, b, rfl, rfl, hd, C, hcv, e, q⟩ := h
  obtain ⟨od, J⟩ := held_instD I hz hf hd
  cases r with
  | cons rx rr =>
    cases rr with
    | cons rt rr =>
      cases rr
      cases rx
      have ec := hcv.eq rt
      subst ec
      exact PySem.W.kia_one (kitx_dict C) I.kIn J e (fun z => nomatch z) fun tk => ⟨.bl b, H, I.kept (t' := tk) fun _ _ z => z, rfl, q⟩
theorem call_isYT {a : Addr} {cls : Value} {d : Option Addr} {oe : Obj} {pn : List (Addr × Obj)} (hz : Zc cls d oe) (hf : ∃ vs, oe.data = .fields vs) : CallR (X.suite a ((a, oe) :: pn)) (.builtin "isinstance") (rIsYT X.K a cls d) := by
  intro pins s σ H xs us Q I r h
  obtain ⟨D, tp, cs, ws, b, rfl, rfl, hd, C, hT, k, e, q⟩ := h
  obtain ⟨od, J⟩ := held_instD I hz hf hd
  cases r with
  | cons rx rr =>
    cases rr with
    | cons rt rr =>
      cases rr
      cases rx
      cases rt
      obtain ⟨_, its, rv, o, h1, h2, n, h3⟩ := (show ObjOk X.prog X.w H s.heap tp (.tup cs) from I.hok tp _ hT)
      have e3 := ClsV.all k rv
      subst e3
      obtain ⟨oc, oD, dt, sl⟩ := o
      simp only at h2 h3
      subst h2 h3
      exact PySem.W.kia_tup (kitx_dict C) I.kIn J h1 e (fun z => nomatch z) fun tk => ⟨.bl b, H, I.tok tk, rfl, q⟩
end

/-! ### errors with an own __init__ of one field over any built-in error (LookupError) -/
section
open PySem.W Builtin Builtin.ObjectAttr
variable {prog : Program} {w : World} {A : Around} {R : Result → Shared → Prop} {hp : Heap} {g : Array GenState} {d : Drawn} {tk0 : Nat} {os : OsState}
theorem osa_anyB {K : Frag} {name : Str} {tk : Tok} {v : Value} {x C t : Addr} {bmB : List Value} {B : String} (SF : StoreFacts B bmB "object.__setattr__" "object") (X : K.In hp) (hx : hp.get? x = some (excObj C t none .none)) (ho : excOver K C bmB = true) (hd : hasDictIn K C = true)
    (ha : findIn K (.ref C) name = some none)
    (hq : ∀ h' tk', (∀ b o, b ≠ x → hp.get? b = some o → h'.get? b = some o) → h'.get? x = some (excObj C t (some hp.objs.size) .none) → h'.Ns1 hp.objs.size (fun y => if y = name then some v else none) → R (.ok (.ret .none)) ⟨h', g, d, tk', os⟩) :
    codeAny (model prog w) A (.call (.builtin "object.__setattr__") ⟨[.ref x, .str name tk, v], []⟩) R ⟨hp, g, d, tk0, os⟩ := by
  have hxs : x ≠ hp.objs.size := Nat.ne_of_lt (Heap.lt_size hx)
  refine osa_openX (s := ⟨hp, g, d, tk0, os⟩) (od := none) (r := none) SF X ⟨hx, rfl, rfl, trivial⟩ ho (by unfold takerIn; rw [ha]; rfl) fun b => ?_
  obtain ⟨cd, hc, hd'⟩ := any_some hd
  refine wpAny_bind (wpAny_pure (wpAny_bind (instanceDict_exc hx (looks_clsIn X hc) hd' ?_)))
  show wpAny _ _ (storeInDict hp.objs.size (.str name tk) name v) _ _ _
  have at0 : (hp.push (dictOf [] 0)).get? hp.objs.size = some (dictOf [] 0) := Heap.get?_push_size _ rfl
  have x0 : (hp.push (dictOf [] 0)).get? x = some (excObj C t none .none) := Heap.get?_push_of_some _ hx
  refine HandSPX.store_in_new ⟨_, #[], _, (Heap.get?_update_ne _ _ _ _ hxs.symm).trans at0, rfl, fun e he => absurd he (by simp), fun _ => rfl⟩ fun h' tk' hn' hs => ?_
  refine hq h' tk' (fun b o hb e => ?_) ?_ hn'
  · exact (hs.2 b (Nat.ne_of_lt (Heap.lt_size e))).trans ((Heap.get?_update_ne _ _ _ _ hb).trans (Heap.get?_push_of_some _ e))
  · exact (hs.2 x hxs).trans (Heap.get?_update_self _ x0 rfl)
end
/-- a class of the program over the built-in error B, with an own __init__ that sets the field f -/
structure XcG (K : PySem.W.Frag) (bmB : List Value) (newId : String) (C fI : Addr) (f : Str) : Prop where
  ini : PySem.W.excInitIn K C bmB newId = true
  over : PySem.W.excOver K C bmB = true
  sa : PySem.W.findIn K (.ref C) "__setattr__" = some (some (.builtin "object.__setattr__"))
  kC : PySem.W.keepIn K (.ref C) = true
  ty : PySem.W.typeIn K (.ref C) = some (.type "type")
  iC : PySem.W.findIn K (.ref C) "__init__" = some (some (.ref fI))
  tI : PySem.W.typeIn K (.ref fI) = some (.type "function")
  no : PySem.W.findIn K (.ref C) f = some none
  ex : ExcC K C
section
variable {X : Cx} {pins : List (Addr × Obj)} {σ : L2.St} {H : Hp} {s : Shared} {bmB : List Value} {B newId initId : String} {C fI : Addr} {f : Str}
theorem set_field {a : Addr} {y : V} {u : Value} {Q : Unit → Shared → Prop} {E : Value → Shared → Prop} {A : Around} (SF : StoreFacts B bmB "object.__setattr__" "object") (G : XcG X.K bmB newId C fI f) (I : Inv X pins σ H s) (e : H a = some (exo a C none)) (ry : RelV y u)
    (h : ∀ dx s', H dx = none → dx ≠ a → Inv X pins σ (upd (upd H dx (exd dx [(f, y)])) a (exo a C (some dx))) s' → Q () s') : wpAny (model X.prog X.w) A (setAttr (.ref a) f u) Q E s := by
  obtain ⟨t1, ho⟩ := exo_at I.hok e
  have lt := Heap.lt_size ho
  have n0 : H s.heap.objs.size = none := I.hok.fresh (Nat.le_refl _)
  obtain ⟨hp, g, d, t, os⟩ := s
  refine PySem.W.set_plain I.kIn (ox := PySem.W.excObj C t1 none .none) (od := none) ⟨ho, rfl, rfl, trivial⟩ G.sa ?_
  refine osa_anyB SF I.kIn ho G.over G.ex.hd G.no fun h' tk' k hx hn => ?_
  have notA : ∀ {b : Addr}, H b = none → b ≠ a := fun n z => by
    rw [z, e] at n
    cases n
  have notN : ∀ {b : Addr} {o : Obj}, hp.get? b = some o → b ≠ hp.objs.size := fun q => Nat.ne_of_lt (Heap.lt_size q)
  have old : ∀ {b : Addr} {o : HO}, H b = some o → b ≠ a → upd (upd H hp.objs.size (exd hp.objs.size [(f, y)])) a (exo a C (some hp.objs.size)) b = some o := fun q n => by
    rw [upd_ne n, upd_ne (ne_of_none q n0)]
    exact q
  have U : Un X.fs [] H (upd (upd H hp.objs.size (exd hp.objs.size [(f, y)])) a (exo a C (some hp.objs.size))) hp h' :=
    ⟨fun b o q n _ _ => k b o (notA n) q, fun b o q n _ _ => ⟨_, k b o (notA n) q⟩, fun b o q n _ => by rw [upd_ne (notA n), upd_ne (notN q)]; exact n,
      fun b o q _ => by
        by_cases hb : b = a
        · subst hb
          exact ⟨_, hx⟩
        · exact ⟨o, k b o hb q⟩,
      fun b xs q => old q (at_ne e q exo_tup), fun b o v q => old q (at_ne e q exo_frz), fun b ps q => ⟨#[], by rw [old q (at_ne e q exo_tbl)]; simp⟩⟩
  refine h _ _ n0 (Nat.ne_of_gt lt) (I.un (t' := tk') U fun b o q => ?_)
  by_cases hb : b = a
  · subst hb
    rw [upd_same] at q
    cases q
    exact exo_ok hx
  · rw [upd_ne hb] at q
    by_cases hd : b = hp.objs.size
    · subst hd
      rw [upd_same] at q
      cases q
      exact exd_ok hn (relO_put (fs := []) ry fun g => True.intro)
    · rw [upd_ne hd] at q
      refine (I.hok b o q).stay (fun c v hc z => k c v ?_ z) (fun c hc => old hc (at_ne e hc exo_own)) (fun c xs hc => old hc (at_ne e hc exo_tup))
      rcases hc with rfl | hc
      · exact hb
      · exact at_ne e hc exo_own
/-- self.f = e in such an __init__ -/
theorem ps_field {o e : Expr} {to te : TE} {p' pos : Pos} (SF : StoreFacts B bmB "object.__setattr__" "object") (ho : PE X o to) (he : PE X e te) (hs : swapsWith e (some (.Attribute o f p')) pos.line X.env = pure false := by rfl) :
    PS X (.Assign [.Attribute o f p'] e pos) (fun D σ H => te σ H fun y H1 => to σ H1 fun x H2 => ∃ a C fI : Addr, x = .ref a ∧ XcG X.K bmB newId C fI f ∧ H2 a = some (exo a C none) ∧ ∀ dx, H2 dx = none → dx ≠ a → D.nx σ (upd (upd H2 dx (exd dx [(f, y)])) a (exo a C (some dx)))) := by
  refine ⟨fun pins s σ H D I h => ?_⟩
  refine plainObj_wpAny_Assign_Attribute (thn (he.run pins s σ H _ I h) fun v s1 hv => ?_) hs
  obtain ⟨y, H1, I1, r1, q1⟩ := hv
  refine thn (ho.run pins s1 σ H1 _ I1 q1) fun u s2 hu => ?_
  obtain ⟨x, H2, I2, r2, a, C, fI, rfl, G, ea, q⟩ := hu
  obtain rfl : u = Value.ref a := r2
  exact set_field SF G I2 ea r1 fun dx s' n ne J => ⟨σ, _, J, q dx n ne⟩
/-- C(e) -/
theorem pmk_G {x : Str} {k : Nat} {fd : FuncData} {ps : List Str} {p pos : Pos} {e : Expr} {ta : TA} (F : ExcBaseFacts B newId initId bmB) (N : XcN X.K X.mg x C) (G : XcG X.K bmB newId C fI f) (F1 : FnOk X.prog X.w X.K X.mg X.base CX0 k fI fd ps (sp_exc_init X.K C f)) (hr : Room (k + 1) X.A) (hb : Binds X.K fd ps [])
    (hg : Gl X x) (ha : PA X [e] ta) (hdb : (x == ("__debug__" : Str)) = false := by decide) (he : starEach (e :: []) X.env = (false, eval e X.env) :: starEach [] X.env := by rfl) (hpl : (backTo pos (starEach [] X.env)).any (·.1) = false := by rfl) :
    PMk X (.Call (.Name x p) [e] [] pos) (tMk1 C f ta) := by
  intro pins s σ H Q I h
  refine wpAny_Call_Name_kw (ld_glob I hg N.g ?_ hdb)
  refine PySem.W.callWith_K (h₀ := X.base) I.ok.mod.kin G.kC (thn (ha.run pos pins s σ H _ I h) fun us s1 hh => ?_) he hpl
  obtain ⟨vs, H1, I1, r1, v, rfl, q⟩ := hh
  refine ⟨I1.kIn, ?_⟩
  cases r1 with
  | cons rv rn =>
    rename_i u us'
    cases rn
    show wpAny _ _ (call (.ref C) [u]) _ _ _
    obtain ⟨nm, Nn, qn, bs, bm, hdct, sn, sub, ab, col, dd, k0, k1, k2, k3, k5, hC, hT⟩ := PySem.W.excInit_of I1.kIn G.ini
    obtain ⟨hp, g, dr, tk, os⟩ := s1
    have big : hp.objs.size ≤ hp.objs.size + 1 := Nat.le_succ _
    have na : H1 (hp.objs.size + 1) = none := I1.hok.fresh big
    have got : ((hp.push (PySem.W.kdv_tup [u])).push (PySem.HandSPX.excO C hp.objs.size)).get? (hp.objs.size + 1) = some (PySem.HandSPX.excO C hp.objs.size) := by heap_get
    have kk : ∀ b o, hp.get? b = some o → ((hp.push (PySem.W.kdv_tup [u])).push (PySem.HandSPX.excO C hp.objs.size)).get? b = some o := fun b o z => Heap.get?_push_of_some _ (Heap.get?_push_of_some _ z)
    have I2 := I1.laid (t' := tk) (a := hp.objs.size + 1) (o := exo (hp.objs.size + 1) C none) kk big (exo_ok got)
    have lay : ∀ dx, upd H1 (hp.objs.size + 1) (exo (hp.objs.size + 1) C none) dx = none → dx ≠ hp.objs.size + 1 → H1 dx = none := fun dx n ne => by
      rw [upd_ne ne] at n
      exact n
    refine wpAny_call (PySem.HandSPX.call_own F hT hC (PySem.W.looks_findIn I1.kIn G.iC) (fun self => PySem.W.bind_fn I1.kIn self G.tI) (by show 1 ≤ sizeLine; rw [sizeLine_eq]; decide)
      (codeAny_mono (F1.run _ X.stack _ _ ⟨[.ref (hp.objs.size + 1), u], []⟩ [.ref (hp.objs.size + 1), u] [.ref (hp.objs.size + 1), v] (fun r H2 => r = .non ∧ ∃ dx, H1 dx = none ∧ dx ≠ hp.objs.size + 1 ∧ H2 = upd (upd (upd H1 (hp.objs.size + 1) (exo (hp.objs.size + 1) C none)) dx (exd dx [(f, v)])) (hp.objs.size + 1) (exo (hp.objs.size + 1) C (some dx)))
        (fun _ _ _ => False) (hr.make C [u] []) (I2.env0.make C [u] []) (hb _ [.ref (hp.objs.size + 1), u] I2.kIn (F1.len [.ref (hp.objs.size + 1), v] (upd H1 (hp.objs.size + 1) (exo (hp.objs.size + 1) C none)) (fun _ _ => True) (fun _ _ _ => True) ⟨_, v, rfl, upd_same, fun _ _ _ => trivial⟩)) (.cons rfl (.cons rv .nil)) ⟨_, v, rfl, upd_same, fun dx n ne => ⟨rfl, dx, lay dx n ne, ne, rfl⟩⟩) fun r s' hq => ?_))
    cases r with
    | error er => exact hq.elim
    | ok fl =>
      cases fl with
      | next => exact False.elim hq
      | brk => exact False.elim hq
      | cont => exact False.elim hq
      | ret ur =>
        obtain ⟨z, H2, os2, bare2, un2, hok2, rz, ez, dx, nd, ne, eH⟩ := hq
        subst ez eH
        obtain ⟨h2, g2, d2, t2, os'⟩ := s'
        refine ⟨rz, mk_end (d := dx) (fs := [(f, v)]) (raises_own N.ba N.ty) I1 big kk un2 hok2 os2 bare2 upd_same (by rw [upd_ne ne]; exact upd_same) nd ?_⟩
        have eq : upd (del (upd (upd (upd H1 (hp.objs.size + 1) (exo (hp.objs.size + 1) C none)) dx (exd dx [(f, v)])) (hp.objs.size + 1) (exo (hp.objs.size + 1) C (some dx))) (hp.objs.size + 1)) dx (.xd [(f, v)]) = upd H1 dx (.xd [(f, v)]) := by
          funext b
          by_cases hb : b = dx
          · rw [hb, upd_same, upd_same]
          · rw [upd_ne hb, upd_ne hb]
            by_cases ha : b = hp.objs.size + 1
            · rw [ha, del_same, na]
            · rw [del_ne ha, upd_ne ha, upd_ne hb, upd_ne ha]
        rw [eq]
        exact q dx nd
end
abbrev bmLE : List Value := [.type "LookupError", .type "Exception", .type "BaseException", .type "object"]
section
variable {K : PySem.W.Frag} {mg : Str → Option Value} {bmB : List Value} {newId : String} {C D fI : Addr} {f : Str}
theorem XcG.xf (G : XcG K bmB newId C fI f) : XfC K C := ⟨G.ex.hg, G.ex.hk, G.ex.hs, G.ex.hd⟩
theorem init_self (q : PySem.W.excInitIn K C bmB newId = true) : PySem.W.subIn K (.ref C) (.ref C) = some true := by
  unfold PySem.W.excInitIn at q
  split at q
  · rename_i dd cd sl ho
    split at q
    · rename_i C' bm k0 k1 k2 k3 n' k5 hm hs
      simp only [Bool.and_eq_true, beq_iff_eq] at q
      obtain ⟨⟨⟨rfl, _⟩, _⟩, _⟩ := q
      have hc : PySem.W.clsIn K C' = some cd := by
        unfold PySem.W.clsIn
        rw [ho] <;> rfl
      show PySem.W.mroIn K C' (.ref C') = some true
      unfold PySem.W.mroIn
      rw [hc]
      show (if cd.mro.isEmpty = true then none else some (cd.mro.contains (.ref C'))) = some true
      rw [hm, List.contains_cons, beq_self_eq_true]
      rfl
    · cases q
  · cases q
theorem XcG.ne (G : XcG K bmB newId D fI f) (h : PySem.W.subIn K (.ref D) (.ref C) = some false) : D ≠ C := fun e => by
  have z := init_self G.ini
  rw [e] at z h
  rw [z] at h
  cases h
end
section
variable {X : Cx}
/-- raise C(e), C over the built-in error B -/
theorem ps_raiseG {bmB : List Value} {B newId initId : String} {W : WX} {x f : Str} {C fI : Addr} {k : Nat} {fd : FuncData} {ps : List Str} {p pos pos2 : Pos} {e : Expr} {ta : TA} (F : ExcBaseFacts B newId initId bmB) (hc : X.calm = true) (tk : Takes X W) (N : XcN X.K X.mg x C) (G : XcG X.K bmB newId C fI f)
    (F1 : FnOk X.prog X.w X.K X.mg X.base CX0 k fI fd ps (sp_exc_init X.K C f)) (hr : Room (k + 1) X.A) (hb : Binds X.K fd ps []) (hg : Gl X x) (ha : PA X [e] ta) (hdb : (x == ("__debug__" : Str)) = false := by decide)
    (he : starEach (e :: []) X.env = (false, eval e X.env) :: starEach [] X.env := by rfl) (hpl : (backTo pos (starEach [] X.env)).any (·.1) = false := by rfl) :
    PS X (.Raise (some (.Call (.Name x p) [e] [] pos)) none pos2) (fun _ σ H => tMk1 C f ta σ H fun cls d H' => W cls d σ H') := ps_raise hc tk (pmk_G F N G F1 hr hb hg ha hdb he hpl)
end

/-! ### errors as values: C(), C(e); isinstance of one; its field -/
section
variable {X : Cx}
/-- C(), a new error -/
theorem pe_err0 {C : Addr} {bmB : List Value} {B newId initId : String} {x : Str} {p pos : Pos} (F : ExcBaseFacts B newId initId bmB) (q : PySem.W.excIn X.K C bmB newId = true) (gC : X.mg x = some (.ref C)) (kC : PySem.W.keepIn X.K (.ref C) = true) (hg : Gl X x)
    (hdb : (x == ("__debug__" : Str)) = false := by decide) : PE X (.Call (.Name x p) [] [] pos) (fun σ H Q => ∀ a, H a = none → Q (.ref a) (upd H a (exo a C none))) := by
  refine ⟨fun pins s σ H Q I h => ?_⟩
  refine wpAny_Call_Name_kw (ld_glob I hg gC ?_ hdb)
  refine PySem.W.callWith_K0 (first := []) I.kIn kC ?_
  show wpAny _ _ (call (.ref C) []) _ _ _
  obtain ⟨bm, N, nm, qn, bs, hdct, sn, sub, ab, col, dd, k0, k1, k2, k3, k5, mN, hC, hN, hni, T⟩ := exc_obj I.kIn q
  refine wpAny_call_exc_subT F T hC hN hni (fun h' a hm => ?_) (by show 0 ≤ sizeLine; decide)
  have hn : H a = none := I.hok.gone hm.new
  obtain ⟨t, ht, _, _⟩ := hm.there
  exact ⟨.ref a, upd H a (exo a C none), I.laidN hm.keeps hm.new hn (exo_ok ht), rfl, h a hn⟩
def tErr1 (C : Addr) (f : Str) (ta : TA) : TE := fun σ H Q => ta σ H fun vs H1 => ∃ v, vs = [v] ∧ ∀ a dx, H1 a = none → H1 dx = none → dx ≠ a → Q (.ref a) (upd (upd H1 dx (exd dx [(f, v)])) a (exo a C (some dx)))
/-- C(e), a new error with a field -/
theorem pe_errG {bmB : List Value} {B newId initId : String} {C fI : Addr} {f x : Str} {k : Nat} {fd : FuncData} {ps : List Str} {p pos : Pos} {e : Expr} {ta : TA} (F : ExcBaseFacts B newId initId bmB) (N : XcN X.K X.mg x C) (G : XcG X.K bmB newId C fI f) (F1 : FnOk X.prog X.w X.K X.mg X.base CX0 k fI fd ps (sp_exc_init X.K C f)) (hr : Room (k + 1) X.A) (hb : Binds X.K fd ps [])
    (hg : Gl X x) (ha : PA X [e] ta) (hdb : (x == ("__debug__" : Str)) = false := by decide) (he : starEach (e :: []) X.env = (false, eval e X.env) :: starEach [] X.env := by rfl) (hpl : (backTo pos (starEach [] X.env)).any (·.1) = false := by rfl) :
    PE X (.Call (.Name x p) [e] [] pos) (tErr1 C f ta) := by
  refine ⟨fun pins s σ H Q I h => ?_⟩
  refine wpAny_Call_Name_kw (ld_glob I hg N.g ?_ hdb)
  refine PySem.W.callWith_K (h₀ := X.base) I.ok.mod.kin G.kC (thn (ha.run pos pins s σ H _ I h) fun us s1 hh => ?_) he hpl
  obtain ⟨vs, H1, I1, r1, v, rfl, q⟩ := hh
  refine ⟨I1.kIn, ?_⟩
  cases r1 with
  | cons rv rn =>
    rename_i u us'
    cases rn
    show wpAny _ _ (call (.ref C) [u]) _ _ _
    obtain ⟨nm, Nn, qn, bs, bm, hdct, sn, sub, ab, col, dd, k0, k1, k2, k3, k5, hC, hT⟩ := PySem.W.excInit_of I1.kIn G.ini
    obtain ⟨hp, g, dr, tk, os⟩ := s1
    have big : hp.objs.size ≤ hp.objs.size + 1 := Nat.le_succ _
    have na : H1 (hp.objs.size + 1) = none := I1.hok.fresh big
    have got : ((hp.push (PySem.W.kdv_tup [u])).push (PySem.HandSPX.excO C hp.objs.size)).get? (hp.objs.size + 1) = some (PySem.HandSPX.excO C hp.objs.size) := by heap_get
    have kk : ∀ b o, hp.get? b = some o → ((hp.push (PySem.W.kdv_tup [u])).push (PySem.HandSPX.excO C hp.objs.size)).get? b = some o := fun b o z => Heap.get?_push_of_some _ (Heap.get?_push_of_some _ z)
    have I2 := I1.laid (t' := tk) (a := hp.objs.size + 1) (o := exo (hp.objs.size + 1) C none) kk big (exo_ok got)
    have lay : ∀ dx, upd H1 (hp.objs.size + 1) (exo (hp.objs.size + 1) C none) dx = none → dx ≠ hp.objs.size + 1 → H1 dx = none := fun dx n ne => by
      rw [upd_ne ne] at n
      exact n
    refine wpAny_call (PySem.HandSPX.call_own F hT hC (PySem.W.looks_findIn I1.kIn G.iC) (fun self => PySem.W.bind_fn I1.kIn self G.tI) (by show 1 ≤ sizeLine; rw [sizeLine_eq]; decide)
      (codeAny_mono (F1.run _ X.stack _ _ ⟨[.ref (hp.objs.size + 1), u], []⟩ [.ref (hp.objs.size + 1), u] [.ref (hp.objs.size + 1), v] (fun r H2 => r = .non ∧ ∃ dx, H1 dx = none ∧ dx ≠ hp.objs.size + 1 ∧ H2 = upd (upd (upd H1 (hp.objs.size + 1) (exo (hp.objs.size + 1) C none)) dx (exd dx [(f, v)])) (hp.objs.size + 1) (exo (hp.objs.size + 1) C (some dx)))
        (fun _ _ _ => False) (hr.make C [u] []) (I2.env0.make C [u] []) (hb _ [.ref (hp.objs.size + 1), u] I2.kIn (F1.len [.ref (hp.objs.size + 1), v] (upd H1 (hp.objs.size + 1) (exo (hp.objs.size + 1) C none)) (fun _ _ => True) (fun _ _ _ => True) ⟨_, v, rfl, upd_same, fun _ _ _ => trivial⟩)) (.cons rfl (.cons rv .nil)) ⟨_, v, rfl, upd_same, fun dx n ne => ⟨rfl, dx, lay dx n ne, ne, rfl⟩⟩) fun r s' hq => ?_))
    cases r with
    | error er => exact hq.elim
    | ok fl =>
      cases fl with
      | next => exact False.elim hq
      | brk => exact False.elim hq
      | cont => exact False.elim hq
      | ret ur =>
        obtain ⟨z, H2, J, rz, ez, dx, nd, ne, eH⟩ := I2.after hq
        subst ez eH
        obtain rfl : ur = Value.none := rz
        have eq : upd (upd (upd H1 (hp.objs.size + 1) (exo (hp.objs.size + 1) C none)) dx (exd dx [(f, v)])) (hp.objs.size + 1) (exo (hp.objs.size + 1) C (some dx)) = upd (upd H1 dx (exd dx [(f, v)])) (hp.objs.size + 1) (exo (hp.objs.size + 1) C (some dx)) := by
          funext b
          by_cases ha : b = hp.objs.size + 1
          · rw [ha, upd_same, upd_same]
          · rw [upd_ne ha, upd_ne ha]
            by_cases hb : b = dx
            · rw [hb, upd_same, upd_same]
            · rw [upd_ne hb, upd_ne hb, upd_ne ha]
        rw [eq] at J
        exact ⟨rfl, ⟨.ref (hp.objs.size + 1), _, J, rfl, q _ dx na nd ne⟩⟩
/-- the dict of a new error, if it has one -/
def ExV (H : Hp) (d : Option Addr) : Prop := d = none ∨ ∃ dd fs, d = some dd ∧ H dd = some (exd dd fs)
theorem err_inst {a D : Addr} {d : Option Addr} {pins : List (Addr × Obj)} {σ : L2.St} {H : Hp} {s : Shared} (I : Inv X pins σ H s) (ha : H a = some (exo a D d)) (hd : ExV H d) : ∃ oe od, PySem.W.InstAt s.heap a oe D od := by
  obtain ⟨t1, ho⟩ := exo_at I.hok ha
  rcases hd with rfl | ⟨dd, fs, rfl, e⟩
  · exact ⟨_, none, ho, rfl, rfl, trivial⟩
  · obtain ⟨mA, hns, _⟩ := exd_at I.hok e
    obtain ⟨od, hd, _⟩ := lookIn_ns hns
    exact ⟨_, some od, ho, rfl, rfl, hd⟩
/-- isinstance(e, c), e a new error -/
def rIsV (K : PySem.W.Frag) : List V → Hp → VK → Prop := fun xs H Q => ∃ (a D : Addr) (d : Option Addr) (c : V) (cv : Value) (b : Bool), xs = [.ref a, c] ∧ H a = some (exo a D d) ∧ ExV H d ∧ ExcC K D ∧ ClsV c cv ∧ PySem.W.kitOne K (.ref D) cv = some b ∧ Q (.bl b) H
theorem call_isV : CallR X (.builtin "isinstance") (rIsV X.K) := by
  intro pins s σ H xs us Q I r h
  obtain ⟨a, D, d, c, cv, b, rfl, ha, hd, C, hcv, e, q⟩ := h
  obtain ⟨oe, od, J⟩ := err_inst I ha hd
  cases r with
  | cons rx rr =>
    cases rr with
    | cons rt rr =>
      cases rr
      cases rx
      have ec := hcv.eq rt
      subst ec
      exact PySem.W.kia_one (kitx_dict C) I.kIn J e (fun z => nomatch z) fun tk => ⟨.bl b, H, I.kept (t' := tk) fun _ _ z => z, rfl, q⟩
def tErrF (K : PySem.W.Frag) (n : Str) (te : TE) : TE := fun σ H Q => te σ H fun x H1 => ∃ (a C dd : Addr) (fs : List (Str × V)) (v : V), x = .ref a ∧ XfC K C ∧ PySem.W.findIn K (.ref C) n = some none ∧ H1 a = some (exo a C (some dd)) ∧ H1 dd = some (exd dd fs) ∧ fs.lookup n = some v ∧ Q v H1
/-- the field of a new error -/
theorem pe_errF {e : Expr} {te : TE} {pos : Pos} {n : Str} (he : PE X e te) (hb : attributeBase e n X.env (eval e X.env) = eval e X.env := by rfl) : PE X (.Attribute e n pos) (tErrF X.K n te) := by
  refine ⟨fun pins s σ H Q I h => ?_⟩
  refine attr_of hb (thn (he.run pins s σ H _ I h) fun u s1 hh => ?_)
  obtain ⟨x, H1, I1, rx, a, C, dd, fs, v, ex, T, hno, ha, ed, l, q⟩ := hh
  subst ex
  obtain rfl : u = Value.ref a := rx
  obtain ⟨t1, ho⟩ := exo_at I1.hok ha
  obtain ⟨mA, hns, hr⟩ := exd_at I1.hok ed
  obtain ⟨od, hd, hl⟩ := lookIn_ns hns
  obtain ⟨u, hu, ru⟩ := RelO.some_of (v := v) (o := mA n) (by rw [← l]; exact hr n)
  have J : PySem.W.InstAt s1.heap a _ C (some od) := ⟨ho, rfl, rfl, hd⟩
  exact HandSPX.exc_get I1.kIn J T.ga T.gg T.exC (PySem.W.findObj_own T.hdC hno rfl (by rw [hl, hu])) (handed_of ru) ⟨v, H1, I1.tok _, ru, q⟩
end
/-- which class of the table is under which: the first fifteen under S and ValueError, the others under LookupError, none under another -/
def errTab (K : PySem.W.Frag) (Xs : List Addr) (S : Addr) : Bool := (List.range Xs.length).all fun i => (List.range Xs.length).all (fun j => PySem.W.subIn K (.ref (Xs.getD i 0)) (.ref (Xs.getD j 0)) == some (decide (i = j))) &&
  (PySem.W.subIn K (.ref (Xs.getD i 0)) (.ref S) == some (decide (i < 15)) && (PySem.W.subIn K (.ref (Xs.getD i 0)) (.type "ValueError") == some (decide (i < 15)) && (PySem.W.subIn K (.ref (Xs.getD i 0)) (.type "LookupError") == some (decide (14 < i)) && !(Xs.getD i 0 == S))))
section
variable {K : PySem.W.Frag} {mg : Str → Option Value} {Xs : List Addr} {S : Addr} {i j : Nat}
theorem errTab_at (h : errTab K Xs S = true) (hi : i < Xs.length) : (∀ j, j < Xs.length → PySem.W.subIn K (.ref (Xs.getD i 0)) (.ref (Xs.getD j 0)) = some (decide (i = j))) ∧
    PySem.W.subIn K (.ref (Xs.getD i 0)) (.ref S) = some (decide (i < 15)) ∧ PySem.W.subIn K (.ref (Xs.getD i 0)) (.type "ValueError") = some (decide (i < 15)) ∧ PySem.W.subIn K (.ref (Xs.getD i 0)) (.type "LookupError") = some (decide (14 < i)) ∧ Xs.getD i 0 ≠ S := by
  have z := List.all_eq_true.mp h i (List.mem_range.mpr hi)
  obtain ⟨z1, z⟩ := Bool.and_eq_true_iff.mp z
  obtain ⟨z2, z⟩ := Bool.and_eq_true_iff.mp z
  obtain ⟨z3, z⟩ := Bool.and_eq_true_iff.mp z
  obtain ⟨z4, z5⟩ := Bool.and_eq_true_iff.mp z
  refine ⟨fun j hj => beq_iff_eq.mp (List.all_eq_true.mp z1 j (List.mem_range.mpr hj)), beq_iff_eq.mp z2, beq_iff_eq.mp z3, beq_iff_eq.mp z4, fun e => ?_⟩
  rw [e, beq_self_eq_true] at z5
  cases z5
theorem errTab_kit (h : errTab K Xs S = true) (hi : i < Xs.length) (hj : j < Xs.length) {x : Str} (N : XcN K mg x (Xs.getD j 0)) : PySem.W.kitOne K (.ref (Xs.getD i 0)) (.ref (Xs.getD j 0)) = some (decide (i = j)) := by
  by_cases e : i = j
  · subst e
    rw [decide_eq_true rfl]
    exact kit_self
  · have z := (errTab_at h hi).1 j hj
    have y := (errTab_at h hi).1 i hi
    rw [decide_eq_false e] at z ⊢
    refine N.kit z fun q => ?_
    rw [q] at y z
    rw [z] at y
    rw [decide_eq_true rfl] at y
    cases y
theorem errTab_S (h : errTab K Xs S = true) (hi : i < Xs.length) {x : Str} (N : XcN K mg x S) : PySem.W.kitOne K (.ref (Xs.getD i 0)) (.ref S) = some (decide (i < 15)) := N.kit (errTab_at h hi).2.1 (errTab_at h hi).2.2.2.2
end

/-! ### x in l, x not in l, for a list of data -/
section
variable {X : Cx}
def rInLd (K : PySem.W.Frag) : R2 := fun x y H Q => ∃ d ds, Dp K H x d ∧ Dp K H y (.list ds) ∧ SeqAt.shaped d = true ∧ SeqAt.shaped (.tuple ds) = true ∧ Q (.bl (ds.any fun z => PyData.eqv z d)) H
def rNotInLd (K : PySem.W.Frag) : R2 := fun x y H Q => ∃ d ds, Dp K H x d ∧ Dp K H y (.list ds) ∧ SeqAt.shaped d = true ∧ SeqAt.shaped (.tuple ds) = true ∧ Q (.bl (!ds.any fun z => PyData.eqv z d)) H
theorem op_inLd (units : X.A.units + 65 < cLine) : OpR X (compareOp .In) (rInLd X.K) := by
  intro pins s σ H x y v u Q I rx ry ⟨d, ds, dx, dy, sx, sy, q⟩
  obtain ⟨_, r1⟩ := Dp.reads I d x v dx rx
  obtain ⟨_, r2⟩ := Dp.reads I (.list ds) y u dy ry
  have l2 : PyData.canLayAll0 ds = true := SeqAt.canLay_of_shaped sy
  exact SeqAt.in_list_reads r2 r1 l2 (SeqAt.canLay_of_shaped sx) (room_in_shaped sx units) (Exists.intro (V.bl _) ⟨H, I, rfl, q⟩)
theorem op_notInLd (units : X.A.units + 65 < cLine) : OpR X (compareOp .NotIn) (rNotInLd X.K) := by
  intro pins s σ H x y v u Q I rx ry ⟨d, ds, dx, dy, sx, sy, q⟩
  obtain ⟨_, r1⟩ := Dp.reads I d x v dx rx
  obtain ⟨_, r2⟩ := Dp.reads I (.list ds) y u dy ry
  have l2 : PyData.canLayAll0 ds = true := SeqAt.canLay_of_shaped sy
  exact SeqAt.notIn_list_reads r2 r1 l2 (SeqAt.canLay_of_shaped sx) (room_in_shaped sx units) (Exists.intro (V.bl _) ⟨H, I, rfl, q⟩)
end

/-! ### more of tuples: t == (), and one pair > another -/
section
variable {X : Cx}
def rEqE (K : PySem.W.Frag) : R2 := fun x y H Q => ∃ (a b : Addr) (xs : List V), x = .ref a ∧ y = .ref b ∧ SqT K H a xs ∧ SqT K H b [] ∧ Q (.bl xs.isEmpty) H
theorem op_eqE (units : X.A.units < cLine) : OpR X (compareOp .Eq) (rEqE X.K) := by
  intro pins s σ H x y v u Q I rx ry h
  obtain ⟨a, b, xs, rfl, rfl, ha, hb, q⟩ := h
  cases rx
  cases ry
  obtain ⟨its, r1, p1, _⟩ := I.tuple ha
  obtain ⟨its2, r2, p2, _⟩ := I.tuple hb
  cases r2
  apply SeqAt.eq_tupleAt (e := fun _ => true) (show s.heap.IsTuple a its.toArray from p1) (show s.heap.IsTuple b ([] : List Value).toArray from p2) units
  · intro j h1 h2
    exact absurd h2 (Nat.not_lt_zero j)
  · refine ⟨.bl xs.isEmpty, H, I, ?_, q⟩
    cases r1 with
    | nil => rfl
    | cons r t => rfl
def gtP (p q : Int × Int) : Bool := decide (q.1 < p.1 ∨ (p.1 = q.1 ∧ q.2 < p.2))
def rGtP (K : PySem.W.Frag) : R2 := fun x y H Q => ∃ (a b : Addr) (p q : Int × Int), x = .ref a ∧ y = .ref b ∧ SqT K H a [.int p.1, .int p.2] ∧ SqT K H b [.int q.1, .int q.2] ∧ Q (.bl (gtP p q)) H
theorem op_gtP (units : X.A.units < cLine) : OpR X (compareOp .Gt) (rGtP X.K) := by
  intro pins s σ H x y v u Q I rx ry h
  obtain ⟨a, b, p, q, rfl, rfl, ha, hb, k⟩ := h
  cases rx
  cases ry
  obtain ⟨us, r1, p1, _⟩ := I.tuple ha
  obtain ⟨ws, r2, p2, _⟩ := I.tuple hb
  obtain ⟨x1, x2, rfl, ⟨t1, rfl⟩, ⟨t2, rfl⟩⟩ := vals2 r1
  obtain ⟨y1, y2, rfl, ⟨u1, rfl⟩, ⟨u2, rfl⟩⟩ := vals2 r2
  have R := Ob.RcOp.tuples_gt (A := X.A) (s := s) (l := a) (b := b) (e := fun j => if j = 0 then p.1 == q.1 else p.2 == q.2) (r := fun j => if j = 0 then decide (q.1 < p.1) else decide (q.2 < p.2)) p1 p2 units
    (fun j j1 j2 => by
      match j, j1, j2 with
      | 0, _, _ => exact SeqAt.EqAt.int_int _ _ _ _
      | 1, _, _ => exact SeqAt.EqAt.int_int _ _ _ _)
    (fun j j1 j2 _ => by
      match j, j1, j2 with
      | 0, _, _ => exact Ob.RcOp.gt_int _ _ _ _
      | 1, _, _ => exact Ob.RcOp.gt_int _ _ _ _)
  have e : Ob.lexAt (fun j => if j = 0 then p.1 == q.1 else p.2 == q.2) (fun j => if j = 0 then decide (q.1 < p.1) else decide (q.2 < p.2)) (decide ((#[Value.int p.1 t1, Value.int p.2 t2]).size > (#[Value.int q.1 u1, Value.int q.2 u2]).size)) 0 (min (#[Value.int p.1 t1, Value.int p.2 t2]).size (#[Value.int q.1 u1, Value.int q.2 u2]).size) = gtP p q := by
    show (if (p.1 == q.1) = true then (if (p.2 == q.2) = true then false else decide (q.2 < p.2)) else decide (q.1 < p.1)) = _
    unfold gtP
    by_cases c : p.1 = q.1
    · rw [if_pos (beq_iff_eq.mpr c)]
      by_cases c2 : p.2 = q.2
      · rw [if_pos (beq_iff_eq.mpr c2)]
        exact (decide_eq_false (by omega)).symm
      · rw [if_neg (fun h => c2 (beq_iff_eq.mp h))]
        exact decide_eq_decide.mpr (by omega)
    · rw [if_neg (fun h => c (beq_iff_eq.mp h))]
      exact decide_eq_decide.mpr (by omega)
  rw [e] at R
  exact R X.prog X.w X.xe (EP X pins σ Q) ⟨.bl _, H, I, rfl, k⟩
end

def topS (i : Nat) : Stmt := PySem.Challenge.pw_fewspans_k77_plan_equality_and_errors.main.body.getD i (.Pass ⟨0, 0, 0, 0⟩)
abbrev s_is_number : Stmt := topS 25
abbrev N_is_number : List Str := ["value"]
theorem sc_is_number : FnScope N_is_number ["value"] (defScope s_is_number) := ⟨rfl, rfl, rfl, by decide +kernel, rfl, by decide +kernel, by decide +kernel⟩
abbrev s_is_position : Stmt := topS 26
abbrev N_is_position : List Str := ["value"]
theorem sc_is_position : FnScope N_is_position ["value"] (defScope s_is_position) := ⟨rfl, rfl, rfl, by decide +kernel, rfl, by decide +kernel, by decide +kernel⟩
abbrev s_is_tuple_of : Stmt := topS 27
abbrev N_is_tuple_of : List Str := ["value", "length"]
theorem sc_is_tuple_of : FnScope N_is_tuple_of ["value", "length"] (defScope s_is_tuple_of) := ⟨rfl, rfl, rfl, by decide +kernel, rfl, by decide +kernel, by decide +kernel⟩
abbrev s_is_interval : Stmt := topS 28
abbrev N_is_interval : List Str := ["value", "low", "high"]
theorem sc_is_interval : FnScope N_is_interval ["value"] (defScope s_is_interval) := ⟨rfl, rfl, rfl, by decide +kernel, rfl, by decide +kernel, by decide +kernel⟩
abbrev s_ascending_error : Stmt := topS 29
abbrev N_ascending_error : List Str := ["value", "most", "index", "item"]
theorem sc_ascending_error : FnScope N_ascending_error ["value", "most"] (defScope s_ascending_error) := ⟨rfl, rfl, rfl, by decide +kernel, rfl, by decide +kernel, by decide +kernel⟩
abbrev s_targets_error : Stmt := topS 30
abbrev N_targets_error : List Str := ["value"]
theorem sc_targets_error : FnScope N_targets_error ["value"] (defScope s_targets_error) := ⟨rfl, rfl, rfl, by decide +kernel, rfl, by decide +kernel, by decide +kernel⟩
abbrev s_is_pieces : Stmt := topS 31
abbrev N_is_pieces : List Str := ["value"]
theorem sc_is_pieces : FnScope N_is_pieces ["value"] (defScope s_is_pieces) := ⟨rfl, rfl, rfl, by decide +kernel, rfl, by decide +kernel, by decide +kernel⟩
abbrev s_without_item : Stmt := topS 33
abbrev N_without_item : List Str := ["items", "item", "other"]
theorem sc_without_item : FnScope N_without_item ["items", "item"] (defScope s_without_item) := ⟨rfl, rfl, rfl, by decide +kernel, rfl, by decide +kernel, by decide +kernel⟩
abbrev s_with_interval : Stmt := topS 35
abbrev N_with_interval : List Str := ["intervals", "value", "bound"]
theorem sc_with_interval : FnScope N_with_interval ["intervals", "value", "bound"] (defScope s_with_interval) := ⟨rfl, rfl, rfl, by decide +kernel, rfl, by decide +kernel, by decide +kernel⟩
abbrev s_without_interval : Stmt := topS 36
abbrev N_without_interval : List Str := ["intervals", "value"]
theorem sc_without_interval : FnScope N_without_interval ["intervals", "value"] (defScope s_without_interval) := ⟨rfl, rfl, rfl, by decide +kernel, rfl, by decide +kernel, by decide +kernel⟩
abbrev s_edited_state : Stmt := topS 37
abbrev N_edited_state : List Str := ["state", "word", "value", "targets", "pieces"]
theorem sc_edited_state : FnScope N_edited_state ["state", "word", "value"] (defScope s_edited_state) := ⟨rfl, rfl, rfl, by decide +kernel, rfl, by decide +kernel, by decide +kernel⟩
abbrev s_law_deck : Stmt := topS 41
abbrev N_law_deck : List Str := ["_law_script", "_law_cell"]
theorem sc_law_deck : FnScope N_law_deck ["_law_script"] (defScope s_law_deck) := ⟨rfl, rfl, rfl, by decide +kernel, rfl, by decide +kernel, by decide +kernel⟩
abbrev s_law_draw : Stmt := topS 42
abbrev N_law_draw : List Str := ["_law_deck_here", "_law_many", "_law_cell", "_law_place"]
theorem sc_law_draw : FnScope N_law_draw ["_law_deck_here", "_law_many"] (defScope s_law_draw) := ⟨rfl, rfl, rfl, by decide +kernel, rfl, by decide +kernel, by decide +kernel⟩
abbrev s_law_line : Stmt := topS 43
abbrev N_law_line : List Str := ["_law_deck_here", "_law_most", "_law_low", "_law_found", "_law_k", "_law_size"]
theorem sc_law_line : FnScope N_law_line ["_law_deck_here", "_law_most"] (defScope s_law_line) := ⟨rfl, rfl, rfl, by decide +kernel, rfl, by decide +kernel, by decide +kernel⟩
abbrev s_law_interval : Stmt := topS 44
abbrev N_law_interval : List Str := ["_law_deck_here", "_law_line_here", "_law_first", "_law_last"]
theorem sc_law_interval : FnScope N_law_interval ["_law_deck_here", "_law_line_here"] (defScope s_law_interval) := ⟨rfl, rfl, rfl, by decide +kernel, rfl, by decide +kernel, by decide +kernel⟩
abbrev s_law_intervals : Stmt := topS 45
abbrev N_law_intervals : List Str := ["_law_deck_here", "_law_line_here", "_law_most", "_law_found", "_law_k"]
theorem sc_law_intervals : FnScope N_law_intervals ["_law_deck_here", "_law_line_here", "_law_most"] (defScope s_law_intervals) := ⟨rfl, rfl, rfl, by decide +kernel, rfl, by decide +kernel, by decide +kernel⟩
abbrev s_law_edit : Stmt := topS 46
abbrev N_law_edit : List Str := ["_law_deck_here", "_law_line_here", "_law_state", "_law_way", "_law_side", "_law_words", "_law_value", "_law_there"]
theorem sc_law_edit : FnScope N_law_edit ["_law_deck_here", "_law_line_here", "_law_state"] (defScope s_law_edit) := ⟨rfl, rfl, rfl, by decide +kernel, rfl, by decide +kernel, by decide +kernel⟩
abbrev s_law_after : Stmt := topS 47
abbrev N_law_after : List Str := ["_law_state", "_law_edit_here", "_law_word", "_law_value", "_law_side", "_law_there", "_law_one", "_law_found"]
theorem sc_law_after : FnScope N_law_after ["_law_state", "_law_edit_here"] (defScope s_law_after) := ⟨rfl, rfl, rfl, by decide +kernel, rfl, by decide +kernel, by decide +kernel⟩
abbrev s_law_do : Stmt := topS 48
abbrev N_law_do : List Str := ["_law_plan", "_law_edit_here", "_law_word", "_law_value"]
theorem sc_law_do : FnScope N_law_do ["_law_plan", "_law_edit_here"] (defScope s_law_do) := ⟨rfl, rfl, rfl, by decide +kernel, rfl, by decide +kernel, by decide +kernel⟩
abbrev s_law_begun : Stmt := topS 49
abbrev N_law_begun : List Str := ["_law_deck_here", "_law_most", "_law_line_here"]
theorem sc_law_begun : FnScope N_law_begun ["_law_deck_here", "_law_most"] (defScope s_law_begun) := ⟨rfl, rfl, rfl, by decide +kernel, rfl, by decide +kernel, by decide +kernel⟩
abbrev s_law_flags : Stmt := topS 50
abbrev N_law_flags : List Str := ["_law_e", "_law_found"]
theorem sc_law_flags : FnScope N_law_flags ["_law_e"] (defScope s_law_flags) := ⟨rfl, rfl, rfl, by decide +kernel, rfl, by decide +kernel, by decide +kernel⟩
abbrev s_law_errors_right : Stmt := topS 51
abbrev N_law_errors_right : List Str := ["_law_value", "_law_some", "_law_k", "_law_bases", "_law_j", "_law_fields", "_law_field"]
theorem sc_law_errors_right : FnScope N_law_errors_right ["_law_value"] (defScope s_law_errors_right) := ⟨rfl, rfl, rfl, by decide +kernel, rfl, by decide +kernel, by decide +kernel⟩
abbrev s_law_edited : Stmt := topS 52
abbrev N_law_edited : List Str := ["_law_deck_here", "_law_line_here", "_law_plan", "_law_state", "_law_turn", "_law_edit_here", "_law_past"]
theorem sc_law_edited : FnScope N_law_edited ["_law_deck_here", "_law_line_here", "_law_plan", "_law_state"] (defScope s_law_edited) := ⟨rfl, rfl, rfl, by decide +kernel, rfl, by decide +kernel, by decide +kernel⟩
abbrev s_law : Stmt := topS 53
abbrev N_law : List Str := ["_law_script", "_law_deck_here", "_law_line_here", "_law_state", "_law_other", "_law_plans", "_law_states", "_law_k", "_law_same", "_law_fresh", "_law_odd"]
theorem sc_law : FnScope N_law ["_law_script"] (defScope s_law) := ⟨rfl, rfl, rfl, by decide +kernel, rfl, by decide +kernel, by decide +kernel⟩
abbrev s_Plan_init : Stmt := inClass (topS 39) 0
abbrev N_Plan_init : List Str := ["self", "targets", "pieces", "error"]
theorem sc_Plan_init : FnScope N_Plan_init ["self", "targets", "pieces"] (defScope s_Plan_init) := ⟨rfl, rfl, rfl, by decide +kernel, rfl, by decide +kernel, by decide +kernel⟩
abbrev s_Plan_add_target : Stmt := inClass (topS 39) 1
abbrev N_Plan_add_target : List Str := ["self", "interval"]
theorem sc_Plan_add_target : FnScope N_Plan_add_target ["self", "interval"] (defScope s_Plan_add_target) := ⟨rfl, rfl, rfl, by decide +kernel, rfl, by decide +kernel, by decide +kernel⟩
abbrev s_Plan_add_piece : Stmt := inClass (topS 39) 2
abbrev N_Plan_add_piece : List Str := ["self", "interval"]
theorem sc_Plan_add_piece : FnScope N_Plan_add_piece ["self", "interval"] (defScope s_Plan_add_piece) := ⟨rfl, rfl, rfl, by decide +kernel, rfl, by decide +kernel, by decide +kernel⟩
abbrev s_Plan_remove_target : Stmt := inClass (topS 39) 3
abbrev N_Plan_remove_target : List Str := ["self", "interval"]
theorem sc_Plan_remove_target : FnScope N_Plan_remove_target ["self", "interval"] (defScope s_Plan_remove_target) := ⟨rfl, rfl, rfl, by decide +kernel, rfl, by decide +kernel, by decide +kernel⟩
abbrev s_Plan_remove_piece : Stmt := inClass (topS 39) 4
abbrev N_Plan_remove_piece : List Str := ["self", "interval"]
theorem sc_Plan_remove_piece : FnScope N_Plan_remove_piece ["self", "interval"] (defScope s_Plan_remove_piece) := ⟨rfl, rfl, rfl, by decide +kernel, rfl, by decide +kernel, by decide +kernel⟩
abbrev s_Plan_undo : Stmt := inClass (topS 39) 5
abbrev N_Plan_undo : List Str := ["self"]
theorem sc_Plan_undo : FnScope N_Plan_undo ["self"] (defScope s_Plan_undo) := ⟨rfl, rfl, rfl, by decide +kernel, rfl, by decide +kernel, by decide +kernel⟩
abbrev s_Plan_targets : Stmt := inClass (topS 39) 7
abbrev N_Plan_targets : List Str := ["self", "version"]
theorem sc_Plan_targets : FnScope N_Plan_targets ["self", "version"] (defScope s_Plan_targets) := ⟨rfl, rfl, rfl, by decide +kernel, rfl, by decide +kernel, by decide +kernel⟩
abbrev s_Plan_pieces : Stmt := inClass (topS 39) 8
abbrev N_Plan_pieces : List Str := ["self", "version"]
theorem sc_Plan_pieces : FnScope N_Plan_pieces ["self", "version"] (defScope s_Plan_pieces) := ⟨rfl, rfl, rfl, by decide +kernel, rfl, by decide +kernel, by decide +kernel⟩
abbrev s_Plan_edits : Stmt := inClass (topS 39) 12
abbrev N_Plan_edits : List Str := ["self"]
theorem sc_Plan_edits : FnScope N_Plan_edits ["self"] (defScope s_Plan_edits) := ⟨rfl, rfl, rfl, by decide +kernel, rfl, by decide +kernel, by decide +kernel⟩
abbrev s_Plan_edit : Stmt := inClass (topS 39) 14
abbrev N_Plan_edit : List Str := ["self", "word", "value"]
theorem sc_Plan_edit : FnScope N_Plan_edit ["self", "word", "value"] (defScope s_Plan_edit) := ⟨rfl, rfl, rfl, by decide +kernel, rfl, by decide +kernel, by decide +kernel⟩
abbrev s_Plan_record : Stmt := inClass (topS 39) 15
abbrev N_Plan_record : List Str := ["self", "word", "value", "state"]
theorem sc_Plan_record : FnScope N_Plan_record ["self", "word", "value"] (defScope s_Plan_record) := ⟨rfl, rfl, rfl, by decide +kernel, rfl, by decide +kernel, by decide +kernel⟩
abbrev s_Plan_require_idle : Stmt := inClass (topS 39) 18
abbrev N_Plan_require_idle : List Str := ["self"]
theorem sc_Plan_require_idle : FnScope N_Plan_require_idle ["self"] (defScope s_Plan_require_idle) := ⟨rfl, rfl, rfl, by decide +kernel, rfl, by decide +kernel, by decide +kernel⟩
abbrev s_Plan_state_at : Stmt := inClass (topS 39) 19
abbrev N_Plan_state_at : List Str := ["self", "version"]
theorem sc_Plan_state_at : FnScope N_Plan_state_at ["self", "version"] (defScope s_Plan_state_at) := ⟨rfl, rfl, rfl, by decide +kernel, rfl, by decide +kernel, by decide +kernel⟩
abbrev s_Plan_len : Stmt := inClass (topS 39) 20
abbrev N_Plan_len : List Str := ["self"]
theorem sc_Plan_len : FnScope N_Plan_len ["self"] (defScope s_Plan_len) := ⟨rfl, rfl, rfl, by decide +kernel, rfl, by decide +kernel, by decide +kernel⟩
abbrev s_Plan_eq : Stmt := inClass (topS 39) 22
abbrev N_Plan_eq : List Str := ["self", "other"]
theorem sc_Plan_eq : FnScope N_Plan_eq ["self", "other"] (defScope s_Plan_eq) := ⟨rfl, rfl, rfl, by decide +kernel, rfl, by decide +kernel, by decide +kernel⟩
abbrev s_TooWide_init : Stmt := inClass (topS 7) 0
abbrev N_TooWide_init : List Str := ["self", "bound"]
theorem sc_TooWide_init : FnScope N_TooWide_init ["self", "bound"] (defScope s_TooWide_init) := ⟨rfl, rfl, rfl, by decide +kernel, rfl, by decide +kernel, by decide +kernel⟩
abbrev s_NotGenerated_init : Stmt := inClass (topS 8) 0
abbrev N_NotGenerated_init : List Str := ["self", "demand"]
theorem sc_NotGenerated_init : FnScope N_NotGenerated_init ["self", "demand"] (defScope s_NotGenerated_init) := ⟨rfl, rfl, rfl, by decide +kernel, rfl, by decide +kernel, by decide +kernel⟩
abbrev s_TooMany_init : Stmt := inClass (topS 10) 0
abbrev N_TooMany_init : List Str := ["self", "bound"]
theorem sc_TooMany_init : FnScope N_TooMany_init ["self", "bound"] (defScope s_TooMany_init) := ⟨rfl, rfl, rfl, by decide +kernel, rfl, by decide +kernel, by decide +kernel⟩
abbrev s_BadTargets_init : Stmt := inClass (topS 11) 0
abbrev N_BadTargets_init : List Str := ["self", "error"]
theorem sc_BadTargets_init : FnScope N_BadTargets_init ["self", "error"] (defScope s_BadTargets_init) := ⟨rfl, rfl, rfl, by decide +kernel, rfl, by decide +kernel, by decide +kernel⟩
abbrev s_BadInterval_init : Stmt := inClass (topS 13) 0
abbrev N_BadInterval_init : List Str := ["self", "value"]
theorem sc_BadInterval_init : FnScope N_BadInterval_init ["self", "value"] (defScope s_BadInterval_init) := ⟨rfl, rfl, rfl, by decide +kernel, rfl, by decide +kernel, by decide +kernel⟩
abbrev s_Duplicate_init : Stmt := inClass (topS 14) 0
abbrev N_Duplicate_init : List Str := ["self", "value"]
theorem sc_Duplicate_init : FnScope N_Duplicate_init ["self", "value"] (defScope s_Duplicate_init) := ⟨rfl, rfl, rfl, by decide +kernel, rfl, by decide +kernel, by decide +kernel⟩
abbrev s_BadEdit_init : Stmt := inClass (topS 18) 0
abbrev N_BadEdit_init : List Str := ["self", "index"]
theorem sc_BadEdit_init : FnScope N_BadEdit_init ["self", "index"] (defScope s_BadEdit_init) := ⟨rfl, rfl, rfl, by decide +kernel, rfl, by decide +kernel, by decide +kernel⟩
abbrev s_Rejected_init : Stmt := inClass (topS 19) 0
abbrev N_Rejected_init : List Str := ["self", "index"]
theorem sc_Rejected_init : FnScope N_Rejected_init ["self", "index"] (defScope s_Rejected_init) := ⟨rfl, rfl, rfl, by decide +kernel, rfl, by decide +kernel, by decide +kernel⟩
abbrev s_BadText_init : Stmt := inClass (topS 21) 0
abbrev N_BadText_init : List Str := ["self", "index"]
theorem sc_BadText_init : FnScope N_BadText_init ["self", "index"] (defScope s_BadText_init) := ⟨rfl, rfl, rfl, by decide +kernel, rfl, by decide +kernel, by decide +kernel⟩
abbrev s_Unknown_init : Stmt := inClass (topS 22) 0
abbrev N_Unknown_init : List Str := ["self", "value"]
theorem sc_Unknown_init : FnScope N_Unknown_init ["self", "value"] (defScope s_Unknown_init) := ⟨rfl, rfl, rfl, by decide +kernel, rfl, by decide +kernel, by decide +kernel⟩
abbrev s_NoVersion_init : Stmt := inClass (topS 23) 0
abbrev N_NoVersion_init : List Str := ["self", "value"]
theorem sc_NoVersion_init : FnScope N_NoVersion_init ["self", "value"] (defScope s_NoVersion_init) := ⟨rfl, rfl, rfl, by decide +kernel, rfl, by decide +kernel, by decide +kernel⟩
/-! ### the deck and its draws -/
structure Dk (H : Hp) (d c : Addr) (n : Int) : Prop where
  top : H d = some (.lst [.ref c, .int n])
  cells : ∃ xs : List Int, H c = some (.lst (xs.map V.int)) ∧ xs.length ≤ 63 ∧ ∀ x ∈ xs, 0 ≤ x
theorem Dk.ne {H : Hp} {d c : Addr} {n : Int} (h : Dk H d c n) : c ≠ d := by
  obtain ⟨xs, e, _⟩ := h.cells
  intro z
  subst z
  have q := e.symm.trans h.top
  cases xs with
  | nil => cases q
  | cons x r => cases q
/-- nothing but the deck has changed -/
def Kp (d c : Addr) (H H' : Hp) : Prop := ∀ b o, b ≠ d → b ≠ c → H b = some o → H' b = some o
theorem Kp.trans {d c : Addr} {H H1 H2 : Hp} (h1 : Kp d c H H1) (h2 : Kp d c H1 H2) : Kp d c H H2 := fun b o n1 n2 e => h2 b o n1 n2 (h1 b o n1 n2 e)
theorem Kp.same {d c : Addr} {H H1 : Hp} (h : Same H H1) : Kp d c H H1 := fun b o _ _ e => h b o e
theorem Kp.none {d c : Addr} {H H' : Hp} (k : Kp d c H H') {n m : Int} (h : Dk H d c n) (h' : Dk H' d c m) {t : Addr} (e : H' t = none) : H t = none := by
  by_cases e1 : t = d
  · rw [e1, h'.top] at e
    cases e
  · by_cases e2 : t = c
    · obtain ⟨xs, z, _⟩ := h'.cells
      rw [e2, z] at e
      cases e
    · cases q : H t with
      | none => rfl
      | some o =>
        rw [k t o e1 e2 q] at e
        cases e
theorem Dk.kept {H H' : Hp} {d c : Addr} {n : Int} (h : Dk H d c n) (s : Same H H') : Dk H' d c n :=
  let ⟨xs, e, a⟩ := h.cells
  ⟨s _ _ h.top, xs, s _ _ e, a⟩
theorem Dk.eq {H : Hp} {d c : Addr} {n m : Int} (h : Dk H d c n) (e : n = m) : Dk H d c m := e ▸ h
def sp_law_deck (K : PySem.W.Frag) : Sp := fun vs H Q _ => ∃ (a : Addr) (ns : List Int), vs = [.ref a] ∧ SqL K H a (ns.map V.int) ∧ ns.length ≤ 63 ∧
  ∀ H' d c, Same H H' → H d = none → H c = none → Dk H' d c 0 → Q (.ref d) H'
def sp_law_draw : Sp := fun vs H Q _ => ∃ (d c : Addr) (n lim : Int), vs = [.ref d, .int lim] ∧ Dk H d c n ∧ 0 ≤ n ∧ n < 1000000 ∧ 0 < lim ∧ lim < 2 ^ 63 ∧
  ∀ H' r, Kp d c H H' → Dk H' d c (n + 1) → 0 ≤ r → r < lim → Q (.int r) H'
theorem same_new {H : Hp} {p : Addr} {o : HO} (h : H p = none) : Same H (upd H p o) := fun b x e => by
  rw [upd_ne (ne_of_none e h)]
  exact e
theorem cutTo (xs : List V) (j : Nat) : cutV xs none (some (j : Int)) = xs.take j := by
  unfold cutV
  rw [HT.sIx_none, show HT.sIx xs.length xs.length (some (j : Int)) = min j xs.length from HT.sIx_nat xs.length xs.length j]
  rw [Nat.sub_zero, List.drop_zero]
  rcases Nat.le_total j xs.length with h | h
  · rw [Nat.min_eq_left h]
  · rw [Nat.min_eq_right h, List.take_length, List.take_of_length_le h]
section
structure Tx (K : PySem.W.Frag) (mg : Str → Option Value) (f_is_number f_is_position f_is_tuple_of f_is_interval f_ascending_error f_targets_error f_is_pieces f_without_item f_with_interval f_without_interval f_edited_state f_law_deck f_law_draw f_law_line f_law_interval f_law_intervals f_law_edit f_law_after f_law_do f_law_begun f_law_flags f_law_errors_right f_law_edited f_law f_Plan_init f_Plan_add_target f_Plan_add_piece f_Plan_remove_target f_Plan_remove_piece f_Plan_undo f_Plan_targets f_Plan_pieces f_Plan_edits f_Plan_edit f_Plan_record f_Plan_require_idle f_Plan_state_at f_Plan_len f_Plan_eq f_TooWide_init f_NotGenerated_init f_TooMany_init f_BadTargets_init f_BadInterval_init f_Duplicate_init f_BadEdit_init f_Rejected_init f_BadText_init f_Unknown_init f_NoVersion_init C_Plan X_TooWide X_NotGenerated X_TooMany X_BadTargets X_BadInterval X_Duplicate X_BadEdit X_Rejected X_BadText X_Unknown X_NoVersion X_OutOfRange X_SpanError X_BadPieces X_TooManyEdits X_NothingToUndo X_BadEdits X_Busy : Addr) (d_is_number d_is_position d_is_tuple_of d_is_interval d_ascending_error d_targets_error d_is_pieces d_without_item d_with_interval d_without_interval d_edited_state d_law_deck d_law_draw d_law_line d_law_interval d_law_intervals d_law_edit d_law_after d_law_do d_law_begun d_law_flags d_law_errors_right d_law_edited d_law d_Plan_init d_Plan_add_target d_Plan_add_piece d_Plan_remove_target d_Plan_remove_piece d_Plan_undo d_Plan_targets d_Plan_pieces d_Plan_edits d_Plan_edit d_Plan_record d_Plan_require_idle d_Plan_state_at d_Plan_len d_Plan_eq d_TooWide_init d_NotGenerated_init d_TooMany_init d_BadTargets_init d_BadInterval_init d_Duplicate_init d_BadEdit_init d_Rejected_init d_BadText_init d_Unknown_init d_NoVersion_init : FuncData) (t_LAST_POSITION t_MAX_TARGETS t_MAX_PIECES t_MAX_EDITS : Tok) : Prop where
  F_is_number : Fun K "is_number" "is_number" s_is_number f_is_number d_is_number
  b_is_number : Binds K d_is_number ["value"] []
  g_is_number : mg "is_number" = some (.ref f_is_number)
  F_is_position : Fun K "is_position" "is_position" s_is_position f_is_position d_is_position
  b_is_position : Binds K d_is_position ["value"] []
  g_is_position : mg "is_position" = some (.ref f_is_position)
  F_is_tuple_of : Fun K "is_tuple_of" "is_tuple_of" s_is_tuple_of f_is_tuple_of d_is_tuple_of
  b_is_tuple_of : Binds K d_is_tuple_of ["value", "length"] []
  g_is_tuple_of : mg "is_tuple_of" = some (.ref f_is_tuple_of)
  F_is_interval : Fun K "is_interval" "is_interval" s_is_interval f_is_interval d_is_interval
  b_is_interval : Binds K d_is_interval ["value"] []
  g_is_interval : mg "is_interval" = some (.ref f_is_interval)
  F_ascending_error : Fun K "ascending_error" "ascending_error" s_ascending_error f_ascending_error d_ascending_error
  b_ascending_error : Binds K d_ascending_error ["value", "most"] []
  g_ascending_error : mg "ascending_error" = some (.ref f_ascending_error)
  F_targets_error : Fun K "targets_error" "targets_error" s_targets_error f_targets_error d_targets_error
  b_targets_error : Binds K d_targets_error ["value"] []
  g_targets_error : mg "targets_error" = some (.ref f_targets_error)
  F_is_pieces : Fun K "is_pieces" "is_pieces" s_is_pieces f_is_pieces d_is_pieces
  b_is_pieces : Binds K d_is_pieces ["value"] []
  g_is_pieces : mg "is_pieces" = some (.ref f_is_pieces)
  F_without_item : Fun K "without_item" "without_item" s_without_item f_without_item d_without_item
  b_without_item : Binds K d_without_item ["items", "item"] []
  g_without_item : mg "without_item" = some (.ref f_without_item)
  F_with_interval : Fun K "with_interval" "with_interval" s_with_interval f_with_interval d_with_interval
  b_with_interval : Binds K d_with_interval ["intervals", "value", "bound"] []
  g_with_interval : mg "with_interval" = some (.ref f_with_interval)
  F_without_interval : Fun K "without_interval" "without_interval" s_without_interval f_without_interval d_without_interval
  b_without_interval : Binds K d_without_interval ["intervals", "value"] []
  g_without_interval : mg "without_interval" = some (.ref f_without_interval)
  F_edited_state : Fun K "edited_state" "edited_state" s_edited_state f_edited_state d_edited_state
  b_edited_state : Binds K d_edited_state ["state", "word", "value"] []
  g_edited_state : mg "edited_state" = some (.ref f_edited_state)
  F_law_deck : Fun K "_law_deck" "_law_deck" s_law_deck f_law_deck d_law_deck
  b_law_deck : Binds K d_law_deck ["_law_script"] []
  g_law_deck : mg "_law_deck" = some (.ref f_law_deck)
  F_law_draw : Fun K "_law_draw" "_law_draw" s_law_draw f_law_draw d_law_draw
  b_law_draw : Binds K d_law_draw ["_law_deck_here", "_law_many"] []
  g_law_draw : mg "_law_draw" = some (.ref f_law_draw)
  F_law_line : Fun K "_law_line" "_law_line" s_law_line f_law_line d_law_line
  b_law_line : Binds K d_law_line ["_law_deck_here", "_law_most"] []
  g_law_line : mg "_law_line" = some (.ref f_law_line)
  F_law_interval : Fun K "_law_interval" "_law_interval" s_law_interval f_law_interval d_law_interval
  b_law_interval : Binds K d_law_interval ["_law_deck_here", "_law_line_here"] []
  g_law_interval : mg "_law_interval" = some (.ref f_law_interval)
  F_law_intervals : Fun K "_law_intervals" "_law_intervals" s_law_intervals f_law_intervals d_law_intervals
  b_law_intervals : Binds K d_law_intervals ["_law_deck_here", "_law_line_here", "_law_most"] []
  g_law_intervals : mg "_law_intervals" = some (.ref f_law_intervals)
  F_law_edit : Fun K "_law_edit" "_law_edit" s_law_edit f_law_edit d_law_edit
  b_law_edit : Binds K d_law_edit ["_law_deck_here", "_law_line_here", "_law_state"] []
  g_law_edit : mg "_law_edit" = some (.ref f_law_edit)
  F_law_after : Fun K "_law_after" "_law_after" s_law_after f_law_after d_law_after
  b_law_after : Binds K d_law_after ["_law_state", "_law_edit_here"] []
  g_law_after : mg "_law_after" = some (.ref f_law_after)
  F_law_do : Fun K "_law_do" "_law_do" s_law_do f_law_do d_law_do
  b_law_do : Binds K d_law_do ["_law_plan", "_law_edit_here"] []
  g_law_do : mg "_law_do" = some (.ref f_law_do)
  F_law_begun : Fun K "_law_begun" "_law_begun" s_law_begun f_law_begun d_law_begun
  b_law_begun : Binds K d_law_begun ["_law_deck_here", "_law_most"] []
  g_law_begun : mg "_law_begun" = some (.ref f_law_begun)
  F_law_flags : Fun K "_law_flags" "_law_flags" s_law_flags f_law_flags d_law_flags
  b_law_flags : Binds K d_law_flags ["_law_e"] []
  g_law_flags : mg "_law_flags" = some (.ref f_law_flags)
  F_law_errors_right : Fun K "_law_errors_right" "_law_errors_right" s_law_errors_right f_law_errors_right d_law_errors_right
  b_law_errors_right : Binds K d_law_errors_right ["_law_value"] []
  g_law_errors_right : mg "_law_errors_right" = some (.ref f_law_errors_right)
  F_law_edited : Fun K "_law_edited" "_law_edited" s_law_edited f_law_edited d_law_edited
  b_law_edited : Binds K d_law_edited ["_law_deck_here", "_law_line_here", "_law_plan", "_law_state"] []
  g_law_edited : mg "_law_edited" = some (.ref f_law_edited)
  F_law : Fun K "law" "law" s_law f_law d_law
  b_law : Binds K d_law ["_law_script"] []
  g_law : mg "law" = some (.ref f_law)
  F_Plan_init : Fun K "__init__" "Plan.__init__" s_Plan_init f_Plan_init d_Plan_init
  b_Plan_init : Binds K d_Plan_init ["self", "targets", "pieces"] []
  m_Plan_init : Meth K C_Plan "__init__" f_Plan_init
  F_Plan_add_target : Fun K "add_target" "Plan.add_target" s_Plan_add_target f_Plan_add_target d_Plan_add_target
  b_Plan_add_target : Binds K d_Plan_add_target ["self", "interval"] []
  m_Plan_add_target : Meth K C_Plan "add_target" f_Plan_add_target
  F_Plan_add_piece : Fun K "add_piece" "Plan.add_piece" s_Plan_add_piece f_Plan_add_piece d_Plan_add_piece
  b_Plan_add_piece : Binds K d_Plan_add_piece ["self", "interval"] []
  m_Plan_add_piece : Meth K C_Plan "add_piece" f_Plan_add_piece
  F_Plan_remove_target : Fun K "remove_target" "Plan.remove_target" s_Plan_remove_target f_Plan_remove_target d_Plan_remove_target
  b_Plan_remove_target : Binds K d_Plan_remove_target ["self", "interval"] []
  m_Plan_remove_target : Meth K C_Plan "remove_target" f_Plan_remove_target
  F_Plan_remove_piece : Fun K "remove_piece" "Plan.remove_piece" s_Plan_remove_piece f_Plan_remove_piece d_Plan_remove_piece
  b_Plan_remove_piece : Binds K d_Plan_remove_piece ["self", "interval"] []
  m_Plan_remove_piece : Meth K C_Plan "remove_piece" f_Plan_remove_piece
  F_Plan_undo : Fun K "undo" "Plan.undo" s_Plan_undo f_Plan_undo d_Plan_undo
  b_Plan_undo : Binds K d_Plan_undo ["self"] []
  m_Plan_undo : Meth K C_Plan "undo" f_Plan_undo
  F_Plan_targets : FunD K "targets" "Plan.targets" (defArgs s_Plan_targets) (defBody s_Plan_targets) (defScope s_Plan_targets) [] [("version", V.non)] f_Plan_targets d_Plan_targets
  b_Plan_targets : ∃ ds, Vals [V.non] ds ∧ Binds K d_Plan_targets ["self", "version"] ds
  k_Plan_targets : KBn K d_Plan_targets ["self", "version"] 1 ["version"] (fun us ws => us ++ ws) (fun vs zs => vs ++ zs)
  m_Plan_targets : Meth K C_Plan "targets" f_Plan_targets
  F_Plan_pieces : FunD K "pieces" "Plan.pieces" (defArgs s_Plan_pieces) (defBody s_Plan_pieces) (defScope s_Plan_pieces) [] [("version", V.non)] f_Plan_pieces d_Plan_pieces
  b_Plan_pieces : ∃ ds, Vals [V.non] ds ∧ Binds K d_Plan_pieces ["self", "version"] ds
  k_Plan_pieces : KBn K d_Plan_pieces ["self", "version"] 1 ["version"] (fun us ws => us ++ ws) (fun vs zs => vs ++ zs)
  m_Plan_pieces : Meth K C_Plan "pieces" f_Plan_pieces
  F_Plan_edits : Fun K "edits" "Plan.edits" s_Plan_edits f_Plan_edits d_Plan_edits
  b_Plan_edits : Binds K d_Plan_edits ["self"] []
  m_Plan_edits : Meth K C_Plan "edits" f_Plan_edits
  F_Plan_edit : Fun K "edit" "Plan.edit" s_Plan_edit f_Plan_edit d_Plan_edit
  b_Plan_edit : Binds K d_Plan_edit ["self", "word", "value"] []
  m_Plan_edit : Meth K C_Plan "edit" f_Plan_edit
  F_Plan_record : Fun K "record" "Plan.record" s_Plan_record f_Plan_record d_Plan_record
  b_Plan_record : Binds K d_Plan_record ["self", "word", "value"] []
  m_Plan_record : Meth K C_Plan "record" f_Plan_record
  F_Plan_require_idle : Fun K "require_idle" "Plan.require_idle" s_Plan_require_idle f_Plan_require_idle d_Plan_require_idle
  b_Plan_require_idle : Binds K d_Plan_require_idle ["self"] []
  m_Plan_require_idle : Meth K C_Plan "require_idle" f_Plan_require_idle
  F_Plan_state_at : Fun K "state_at" "Plan.state_at" s_Plan_state_at f_Plan_state_at d_Plan_state_at
  b_Plan_state_at : Binds K d_Plan_state_at ["self", "version"] []
  m_Plan_state_at : Meth K C_Plan "state_at" f_Plan_state_at
  F_Plan_len : Fun K "__len__" "Plan.__len__" s_Plan_len f_Plan_len d_Plan_len
  b_Plan_len : Binds K d_Plan_len ["self"] []
  m_Plan_len : Meth K C_Plan "__len__" f_Plan_len
  F_Plan_eq : Fun K "__eq__" "Plan.__eq__" s_Plan_eq f_Plan_eq d_Plan_eq
  b_Plan_eq : Binds K d_Plan_eq ["self", "other"] []
  m_Plan_eq : Meth K C_Plan "__eq__" f_Plan_eq
  F_TooWide_init : Fun K "__init__" "TooWide.__init__" s_TooWide_init f_TooWide_init d_TooWide_init
  b_TooWide_init : Binds K d_TooWide_init ["self", "bound"] []
  F_NotGenerated_init : Fun K "__init__" "NotGenerated.__init__" s_NotGenerated_init f_NotGenerated_init d_NotGenerated_init
  b_NotGenerated_init : Binds K d_NotGenerated_init ["self", "demand"] []
  F_TooMany_init : Fun K "__init__" "TooMany.__init__" s_TooMany_init f_TooMany_init d_TooMany_init
  b_TooMany_init : Binds K d_TooMany_init ["self", "bound"] []
  F_BadTargets_init : Fun K "__init__" "BadTargets.__init__" s_BadTargets_init f_BadTargets_init d_BadTargets_init
  b_BadTargets_init : Binds K d_BadTargets_init ["self", "error"] []
  F_BadInterval_init : Fun K "__init__" "BadInterval.__init__" s_BadInterval_init f_BadInterval_init d_BadInterval_init
  b_BadInterval_init : Binds K d_BadInterval_init ["self", "value"] []
  F_Duplicate_init : Fun K "__init__" "Duplicate.__init__" s_Duplicate_init f_Duplicate_init d_Duplicate_init
  b_Duplicate_init : Binds K d_Duplicate_init ["self", "value"] []
  F_BadEdit_init : Fun K "__init__" "BadEdit.__init__" s_BadEdit_init f_BadEdit_init d_BadEdit_init
  b_BadEdit_init : Binds K d_BadEdit_init ["self", "index"] []
  F_Rejected_init : Fun K "__init__" "Rejected.__init__" s_Rejected_init f_Rejected_init d_Rejected_init
  b_Rejected_init : Binds K d_Rejected_init ["self", "index"] []
  F_BadText_init : Fun K "__init__" "BadText.__init__" s_BadText_init f_BadText_init d_BadText_init
  b_BadText_init : Binds K d_BadText_init ["self", "index"] []
  F_Unknown_init : Fun K "__init__" "Unknown.__init__" s_Unknown_init f_Unknown_init d_Unknown_init
  b_Unknown_init : Binds K d_Unknown_init ["self", "value"] []
  F_NoVersion_init : Fun K "__init__" "NoVersion.__init__" s_NoVersion_init f_NoVersion_init d_NoVersion_init
  b_NoVersion_init : Binds K d_NoVersion_init ["self", "value"] []
  c_LAST_POSITION : mg "LAST_POSITION" = some (.int 1000000000000 t_LAST_POSITION)
  c_MAX_TARGETS : mg "MAX_TARGETS" = some (.int 24 t_MAX_TARGETS)
  c_MAX_PIECES : mg "MAX_PIECES" = some (.int 30 t_MAX_PIECES)
  c_MAX_EDITS : mg "MAX_EDITS" = some (.int 60 t_MAX_EDITS)
  z_LookupError : mg "LookupError" = none
  z_ValueError : mg "ValueError" = none
  z_abs : mg "abs" = none
  z_bool : mg "bool" = none
  z_enumerate : mg "enumerate" = none
  z_int : mg "int" = none
  z_isinstance : mg "isinstance" = none
  z_len : mg "len" = none
  z_list : mg "list" = none
  z_range : mg "range" = none
  z_repr : mg "repr" = none
  z_set : mg "set" = none
  z_sorted : mg "sorted" = none
  z_tuple : mg "tuple" = none
  cl_Plan : Cls K C_Plan
  g_Plan : mg "Plan" = some (.ref C_Plan)
  mk_Plan : Mk K C_Plan f_Plan_init
  n_Plan_states : NoAttr K C_Plan "states"
  n_Plan_done : NoAttr K C_Plan "done"
  n_Plan_busy : NoAttr K C_Plan "busy"
  is_Plan : PySem.W.findIn K (.ref C_Plan) "__class__" = some (some (.builtin "object.__class__")) ∧ PySem.W.specialIn K (.builtin "object.__class__") "__get__" = some (some (.builtin "getset_descriptor.__get__")) ∧ PySem.W.takesIn K (.builtin "object.__class__") = some true ∧ PySem.W.mroIn K C_Plan (.type "object") = some true
  ne_Plan : PySem.W.findIn K (.ref C_Plan) "__ne__" = some (some (.builtin "object.__ne__")) ∧ PySem.W.isClsIn K C_Plan = true ∧ PySem.W.typeIn K (.ref C_Plan) = some (.type "type")
  et : errTab K [X_OutOfRange, X_BadPieces, X_TooManyEdits, X_NothingToUndo, X_BadEdits, X_Busy, X_TooWide, X_NotGenerated, X_TooMany, X_BadTargets, X_BadInterval, X_Duplicate, X_BadEdit, X_Rejected, X_BadText, X_Unknown, X_NoVersion] X_SpanError = true
  xn_TooWide : XcN K mg "TooWide" X_TooWide
  xn_NotGenerated : XcN K mg "NotGenerated" X_NotGenerated
  xn_TooMany : XcN K mg "TooMany" X_TooMany
  xn_BadTargets : XcN K mg "BadTargets" X_BadTargets
  xn_BadInterval : XcN K mg "BadInterval" X_BadInterval
  xn_Duplicate : XcN K mg "Duplicate" X_Duplicate
  xn_BadEdit : XcN K mg "BadEdit" X_BadEdit
  xn_Rejected : XcN K mg "Rejected" X_Rejected
  xn_BadText : XcN K mg "BadText" X_BadText
  xn_Unknown : XcN K mg "Unknown" X_Unknown
  xn_NoVersion : XcN K mg "NoVersion" X_NoVersion
  xn_OutOfRange : XcN K mg "OutOfRange" X_OutOfRange
  xn_SpanError : XcN K mg "SpanError" X_SpanError
  xn_BadPieces : XcN K mg "BadPieces" X_BadPieces
  xn_TooManyEdits : XcN K mg "TooManyEdits" X_TooManyEdits
  xn_NothingToUndo : XcN K mg "NothingToUndo" X_NothingToUndo
  xn_BadEdits : XcN K mg "BadEdits" X_BadEdits
  xn_Busy : XcN K mg "Busy" X_Busy
  xh_TooWide : XcG K bmVE "ValueError.__new__" X_TooWide f_TooWide_init "bound"
  xv_TooWide : PySem.W.subIn K (.ref X_TooWide) (.type "ValueError") = some true
  xl_TooWide : PySem.W.subIn K (.ref X_TooWide) (.type "LookupError") = some false
  xh_NotGenerated : XcG K bmVE "ValueError.__new__" X_NotGenerated f_NotGenerated_init "demand"
  xv_NotGenerated : PySem.W.subIn K (.ref X_NotGenerated) (.type "ValueError") = some true
  xl_NotGenerated : PySem.W.subIn K (.ref X_NotGenerated) (.type "LookupError") = some false
  xh_TooMany : XcG K bmVE "ValueError.__new__" X_TooMany f_TooMany_init "bound"
  xv_TooMany : PySem.W.subIn K (.ref X_TooMany) (.type "ValueError") = some true
  xl_TooMany : PySem.W.subIn K (.ref X_TooMany) (.type "LookupError") = some false
  xh_BadTargets : XcG K bmVE "ValueError.__new__" X_BadTargets f_BadTargets_init "error"
  xv_BadTargets : PySem.W.subIn K (.ref X_BadTargets) (.type "ValueError") = some true
  xl_BadTargets : PySem.W.subIn K (.ref X_BadTargets) (.type "LookupError") = some false
  xh_BadInterval : XcG K bmVE "ValueError.__new__" X_BadInterval f_BadInterval_init "value"
  xv_BadInterval : PySem.W.subIn K (.ref X_BadInterval) (.type "ValueError") = some true
  xl_BadInterval : PySem.W.subIn K (.ref X_BadInterval) (.type "LookupError") = some false
  xh_Duplicate : XcG K bmVE "ValueError.__new__" X_Duplicate f_Duplicate_init "value"
  xv_Duplicate : PySem.W.subIn K (.ref X_Duplicate) (.type "ValueError") = some true
  xl_Duplicate : PySem.W.subIn K (.ref X_Duplicate) (.type "LookupError") = some false
  xh_BadEdit : XcG K bmVE "ValueError.__new__" X_BadEdit f_BadEdit_init "index"
  xv_BadEdit : PySem.W.subIn K (.ref X_BadEdit) (.type "ValueError") = some true
  xl_BadEdit : PySem.W.subIn K (.ref X_BadEdit) (.type "LookupError") = some false
  xh_Rejected : XcG K bmVE "ValueError.__new__" X_Rejected f_Rejected_init "index"
  xv_Rejected : PySem.W.subIn K (.ref X_Rejected) (.type "ValueError") = some true
  xl_Rejected : PySem.W.subIn K (.ref X_Rejected) (.type "LookupError") = some false
  xh_BadText : XcG K bmVE "ValueError.__new__" X_BadText f_BadText_init "index"
  xv_BadText : PySem.W.subIn K (.ref X_BadText) (.type "ValueError") = some true
  xl_BadText : PySem.W.subIn K (.ref X_BadText) (.type "LookupError") = some false
  xg_Unknown : XcG K bmLE "LookupError.__new__" X_Unknown f_Unknown_init "value"
  xv_Unknown : PySem.W.subIn K (.ref X_Unknown) (.type "ValueError") = some false
  xl_Unknown : PySem.W.subIn K (.ref X_Unknown) (.type "LookupError") = some true
  xg_NoVersion : XcG K bmLE "LookupError.__new__" X_NoVersion f_NoVersion_init "value"
  xv_NoVersion : PySem.W.subIn K (.ref X_NoVersion) (.type "ValueError") = some false
  xl_NoVersion : PySem.W.subIn K (.ref X_NoVersion) (.type "LookupError") = some true
  xr_OutOfRange : XcR K X_OutOfRange
  xv_OutOfRange : PySem.W.subIn K (.ref X_OutOfRange) (.type "ValueError") = some true
  xs_OutOfRange_SpanError : PySem.W.subIn K (.ref X_OutOfRange) (.ref X_SpanError) = some true
  xr_BadPieces : XcR K X_BadPieces
  xv_BadPieces : PySem.W.subIn K (.ref X_BadPieces) (.type "ValueError") = some true
  xr_TooManyEdits : XcR K X_TooManyEdits
  xv_TooManyEdits : PySem.W.subIn K (.ref X_TooManyEdits) (.type "ValueError") = some true
  xr_NothingToUndo : XcR K X_NothingToUndo
  xv_NothingToUndo : PySem.W.subIn K (.ref X_NothingToUndo) (.type "ValueError") = some true
  xr_BadEdits : XcR K X_BadEdits
  xv_BadEdits : PySem.W.subIn K (.ref X_BadEdits) (.type "ValueError") = some true
  xr_Busy : XcR K X_Busy
  xv_Busy : PySem.W.subIn K (.ref X_Busy) (.type "ValueError") = some true
variable {P : Program} {w : World} {K : PySem.W.Frag} {mg : Str → Option Value} {base : Heap} {f_is_number f_is_position f_is_tuple_of f_is_interval f_ascending_error f_targets_error f_is_pieces f_without_item f_with_interval f_without_interval f_edited_state f_law_deck f_law_draw f_law_line f_law_interval f_law_intervals f_law_edit f_law_after f_law_do f_law_begun f_law_flags f_law_errors_right f_law_edited f_law f_Plan_init f_Plan_add_target f_Plan_add_piece f_Plan_remove_target f_Plan_remove_piece f_Plan_undo f_Plan_targets f_Plan_pieces f_Plan_edits f_Plan_edit f_Plan_record f_Plan_require_idle f_Plan_state_at f_Plan_len f_Plan_eq f_TooWide_init f_NotGenerated_init f_TooMany_init f_BadTargets_init f_BadInterval_init f_Duplicate_init f_BadEdit_init f_Rejected_init f_BadText_init f_Unknown_init f_NoVersion_init C_Plan X_TooWide X_NotGenerated X_TooMany X_BadTargets X_BadInterval X_Duplicate X_BadEdit X_Rejected X_BadText X_Unknown X_NoVersion X_OutOfRange X_SpanError X_BadPieces X_TooManyEdits X_NothingToUndo X_BadEdits X_Busy : Addr} {d_is_number d_is_position d_is_tuple_of d_is_interval d_ascending_error d_targets_error d_is_pieces d_without_item d_with_interval d_without_interval d_edited_state d_law_deck d_law_draw d_law_line d_law_interval d_law_intervals d_law_edit d_law_after d_law_do d_law_begun d_law_flags d_law_errors_right d_law_edited d_law d_Plan_init d_Plan_add_target d_Plan_add_piece d_Plan_remove_target d_Plan_remove_piece d_Plan_undo d_Plan_targets d_Plan_pieces d_Plan_edits d_Plan_edit d_Plan_record d_Plan_require_idle d_Plan_state_at d_Plan_len d_Plan_eq d_TooWide_init d_NotGenerated_init d_TooMany_init d_BadTargets_init d_BadInterval_init d_Duplicate_init d_BadEdit_init d_Rejected_init d_BadText_init d_Unknown_init d_NoVersion_init : FuncData} {t_LAST_POSITION t_MAX_TARGETS t_MAX_PIECES t_MAX_EDITS : Tok}
abbrev TxA (K : PySem.W.Frag) (mg : Str → Option Value) (f_is_number f_is_position f_is_tuple_of f_is_interval f_ascending_error f_targets_error f_is_pieces f_without_item f_with_interval f_without_interval f_edited_state f_law_deck f_law_draw f_law_line f_law_interval f_law_intervals f_law_edit f_law_after f_law_do f_law_begun f_law_flags f_law_errors_right f_law_edited f_law f_Plan_init f_Plan_add_target f_Plan_add_piece f_Plan_remove_target f_Plan_remove_piece f_Plan_undo f_Plan_targets f_Plan_pieces f_Plan_edits f_Plan_edit f_Plan_record f_Plan_require_idle f_Plan_state_at f_Plan_len f_Plan_eq f_TooWide_init f_NotGenerated_init f_TooMany_init f_BadTargets_init f_BadInterval_init f_Duplicate_init f_BadEdit_init f_Rejected_init f_BadText_init f_Unknown_init f_NoVersion_init C_Plan X_TooWide X_NotGenerated X_TooMany X_BadTargets X_BadInterval X_Duplicate X_BadEdit X_Rejected X_BadText X_Unknown X_NoVersion X_OutOfRange X_SpanError X_BadPieces X_TooManyEdits X_NothingToUndo X_BadEdits X_Busy : Addr) (d_is_number d_is_position d_is_tuple_of d_is_interval d_ascending_error d_targets_error d_is_pieces d_without_item d_with_interval d_without_interval d_edited_state d_law_deck d_law_draw d_law_line d_law_interval d_law_intervals d_law_edit d_law_after d_law_do d_law_begun d_law_flags d_law_errors_right d_law_edited d_law d_Plan_init d_Plan_add_target d_Plan_add_piece d_Plan_remove_target d_Plan_remove_piece d_Plan_undo d_Plan_targets d_Plan_pieces d_Plan_edits d_Plan_edit d_Plan_record d_Plan_require_idle d_Plan_state_at d_Plan_len d_Plan_eq d_TooWide_init d_NotGenerated_init d_TooMany_init d_BadTargets_init d_BadInterval_init d_Duplicate_init d_BadEdit_init d_Rejected_init d_BadText_init d_Unknown_init d_NoVersion_init : FuncData) (t_LAST_POSITION t_MAX_TARGETS t_MAX_PIECES t_MAX_EDITS : Tok) := Tx K mg f_is_number f_is_position f_is_tuple_of f_is_interval f_ascending_error f_targets_error f_is_pieces f_without_item f_with_interval f_without_interval f_edited_state f_law_deck f_law_draw f_law_line f_law_interval f_law_intervals f_law_edit f_law_after f_law_do f_law_begun f_law_flags f_law_errors_right f_law_edited f_law f_Plan_init f_Plan_add_target f_Plan_add_piece f_Plan_remove_target f_Plan_remove_piece f_Plan_undo f_Plan_targets f_Plan_pieces f_Plan_edits f_Plan_edit f_Plan_record f_Plan_require_idle f_Plan_state_at f_Plan_len f_Plan_eq f_TooWide_init f_NotGenerated_init f_TooMany_init f_BadTargets_init f_BadInterval_init f_Duplicate_init f_BadEdit_init f_Rejected_init f_BadText_init f_Unknown_init f_NoVersion_init C_Plan X_TooWide X_NotGenerated X_TooMany X_BadTargets X_BadInterval X_Duplicate X_BadEdit X_Rejected X_BadText X_Unknown X_NoVersion X_OutOfRange X_SpanError X_BadPieces X_TooManyEdits X_NothingToUndo X_BadEdits X_Busy d_is_number d_is_position d_is_tuple_of d_is_interval d_ascending_error d_targets_error d_is_pieces d_without_item d_with_interval d_without_interval d_edited_state d_law_deck d_law_draw d_law_line d_law_interval d_law_intervals d_law_edit d_law_after d_law_do d_law_begun d_law_flags d_law_errors_right d_law_edited d_law d_Plan_init d_Plan_add_target d_Plan_add_piece d_Plan_remove_target d_Plan_remove_piece d_Plan_undo d_Plan_targets d_Plan_pieces d_Plan_edits d_Plan_edit d_Plan_record d_Plan_require_idle d_Plan_state_at d_Plan_len d_Plan_eq d_TooWide_init d_NotGenerated_init d_TooMany_init d_BadTargets_init d_BadInterval_init d_Duplicate_init d_BadEdit_init d_Rejected_init d_BadText_init d_Unknown_init d_NoVersion_init t_LAST_POSITION t_MAX_TARGETS t_MAX_PIECES t_MAX_EDITS 
theorem ok_law_deck (T : Tx K mg f_is_number f_is_position f_is_tuple_of f_is_interval f_ascending_error f_targets_error f_is_pieces f_without_item f_with_interval f_without_interval f_edited_state f_law_deck f_law_draw f_law_line f_law_interval f_law_intervals f_law_edit f_law_after f_law_do f_law_begun f_law_flags f_law_errors_right f_law_edited f_law f_Plan_init f_Plan_add_target f_Plan_add_piece f_Plan_remove_target f_Plan_remove_piece f_Plan_undo f_Plan_targets f_Plan_pieces f_Plan_edits f_Plan_edit f_Plan_record f_Plan_require_idle f_Plan_state_at f_Plan_len f_Plan_eq f_TooWide_init f_NotGenerated_init f_TooMany_init f_BadTargets_init f_BadInterval_init f_Duplicate_init f_BadEdit_init f_Rejected_init f_BadText_init f_Unknown_init f_NoVersion_init C_Plan X_TooWide X_NotGenerated X_TooMany X_BadTargets X_BadInterval X_Duplicate X_BadEdit X_Rejected X_BadText X_Unknown X_NoVersion X_OutOfRange X_SpanError X_BadPieces X_TooManyEdits X_NothingToUndo X_BadEdits X_Busy d_is_number d_is_position d_is_tuple_of d_is_interval d_ascending_error d_targets_error d_is_pieces d_without_item d_with_interval d_without_interval d_edited_state d_law_deck d_law_draw d_law_line d_law_interval d_law_intervals d_law_edit d_law_after d_law_do d_law_begun d_law_flags d_law_errors_right d_law_edited d_law d_Plan_init d_Plan_add_target d_Plan_add_piece d_Plan_remove_target d_Plan_remove_piece d_Plan_undo d_Plan_targets d_Plan_pieces d_Plan_edits d_Plan_edit d_Plan_record d_Plan_require_idle d_Plan_state_at d_Plan_len d_Plan_eq d_TooWide_init d_NotGenerated_init d_TooMany_init d_BadTargets_init d_BadInterval_init d_Duplicate_init d_BadEdit_init d_Rejected_init d_BadText_init d_Unknown_init d_NoVersion_init t_LAST_POSITION t_MAX_TARGETS t_MAX_PIECES t_MAX_EDITS) : FnOk P w K mg base CX0 1 f_law_deck d_law_deck ["_law_script"] (sp_law_deck K) := by
  refine T.F_law_deck.ok sc_law_deck (fun vs H Q E h => ?_) (fun cdv A outer s H vs Q E hr h => ?_)
  · obtain ⟨a, ns, rfl, _⟩ := h
    rfl
  · obtain ⟨a, ns0, rfl, hS, hlen, q⟩ := h
    refine ⟨_, (pss_one (ps_ret (pe_lst (pa_cons (pe_lc (own := [("_law_cell", 1)]) (g := (gName 1)) (tt := tYes) (by rfl) sc_law_deck.nd (pi_list (pe_slice sl_list (pv 0) po_none (po_some pe_int))) (blkOk_by (own := [("_law_cell", 1)]) (N := N_law_deck) (sc := defScope s_law_deck) (by decide +kernel)) (fun _ _ _ _ _ => (pg_name (i := 1) sc_law_deck.nd rfl (Or.inl rfl))) (fun _ _ _ _ _ => pts_nil) (fun _ _ _ _ _ => (pe_callB call_abs (by rfl) T.z_abs (by decide +kernel) (pa_cons (pv 1) pa_nil)))) (pa_cons pe_int pa_nil))))), ?_⟩
    refine ⟨.ref a, rfl, 63, rfl, a, ns0.map V.int, rfl, hS, fun p np => ?_⟩
    rw [show cutV (ns0.map V.int) none (some 63) = (ns0.take 63).map V.int by rw [List.map_take]; exact cutTo _ 63]
    have hlen : (ns0.take 63).length ≤ 63 := Nat.le_trans (List.length_take_le' _ _) hlen
    generalize ns0.take 63 = ns at *
    have s1 : Same H (upd H p (.lst (ns.map V.int))) := same_new np
    refine ⟨p, rfl, ⟨_, SqL.of upd_same⟩, fun D nD => ?_⟩
    have nDp : D ≠ p := fun e => by
      rw [e, upd_same] at nD
      cases nD
    have nD0 : H D = none := by
      rw [upd_ne nDp] at nD
      exact nD
    refine lc_list (K := K) (a := p) (xs := ns.map V.int) (fun i H' => Same (upd H p (.lst (ns.map V.int))) H' ∧ H' D = some (.lst (((ns.take i).map fun (x : Int) => if x < 0 then -x else x).map V.int))) ⟨same_new nD, upd_same⟩ (fun i H' _ h => h.1.seq (SqL.of upd_same)) ?_ ?_
    · rintro i x H' hi ⟨sm, eD⟩
      rw [List.getElem?_map] at hi
      obtain ⟨n, en, rfl⟩ := Option.map_eq_some_iff.mp hi
      refine ⟨rfl, .int n, rfl, n, rfl, _, eD, ?_, ?_, ?_⟩
      · have : (List.take i ns).length ≤ ns.length := List.length_take_le' i ns
        simp only [List.length_map]
        exact small1000 (by omega)
      · intro b o e
        have nb : b ≠ D := ne_of_none e nD
        rw [upd_ne nb]
        exact sm b o e
      · rw [upd_same, List.take_add_one, en]
        simp
    · rintro H' ⟨sm, eD⟩
      rw [List.length_map, List.take_length] at eD
      refine ⟨by show 2 ≤ sizeLine; decide, fun d nd => ?_⟩
      have nDd : D ≠ d := ne_of_none eD nd
      have nd0 : H d = none := s1.free (sm.free nd)
      refine q _ d D (s1.trans (sm.trans (same_new nd))) nd0 nD0 ⟨upd_same, _, by rw [upd_ne nDd]; exact eD, by rw [List.length_map]; exact hlen, fun x hx => ?_⟩
      obtain ⟨y, _, rfl⟩ := List.mem_map.mp hx
      split <;> omega
theorem ok_law_draw (T : Tx K mg f_is_number f_is_position f_is_tuple_of f_is_interval f_ascending_error f_targets_error f_is_pieces f_without_item f_with_interval f_without_interval f_edited_state f_law_deck f_law_draw f_law_line f_law_interval f_law_intervals f_law_edit f_law_after f_law_do f_law_begun f_law_flags f_law_errors_right f_law_edited f_law f_Plan_init f_Plan_add_target f_Plan_add_piece f_Plan_remove_target f_Plan_remove_piece f_Plan_undo f_Plan_targets f_Plan_pieces f_Plan_edits f_Plan_edit f_Plan_record f_Plan_require_idle f_Plan_state_at f_Plan_len f_Plan_eq f_TooWide_init f_NotGenerated_init f_TooMany_init f_BadTargets_init f_BadInterval_init f_Duplicate_init f_BadEdit_init f_Rejected_init f_BadText_init f_Unknown_init f_NoVersion_init C_Plan X_TooWide X_NotGenerated X_TooMany X_BadTargets X_BadInterval X_Duplicate X_BadEdit X_Rejected X_BadText X_Unknown X_NoVersion X_OutOfRange X_SpanError X_BadPieces X_TooManyEdits X_NothingToUndo X_BadEdits X_Busy d_is_number d_is_position d_is_tuple_of d_is_interval d_ascending_error d_targets_error d_is_pieces d_without_item d_with_interval d_without_interval d_edited_state d_law_deck d_law_draw d_law_line d_law_interval d_law_intervals d_law_edit d_law_after d_law_do d_law_begun d_law_flags d_law_errors_right d_law_edited d_law d_Plan_init d_Plan_add_target d_Plan_add_piece d_Plan_remove_target d_Plan_remove_piece d_Plan_undo d_Plan_targets d_Plan_pieces d_Plan_edits d_Plan_edit d_Plan_record d_Plan_require_idle d_Plan_state_at d_Plan_len d_Plan_eq d_TooWide_init d_NotGenerated_init d_TooMany_init d_BadTargets_init d_BadInterval_init d_Duplicate_init d_BadEdit_init d_Rejected_init d_BadText_init d_Unknown_init d_NoVersion_init t_LAST_POSITION t_MAX_TARGETS t_MAX_PIECES t_MAX_EDITS) : FnOk P w K mg base CX0 1 f_law_draw d_law_draw ["_law_deck_here", "_law_many"] sp_law_draw := by
  refine T.F_law_draw.ok sc_law_draw (fun vs H Q E h => ?_) (fun cdv A outer s H vs Q E hr h => ?_)
  · obtain ⟨d, c, n, lim, rfl, _⟩ := h
    rfl
  · obtain ⟨d, c, n, lim, rfl, dk, n0, n1, l0, l1, q⟩ := h
    obtain ⟨xs, ec, xl, xp⟩ := dk.cells
    have ncd := dk.ne
    have ed := dk.top
    have l64 : lim.natAbs < 2 ^ 64 := by omega
    have n64 : (n + 1).natAbs < 2 ^ 64 := by omega
    refine ⟨_, (pss_cons (ps_asg (pe_op op_add (pe_ix ix_list (pv 0) pe_int (fun _ _ => rfl)) pe_int) (pg_sub (pv 0) pe_int set_list))
      (pss_cons (ps_set (i := 2) sc_law_draw.nd rfl (Or.inl rfl) pe_int)
      (pss_cons (ps_set (i := 3) sc_law_draw.nd rfl (Or.inl rfl) (pe_un un_neg pe_int))
      (pss_cons (ps_if (pt_cmpR op_gt (pe_callB call_len_seq (by rfl) T.z_len PySem.boot_len (pa_cons (pe_ix ix_list (pv 0) pe_int (fun _ _ => rfl)) pa_nil)) pe_int (nomark _))
      (pss_cons (ps_set (i := 3) sc_law_draw.nd rfl (Or.inl rfl) (pe_op op_mod (pe_ix ix_list (pv 0) pe_int (fun _ _ => rfl)) (pe_callB call_len_seq (by rfl) T.z_len PySem.boot_len (pa_cons (pe_ix ix_list (pv 0) pe_int (fun _ _ => rfl)) pa_nil))))
      (pss_one (ps_set (i := 2) sc_law_draw.nd rfl (Or.inl rfl) (pe_ix ix_list (pe_ix ix_list (pv 0) pe_int (fun _ _ => rfl)) (pv 3) (fun _ _ => rfl)))))
      pss_nil)
      (pss_cons (ps_if (pt_cmpR op_ge (pv 2) (pe_op op_pow pe_int pe_int) (nomark _))
      (pss_cons (ps_asg (pe_op op_fdivW (pv 2) (pv 1)) (pg_sub (pe_ix ix_list (pv 0) pe_int (fun _ _ => rfl)) (pv 3) set_list))
      (pss_one (ps_ret (pe_op op_mod (pv 2) (pv 1)))))
      pss_nil)
      (pss_one (ps_ret (pe_op op_mod (pe_op op_mod (pe_op op_pow (pe_op op_add (pe_op op_add (pe_op op_mod (pv 2) pe_int) (pe_op op_mulW pe_int (pe_ix ix_list (pv 0) pe_int (fun _ _ => rfl)))) pe_int) pe_int) pe_int) (pv 1))))))))), ?_⟩
    refine ⟨.ref d, rfl, d, _, 1, .int n, rfl, rfl, SqL.of ed, rfl, n, 1, rfl, rfl, .ref d, rfl, d, _, 1, 1, rfl, rfl, ed, rfl, ?_⟩
    generalize eH : upd H d (.lst ([V.ref c, V.int n].set 1 (.int (n + 1)))) = H1
    have ed1 : H1 d = some (.lst [.ref c, .int (n + 1)]) := by
      rw [← eH, upd_same]
      rfl
    have ec1 : H1 c = some (.lst (xs.map V.int)) := by
      rw [← eH, upd_ne ncd]
      exact ec
    have kp1 : Kp d c H H1 := fun b o nb _ e => by
      rw [← eH, upd_ne nb]
      exact e
    have dk1 : Dk H1 d c (n + 1) := ⟨ed1, xs, ec1, xl, xp⟩
    refine ⟨1, rfl, ?_⟩
    refine ⟨.ref d, rfl, d, _, 0, .ref c, rfl, rfl, SqL.of ed1, rfl, c, _, rfl, .inl (SqL.of ec1), _, _, rfl, rfl, _, rfl, ite2 (fun e => ?_) (fun e => ?_)⟩
    · have e1 := of_decide_eq_true e
      rw [List.length_map] at e1
      have lp : (0 : Int) < (xs.map V.int).length := by rw [List.length_map]; exact e1
      have rem0 : 0 ≤ (n + 1) % ((xs.map V.int).length : Int) := Int.emod_nonneg _ (by omega)
      have rem1 : (n + 1) % ((xs.map V.int).length : Int) < (xs.map V.int).length := Int.emod_lt_of_pos _ lp
      obtain ⟨j, ej⟩ : ∃ j : Nat, (n + 1) % ((xs.map V.int).length : Int) = j := ⟨_, (Int.toNat_of_nonneg rem0).symm⟩
      have hj : j < xs.length := by
        rw [ej, List.length_map] at rem1
        omega
      have gj : (xs.map V.int)[j]? = some (.int xs[j]) := by
        rw [List.getElem?_map, List.getElem?_eq_getElem hj]
        rfl
      have x0 : 0 ≤ xs[j] := xp _ (List.getElem_mem hj)
      refine ⟨.ref d, rfl, d, _, 1, .int (n + 1), rfl, rfl, SqL.of ed1, rfl, .ref d, rfl, d, _, 0, .ref c, rfl, rfl, SqL.of ed1, rfl, c, _, rfl, .inl (SqL.of ec1), _, _, rfl, rfl, lp, ?_⟩
      refine ⟨.ref d, rfl, d, _, 0, .ref c, rfl, rfl, SqL.of ed1, rfl, .int _, rfl, c, _, _, .int xs[j], rfl, rfl, SqL.of ec1, (by rw [ej]; exact atI_nat gj), ?_⟩
      refine ⟨.int xs[j], rfl, 10, 18, rfl, rfl, ⟨by decide, by decide, by decide⟩, _, _, rfl, rfl, _, rfl, ite2 (fun e2 => ?_) (fun e2 => ?_)⟩
      · refine ⟨.int xs[j], rfl, .int lim, rfl, _, _, rfl, rfl, wide_div l0 l64 (by decide) (by decide), .ref d, rfl, d, _, 0, .ref c, rfl, rfl, SqL.of ed1, rfl, .int _, rfl, c, _, _, j, rfl, rfl, ec1, ?_, ?_⟩
        · rw [ej]
          unfold ixN
          rw [if_pos (by omega), if_pos (by rw [List.length_map]; omega)]
          rfl
        · refine ⟨.int xs[j], rfl, .int lim, rfl, _, _, rfl, rfl, l0, ?_⟩
          refine q _ _ ?_ ⟨?_, xs.set j (xs[j] / lim), ?_, ?_, ?_⟩ (Int.emod_nonneg _ (by omega)) (Int.emod_lt_of_pos _ l0)
          · intro b o nb nc e
            rw [upd_ne nc]
            exact kp1 b o nb nc e
          · rw [upd_ne ncd.symm]
            exact ed1
          · rw [upd_same, List.map_set]
          · rw [List.length_set]
            exact xl
          · intro x hx
            rcases List.mem_or_eq_of_mem_set hx with hm | he
            · exact xp x hm
            · rw [he]
              exact Int.ediv_nonneg x0 (by omega)
      · refine ⟨.int xs[j], rfl, _, _, rfl, rfl, (by show (0 : Int) < 2147483587; decide), .ref d, rfl, d, _, 1, .int (n + 1), rfl, rfl, SqL.of ed1, rfl, _, _, rfl, rfl, wide_mul (a := 13) (b := 64) (by decide) n64 (by decide) (by decide) (by decide), _, _, rfl, rfl, _, _, rfl, rfl, _, _, rfl, rfl, ⟨by decide, by decide, ?_⟩, _, _, rfl, rfl, (by show (0 : Int) < 2147483647; decide), .int lim, rfl, _, _, rfl, rfl, l0, ?_⟩
        · have a0 := Int.emod_nonneg xs[j] (show (2147483587 : Int) ≠ 0 by decide)
          have a1 := Int.emod_lt_of_pos xs[j] (show (0 : Int) < 2147483587 by decide)
          omega
        · exact q _ _ kp1 dk1 (Int.emod_nonneg _ (by omega)) (Int.emod_lt_of_pos _ l0)
    · refine ⟨.int 0, rfl, 10, 18, rfl, rfl, ⟨by decide, by decide, by decide⟩, _, _, rfl, rfl, _, rfl, ite2 (fun e2 => ?_) (fun e2 => ?_)⟩
      · exact absurd e2 (by decide)
      · refine ⟨.int 0, rfl, _, _, rfl, rfl, (by show (0 : Int) < 2147483587; decide), .ref d, rfl, d, _, 1, .int (n + 1), rfl, rfl, SqL.of ed1, rfl, _, _, rfl, rfl, wide_mul (a := 13) (b := 64) (by decide) n64 (by decide) (by decide) (by decide), _, _, rfl, rfl, _, _, rfl, rfl, _, _, rfl, rfl, ⟨by decide, by decide, ?_⟩, _, _, rfl, rfl, (by show (0 : Int) < 2147483647; decide), .int lim, rfl, _, _, rfl, rfl, l0, ?_⟩
        · have a0 := Int.emod_nonneg 0 (show (2147483587 : Int) ≠ 0 by decide)
          have a1 := Int.emod_lt_of_pos 0 (show (0 : Int) < 2147483587 by decide)
          omega
        · exact q _ _ kp1 dk1 (Int.emod_nonneg _ (by omega)) (Int.emod_lt_of_pos _ l0)
theorem Kp.keep {d c : Addr} {H H' : Hp} (k : Kp d c H H') {a : Addr} {o : HO} (n1 : a ≠ d ∧ a ≠ c) (h : H a = some o) : H' a = some o := k a o n1.1 n1.2 h
theorem Kp.tup {d c : Addr} {n : Int} {H H' : Hp} (k : Kp d c H H') (dk : Dk H d c n) {a : Addr} {xs : List V} (h : H a = some (.tup xs)) : H' a = some (.tup xs) := by
  obtain ⟨ys, e, _⟩ := dk.cells
  exact k a _ (ne_of h dk.top (fun z => by cases z)) (ne_of h e (fun z => by cases z)) h
theorem Dk.off {H : Hp} {d c : Addr} {n : Int} (h : Dk H d c n) {p : Addr} (e : H p = none) : p ≠ d ∧ p ≠ c := by
  obtain ⟨ys, z, _⟩ := h.cells
  exact ⟨(ne_of_none h.top e).symm, (ne_of_none z e).symm⟩
theorem Dk.upd {H : Hp} {d c : Addr} {n : Int} (h : Dk H d c n) {p : Addr} {o : HO} (off : p ≠ d ∧ p ≠ c) : Dk (upd H p o) d c n := by
  obtain ⟨ys, z, w⟩ := h.cells
  exact ⟨by rw [upd_ne off.1.symm]; exact h.top, ys, by rw [upd_ne off.2.symm]; exact z, w⟩

abbrev Off (d c p : Addr) : Prop := p ≠ d ∧ p ≠ c
/-! ### what stays when the heap grows, or the deck is drawn from -/
theorem rd_same {H H' : Hp} (s : Same H H') {a : Addr} {u : HO} (h : Rd H a u) : Rd H' a u := by
  rcases h with h | ⟨o, h⟩
  · exact .inl (s _ _ h)
  · exact .inr ⟨o, s _ _ h⟩
theorem sqT_same {K : PySem.W.Frag} {H H' : Hp} (s : Same H H') {a : Addr} {xs : List V} (h : SqT K H a xs) : SqT K H' a xs := by
  rcases h with h | h
  · exact .inl (rd_same s h)
  · exact .inr h
theorem dp_same {K : PySem.W.Frag} {H H' : Hp} (s : Same H H') {v : V} {d : PyData} (h : Dp K H v d) : Dp K H' v d := by
  refine Dp.rec (K := K) (H := H) (motive_1 := fun v d _ => Dp K H' v d) (motive_2 := fun vs ds _ => DpAll K H' vs ds) .non (fun b => .bl b) (fun i => .int i) (fun x => .str x) (fun hs _ q => .lst (s.seq hs) q) (fun hs _ q => .tup (sqT_same s hs) q) .nil (fun _ _ a b => .cons a b) h
theorem dp2 {K : PySem.W.Frag} {H : Hp} {t : Addr} {x y : Int} (h : H t = some (.tup [.int x, .int y])) : Dp K H (.ref t) (.tuple [.int x, .int y]) := .tup (SqT.of h) (.cons (.int x) (.cons (.int y) .nil))
theorem sm2 {x y : Int} (h1 : x.natAbs < 10 ^ 30) (h2 : y.natAbs < 10 ^ 30) : Sm 202 1 (.tuple [.int x, .int y]) := by
  have h := Sm.tup (n := 100) (dp := 0) (ds := [.int x, .int y]) (fun d hd => by
    rcases List.mem_cons.mp hd with rfl | hd
    · exact Sm.int h1
    · rcases List.mem_cons.mp hd with rfl | hd
      · exact Sm.int h2
      · cases hd)
  exact h
/-- an interval, or None -/
def optD : Option (Int × Int) → PyData
  | none => .none
  | some (x, y) => .tuple [.int x, .int y]
def OV (H : Hp) (v : V) : Option (Int × Int) → Prop
  | none => v = .non
  | some (x, y) => ∃ t, v = .ref t ∧ H t = some (.tup [.int x, .int y])
theorem OV.same {H H' : Hp} (s : Same H H') {v : V} {o : Option (Int × Int)} (h : OV H v o) : OV H' v o := by
  match o, h with
  | none, h => exact h
  | some (x, y), h =>
    obtain ⟨t, e, z⟩ := h
    exact ⟨t, e, s _ _ z⟩
theorem OV.kp {d c : Addr} {n : Int} {H H' : Hp} (k : Kp d c H H') (dk : Dk H d c n) {v : V} {o : Option (Int × Int)} (h : OV H v o) : OV H' v o := by
  match o, h with
  | none, h => exact h
  | some (x, y), h =>
    obtain ⟨t, e, z⟩ := h
    exact ⟨t, e, k.tup dk z⟩
theorem OV.dp {K : PySem.W.Frag} {H : Hp} {v : V} {o : Option (Int × Int)} (h : OV H v o) : Dp K H v (optD o) := by
  match o, h with
  | none, h =>
    cases h
    exact .non
  | some (x, y), h =>
    obtain ⟨t, e, z⟩ := h
    subst e
    exact dp2 z

/-! ### rows of intervals -/
inductive Ivs (H : Hp) : List V → List (Int × Int) → Prop
  | nil : Ivs H [] []
  | cons {a : Addr} {x y : Int} {vs : List V} {ps : List (Int × Int)} : H a = some (.tup [.int x, .int y]) → Ivs H vs ps → Ivs H (.ref a :: vs) ((x, y) :: ps)
theorem Ivs.length {H : Hp} {vs : List V} {ps : List (Int × Int)} (h : Ivs H vs ps) : vs.length = ps.length := by
  induction h with
  | nil => rfl
  | cons _ _ ih => rw [List.length_cons, List.length_cons, ih]
theorem Ivs.same {H H' : Hp} (s : Same H H') {vs : List V} {ps : List (Int × Int)} (h : Ivs H vs ps) : Ivs H' vs ps := by
  induction h with
  | nil => exact .nil
  | cons e _ ih => exact .cons (s _ _ e) ih
theorem Ivs.kp {d c : Addr} {n : Int} {H H' : Hp} (k : Kp d c H H') (dk : Dk H d c n) {vs : List V} {ps : List (Int × Int)} (h : Ivs H vs ps) : Ivs H' vs ps := by
  induction h with
  | nil => exact .nil
  | cons e _ ih => exact .cons (k.tup dk e) ih
theorem Ivs.get {H : Hp} {vs : List V} {ps : List (Int × Int)} (h : Ivs H vs ps) : ∀ {i : Nat} {v : V}, vs[i]? = some v → ∃ a x y, v = .ref a ∧ ps[i]? = some (x, y) ∧ H a = some (.tup [.int x, .int y]) := by
  induction h with
  | nil =>
    intro i v e
    simp at e
  | cons e _ ih =>
    intro i v q
    cases i with
    | zero =>
      cases q
      exact ⟨_, _, _, rfl, rfl, e⟩
    | succ i => exact ih q
theorem Ivs.snoc {H : Hp} {vs : List V} {ps : List (Int × Int)} {a : Addr} {x y : Int} (h : Ivs H vs ps) (e : H a = some (.tup [.int x, .int y])) : Ivs H (vs ++ [.ref a]) (ps ++ [(x, y)]) := by
  induction h with
  | nil => exact .cons e .nil
  | cons z _ ih => exact .cons z ih
def pairD (p : Int × Int) : PyData := .tuple [.int p.1, .int p.2]
theorem Ivs.dp {K : PySem.W.Frag} {H : Hp} {vs : List V} {ps : List (Int × Int)} (h : Ivs H vs ps) : DpAll K H vs (ps.map pairD) := by
  induction h with
  | nil => exact .nil
  | cons e _ ih => exact .cons (dp2 e) ih

/-! ### comprehensions that change nothing but make new objects -/
/-- the tuples stay -/
def Tps (H H' : Hp) : Prop := ∀ b xs, H b = some (.tup xs) → H' b = some (.tup xs)
theorem Tps.refl (H : Hp) : Tps H H := fun _ _ e => e
theorem Tps.trans {H H1 H2 : Hp} (h : Tps H H1) (h2 : Tps H1 H2) : Tps H H2 := fun b xs e => h2 b xs (h b xs e)
theorem Tps.same {H H1 : Hp} (h : Same H H1) : Tps H H1 := fun b xs e => h b _ e
theorem Kp.tps {d c : Addr} {n : Int} {H H' : Hp} (k : Kp d c H H') (dk : Dk H d c n) : Tps H H' := fun _ _ e => k.tup dk e
theorem Tps.lst {H : Hp} {D : Addr} {ws vs : List V} (e : H D = some (.lst ws)) : Tps H (upd H D (.lst vs)) := fun b xs h => by
  rw [upd_ne (ne_of h e (fun z => by cases z))]
  exact h
theorem same_off {H0 H : Hp} {D : Addr} {o : HO} (n : H0 D = none) (s : Same H0 H) : Same H0 (upd H D o) := fun b u e => by
  rw [upd_ne (ne_of_none e n)]
  exact s b u e
theorem few_line {n : Nat} (h : n < 1000) : n < sizeLine := by
  rw [show sizeLine = 16777216 by decide]
  omega
theorem lcL {K : PySem.W.Frag} {a : Addr} {xs : List V} {g : TG} {tt : TT} {te : TE} {vs : List Nat} {σ : L2.St} {H1 : Hp} {D : Addr} {Qd : Hp → Prop} (R : Nat → Hp → List V → Prop) (nD : H1 D = none) (hl : ∀ H', Same H1 H' → SqL K H' a xs) (few : xs.length < 1000)
    (mono : ∀ i H' H'' ws, Tps H' H'' → R i H' ws → R i H'' ws) (len : ∀ i H' ws, R i H' ws → ws.length ≤ i) (r0 : ∀ H', R 0 H' [])
    (hs : ∀ i x H' (N : Hp → Prop) acc, xs[i]? = some x → Same H1 H' → H' D = some (.lst acc) → acc.length < sizeLine → R i H' acc → (∀ H'', Same H' H'' → R (i + 1) H'' acc → N H'') → (∀ H'' y, Same H' H'' → R (i + 1) H'' (acc ++ [y]) → ∃ acc', H'' D = some (.lst acc') ∧ acc'.length < sizeLine ∧ N (upd H'' D (.lst (acc' ++ [y])))) →
      g x (wipe σ vs) H' fun σ2 H2 => wipe σ2 vs = wipe σ vs ∧ tt σ2 H2 fun b H3 => if b = true then te σ2 H3 fun y H4 => ∃ acc, H4 D = some (.lst acc) ∧ acc.length < sizeLine ∧ N (upd H4 D (.lst (acc ++ [y]))) else N H3)
    (hd : ∀ H' ws, Same H1 H' → H' D = some (.lst ws) → R xs.length H' ws → Qd H') :
    ∃ W : Nat → Nat → Hp → Prop, (∃ m, W 0 m (upd H1 D (.lst []))) ∧ ∀ i m H, W i m H →
      ((Itl K a).stop i H ∧ Qd H) ∨ ((Itl K a).go i H ∧ ∃ Nx : Hp → Prop, (∀ H', Nx H' → ∃ m', m' < m ∧ W (i + 1) m' H') ∧ ∀ x H', (Itl K a).yld i H x H' → g x (wipe σ vs) H' fun σ2 H2 => wipe σ2 vs = wipe σ vs ∧ tt σ2 H2 fun b H3 =>
        if b = true then te σ2 H3 fun y H4 => ∃ acc, H4 D = some (.lst acc) ∧ acc.length < sizeLine ∧ Nx (upd H4 D (.lst (acc ++ [y]))) else Nx H3) := by
  refine lc_list (K := K) (a := a) (xs := xs) (fun i H' => Same H1 H' ∧ ∃ ws, H' D = some (.lst ws) ∧ R i H' ws) ⟨same_new nD, [], upd_same, r0 _⟩ (fun i H' _ h => hl H' h.1) ?_ ?_
  · rintro i x H' hi ⟨sm, ws, eD, r⟩
    have lt := (List.getElem?_eq_some_iff.mp hi).1
    have lw := len i H' ws r
    have sz : ws.length < sizeLine := few_line (by omega)
    refine hs i x H' _ ws hi sm eD sz r (fun H'' s r2 => ⟨sm.trans s, ws, s _ _ eD, r2⟩) (fun H'' y s r2 => ?_)
    exact ⟨ws, s _ _ eD, sz, same_off nD (sm.trans s), _, upd_same, mono _ _ _ _ (Tps.lst (s _ _ eD)) r2⟩
  · rintro H' ⟨sm, ws, eD, r⟩
    exact hd H' ws sm eD r
theorem lcT {K : PySem.W.Frag} {a : Addr} {xs : List V} {g : TG} {tt : TT} {te : TE} {vs : List Nat} {σ : L2.St} {H1 : Hp} {D : Addr} {Qd : Hp → Prop} (R : Nat → Hp → List V → Prop) (nD : H1 D = none) (hl : ∀ H', Same H1 H' → SqT K H' a xs) (few : xs.length < 1000)
    (mono : ∀ i H' H'' ws, Tps H' H'' → R i H' ws → R i H'' ws) (len : ∀ i H' ws, R i H' ws → ws.length ≤ i) (r0 : ∀ H', R 0 H' [])
    (hs : ∀ i x H' (N : Hp → Prop) acc, xs[i]? = some x → Same H1 H' → H' D = some (.lst acc) → acc.length < sizeLine → R i H' acc → (∀ H'', Same H' H'' → R (i + 1) H'' acc → N H'') → (∀ H'' y, Same H' H'' → R (i + 1) H'' (acc ++ [y]) → ∃ acc', H'' D = some (.lst acc') ∧ acc'.length < sizeLine ∧ N (upd H'' D (.lst (acc' ++ [y])))) →
      g x (wipe σ vs) H' fun σ2 H2 => wipe σ2 vs = wipe σ vs ∧ tt σ2 H2 fun b H3 => if b = true then te σ2 H3 fun y H4 => ∃ acc, H4 D = some (.lst acc) ∧ acc.length < sizeLine ∧ N (upd H4 D (.lst (acc ++ [y]))) else N H3)
    (hd : ∀ H' ws, Same H1 H' → H' D = some (.lst ws) → R xs.length H' ws → Qd H') :
    ∃ W : Nat → Nat → Hp → Prop, (∃ m, W 0 m (upd H1 D (.lst []))) ∧ ∀ i m H, W i m H →
      ((Itt K a).stop i H ∧ Qd H) ∨ ((Itt K a).go i H ∧ ∃ Nx : Hp → Prop, (∀ H', Nx H' → ∃ m', m' < m ∧ W (i + 1) m' H') ∧ ∀ x H', (Itt K a).yld i H x H' → g x (wipe σ vs) H' fun σ2 H2 => wipe σ2 vs = wipe σ vs ∧ tt σ2 H2 fun b H3 =>
        if b = true then te σ2 H3 fun y H4 => ∃ acc, H4 D = some (.lst acc) ∧ acc.length < sizeLine ∧ Nx (upd H4 D (.lst (acc ++ [y]))) else Nx H3) := by
  refine lc_tup (K := K) (a := a) (xs := xs) (fun i H' => Same H1 H' ∧ ∃ ws, H' D = some (.lst ws) ∧ R i H' ws) ⟨same_new nD, [], upd_same, r0 _⟩ (fun i H' _ h => hl H' h.1) ?_ ?_
  · rintro i x H' hi ⟨sm, ws, eD, r⟩
    have lt := (List.getElem?_eq_some_iff.mp hi).1
    have lw := len i H' ws r
    have sz : ws.length < sizeLine := few_line (by omega)
    refine hs i x H' _ ws hi sm eD sz r (fun H'' s r2 => ⟨sm.trans s, ws, s _ _ eD, r2⟩) (fun H'' y s r2 => ?_)
    exact ⟨ws, s _ _ eD, sz, same_off nD (sm.trans s), _, upd_same, mono _ _ _ _ (Tps.lst (s _ _ eD)) r2⟩
  · rintro H' ⟨sm, ws, eD, r⟩
    exact hd H' ws sm eD r
theorem map_filter_len {α : Type} {ns : List α} {p : α → Bool} {f : α → V} (i : Nat) : (((ns.take i).filter p).map f).length ≤ i := by
  rw [List.length_map]
  exact Nat.le_trans (List.length_filter_le _ _) (List.length_take_le _ _)
theorem take_filter {α : Type} {ns : List α} {i : Nat} {n : α} {p : α → Bool} (h : ns[i]? = some n) : (ns.take (i + 1)).filter p = (ns.take i).filter p ++ (if p n = true then [n] else []) := by
  rw [List.take_add_one, h, List.filter_append]
  congr 1
  show List.filter p [n] = _
  rw [List.filter_cons]
  split <;> rfl
theorem nodup_le {α : Type} [DecidableEq α] : ∀ {l m : List α}, l.Nodup → (∀ x ∈ l, x ∈ m) → l.length ≤ m.length
  | [], _, _, _ => Nat.zero_le _
  | a :: l, m, h, hs => by
    have hm := hs a List.mem_cons_self
    have h' := List.nodup_cons.mp h
    have ih := nodup_le (l := l) (m := m.erase a) h'.2 (fun x hx => (List.mem_erase_of_ne (fun e => h'.1 (by rw [← e]; exact hx))).mpr (hs x (List.mem_cons_of_mem _ hx)))
    rw [List.length_erase_of_mem hm] at ih
    have := List.length_pos_of_mem hm
    rw [List.length_cons]
    omega

/-! ### demands, and rows of them -/
structure Dm (H : Hp) (v : V) (p lo hi : Int) : Prop where
  ex : ∃ u t, v = .ref u ∧ H u = some (.tup [.int p, .ref t]) ∧ H t = some (.tup [.int lo, .int hi])
  low : lo ≤ p
  high : p ≤ hi
theorem Dm.tps {H H' : Hp} (s : Tps H H') {v : V} {p lo hi : Int} (h : Dm H v p lo hi) : Dm H' v p lo hi := by
  obtain ⟨u, t, rfl, e1, e2⟩ := h.ex
  exact ⟨⟨u, t, rfl, s _ _ e1, s _ _ e2⟩, h.low, h.high⟩
theorem Dm.same {H H' : Hp} (s : Same H H') {v : V} {p lo hi : Int} (h : Dm H v p lo hi) : Dm H' v p lo hi := h.tps (Tps.same s)
inductive Dms (H : Hp) : List V → List (Int × Int × Int) → Prop
  | nil : Dms H [] []
  | cons {v : V} {p lo hi : Int} {vs : List V} {ds : List (Int × Int × Int)} : Dm H v p lo hi → Dms H vs ds → Dms H (v :: vs) ((p, lo, hi) :: ds)
theorem Dms.length {H : Hp} {vs : List V} {ds : List (Int × Int × Int)} (h : Dms H vs ds) : vs.length = ds.length := by
  induction h with
  | nil => rfl
  | cons _ _ ih => rw [List.length_cons, List.length_cons, ih]
theorem Dms.tps {H H' : Hp} (s : Tps H H') {vs : List V} {ds : List (Int × Int × Int)} (h : Dms H vs ds) : Dms H' vs ds := by
  induction h with
  | nil => exact .nil
  | cons e _ ih => exact .cons (e.tps s) ih
theorem Dms.same {H H' : Hp} (s : Same H H') {vs : List V} {ds : List (Int × Int × Int)} (h : Dms H vs ds) : Dms H' vs ds := h.tps (Tps.same s)
theorem Dms.get {H : Hp} {vs : List V} {ds : List (Int × Int × Int)} (h : Dms H vs ds) : ∀ {i : Nat} {v : V}, vs[i]? = some v → ∃ p lo hi, ds[i]? = some (p, lo, hi) ∧ Dm H v p lo hi := by
  induction h with
  | nil =>
    intro i v e
    simp at e
  | cons e _ ih =>
    intro i v q
    cases i with
    | zero =>
      cases q
      exact ⟨_, _, _, rfl, e⟩
    | succ i => exact ih q
theorem Dms.append {H : Hp} {vs us : List V} {ds es : List (Int × Int × Int)} (h : Dms H vs ds) (h2 : Dms H us es) : Dms H (vs ++ us) (ds ++ es) := by
  induction h with
  | nil => exact h2
  | cons e _ ih => exact .cons e ih
theorem Dms.snoc {H : Hp} {vs : List V} {ds : List (Int × Int × Int)} {v : V} {p lo hi : Int} (h : Dms H vs ds) (e : Dm H v p lo hi) : Dms H (vs ++ [v]) (ds ++ [(p, lo, hi)]) := h.append (.cons e .nil)
theorem Dms.take {H : Hp} {vs : List V} {ds : List (Int × Int × Int)} (h : Dms H vs ds) : ∀ n : Nat, Dms H (vs.take n) (ds.take n) := by
  induction h with
  | nil =>
    intro n
    rw [List.take_nil, List.take_nil]
    exact .nil
  | cons e _ ih =>
    intro n
    cases n with
    | zero => exact .nil
    | succ n => exact .cons e (ih n)
theorem Dms.reverse {H : Hp} {vs : List V} {ds : List (Int × Int × Int)} (h : Dms H vs ds) : Dms H vs.reverse ds.reverse := by
  induction h with
  | nil => exact .nil
  | cons e _ ih =>
    rw [List.reverse_cons, List.reverse_cons]
    exact ih.snoc e
theorem Dms.isEmpty {H : Hp} {vs : List V} {ds : List (Int × Int × Int)} (h : Dms H vs ds) : vs.isEmpty = ds.isEmpty := by
  cases h <;> rfl
theorem Dms.ok {H : Hp} {vs : List V} {ds : List (Int × Int × Int)} (h : Dms H vs ds) : ∀ q ∈ ds, q.2.1 ≤ q.1 ∧ q.1 ≤ q.2.2 := by
  induction h with
  | nil =>
    intro q hq
    cases hq
  | cons e _ ih =>
    intro q hq
    rcases List.mem_cons.mp hq with rfl | hq
    · exact ⟨e.low, e.high⟩
    · exact ih q hq
/-! ### comprehensions over a range that draw -/
theorem lcK {d c : Addr} {n0 per : Int} {lo : Int} {n : Nat} {g : TG} {tt : TT} {te : TE} {vs : List Nat} {σ : L2.St} {H1 : Hp} {D : Addr} {Qd : Hp → Prop} (R : Nat → Hp → List V → Prop) (nD : H1 D = none) (dk : Dk H1 d c n0) (few : n < 1000)
    (mono : ∀ i H' H'' ws, Tps H' H'' → R i H' ws → R i H'' ws) (len : ∀ i H' ws, R i H' ws → ws.length ≤ i) (r0 : ∀ H', R 0 H' [])
    (hs : ∀ i H' (N : Hp → Prop) acc, i < n → Kp d c H1 H' → Dk H' d c (n0 + per * i) → H' D = some (.lst acc) → R i H' acc → (∀ H'' y, Kp d c H' H'' → Dk H'' d c (n0 + per * i + per) → R (i + 1) H'' (acc ++ [y]) → ∃ acc', H'' D = some (.lst acc') ∧ acc'.length < sizeLine ∧ N (upd H'' D (.lst (acc' ++ [y])))) →
      g (.int (lo + i)) (wipe σ vs) H' fun σ2 H2 => wipe σ2 vs = wipe σ vs ∧ tt σ2 H2 fun b H3 => if b = true then te σ2 H3 fun y H4 => ∃ acc, H4 D = some (.lst acc) ∧ acc.length < sizeLine ∧ N (upd H4 D (.lst (acc ++ [y]))) else N H3)
    (hd : ∀ H' ws, Kp d c H1 H' → Dk H' d c (n0 + per * n) → H' D = some (.lst ws) → R n H' ws → Qd H') :
    ∃ W : Nat → Nat → Hp → Prop, (∃ m, W 0 m (upd H1 D (.lst []))) ∧ ∀ i m H, W i m H →
      ((Itr lo n).stop i H ∧ Qd H) ∨ ((Itr lo n).go i H ∧ ∃ Nx : Hp → Prop, (∀ H', Nx H' → ∃ m', m' < m ∧ W (i + 1) m' H') ∧ ∀ x H', (Itr lo n).yld i H x H' → g x (wipe σ vs) H' fun σ2 H2 => wipe σ2 vs = wipe σ vs ∧ tt σ2 H2 fun b H3 =>
        if b = true then te σ2 H3 fun y H4 => ∃ acc, H4 D = some (.lst acc) ∧ acc.length < sizeLine ∧ Nx (upd H4 D (.lst (acc ++ [y]))) else Nx H3) := by
  have off := dk.off nD
  refine lc_range (lo := lo) (n := n) (fun i H' => Kp d c H1 H' ∧ Dk H' d c (n0 + per * i) ∧ ∃ ws, H' D = some (.lst ws) ∧ R i H' ws) ⟨Kp.same (same_new nD), (dk.upd off).eq (by simp), [], upd_same, r0 _⟩ ?_ ?_
  · rintro i H' hi ⟨kp, dk', ws, eD, r⟩
    have lw := len i H' ws r
    have sz : ws.length < sizeLine := few_line (by omega)
    refine hs i H' _ ws hi kp dk' eD r (fun H'' y kp2 dk2 r2 => ?_)
    have eD2 := kp2.keep off eD
    refine ⟨ws, eD2, sz, fun b o n1 n2 e => ?_, (dk2.upd off).eq ?_, _, upd_same, mono _ _ _ _ (Tps.lst eD2) r2⟩
    · rw [upd_ne (ne_of_none e nD)]
      exact kp2 b o n1 n2 (kp b o n1 n2 e)
    · rw [Int.natCast_succ, Int.mul_add, Int.mul_one]
      omega
  · rintro H' ⟨kp, dk', ws, eD, r⟩
    exact hd H' ws kp dk' eD r

theorem Ivs.tps {H H' : Hp} (s : Tps H H') {vs : List V} {ps : List (Int × Int)} (h : Ivs H vs ps) : Ivs H' vs ps := by
  induction h with
  | nil => exact .nil
  | cons e _ ih => exact .cons (s _ _ e) ih
theorem Ivs.append {H : Hp} {vs us : List V} {ps qs : List (Int × Int)} (h : Ivs H vs ps) (h2 : Ivs H us qs) : Ivs H (vs ++ us) (ps ++ qs) := by
  induction h with
  | nil => exact h2
  | cons e _ ih => exact .cons e ih
theorem Ivs.isEmpty {H : Hp} {vs : List V} {ps : List (Int × Int)} (h : Ivs H vs ps) : vs.isEmpty = ps.isEmpty := by
  cases h <;> rfl

def strI (f s : Int) (p : Int × Int) : Int × Int := (p.1 * f + s, p.2 * f + f - 1 + s)

/-! ### tuples joined and cut, whichever object comes out -/
theorem catA_any {K : PySem.W.Frag} {H : Hp} {a b : Addr} {xs ys : List V} {Q : VK} (h1 : H a = some (.tup xs)) (h2 : H b = some (.tup ys)) (sz : xs.length + ys.length ≤ sizeLine) (k : ∀ H' p, Same H H' → H' p = some (.tup (xs ++ ys)) → Q (.ref p) H') : rCatA K (.ref a) (.ref b) H Q := by
  refine ⟨a, b, xs, ys, rfl, rfl, SqT.of h1, SqT.of h2, sz, fun e => k H b (Same.refl _) ?_, fun _ e => k H a (Same.refl _) ?_, fun _ _ p np => k _ p (same_new np) upd_same⟩
  · rw [e]
    exact h2
  · rw [e, List.append_nil]
    exact h1
theorem slA_any {K : PySem.W.Frag} {H : Hp} {a : Addr} {xs : List V} {lo hi : Option Int} {Q : VK} (h1 : H a = some (.tup xs)) (k : ∀ H' p, Same H H' → H' p = some (.tup (cutV xs lo hi)) → Q (.ref p) H') : rSlA K (.ref a) lo hi H Q := by
  refine ⟨a, xs, rfl, SqT.of h1, fun e => k H a (Same.refl _) ?_, fun _ p np => k _ p (same_new np) upd_same⟩
  have e2 : cutV xs lo hi = xs := by
    unfold cutV
    rw [e.1, e.2]
    simp
  rw [e2]
  exact h1
theorem Ivs.take {H : Hp} {vs : List V} {ps : List (Int × Int)} (h : Ivs H vs ps) : ∀ n : Nat, Ivs H (vs.take n) (ps.take n) := by
  induction h with
  | nil =>
    intro n
    rw [List.take_nil, List.take_nil]
    exact .nil
  | cons e _ ih =>
    intro n
    cases n with
    | zero => exact .nil
    | succ n => exact .cons e (ih n)

/-! ### sorted(set(pairs)) -/
def ltP (a b : Int × Int) : Prop := a.1 < b.1 ∨ (a.1 = b.1 ∧ a.2 < b.2)
def prL (q : Int × Int) : List Int := [q.1, q.2]
theorem prL_inj {a b : Int × Int} (h : prL a = prL b) : a = b := by
  unfold prL at h
  cases a
  cases b
  simp at h
  rw [h.1, h.2]
theorem mem_prL {q : Int × Int} {ps : List (Int × Int)} : prL q ∈ ps.map prL ↔ q ∈ ps := by
  rw [List.mem_map]
  exact ⟨fun ⟨a, ha, e⟩ => prL_inj e ▸ ha, fun h => ⟨q, h, rfl⟩⟩
theorem Ivs.keys {H : Hp} {us : List V} {ps : List (Int × Int)} (h : Ivs H us ps) : ∃ ks : List (Addr × List Int), us = ks.map (fun p => V.ref p.1) ∧ ks.map (·.2) = ps.map prL ∧ ∀ p ∈ ks, ∃ x y : Int, p.2 = [x, y] ∧ H p.1 = some (.tup [.int x, .int y]) := by
  induction h with
  | nil => exact ⟨[], rfl, rfl, fun p hp => nomatch hp⟩
  | cons e _ ih =>
    obtain ⟨ks, e1, e2, e3⟩ := ih
    refine ⟨(_, [_, _]) :: ks, by rw [List.map_cons, e1], by rw [List.map_cons, List.map_cons, e2]; rfl, fun p hp => ?_⟩
    rcases List.mem_cons.mp hp with rfl | hp
    · exact ⟨_, _, rfl, e⟩
    · exact e3 p hp
theorem Ivs.ofKeys {H : Hp} : ∀ {L : List (Addr × List Int)}, (∀ p ∈ L, ∃ x y : Int, p.2 = [x, y] ∧ H p.1 = some (.tup [.int x, .int y])) → ∃ ps, Ivs H (L.map fun p => V.ref p.1) ps ∧ L.map (·.2) = ps.map prL
  | [], _ => ⟨[], .nil, rfl⟩
  | p :: L, h => by
    obtain ⟨x, y, e, e1⟩ := h p List.mem_cons_self
    obtain ⟨ps, i, e2⟩ := Ivs.ofKeys (L := L) fun q hq => h q (List.mem_cons_of_mem _ hq)
    exact ⟨(x, y) :: ps, .cons e1 i, by rw [List.map_cons, List.map_cons, e2, e]; rfl⟩
theorem Ivs.tpsMem {H : Hp} {us : List V} {ps : List (Int × Int)} (h : Ivs H us ps) {q : Int × Int} (hq : q ∈ ps) : ∃ a, V.ref a ∈ us ∧ H a = some (.tup [.int q.1, .int q.2]) := by
  induction h with
  | nil => cases hq
  | cons e _ ih =>
    rcases List.mem_cons.mp hq with rfl | hq
    · exact ⟨_, List.mem_cons_self, e⟩
    · obtain ⟨a, h1, h2⟩ := ih hq
      exact ⟨a, List.mem_cons_of_mem _ h1, h2⟩
theorem sorted_keys {K : PySem.W.Frag} {P : Program} {w : World} {H : Hp} {ps : List (Int × Int)} {Q : VK} {ks L : List (Addr × List Int)} {a : Addr} (e2 : ks.map (·.2) = ps.map prL) (e3 : ∀ p ∈ ks, ∃ x y : Int, p.2 = [x, y] ∧ H p.1 = some (.tup [.int x, .int y])) (na : H a = none) (h1 : ∀ p ∈ L, p ∈ ks) (h2 : ∀ p ∈ ks, p.2 ∈ L.map (·.2)) (bd : ∀ q ∈ ps, (0 ≤ q.1 ∧ q.1 < 10 ^ 13) ∧ 0 ≤ q.2 ∧ q.2 < 10 ^ 13)
    (fin : ∀ H' p us' ps', Same H H' → H p = none → H' p = some (.lst us') → Ivs H' us' ps' → ps'.Pairwise ltP → (∀ q, q ∈ ps' ↔ q ∈ ps) → Q (.ref p) H') :
    rSortedT K P w [.ref a] (upd H a (SetTO P w a L)) Q := by
  have s1 : Same H (upd H a (SetTO P w a L)) := same_new na
  refine ⟨a, L, 2, 10 ^ 13, rfl, upd_same, fun p hp => ?_, by decide, fun p hp => ?_, fun L' p pm nd fw pw np => ?_⟩
  · obtain ⟨x, y, e, e1⟩ := e3 p (h1 p hp)
    rw [e]
    exact SqT.of (s1 _ _ e1)
  · have m : p.2 ∈ ks.map (·.2) := List.mem_map.mpr ⟨p, h1 p hp, rfl⟩
    rw [e2] at m
    obtain ⟨q, hq, e⟩ := List.mem_map.mp m
    have b := bd q hq
    rw [← e]
    refine ⟨rfl, fun m hm => ?_⟩
    unfold prL at hm
    rcases List.mem_cons.mp hm with rfl | hm
    · exact b.1
    · rw [List.mem_singleton.mp hm]
      exact b.2
  · have s2 : Same (upd H a (SetTO P w a L)) (upd (upd H a (SetTO P w a L)) p (.lst (L'.map fun q => V.ref q.1))) := same_new np
    obtain ⟨ps', i, e4⟩ := Ivs.ofKeys (H := H) (L := L') fun q hq => e3 q (h1 q (pm.mem_iff.mp hq))
    have mem : ∀ q, q ∈ ps' ↔ q ∈ ps := fun q => by
      rw [← mem_prL, ← e4, ← mem_prL (ps := ps), ← e2, (pm.map (·.2)).mem_iff]
      constructor
      · intro h
        obtain ⟨p, hp, e⟩ := List.mem_map.mp h
        exact List.mem_map.mpr ⟨p, h1 p hp, e⟩
      · intro h
        obtain ⟨p, hp, e⟩ := List.mem_map.mp h
        rw [← e]
        exact h2 p hp
    refine fin _ p _ ps' (s1.trans s2) (s1.free np) upd_same (i.same (s1.trans s2)) ?_ mem
    have pw2 : (L'.map (·.2)).Pairwise (fun q r => TS.code (10 ^ 13) q ≤ TS.code (10 ^ 13) r) := List.pairwise_map.mpr pw
    have both := pw2.and nd
    rw [e4] at both
    refine (List.pairwise_map.mp both).imp_of_mem fun {x y} hx hy h => ?_
    have bx := bd x ((mem x).mp hx)
    have bY := bd y ((mem y).mp hy)
    have tb : ∀ {z : Int × Int}, ((0 ≤ z.1 ∧ z.1 < 10 ^ 13) ∧ 0 ≤ z.2 ∧ z.2 < 10 ^ 13) → TS.Bd (10 ^ 13) [z.1, z.2] := fun b m hm => by
      rcases List.mem_cons.mp hm with rfl | hm
      · exact b.1
      · rw [List.mem_singleton.mp hm]
        exact b.2
    rcases code_lex (tb bx) (tb bY) h.1 with c | ⟨c1, c2⟩
    · exact .inl c
    · refine .inr ⟨c1, ?_⟩
      rcases Int.lt_or_eq_of_le c2 with z | z
      · exact z
      · exact absurd (show prL x = prL y by unfold prL; rw [c1, z]) h.2
theorem sorted_set_pairs {K : PySem.W.Frag} {P : Program} {w : World} {H : Hp} {l : Addr} {us : List V} {ps : List (Int × Int)} {Q : VK} (hl : SqL K H l us) (iv : Ivs H us ps) (few : ps.length < 64) (bd : ∀ q ∈ ps, (0 ≤ q.1 ∧ q.1 < 10 ^ 13) ∧ 0 ≤ q.2 ∧ q.2 < 10 ^ 13)
    (fin : ∀ H' p us' ps', Same H H' → H p = none → H' p = some (.lst us') → Ivs H' us' ps' → ps'.Pairwise ltP → (∀ q, q ∈ ps' ↔ q ∈ ps) → Q (.ref p) H') :
    rSetOfT K P w [.ref l] H (fun x H1 => rSortedT K P w [x] H1 Q) := by
  obtain ⟨ks, rfl, e2, e3⟩ := iv.keys
  have lk : ks.length = ps.length := by
    have z := congrArg List.length e2
    rw [List.length_map, List.length_map] at z
    exact z
  refine ⟨l, ks, rfl, hl, fun p hp => ?_, by omega, fun a L na h1 h2 => ?_⟩
  · obtain ⟨x, y, e, e1⟩ := e3 p hp
    rw [e]
    exact SqT.of e1
  exact sorted_keys e2 e3 na h1 h2 bd fin

def leP (a b : Int × Int) : Prop := a.1 < b.1 ∨ (a.1 = b.1 ∧ a.2 ≤ b.2)
theorem leP_of_lt {ps : List (Int × Int)} (h : ps.Pairwise ltP) : ps.Pairwise leP := h.imp fun {a b} h => by
  rcases h with h | h
  · exact .inl h
  · exact .inr ⟨h.1, by omega⟩
theorem leP_uniq {ps qs : List (Int × Int)} (h1 : ps.Pairwise leP) (h2 : qs.Pairwise leP) (pm : ps.Perm qs) : ps = qs := by
  refine pm.eq_of_pairwise (le := leP) (fun a b _ _ x y => ?_) h1 h2
  have : a.1 = b.1 ∧ a.2 = b.2 := by
    unfold leP at x y
    omega
  exact Prod.ext this.1 this.2

theorem sorted_set_pairsT {K : PySem.W.Frag} {P : Program} {w : World} {H : Hp} {l : Addr} {us : List V} {ps : List (Int × Int)} {Q : VK} (hl : H l = some (.tup us)) (iv : Ivs H us ps) (few : ps.length < 64) (bd : ∀ q ∈ ps, (0 ≤ q.1 ∧ q.1 < 10 ^ 13) ∧ 0 ≤ q.2 ∧ q.2 < 10 ^ 13)
    (fin : ∀ H' p us' ps', Same H H' → H p = none → H' p = some (.lst us') → Ivs H' us' ps' → ps'.Pairwise ltP → (∀ q, q ∈ ps' ↔ q ∈ ps) → Q (.ref p) H') :
    rSetOfTT K P w [.ref l] H (fun x H1 => rSortedT K P w [x] H1 Q) := by
  obtain ⟨ks, rfl, e2, e3⟩ := iv.keys
  -- the same keys, in a list that nobody holds: what follows is as there
  have lk : ks.length = ps.length := by
    have z := congrArg List.length e2
    rw [List.length_map, List.length_map] at z
    exact z
  refine ⟨l, ks, rfl, SqT.of hl, fun p hp => ?_, by omega, fun a L na h1 h2 => ?_⟩
  · obtain ⟨x, y, e, e1⟩ := e3 p hp
    rw [e]
    exact SqT.of e1
  exact sorted_keys e2 e3 na h1 h2 bd fin

/-! ### sorted(t), t a tuple of pairs of ints -/
section
variable {prog : Program} {w : World} {A : Around} {E : Value → Shared → Prop} {s : Shared}
/-- the items of a tuple, gathered in a new list -/
theorem collectT {Q : List Value → Shared → Prop} {t : Addr} {o : Obj} {xs : Array Value} {n : Nat} (ho : s.heap.get? t = some o) (hc : o.cls = .type "tuple") (hd : o.data = .seq xs n) (sz : xs.size ≤ sizeLine)
    (fin : ∀ g, s.heap.objs.size ≤ g.objs.size → (∀ b u, s.heap.get? b = some u → g.get? b = some u) → Q xs.toList { s with heap := g }) : wpAny (model prog w) A (collect (.ref t)) Q E s := by
  obtain ⟨g0, eg0⟩ : ∃ g0, s.heap.push { cls := .type "list", data := .seq ([] : List Value).toArray } = g0 := ⟨_, rfl⟩
  have n0 : g0.get? s.heap.objs.size = some { cls := .type "list", data := .seq #[] 0 } := by
    rw [← eg0]
    exact Heap.get?_push_size _ rfl
  have z0 : g0.objs.size = s.heap.objs.size + 1 := by
    rw [← eg0]
    exact Heap.size_push ..
  have k0 : ∀ b u, s.heap.get? b = some u → g0.get? b = some u := fun b u e => by
    rw [← eg0]
    exact Heap.get?_push_of_some _ e
  have n1 := Heap.get?_update_self (Obj.mapSeq (· ++ xs)) n0 rfl
  have last : ∀ s' : Shared, s' = { s with heap := g0.update s.heap.objs.size (Obj.mapSeq (· ++ xs)) } → wpAny (model prog w) A (match Value.ref s.heap.objs.size with
      | Value.ref a => do
        match (← load a).data with
          | Data.seq ys _ => pure ys.toList
          | _ => unsupported "internal:collect"
      | _ => unsupported "internal:collect") Q E s' := fun s' es => by
    rw [es]
    refine wpAny_bind (m := load s.heap.objs.size) (wpAny_load n1 (wpAny_pure ?_))
    show Q ((#[] : Array Value) ++ xs).toList _
    rw [show ((#[] : Array Value) ++ xs).toList = xs.toList by simp]
    refine fin _ (by rw [Heap.size_update, z0]; omega) fun b u e => ?_
    exact (Heap.get?_update_other _ _ (Nat.ne_of_gt (Heap.lt_size e))).trans (k0 b u e)
  unfold collect
  refine wpAny_bind (wpAny_runValue (codeAny_builtin (b := _) F.entry_proto_collect ?_))
  rw [Around.under_plainId (F.plain_proto_collect) _]
  show wpAny _ A.in1 (newList [] >>= fun l => again (.builtin "list.__iadd__" ⟨[l, .ref t], []⟩)) _ _ s
  refine wpAny_bind (wpAny_newObj_type (wpAny_pure ⟨plainId_quiet (F.plain_list_iadd) _, codeAny_builtin (b := _) F.entry_list_iadd ?_⟩))
  rw [Around.under_plainId (F.plain_list_iadd) _, eg0]
  show wpAny _ A.in1 (Builtin.List.listExtendWith (Value.ref s.heap.objs.size) (.ref t) (.ref s.heap.objs.size)) _ _ _
  refine wpAny_mono (wpAny_extend_seq (hsz := sz) (A := A) (R := fun r s' => r = .ok (.ret (.ref s.heap.objs.size)) ∧ s' = { s with heap := g0.update s.heap.objs.size (Obj.mapSeq (· ++ xs)) }) (s := { s with heap := g0 }) _ t _ 0 (.inr rfl) n0 (k0 _ _ ho) hc hd ⟨rfl, rfl⟩) (fun f s' h => ?_) (fun e s' h => absurd h.1 (by simp))
  cases f with
  | done f =>
    obtain ⟨e, h2⟩ := h
    cases e
    exact last s' h2
  | again c => exact ⟨h.1, codeAny_mono h.2 fun r s2 hr => by obtain ⟨rfl, h2⟩ := hr; exact last s2 h2⟩
theorem sortedTup {l : Addr} {vs : List Value} {k : Value → Int × Int} {Q : Value → Shared → Prop} (isT : IsTup s.heap l vs.toArray) (sz : vs.length ≤ sizeLine) (prs : ∀ v ∈ vs, Srt.IsPair s.heap v (k v).1 (k v).2)
    (fin : ∀ (h' : Heap) (d : Addr) (out : List Value), SrtO.Srtd (fun v u => SrtO.lexB (k v) (k u)) out → out.Perm vs → (∀ b o, s.heap.get? b = some o → h'.get? b = some o) → s.heap.objs.size ≤ d → (∃ n, h'.get? d = some (seqObj "list" out.toArray n)) → Q (.ref d) { s with heap := h' }) :
    wpAny (model prog w) A (call (.builtin "sorted") [.ref l]) Q E s := by
  refine Calls.call_function_entry kind_sorted (plain_sorted) entry_sorted (args_sorted1 _) ?_
  unfold Builtin.«sorted»
  refine wpAny_bind (m := checkCount "sorted" 1 1 _) (wpAny_pure (wpAny_bind ?_))
  obtain ⟨o, ho, hc, n, hd⟩ := isT
  refine collectT ho hc hd (by rw [List.size_toArray]; exact sz) (fun h1 big k1 => ?_)
  rw [List.toList_toArray]
  refine wpAny_bind (wpAny_newList ?_ sz)
  have own : (h1.push (seqObj "list" vs.toArray 0)).get? h1.objs.size = some (seqObj "list" vs.toArray 0) := Heap.get?_push_size _ rfl
  have keep : ∀ b o, s.heap.get? b = some o → b ≠ h1.objs.size ∧ b < (h1.push (seqObj "list" vs.toArray 0)).objs.size ∧ (h1.push (seqObj "list" vs.toArray 0)).get? b = some o := fun b o e => by
    have lt : b < h1.objs.size := Heap.lt_size (k1 b o e)
    exact ⟨Nat.ne_of_lt lt, by rw [Heap.size_push]; exact Nat.lt_succ_of_lt lt, Heap.get?_push_of_some _ (k1 b o e)⟩
  show wpAny _ _ _ _ _ { s with heap := h1.push (seqObj "list" vs.toArray 0) }
  refine wpAny_bind (wpAny_holding (wpAny_call_entry slot_list_sort ⟨_, own, rfl⟩ entry_list_sort (SrtO.list_sort_ord (SrtO.swo_lex k) own sz (fun h2 => ?_) fun out hs hb => ⟨_, rfl, ?_⟩) (args_list_sort _)))
  · refine SrtO.pairs_sortableO (s := { s with heap := h1.push (seqObj "list" vs.toArray 0) }) (by omega) (fun v hm => (prs v hm).keeps fun b o e _ => (keep b o e).2.2) fun o' e' => ?_
    have z : some o' = some (seqObj "list" vs.toArray 0) := e'.symm.trans own
    cases z
    exact fun c => absurd (Value.type.inj c) (by decide)
  · refine wpAny_pure ⟨_, rfl, fin _ _ out hs hb.perm (fun b o e => ?_) big (sortedHeap_at own)⟩
    have z := keep b o e
    rw [sortedHeap_old z.1 z.2.1]
    exact z.2.2
end
def rSortTP (K : PySem.W.Frag) : List V → Hp → VK → Prop := fun vs H Q => ∃ (a : Addr) (us : List V) (ps : List (Int × Int)), vs = [V.ref a] ∧ SqT K H a us ∧ Ivs H us ps ∧
  ∀ H' p us' ps', Same H H' → H p = none → H' p = some (.lst us') → Ivs H' us' ps' → ps'.Pairwise leP → ps'.Perm ps → Q (.ref p) H'
theorem Ivs.mem1 {H : Hp} {vs : List V} {ps : List (Int × Int)} (h : Ivs H vs ps) {v : V} (hv : v ∈ vs) : ∃ a q, q ∈ ps ∧ v = .ref a ∧ H a = some (.tup [.int q.1, .int q.2]) := by
  obtain ⟨i, ei⟩ := List.getElem?_of_mem hv
  obtain ⟨a, x, y, e, ep, ea⟩ := h.get ei
  exact ⟨a, (x, y), List.mem_of_getElem? ep, e, ea⟩
noncomputable def pairAt (H : Hp) (v : V) : Int × Int := Classical.epsilon fun q => ∃ a, v = .ref a ∧ H a = some (.tup [.int q.1, .int q.2])
theorem pairAt_eq {H : Hp} {a : Addr} {x y : Int} (h : H a = some (.tup [.int x, .int y])) : pairAt H (.ref a) = (x, y) := by
  have e : ∃ q : Int × Int, ∃ b, V.ref a = .ref b ∧ H b = some (.tup [.int q.1, .int q.2]) := ⟨(x, y), a, rfl, h⟩
  obtain ⟨b, e1, e2⟩ := Classical.epsilon_spec e
  cases e1
  have e2 : H a = some (.tup [.int (pairAt H (.ref a)).1, .int (pairAt H (.ref a)).2]) := e2
  rw [h] at e2
  have z := Option.some.inj e2
  injection z with z
  injection z with z1 z2
  injection z2 with z2 _
  injection z1 with z1
  injection z2 with z2
  exact Prod.ext z1.symm z2.symm
theorem Ivs.pairAt {H : Hp} {vs : List V} {ps : List (Int × Int)} (h : Ivs H vs ps) : vs.map (pairAt H) = ps := by
  induction h with
  | nil => rfl
  | cons e _ ih => rw [List.map_cons, ih, pairAt_eq e]
theorem Ivs.perm1 {H : Hp} {xs ys : List V} (pm : ys.Perm xs) : ∀ {ps : List (Int × Int)}, Ivs H xs ps → ∃ ps', Ivs H ys ps' ∧ ps'.Perm ps := by
  induction pm with
  | nil =>
    intro ps h
    exact ⟨ps, h, .refl _⟩
  | cons x _ ih =>
    intro ps h
    cases h with
    | cons e h =>
      obtain ⟨ps', h', p'⟩ := ih h
      exact ⟨_ :: ps', .cons e h', p'.cons _⟩
  | swap x y l =>
    intro ps h
    cases h with
    | cons e h =>
      cases h with
      | cons e2 h => exact ⟨_, .cons e2 (.cons e h), .swap _ _ _⟩
  | trans _ _ ih1 ih2 =>
    intro ps h
    obtain ⟨p2, h2, q2⟩ := ih2 h
    obtain ⟨p1, h1, q1⟩ := ih1 h2
    exact ⟨p1, h1, q1.trans q2⟩
theorem cr_sortTP {X : Cx} : CallR X (.builtin "sorted") (rSortTP X.K) := by
  intro pins s σ H vs us0 Q I r h
  obtain ⟨a, us, ps, rfl, hs, iv, q⟩ := h
  obtain ⟨its, rv, isT, sz⟩ := I.tuple hs
  obtain ⟨u, rfl, ru⟩ := vals1 r
  obtain rfl : u = Value.ref a := ru
  obtain ⟨e1, e2⟩ := refs_back rv fun x m => by
    obtain ⟨t, q, _, e, _⟩ := iv.mem1 m
    exact ⟨t, e⟩
  refine sortedTup (k := fun u => pairAt H (backV u)) isT (by rw [← rv.length]; exact sz) (fun v hv => ?_) fun h' d out h1 pmo kp hd hn => ?_
  · obtain ⟨t, rfl⟩ := e2 v hv
    have hm : V.ref t ∈ us := by rw [e1]; exact List.mem_map.mpr ⟨_, hv, rfl⟩
    obtain ⟨t', pq, _, e, ht⟩ := iv.mem1 hm
    cases e
    obtain ⟨_, its2, r2, o, ho, hc, n, hd⟩ := I.hok _ _ ht
    obtain ⟨u1, u2, rfl, ri, rj⟩ := vals2 r2
    obtain ⟨t1, rfl⟩ := ri
    obtain ⟨t2, rfl⟩ := rj
    show Srt.IsPair _ _ (pairAt H (.ref t)).1 (pairAt H (.ref t)).2
    rw [pairAt_eq ht]
    exact ⟨t, o, t1, t2, n, rfl, ho, hc, hd⟩
  · have h3 : ∀ u ∈ out, ∃ a, u = Value.ref a := fun u hu => e2 u (pmo.mem_iff.mp hu)
    obtain ⟨n, hn⟩ := hn
    have pm : (out.map backV).Perm us := by
      rw [e1]
      exact pmo.map backV
    obtain ⟨qs, ivq, pmq⟩ := Ivs.perm1 pm iv
    have fr : H d = none := I.hok.fresh hd
    have s1 : Same H (upd H d (.lst (out.map backV))) := same_new fr
    have asc : qs.Pairwise leP := by
      rw [← ivq.pairAt]
      refine List.pairwise_map.mpr (List.pairwise_map.mpr (List.Pairwise.imp (fun {x y} z => ?_) h1))
      have z := SrtO.lexB_no.mp z
      unfold leP
      omega
    refine ⟨.ref d, upd H d (.lst (out.map backV)), I.laid (t' := s.toks) kp hd ⟨?_, out, n, vals_back h3, hn⟩, rfl, q _ d _ qs s1 fr upd_same (ivq.same s1) asc pmq⟩
    rw [pm.length_eq]
    exact sz

/-! ### sorted(list of pairs) -/
theorem Ivs.perm {H : Hp} {xs ys : List V} (pm : ys.Perm xs) : ∀ {ps : List (Int × Int)}, Ivs H xs ps → ∃ ps', Ivs H ys ps' ∧ ps'.Perm ps := by
  induction pm with
  | nil =>
    intro ps h
    exact ⟨ps, h, .refl _⟩
  | cons x _ ih =>
    intro ps h
    cases h with
    | cons e h =>
      obtain ⟨ps', h', p'⟩ := ih h
      exact ⟨_ :: ps', .cons e h', p'.cons _⟩
  | swap x y l =>
    intro ps h
    cases h with
    | cons e h =>
      cases h with
      | cons e2 h => exact ⟨_, .cons e2 (.cons e h), .swap _ _ _⟩
  | trans _ _ ih1 ih2 =>
    intro ps h
    obtain ⟨p2, h2, q2⟩ := ih2 h
    obtain ⟨p1, h1, q1⟩ := ih1 h2
    exact ⟨p1, h1, q1.trans q2⟩
theorem Ivs.pair {H : Hp} {R : V → V → Prop} {S : Int × Int → Int × Int → Prop} (rs : ∀ a b x y u v, H a = some (.tup [.int x, .int y]) → H b = some (.tup [.int u, .int v]) → R (.ref a) (.ref b) → S (x, y) (u, v)) {vs : List V} {ps : List (Int × Int)} (h : Ivs H vs ps) (pw : vs.Pairwise R) : ps.Pairwise S := by
  induction h with
  | nil => exact .nil
  | cons e h ih =>
    have p := List.pairwise_cons.mp pw
    refine List.pairwise_cons.mpr ⟨fun q hq => ?_, ih p.2⟩
    obtain ⟨b, hb, eb⟩ := h.tpsMem hq
    exact rs _ b _ _ q.1 q.2 e eb (p.1 _ hb)
theorem Ivs.mem {H : Hp} {vs : List V} {ps : List (Int × Int)} (h : Ivs H vs ps) {v : V} (hv : v ∈ vs) : ∃ a q, q ∈ ps ∧ v = .ref a ∧ H a = some (.tup [.int q.1, .int q.2]) := by
  obtain ⟨i, ei⟩ := List.getElem?_of_mem hv
  obtain ⟨a, x, y, e, ep, ea⟩ := h.get ei
  exact ⟨a, (x, y), List.mem_of_getElem? ep, e, ea⟩
theorem bd2 {z : Int × Int} (b : (0 ≤ z.1 ∧ z.1 < 10 ^ 13) ∧ 0 ≤ z.2 ∧ z.2 < 10 ^ 13) : TS.Bd (10 ^ 13) [z.1, z.2] := fun m hm => by
  rcases List.mem_cons.mp hm with rfl | hm
  · exact b.1
  · rw [List.mem_singleton.mp hm]
    exact b.2
theorem sort_pairs {K : PySem.W.Frag} {H : Hp} {l : Addr} {us : List V} {ps : List (Int × Int)} {Q : VK} (hl : SqL K H l us) (iv : Ivs H us ps) (few : ps.length < 64) (bd : ∀ q ∈ ps, (0 ≤ q.1 ∧ q.1 < 10 ^ 13) ∧ 0 ≤ q.2 ∧ q.2 < 10 ^ 13)
    (fin : ∀ H' p us' ps', Same H H' → H p = none → H' p = some (.lst us') → Ivs H' us' ps' → ps'.Pairwise leP → ps'.Perm ps → Q (.ref p) H') :
    rSortU K 2 (10 ^ 13) [.ref l] H Q := by
  refine ⟨l, us, rfl, hl, by rw [iv.length]; exact few, fun x hx => ?_, fun ys p2 pm pw np2 => ?_⟩
  · obtain ⟨b, qq, hqq, e, eb⟩ := iv.mem hx
    exact ⟨[qq.1, qq.2], ⟨b, e, SqT.of eb⟩, rfl, bd2 (bd qq hqq)⟩
  obtain ⟨gs, ivg, pmg⟩ := Ivs.perm pm iv
  have z : gs.Pairwise (fun a b => TS.code (10 ^ 13) [a.1, a.2] ≤ TS.code (10 ^ 13) [b.1, b.2]) := Ivs.pair (S := fun a b => TS.code (10 ^ 13) [a.1, a.2] ≤ TS.code (10 ^ 13) [b.1, b.2]) (fun a b x y u v ea eb h => h [x, y] [u, v] ⟨a, rfl, SqT.of ea⟩ ⟨b, rfl, SqT.of eb⟩) ivg pw
  have s2 := same_new (o := .lst ys) np2
  refine fin _ p2 ys gs s2 np2 upd_same (ivg.same s2) (z.imp_of_mem fun {x y} hx hy h => ?_) pmg
  exact code_lex (bd2 (bd x (pmg.mem_iff.mp hx))) (bd2 (bd y (pmg.mem_iff.mp hy))) h

theorem shaped_pairs (ps : List (Int × Int)) : SeqAt.shaped (.tuple (ps.map pairD)) = true := by
  have h1 : ∀ ps : List (Int × Int), PyData.canLayAll0 (ps.map pairD) = true := by
    intro ps
    induction ps with
    | nil => rfl
    | cons n r ih => exact ih
  have h2 : ∀ ps : List (Int × Int), PyData.depthAll (ps.map pairD) ≤ 1 := by
    intro ps
    induction ps with
    | nil => exact Nat.zero_le _
    | cons n r ih =>
      show max 1 (PyData.depthAll (r.map pairD)) ≤ 1
      omega
  unfold SeqAt.shaped
  rw [show PyData.canLay0 (.tuple (ps.map pairD)) = PyData.canLayAll0 (ps.map pairD) from rfl, h1 ps]
  show decide (PyData.depthAll (ps.map pairD) + 1 ≤ 64) = true
  exact decide_eq_true (by have := h2 ps; omega)
theorem eqv_self (ps : List (Int × Int)) : PyData.eqv (.tuple (ps.map pairD)) (.tuple (ps.map pairD)) = true := by
  show PyData.eqvAll (ps.map pairD) (ps.map pairD) = true
  induction ps with
  | nil => rfl
  | cons q r ih =>
    show (((q.1 == q.1) && ((q.2 == q.2) && true)) && PyData.eqvAll (r.map pairD) (r.map pairD)) = true
    rw [ih, beq_self_eq_true, beq_self_eq_true]
    rfl

/-! ### small facts that plans want -/
theorem kit_tupT {K : PySem.W.Frag} : PySem.W.kitOne K (.type "tuple") (.type "tuple") = some true := kit_ty (a := "tuple") (b := "tuple") (r := true) (by decide +kernel)
theorem kit_intI {K : PySem.W.Frag} : PySem.W.kitOne K (.type "int") (.type "int") = some true := kit_ty (a := "int") (b := "int") (r := true) (by decide +kernel)
theorem kit_intB {K : PySem.W.Frag} : PySem.W.kitOne K (.type "int") (.type "bool") = some false := kit_ty (a := "int") (b := "bool") (r := false) (by decide +kernel)
theorem leP_nd {ps : List (Int × Int)} (h : ps.Pairwise leP) (nd : ps.Nodup) : ps.Pairwise ltP := by
  have z := h.and nd
  refine z.imp fun {a b} z => ?_
  rcases z.1 with k | ⟨k1, k2⟩
  · exact .inl k
  · refine .inr ⟨k1, ?_⟩
    rcases Int.lt_or_eq_of_le k2 with w | w
    · exact w
    · exact absurd (Prod.ext k1 w) z.2

theorem ltP_uniq {ps qs : List (Int × Int)} (h1 : ps.Pairwise ltP) (h2 : qs.Pairwise ltP) (m : ∀ q, q ∈ ps ↔ q ∈ qs) : ps = qs := by
  have nd : ∀ {l : List (Int × Int)}, l.Pairwise ltP → l.Nodup := fun h => h.imp fun {a b} h e => by
    subst e
    rcases h with h | h <;> omega
  have le : ∀ {l : List (Int × Int)}, l.Pairwise ltP → l.Pairwise leP := fun h => h.imp fun {a b} h => by
    rcases h with h | ⟨h, k⟩
    · exact .inl h
    · exact .inr ⟨h, by omega⟩
  exact leP_uniq (le h1) (le h2) ((List.perm_ext_iff_of_nodup (nd h1) (nd h2)).mpr m)
theorem atI_end {xs : List V} {v : V} (h : xs[xs.length - 1]? = some v) : atI xs (-1) = some v := by
  have ne : xs ≠ [] := fun e => by
    rw [e] at h
    cases h
  have e := List.dropLast_concat_getLast ne
  rw [List.getLast_eq_getElem] at e
  rw [List.getElem?_eq_getElem (by have := List.length_pos_iff.mpr ne; omega)] at h
  rw [Option.some.inj h] at e
  rw [← e]
  exact atI_last _ _

theorem eqv_pair (x y u v : Int) : PyData.eqv (.tuple [.int x, .int y]) (.tuple [.int u, .int v]) = decide ((x, y) = (u, v)) := by
  show ((x == u) && ((y == v) && true)) = decide ((x, y) = (u, v))
  rw [Bool.and_true, Bool.eq_iff_iff, Bool.and_eq_true, beq_iff_eq, beq_iff_eq, decide_eq_true_iff, Prod.mk.injEq]

def wo (ps : List (Int × Int)) (q : Int × Int) : List (Int × Int) := ps.filter fun x => !decide (x = q)
theorem wo_len (ps : List (Int × Int)) (q : Int × Int) : (wo ps q).length ≤ ps.length := List.length_filter_le _ _
theorem wo_sub {ps : List (Int × Int)} {q x : Int × Int} (h : x ∈ wo ps q) : x ∈ ps := (List.mem_filter.mp h).1
def sp_without_item : Sp := fun vs H Q _ => ∃ (a t : Addr) (us : List V) (ps : List (Int × Int)) (x y : Int), vs = [.ref a, .ref t] ∧ H a = some (.tup us) ∧ Ivs H us ps ∧ ps.length < 1000 ∧ H t = some (.tup [.int x, .int y]) ∧
  ∀ H' p ws, Same H H' → H' p = some (.tup ws) → Ivs H' ws (wo ps (x, y)) → Q (.ref p) H'
theorem ok_without_item (T : Tx K mg f_is_number f_is_position f_is_tuple_of f_is_interval f_ascending_error f_targets_error f_is_pieces f_without_item f_with_interval f_without_interval f_edited_state f_law_deck f_law_draw f_law_line f_law_interval f_law_intervals f_law_edit f_law_after f_law_do f_law_begun f_law_flags f_law_errors_right f_law_edited f_law f_Plan_init f_Plan_add_target f_Plan_add_piece f_Plan_remove_target f_Plan_remove_piece f_Plan_undo f_Plan_targets f_Plan_pieces f_Plan_edits f_Plan_edit f_Plan_record f_Plan_require_idle f_Plan_state_at f_Plan_len f_Plan_eq f_TooWide_init f_NotGenerated_init f_TooMany_init f_BadTargets_init f_BadInterval_init f_Duplicate_init f_BadEdit_init f_Rejected_init f_BadText_init f_Unknown_init f_NoVersion_init C_Plan X_TooWide X_NotGenerated X_TooMany X_BadTargets X_BadInterval X_Duplicate X_BadEdit X_Rejected X_BadText X_Unknown X_NoVersion X_OutOfRange X_SpanError X_BadPieces X_TooManyEdits X_NothingToUndo X_BadEdits X_Busy d_is_number d_is_position d_is_tuple_of d_is_interval d_ascending_error d_targets_error d_is_pieces d_without_item d_with_interval d_without_interval d_edited_state d_law_deck d_law_draw d_law_line d_law_interval d_law_intervals d_law_edit d_law_after d_law_do d_law_begun d_law_flags d_law_errors_right d_law_edited d_law d_Plan_init d_Plan_add_target d_Plan_add_piece d_Plan_remove_target d_Plan_remove_piece d_Plan_undo d_Plan_targets d_Plan_pieces d_Plan_edits d_Plan_edit d_Plan_record d_Plan_require_idle d_Plan_state_at d_Plan_len d_Plan_eq d_TooWide_init d_NotGenerated_init d_TooMany_init d_BadTargets_init d_BadInterval_init d_Duplicate_init d_BadEdit_init d_Rejected_init d_BadText_init d_Unknown_init d_NoVersion_init t_LAST_POSITION t_MAX_TARGETS t_MAX_PIECES t_MAX_EDITS) : FnOk P w K mg base CX0 1 f_without_item d_without_item ["items", "item"] sp_without_item := by
  refine T.F_without_item.ok sc_without_item (fun vs H Q E h => ?_) (fun cdv A outer s H vs Q E hr h => ?_)
  · obtain ⟨a, t, us, ps, x, y, rfl, _⟩ := h
    rfl
  · obtain ⟨a, t, us, ps, x, y, rfl, ha, iv, few, ht, q⟩ := h
    have lu := iv.length
    refine ⟨_, (pss_one (ps_ret (pe_callTy call_tuple_of (by rfl) T.z_tuple (by decide +kernel) (pa_cons (pe_lc (own := [("other", 2)]) (g := (gName 2)) (by rfl) sc_without_item.nd (pi_tup (pv 0)) (blkOk_by (own := [("other", 2)]) (N := N_without_item) (sc := defScope s_without_item) (by decide +kernel)) (fun _ _ _ _ _ => (pg_name (i := 2) sc_without_item.nd rfl (Or.inl rfl))) (fun _ _ _ _ _ => pts_one (pt_cmpR (show OpR _ (compareOp .NotEq) (rNeD K) from (op_neD hr.units)) (pv 2) (pv 1) (nomark _))) (fun _ _ _ _ _ => (pv 2))) pa_nil)))), ?_⟩
    refine ⟨.ref a, rfl, a, rfl, ⟨_, SqT.of ha⟩, fun D nD => ?_⟩
    refine lcT (K := K) (a := a) (xs := us) (fun j H' ws => Ivs H' ws ((ps.take j).filter fun z => !decide (z = (x, y)))) nD (fun H' s => SqT.of (s _ _ ha)) (by omega) (fun _ _ _ _ t r => r.tps t) (fun j H' ws r => ?_) (fun _ => .nil) ?_ ?_
    · rw [r.length]
      exact Nat.le_trans (List.length_filter_le _ _) (List.length_take_le _ _)
    · rintro j z H' N acc hj sj eA sz r no yes
      obtain ⟨b, u, v, rfl, exy, hb⟩ := iv.get hj
      refine ⟨rfl, .ref b, rfl, .ref t, rfl, _, _, dp2 (sj _ _ hb), dp2 (sj _ _ ht), rfl, rfl, _, rfl, ?_⟩
      rw [eqv_pair]
      refine ite2 (fun c => ?_) (fun c => ?_)
      · refine ⟨.ref b, rfl, yes H' _ (Same.refl _) ?_⟩
        rw [take_filter exy, if_pos c]
        exact r.snoc (sj _ _ hb)
      · refine no H' (Same.refl _) ?_
        rw [take_filter exy, if_neg c, List.append_nil]
        exact r
    · intro H1 ws s1 eD r
      rw [lu, List.take_length] at r
      refine ⟨D, ws, rfl, .inl ⟨SqL.of eD, fun p np => ?_⟩⟩
      exact q _ p ws (s1.trans (same_new np)) upd_same (r.same (same_new np))

/-! ### for i, x in enumerate(t) -/
theorem for_enumT {K : PySem.W.Frag} {a : Addr} {xs : List V} {g : TG} {tb : TS} {D : Ends} {σ : L2.St} {H : Hp} (Pv : Nat → L2.St → Hp → Prop) (h0 : Pv 0 σ H) (hq : ∀ i σ H, Pv i σ H → SqT K H a xs)
    (hs : ∀ (i : Nat) (x : V) (t : Addr) (σ : L2.St) (H : Hp), xs[i]? = some x → Pv i σ H → H t = none → g (.ref t) σ (upd H t (.tup [.int (i : Nat), x])) fun σ2 H2 => tb { D with nx := Pv (i + 1), ct := Pv (i + 1), bk := D.nx } σ2 H2) (hd : ∀ σ H, Pv xs.length σ H → D.nx σ H) :
    ∃ W : Nat → Nat → L2.St → Hp → Prop, (∃ m, W 0 m σ H) ∧ ∀ i m σ H, W i m σ H →
      ((IteT K a xs.length).stop i H ∧ D.nx σ H) ∨ ((IteT K a xs.length).go i H ∧ ∃ N : L2.St → Hp → Prop, (∀ σ' H', N σ' H' → ∃ m', m' < m ∧ W (i + 1) m' σ' H') ∧ ∀ v H', (IteT K a xs.length).yld i H v H' → g v σ H' fun σ2 H2 => tb { D with nx := N, ct := N, bk := D.nx } σ2 H2) := by
  refine ⟨fun i m σ H => i + m = xs.length ∧ Pv i σ H, ⟨xs.length, by omega, h0⟩, ?_⟩
  rintro i m σ H ⟨im, p⟩
  have hx := hq i σ H p
  by_cases c : i < xs.length
  · refine .inr ⟨⟨xs, xs[i], hx, List.getElem?_eq_getElem c, rfl⟩, Pv (i + 1), fun σ' H' p' => ⟨m - 1, by omega, by omega, p'⟩, ?_⟩
    rintro v H' ⟨t, x, rfl, nt, rfl, at_⟩
    exact hs i x t σ H (at_ xs hx) p nt
  · refine .inl ⟨⟨xs, hx, rfl, by omega⟩, hd σ H ?_⟩
    have : i = xs.length := by omega
    rw [← this]
    exact p

theorem any_pair (x y : Int) : ∀ ps : List (Int × Int), ((ps.map pairD).any fun z => PyData.eqv z (.tuple [.int x, .int y])) = decide ((x, y) ∈ ps)
  | [] => rfl
  | q :: ps => by
    rw [List.map_cons, List.any_cons, any_pair x y ps]
    show (PyData.eqv (.tuple [.int q.1, .int q.2]) (.tuple [.int x, .int y]) || _) = _
    rw [eqv_pair, Bool.eq_iff_iff, Bool.or_eq_true, decide_eq_true_iff, decide_eq_true_iff, decide_eq_true_iff, List.mem_cons]
    exact ⟨fun h => h.imp (fun z => z.symm) id, fun h => h.imp (fun z => z.symm) id⟩

/-! ### a line of cells, intervals of whole cells -/
structure Cells (cs : List (Int × Int)) : Prop where
  ok : ∀ q ∈ cs, 0 ≤ q.1 ∧ q.1 ≤ q.2
  nxt : ∀ (i : Nat) (q r : Int × Int), cs[i]? = some q → cs[i + 1]? = some r → r.1 = q.2 + 1
theorem Cells.snoc {cs : List (Int × Int)} {low s : Int} (h : Cells cs) (last : ∀ q, cs[cs.length - 1]? = some q → low = q.2 + 1) (l0 : 0 ≤ low) (s1 : 1 ≤ s) : Cells (cs ++ [(low, low + s - 1)]) := by
  refine ⟨fun q hq => ?_, fun i q r h1 h2 => ?_⟩
  · rcases List.mem_append.mp hq with hq | hq
    · exact h.ok q hq
    · rw [List.mem_singleton.mp hq]
      exact ⟨l0, by show low ≤ low + s - 1; omega⟩
  · have il := (List.getElem?_eq_some_iff.mp h2).1
    rw [List.length_append] at il
    have il : i + 1 < cs.length + 1 := il
    rw [List.getElem?_append_left (by omega)] at h1
    rcases Nat.lt_or_ge (i + 1) cs.length with z | z
    · rw [List.getElem?_append_left z] at h2
      exact h.nxt i q r h1 h2
    · have e : i = cs.length - 1 := by omega
      rw [List.getElem?_append_right z, show i + 1 - cs.length = 0 by omega] at h2
      cases h2
      rw [e] at h1
      exact last q h1
theorem low3 {r : Int} (h0 : 0 ≤ r) (h1 : r < 3) : ∃ L : Int, atI [V.int 0, .int 3, .int ((10 : Int) ^ (6 : Int).toNat)] r = some (.int L) ∧ 0 ≤ L ∧ L ≤ 1000000 := by
  have : r = 0 ∨ r = 1 ∨ r = 2 := by omega
  rcases this with rfl | rfl | rfl
  · exact ⟨0, rfl, by decide, by decide⟩
  · exact ⟨3, rfl, by decide, by decide⟩
  · exact ⟨_, rfl, by decide, by decide⟩
theorem size5 {r : Int} (h0 : 0 ≤ r) (h1 : r < 5) : ∃ L : Int, atI [V.int 1, .int 1, .int 2, .int 5, .int ((10 : Int) ^ (11 : Int).toNat)] r = some (.int L) ∧ 1 ≤ L ∧ L ≤ 100000000000 := by
  have : r = 0 ∨ r = 1 ∨ r = 2 ∨ r = 3 ∨ r = 4 := by omega
  rcases this with rfl | rfl | rfl | rfl | rfl
  · exact ⟨1, rfl, by decide, by decide⟩
  · exact ⟨1, rfl, by decide, by decide⟩
  · exact ⟨2, rfl, by decide, by decide⟩
  · exact ⟨5, rfl, by decide, by decide⟩
  · exact ⟨_, rfl, by decide, by decide⟩
def sp_law_line : Sp := fun vs H Q _ => ∃ (d : Addr) (c : Addr) (n most : Int), vs = [.ref d, .int most] ∧ Dk H d c n ∧ 0 ≤ n ∧ n < 900000 ∧ 1 ≤ most ∧ most ≤ 9 ∧
  ∀ H' l us cs m, Kp d c H H' → Dk H' d c m → n ≤ m → m ≤ n + 2 + most → H' l = some (.lst us) → Ivs H' us cs → Cells cs → 0 < cs.length → (cs.length : Int) ≤ most → (∀ q ∈ cs, q.2 < 1000000 + 100000000000 * most) → Off d c l → Q (.ref l) H'
theorem ok_law_line (T : Tx K mg f_is_number f_is_position f_is_tuple_of f_is_interval f_ascending_error f_targets_error f_is_pieces f_without_item f_with_interval f_without_interval f_edited_state f_law_deck f_law_draw f_law_line f_law_interval f_law_intervals f_law_edit f_law_after f_law_do f_law_begun f_law_flags f_law_errors_right f_law_edited f_law f_Plan_init f_Plan_add_target f_Plan_add_piece f_Plan_remove_target f_Plan_remove_piece f_Plan_undo f_Plan_targets f_Plan_pieces f_Plan_edits f_Plan_edit f_Plan_record f_Plan_require_idle f_Plan_state_at f_Plan_len f_Plan_eq f_TooWide_init f_NotGenerated_init f_TooMany_init f_BadTargets_init f_BadInterval_init f_Duplicate_init f_BadEdit_init f_Rejected_init f_BadText_init f_Unknown_init f_NoVersion_init C_Plan X_TooWide X_NotGenerated X_TooMany X_BadTargets X_BadInterval X_Duplicate X_BadEdit X_Rejected X_BadText X_Unknown X_NoVersion X_OutOfRange X_SpanError X_BadPieces X_TooManyEdits X_NothingToUndo X_BadEdits X_Busy d_is_number d_is_position d_is_tuple_of d_is_interval d_ascending_error d_targets_error d_is_pieces d_without_item d_with_interval d_without_interval d_edited_state d_law_deck d_law_draw d_law_line d_law_interval d_law_intervals d_law_edit d_law_after d_law_do d_law_begun d_law_flags d_law_errors_right d_law_edited d_law d_Plan_init d_Plan_add_target d_Plan_add_piece d_Plan_remove_target d_Plan_remove_piece d_Plan_undo d_Plan_targets d_Plan_pieces d_Plan_edits d_Plan_edit d_Plan_record d_Plan_require_idle d_Plan_state_at d_Plan_len d_Plan_eq d_TooWide_init d_NotGenerated_init d_TooMany_init d_BadTargets_init d_BadInterval_init d_Duplicate_init d_BadEdit_init d_Rejected_init d_BadText_init d_Unknown_init d_NoVersion_init t_LAST_POSITION t_MAX_TARGETS t_MAX_PIECES t_MAX_EDITS) : FnOk P w K mg base CX0 2 f_law_line d_law_line ["_law_deck_here", "_law_most"] sp_law_line := by
  refine T.F_law_line.ok sc_law_line (fun vs H Q E h => ?_) (fun cdv A outer s H vs Q E hr h => ?_)
  · obtain ⟨d, c, n, most, rfl, _⟩ := h
    rfl
  · obtain ⟨d, c, n, most, rfl, dk, n0, n1, m0, m1, q⟩ := h
    refine ⟨_, (pss_cons (ps_set (i := 2) sc_law_line.nd rfl (Or.inl rfl) (pe_ix ix_list (pe_lst (pa_cons pe_int (pa_cons pe_int (pa_cons (pe_op op_pow pe_int pe_int) pa_nil)))) (pe_call (ok_law_draw T) (hr.mono (by decide)) (by rfl) T.g_law_draw T.F_law_draw.kp T.b_law_draw .nil pass0 (pa_cons (pv 0) (pa_cons pe_int pa_nil))) (fun _ _ => rfl)))
      (pss_cons (ps_set (i := 3) sc_law_line.nd rfl (Or.inl rfl) (pe_lst pa_nil))
      (pss_cons (ps_for PassesOwn.never rfl (pi_range1 (by rfl) T.z_range (pa_cons (pe_op op_add pe_int (pe_call (ok_law_draw T) (hr.mono (by decide)) (by rfl) T.g_law_draw T.F_law_draw.kp T.b_law_draw .nil pass0 (pa_cons (pv 0) (pa_cons (pv 1) pa_nil)))) pa_nil)) (pg_name (i := 4) sc_law_line.nd rfl (Or.inl rfl))
      (pss_cons (ps_set (i := 5) sc_law_line.nd rfl (Or.inl rfl) (pe_ix ix_list (pe_lst (pa_cons pe_int (pa_cons pe_int (pa_cons pe_int (pa_cons pe_int (pa_cons (pe_op op_pow pe_int pe_int) pa_nil)))))) (pe_call (ok_law_draw T) (hr.mono (by decide)) (by rfl) T.g_law_draw T.F_law_draw.kp T.b_law_draw .nil pass0 (pa_cons (pv 0) (pa_cons pe_int pa_nil))) (fun _ _ => rfl)))
      (pss_cons (ps_expr (pe_bm PySem.F.plainAttrs_list PySem.F.slot_list_append PySem.F.type_list_append mt_append (pv 3) (pa_cons (pe_tup (pa_cons (pv 2) (pa_cons (pe_op op_sub (pe_op op_add (pv 2) (pv 5)) pe_int) pa_nil))) pa_nil)))
      (pss_one (ps_set (i := 2) sc_law_line.nd rfl (Or.inl rfl) (pe_op op_add (pv 2) (pv 5)))))))
      (pss_one (ps_ret (pv 3)))))), ?_⟩
    refine ⟨10, 6, rfl, rfl, ⟨by decide, by decide, by decide⟩, by show 3 ≤ sizeLine; decide, fun p np => ?_⟩
    have off := dk.off np
    refine ⟨.ref d, rfl, d, c, _, 3, rfl, dk.kept (same_new np), by omega, by omega, by decide, by decide, fun H2 r2 kp2 dk2 a0 a1 => ?_⟩
    obtain ⟨L0, eL0, hL0, hL1⟩ := low3 a0 a1
    refine ⟨p, _, r2, _, rfl, rfl, SqL.of (kp2.keep off upd_same), eL0, ?_⟩
    have kp02 : Kp d c H H2 := (Kp.same (same_new np)).trans kp2
    refine ⟨by show 0 ≤ sizeLine; decide, fun l nl => ?_⟩
    have offl := dk2.off nl
    have nl0 : H l = none := kp02.none dk dk2 nl
    refine ⟨.ref d, rfl, .int most, rfl, d, c, _, most, rfl, dk2.kept (same_new nl), by omega, by omega, by omega, by omega, fun H3 r3 kp3 dk3 b0 b1 => ?_⟩
    have el3 := kp3.keep offl upd_same
    have kp03 : Kp d c H H3 := kp02.trans ((Kp.same (same_new nl)).trans kp3)
    refine ⟨_, _, rfl, rfl, 1 + r3, rfl, by omega, by omega, for_range (n := (1 + r3).toNat) (fun i σ H' => (Kp d c H H' ∧ Dk H' d c (n + 2 + i)) ∧ (∃ (us : List V) (cs : List (Int × Int)) (low : Int), H' l = some (.lst us) ∧ Ivs H' us cs ∧ cs.length = i ∧ Cells cs ∧ (∀ q, cs[cs.length - 1]? = some q → low = q.2 + 1) ∧ (0 ≤ low ∧ low ≤ 1000000 + 100000000000 * i) ∧ (∀ q ∈ cs, q.2 < 1000000 + 100000000000 * i) ∧ ∃ y4 y5, σ = [some (.ref d), some (.int most), some (.int low), some (.ref l), y4, y5]))
      ⟨⟨kp03, dk3.eq (by simp; omega)⟩, [], [], L0, el3, .nil, rfl, ⟨(fun q hq => nomatch hq), (fun i q r h1 _ => by simp at h1)⟩, (fun q h => by simp at h), ⟨by omega, by omega⟩, (fun q hq => nomatch hq), _, _, rfl⟩ ?_ ?_⟩
    · rintro i σ H4 hi ⟨⟨kp4, dk4⟩, us, cs, low, el, iv, cl, cells, last, ⟨lo0, lo1⟩, topc, y4, y5, rfl⟩
      have i9 : i < 9 := by omega
      refine ⟨10, 11, rfl, rfl, ⟨by decide, by decide, by decide⟩, by show 5 ≤ sizeLine; decide, fun p5 np5 => ?_⟩
      have off5 := dk4.off np5
      refine ⟨.ref d, rfl, d, c, _, 5, rfl, dk4.kept (same_new np5), by omega, by omega, by decide, by decide, fun H5 r5 kp5 dk5 c0 c1 => ?_⟩
      obtain ⟨S, eS, hS0, hS1⟩ := size5 c0 c1
      refine ⟨p5, _, r5, _, rfl, rfl, SqL.of (kp5.keep off5 upd_same), eS, ?_⟩
      have kp45 : Kp d c H4 H5 := (Kp.same (same_new np5)).trans kp5
      have el5 := kp45.keep offl el
      have iv5 := iv.tps (kp45.tps dk4)
      refine ⟨.ref l, rfl, .inl ⟨rfl, _, SqL.of el5⟩, .int low, rfl, .int low, rfl, .int S, rfl, _, _, rfl, rfl, _, _, rfl, rfl, by show 2 ≤ sizeLine; decide, fun t nt => ?_⟩
      have s6 := same_new (o := .tup [.int low, .int (low + S - 1)]) nt
      have et := upd_same (H := H5) (a := t) (o := .tup [.int low, .int (low + S - 1)])
      generalize upd H5 t (.tup [.int low, .int (low + S - 1)]) = H6 at *
      have el6 := s6 _ _ el5
      refine ⟨l, _, _, rfl, rfl, el6, by rw [iv.length]; exact small1000 (by omega), ?_⟩
      refine ⟨.int low, rfl, .int S, rfl, _, _, rfl, rfl, ⟨?_, ?_⟩, us ++ [.ref t], cs ++ [(low, low + S - 1)], low + S, upd_same, ?_, by rw [List.length_append, cl]; rfl, cells.snoc last lo0 hS0, fun q h => ?_, ⟨by omega, by omega⟩, fun q hq => ?_, _, _, rfl⟩
      · intro b o n1 n2 e
        rw [upd_ne (ne_of_none e nl0)]
        exact s6 _ _ (kp45 b o n1 n2 (kp4 b o n1 n2 e))
      · exact ((dk5.kept s6).upd offl).eq (by omega)
      · exact ((iv5.same s6).snoc et).tps (Tps.lst el6)
      · rw [List.length_append, show cs.length + [(low, low + S - 1)].length - 1 = cs.length from rfl, List.getElem?_append_right (Nat.le_refl _), Nat.sub_self] at h
        cases h
        show low + S = low + S - 1 + 1
        omega
      · rcases List.mem_append.mp hq with hq | hq
        · have := topc q hq
          omega
        · rw [List.mem_singleton.mp hq]
          show low + S - 1 < _
          omega
    · rintro σ H4 ⟨⟨kp4, dk4⟩, us, cs, low, el, iv, cl, cells, last, ⟨lo0, lo1⟩, topc, y4, y5, rfl⟩
      refine ⟨.ref l, rfl, q H4 l us cs _ kp4 dk4 (by omega) (by omega) el iv cells (by omega) (by omega) (fun z hz => ?_) offl⟩
      have := topc z hz
      omega
/-- an interval of whole cells -/
def OfCells (cs : List (Int × Int)) (q : Int × Int) : Prop := ∃ (i j : Nat) (a b : Int × Int), i ≤ j ∧ cs[i]? = some a ∧ cs[j]? = some b ∧ q.1 = a.1 ∧ q.2 = b.2
theorem Cells.mono {cs : List (Int × Int)} (h : Cells cs) {i : Nat} {a : Int × Int} (ha : cs[i]? = some a) : ∀ (k : Nat) (b : Int × Int), cs[i + k]? = some b → a.1 ≤ b.1 ∧ a.2 ≤ b.2
  | 0, b, hb => by
    rw [Nat.add_zero, ha] at hb
    cases hb
    exact ⟨Int.le_refl _, Int.le_refl _⟩
  | k + 1, b, hb => by
    have il := (List.getElem?_eq_some_iff.mp hb).1
    have e := List.getElem?_eq_getElem (l := cs) (i := i + k) (by omega)
    have ih := h.mono ha k _ e
    have n := h.nxt (i + k) _ b e hb
    have o1 := h.ok _ (List.mem_of_getElem? e)
    have o2 := h.ok b (List.mem_of_getElem? hb)
    generalize cs[i + k] = z at *
    omega
theorem OfCells.ok {cs : List (Int × Int)} (h : Cells cs) {q : Int × Int} (o : OfCells cs q) {m : Int} (top : ∀ z ∈ cs, z.2 < m) : 0 ≤ q.1 ∧ q.1 ≤ q.2 ∧ q.2 < m := by
  obtain ⟨i, j, a, b, ij, ha, hb, e1, e2⟩ := o
  obtain ⟨k, rfl⟩ := Nat.le.dest ij
  have m := h.mono ha k b hb
  have oa := h.ok a (List.mem_of_getElem? ha)
  have tb := top b (List.mem_of_getElem? hb)
  omega
def sp_law_interval : Sp := fun vs H Q _ => ∃ (d : Addr) (c : Addr) (n : Int) (l : Addr) (us : List V) (cs : List (Int × Int)), vs = [.ref d, .ref l] ∧ Dk H d c n ∧ 0 ≤ n ∧ n < 990000 ∧ Off d c l ∧ H l = some (.lst us) ∧ Ivs H us cs ∧ 0 < cs.length ∧ cs.length ≤ 9 ∧
  ∀ H' p x y, Kp d c H H' → Dk H' d c (n + 2) → H' p = some (.tup [.int x, .int y]) → OfCells cs (x, y) → Q (.ref p) H'
theorem ok_law_interval (T : Tx K mg f_is_number f_is_position f_is_tuple_of f_is_interval f_ascending_error f_targets_error f_is_pieces f_without_item f_with_interval f_without_interval f_edited_state f_law_deck f_law_draw f_law_line f_law_interval f_law_intervals f_law_edit f_law_after f_law_do f_law_begun f_law_flags f_law_errors_right f_law_edited f_law f_Plan_init f_Plan_add_target f_Plan_add_piece f_Plan_remove_target f_Plan_remove_piece f_Plan_undo f_Plan_targets f_Plan_pieces f_Plan_edits f_Plan_edit f_Plan_record f_Plan_require_idle f_Plan_state_at f_Plan_len f_Plan_eq f_TooWide_init f_NotGenerated_init f_TooMany_init f_BadTargets_init f_BadInterval_init f_Duplicate_init f_BadEdit_init f_Rejected_init f_BadText_init f_Unknown_init f_NoVersion_init C_Plan X_TooWide X_NotGenerated X_TooMany X_BadTargets X_BadInterval X_Duplicate X_BadEdit X_Rejected X_BadText X_Unknown X_NoVersion X_OutOfRange X_SpanError X_BadPieces X_TooManyEdits X_NothingToUndo X_BadEdits X_Busy d_is_number d_is_position d_is_tuple_of d_is_interval d_ascending_error d_targets_error d_is_pieces d_without_item d_with_interval d_without_interval d_edited_state d_law_deck d_law_draw d_law_line d_law_interval d_law_intervals d_law_edit d_law_after d_law_do d_law_begun d_law_flags d_law_errors_right d_law_edited d_law d_Plan_init d_Plan_add_target d_Plan_add_piece d_Plan_remove_target d_Plan_remove_piece d_Plan_undo d_Plan_targets d_Plan_pieces d_Plan_edits d_Plan_edit d_Plan_record d_Plan_require_idle d_Plan_state_at d_Plan_len d_Plan_eq d_TooWide_init d_NotGenerated_init d_TooMany_init d_BadTargets_init d_BadInterval_init d_Duplicate_init d_BadEdit_init d_Rejected_init d_BadText_init d_Unknown_init d_NoVersion_init t_LAST_POSITION t_MAX_TARGETS t_MAX_PIECES t_MAX_EDITS) : FnOk P w K mg base CX0 2 f_law_interval d_law_interval ["_law_deck_here", "_law_line_here"] sp_law_interval := by
  refine T.F_law_interval.ok sc_law_interval (fun vs H Q E h => ?_) (fun cdv A outer s H vs Q E hr h => ?_)
  · obtain ⟨d, c, n, l, us, cs, rfl, _⟩ := h
    rfl
  · obtain ⟨d, c, n, l, us, cs, rfl, dk, n0, n1, off, el, iv, l0, l1, q⟩ := h
    refine ⟨_, (pss_cons (ps_asg (pe_callB cr_sortedI (by rfl) T.z_sorted (by decide +kernel) (pa_cons (pe_lst (pa_cons (pe_call (ok_law_draw T) (hr.mono (by decide)) (by rfl) T.g_law_draw T.F_law_draw.kp T.b_law_draw .nil pass0 (pa_cons (pv 0) (pa_cons (pe_callB call_len_seq (by rfl) T.z_len PySem.boot_len (pa_cons (pv 1) pa_nil)) pa_nil))) (pa_cons (pe_call (ok_law_draw T) (hr.mono (by decide)) (by rfl) T.g_law_draw T.F_law_draw.kp T.b_law_draw .nil pass0 (pa_cons (pv 0) (pa_cons (pe_callB call_len_seq (by rfl) T.z_len PySem.boot_len (pa_cons (pv 1) pa_nil)) pa_nil))) pa_nil))) pa_nil)) (pg_unl rfl (pgs_cons (pg_name (i := 2) sc_law_interval.nd rfl (Or.inl rfl)) (pgs_cons (pg_name (i := 3) sc_law_interval.nd rfl (Or.inl rfl)) pgs_nil))))
      (pss_one (ps_ret (pe_tup (pa_cons (pe_ix ix_tup (pe_ix ix_list (pv 1) (pv 2) (fun _ _ => rfl)) pe_int (fun _ _ => rfl)) (pa_cons (pe_ix ix_tup (pe_ix ix_list (pv 1) (pv 3) (fun _ _ => rfl)) pe_int (fun _ _ => rfl)) pa_nil)))))), ?_⟩
    have lu := iv.length
    refine ⟨.ref d, rfl, .ref l, rfl, l, us, rfl, .inl (SqL.of el), d, c, n, (us.length : Int), rfl, dk, n0, by omega, by omega, by omega, fun H1 r1 kp1 dk1 a0 a1 => ?_⟩
    have el1 := kp1.keep off el
    refine ⟨.ref d, rfl, .ref l, rfl, l, us, rfl, .inl (SqL.of el1), d, c, n + 1, (us.length : Int), rfl, dk1, by omega, by omega, by omega, by omega, fun H2 r2 kp2 dk2 b0 b1 => ?_⟩
    have el2 := kp2.keep off el1
    have iv2 := iv.tps ((kp1.trans kp2).tps dk)
    refine ⟨by show 2 ≤ sizeLine; decide, fun p np => ?_⟩
    have s3 := same_new (o := .lst [.int r1, .int r2]) np
    have ep := upd_same (H := H2) (a := p) (o := .lst [.int r1, .int r2])
    generalize upd H2 p (.lst [.int r1, .int r2]) = H3 at *
    dsimp only [tNil]
    refine ⟨p, [r1, r2], rfl, SqL.of ep, fun ms p2 pm srt np2 => ?_⟩
    have s4 := same_new (o := .lst (ms.map V.int)) np2
    have ep2 := upd_same (H := H3) (a := p2) (o := .lst (ms.map V.int))
    generalize upd H3 p2 (.lst (ms.map V.int)) = H4 at *
    have s24 := s3.trans s4
    obtain ⟨i, j, rfl, ij, jl⟩ : ∃ i j : Nat, ms = [(i : Int), (j : Int)] ∧ i ≤ j ∧ j < cs.length := by
      have lm := pm.length_eq
      match ms, lm, srt, pm with
      | [x, y], _, srt, pm =>
        have xy : x ≤ y := (List.pairwise_cons.mp srt).1 y List.mem_cons_self
        have bx : ∀ z ∈ [x, y], 0 ≤ z ∧ z < (us.length : Int) := fun z hz => by
          have := pm.mem_iff.mp hz
          rcases List.mem_cons.mp this with rfl | this
          · exact ⟨a0, a1⟩
          · rw [List.mem_singleton.mp this]
            exact ⟨b0, b1⟩
        have x0 := bx x List.mem_cons_self
        have y0 := bx y (List.mem_cons_of_mem _ List.mem_cons_self)
        exact ⟨x.toNat, y.toNat, by rw [Int.toNat_of_nonneg x0.1, Int.toNat_of_nonneg y0.1], by omega, by omega⟩
    refine ⟨p2, _, rfl, SqL.of ep2, rfl, .int i, [.int j], rfl, .int j, [], rfl, rfl, ?_⟩
    have el4 := s24 _ _ el2
    have iv4 := iv2.same s24
    have ui := List.getElem?_eq_getElem (l := us) (i := i) (by omega)
    have uj := List.getElem?_eq_getElem (l := us) (i := j) (by omega)
    obtain ⟨ai, xi, yi, ei, ci, hi⟩ := iv4.get ui
    obtain ⟨aj, xj, yj, ej, cj, hj⟩ := iv4.get uj
    refine ⟨.ref l, rfl, .int i, rfl, l, us, (i : Int), .ref ai, rfl, rfl, SqL.of el4, (by rw [← ei]; exact atI_nat ui), ai, _, 0, .int xi, rfl, rfl, SqT.of hi, rfl, .ref l, rfl, .int j, rfl, l, us, (j : Int), .ref aj, rfl, rfl, SqL.of el4, (by rw [← ej]; exact atI_nat uj), aj, _, 1, .int yj, rfl, rfl, SqT.of hj, rfl, by show 2 ≤ sizeLine; decide, fun t nt => ?_⟩
    have s5 := same_new (o := .tup [.int xi, .int yj]) nt
    exact q _ t xi yj ((kp1.trans kp2).trans (Kp.same (s24.trans s5))) ((dk2.kept (s24.trans s5)).eq (by omega)) upd_same ⟨i, j, (xi, yi), (xj, yj), ij, ci, cj, rfl, rfl⟩
def sp_law_intervals : Sp := fun vs H Q _ => ∃ (d : Addr) (c : Addr) (n : Int) (l : Addr) (us : List V) (cs : List (Int × Int)) (most : Int), vs = [.ref d, .ref l, .int most] ∧ Dk H d c n ∧ 0 ≤ n ∧ n < 900000 ∧ Off d c l ∧ H l = some (.lst us) ∧ Ivs H us cs ∧ Cells cs ∧ 0 < cs.length ∧ cs.length ≤ 9 ∧ (∀ q ∈ cs, q.2 < 1000000000000) ∧ 0 ≤ most ∧ most ≤ 30 ∧
  ∀ H' t ws ps m, Kp d c H H' → Dk H' d c m → n ≤ m → m ≤ n + 1 + 2 * most → H' t = some (.tup ws) → Ivs H' ws ps → ps.Pairwise ltP → (∀ q ∈ ps, OfCells cs q) → (ps.length : Int) ≤ most → Q (.ref t) H'
theorem ltP_nd6 {ps : List (Int × Int)} (h : ps.Pairwise ltP) : ps.Nodup := h.imp fun {a b} h e => by
  subst e
  rcases h with h | h <;> omega
theorem ok_law_intervals (T : Tx K mg f_is_number f_is_position f_is_tuple_of f_is_interval f_ascending_error f_targets_error f_is_pieces f_without_item f_with_interval f_without_interval f_edited_state f_law_deck f_law_draw f_law_line f_law_interval f_law_intervals f_law_edit f_law_after f_law_do f_law_begun f_law_flags f_law_errors_right f_law_edited f_law f_Plan_init f_Plan_add_target f_Plan_add_piece f_Plan_remove_target f_Plan_remove_piece f_Plan_undo f_Plan_targets f_Plan_pieces f_Plan_edits f_Plan_edit f_Plan_record f_Plan_require_idle f_Plan_state_at f_Plan_len f_Plan_eq f_TooWide_init f_NotGenerated_init f_TooMany_init f_BadTargets_init f_BadInterval_init f_Duplicate_init f_BadEdit_init f_Rejected_init f_BadText_init f_Unknown_init f_NoVersion_init C_Plan X_TooWide X_NotGenerated X_TooMany X_BadTargets X_BadInterval X_Duplicate X_BadEdit X_Rejected X_BadText X_Unknown X_NoVersion X_OutOfRange X_SpanError X_BadPieces X_TooManyEdits X_NothingToUndo X_BadEdits X_Busy d_is_number d_is_position d_is_tuple_of d_is_interval d_ascending_error d_targets_error d_is_pieces d_without_item d_with_interval d_without_interval d_edited_state d_law_deck d_law_draw d_law_line d_law_interval d_law_intervals d_law_edit d_law_after d_law_do d_law_begun d_law_flags d_law_errors_right d_law_edited d_law d_Plan_init d_Plan_add_target d_Plan_add_piece d_Plan_remove_target d_Plan_remove_piece d_Plan_undo d_Plan_targets d_Plan_pieces d_Plan_edits d_Plan_edit d_Plan_record d_Plan_require_idle d_Plan_state_at d_Plan_len d_Plan_eq d_TooWide_init d_NotGenerated_init d_TooMany_init d_BadTargets_init d_BadInterval_init d_Duplicate_init d_BadEdit_init d_Rejected_init d_BadText_init d_Unknown_init d_NoVersion_init t_LAST_POSITION t_MAX_TARGETS t_MAX_PIECES t_MAX_EDITS) : FnOk P w K mg base CX0 3 f_law_intervals d_law_intervals ["_law_deck_here", "_law_line_here", "_law_most"] sp_law_intervals := by
  refine T.F_law_intervals.ok sc_law_intervals (fun vs H Q E h => ?_) (fun cdv A outer s H vs Q E hr h => ?_)
  · obtain ⟨d, c, n, l, us, cs, most, rfl, _⟩ := h
    rfl
  · obtain ⟨d, c, n, l, us, cs, most, rfl, dk, n0, n1, off, el, iv, cells, l0, l1, top, m0, m1, q⟩ := h
    refine ⟨_, (pss_cons (ps_setLc (i := 3) (own := [("_law_k", 4)]) (g := (gName 4)) (tt := tYes) (by rfl) sc_law_intervals.nd rfl rfl (sw_true rfl rfl rfl (by decide +kernel)) (pi_range1 (by rfl) T.z_range (pa_cons (pe_call (ok_law_draw T) (hr.mono (by decide)) (by rfl) T.g_law_draw T.F_law_draw.kp T.b_law_draw .nil pass0 (pa_cons (pv 0) (pa_cons (pe_op op_add (pv 2) pe_int) pa_nil))) pa_nil)) (blkOk_by (own := [("_law_k", 4)]) (N := N_law_intervals) (sc := defScope s_law_intervals) (by decide +kernel)) (fun _ _ _ _ _ => (pg_name (i := 4) sc_law_intervals.nd rfl (Or.inl rfl))) (fun _ _ _ _ _ => pts_nil) (fun _ _ _ _ _ => (pe_call (ok_law_interval T) (hr.mono (by decide)) (by rfl) T.g_law_interval T.F_law_interval.kp T.b_law_interval .nil pass0 (pa_cons (pv 0) (pa_cons (pv 1) pa_nil)))))
      (pss_one (ps_ret (pe_callTy call_tuple_of (by rfl) T.z_tuple (by decide +kernel) (pa_cons (pe_callB (cr_sortedT rfl) (by rfl) T.z_sorted (by decide +kernel) (pa_cons (pe_callTy (cr_setOfT rfl hr.units) (by rfl) T.z_set (by decide +kernel) (pa_cons (pv 3) pa_nil)) pa_nil)) pa_nil))))), ?_⟩
    refine ⟨.ref d, rfl, .int most, rfl, _, _, rfl, rfl, d, c, n, most + 1, rfl, dk, n0, by omega, by omega, by omega, fun H1 r kp1 dk1 r0 r1 => ?_⟩
    refine ⟨r, rfl, by omega, by omega, fun D nD => ?_⟩
    have el1 := kp1.keep off el
    have iv1 := iv.tps (kp1.tps dk)
    refine lcK (per := 2) (lo := 0) (n := r.toNat) (fun j H' ws => ∃ ps, Ivs H' ws ps ∧ ps.length = j ∧ ∀ z ∈ ps, OfCells cs z) nD dk1 (by omega) (fun _ _ _ _ t ⟨ps, h1, h2⟩ => ⟨ps, h1.tps t, h2⟩) (fun j H' ws ⟨ps, h1, h2, _⟩ => by rw [h1.length, h2]; exact Nat.le_refl _) (fun _ => ⟨[], .nil, rfl, fun z hz => nomatch hz⟩) ?_ ?_
    · rintro k H5 N acc hk kp5 dk5 eD ⟨ps, h1, h2, h3⟩ yes
      refine ⟨rfl, .ref d, rfl, .ref l, rfl, d, c, _, l, us, cs, rfl, dk5, by omega, by omega, off, kp5.keep off el1, iv1.tps (kp5.tps dk1), l0, l1, fun H6 p x y kp6 dk6 ep oc => ?_⟩
      refine yes H6 _ kp6 dk6 ⟨ps ++ [(x, y)], (h1.tps (kp6.tps dk5)).snoc ep, by rw [List.length_append, h2]; rfl, fun z hz => ?_⟩
      rcases List.mem_append.mp hz with hz | hz
      · exact h3 z hz
      · rw [List.mem_singleton.mp hz]
        exact oc
    rintro H5 ws kp5 dk5 eD ⟨ps, ivp, pl, oc⟩
    refine ⟨.ref D, rfl, ?_⟩
    dsimp only [tNil]
    refine sorted_set_pairs (SqL.of eD) ivp (by omega) (fun z hz => ?_) (fun H6 p us' ps' s6 np ep iv' asc mem => ?_)
    · have := (oc z hz).ok cells top
      have : z.2 < 10000000000000 := by omega
      exact ⟨⟨by omega, by show z.1 < 10000000000000; omega⟩, by omega, this⟩
    refine ⟨p, us', rfl, .inl ⟨SqL.of ep, fun t nt => ?_⟩⟩
    have s7 := same_new (o := .tup us') nt
    have nd := nodup_le (ltP_nd6 asc) fun z hz => (mem z).mp hz
    exact q _ t us' ps' _ (kp1.trans (kp5.trans (Kp.same (s6.trans s7)))) (dk5.kept (s6.trans s7)) (by omega) (by omega) upd_same (iv'.same s7) asc (fun z hz => oc z ((mem z).mp hz)) (by omega)

/-! ### what a value is -/
def tyD : PyData → String
  | .none => "NoneType"
  | .bool _ => "bool"
  | .int _ => "int"
  | .str _ => "str"
  | .list _ => "list"
  | .tuple _ => "tuple"
  | .dict _ => "dict"
theorem Dv.ty {K : PySem.W.Frag} {H : Hp} {v : V} {d : PyData} (h : Dv K H v d) : TyX K H v (.type (tyD d)) := by
  cases h with
  | non => exact .base .non
  | bl b => exact .base (.bl b)
  | int i => exact .base (.int i)
  | str x => exact .base (.str x)
  | lst e _ => exact .base (.lst e)
  | tup e _ => exact .base (.tup e)
  | dic e _ => exact .base (.dK e)
def intB : PyData → Bool
  | .bool _ => true
  | .int _ => true
  | _ => false
def boolB : PyData → Bool
  | .bool _ => true
  | _ => false
def tupB : PyData → Bool
  | .tuple _ => true
  | _ => false
theorem kit_int {K : PySem.W.Frag} (d : PyData) : PySem.W.kitOne K (.type (tyD d)) (.type "int") = some (intB d) := by
  cases d with
  | none => exact kit_ty (a := "NoneType") (b := "int") (r := false) (by decide +kernel)
  | bool _ => exact kit_ty (a := "bool") (b := "int") (r := true) (by decide +kernel)
  | int _ => exact kit_ty (a := "int") (b := "int") (r := true) (by decide +kernel)
  | str _ => exact kit_ty (a := "str") (b := "int") (r := false) (by decide +kernel)
  | list _ => exact kit_ty (a := "list") (b := "int") (r := false) (by decide +kernel)
  | tuple _ => exact kit_ty (a := "tuple") (b := "int") (r := false) (by decide +kernel)
  | dict _ => exact kit_ty (a := "dict") (b := "int") (r := false) (by decide +kernel)
theorem kit_bool {K : PySem.W.Frag} (d : PyData) : PySem.W.kitOne K (.type (tyD d)) (.type "bool") = some (boolB d) := by
  cases d with
  | none => exact kit_ty (a := "NoneType") (b := "bool") (r := false) (by decide +kernel)
  | bool _ => exact kit_ty (a := "bool") (b := "bool") (r := true) (by decide +kernel)
  | int _ => exact kit_ty (a := "int") (b := "bool") (r := false) (by decide +kernel)
  | str _ => exact kit_ty (a := "str") (b := "bool") (r := false) (by decide +kernel)
  | list _ => exact kit_ty (a := "list") (b := "bool") (r := false) (by decide +kernel)
  | tuple _ => exact kit_ty (a := "tuple") (b := "bool") (r := false) (by decide +kernel)
  | dict _ => exact kit_ty (a := "dict") (b := "bool") (r := false) (by decide +kernel)
theorem kit_tup {K : PySem.W.Frag} (d : PyData) : PySem.W.kitOne K (.type (tyD d)) (.type "tuple") = some (tupB d) := by
  cases d with
  | none => exact kit_ty (a := "NoneType") (b := "tuple") (r := false) (by decide +kernel)
  | bool _ => exact kit_ty (a := "bool") (b := "tuple") (r := false) (by decide +kernel)
  | int _ => exact kit_ty (a := "int") (b := "tuple") (r := false) (by decide +kernel)
  | str _ => exact kit_ty (a := "str") (b := "tuple") (r := false) (by decide +kernel)
  | list _ => exact kit_ty (a := "list") (b := "tuple") (r := false) (by decide +kernel)
  | tuple _ => exact kit_ty (a := "tuple") (b := "tuple") (r := true) (by decide +kernel)
  | dict _ => exact kit_ty (a := "dict") (b := "tuple") (r := false) (by decide +kernel)
def inB (lo hi : Int) : PyData → Bool
  | .int i => decide (lo ≤ i) && decide (i ≤ hi)
  | _ => false
def leB : PyData → PyData → Bool
  | .int x, .int y => decide (x ≤ y)
  | _, _ => false
def ivB : PyData → Bool
  | .tuple [a, b] => inB 0 1000000000000 a && (inB 0 1000000000000 b && leB a b)
  | _ => false
theorem Dv.asInt {K : PySem.W.Frag} {H : Hp} {v : V} {i : Int} (h : Dv K H v (.int i)) : v = .int i := by
  cases h
  rfl
theorem dv_same {K : PySem.W.Frag} {H H' : Hp} (s : Same H H') {v : V} {d : PyData} (h : Dv K H v d) : Dv K H' v d :=
  Dv.rec (K := K) (H := H) (motive_1 := fun v d _ => Dv K H' v d) (motive_2 := fun vs ds _ => DvAll K H' vs ds) .non (fun b => .bl b) (fun i => .int i) (fun x => .str x) (fun e _ q => .lst (s _ _ e) q) (fun e _ q => .tup (s _ _ e) q) (fun e _ q => .dic (s _ _ e) q) .nil (fun _ _ a b => .cons a b) h
theorem dvAll_same {K : PySem.W.Frag} {H H' : Hp} (s : Same H H') : ∀ {vs : List V} {ds : List PyData}, DvAll K H vs ds → DvAll K H' vs ds
  | _, _, .nil => .nil
  | _, _, .cons a b => .cons (dv_same s a) (dvAll_same s b)
theorem DvAll.get {K : PySem.W.Frag} {H : Hp} : ∀ {vs : List V} {ds : List PyData}, DvAll K H vs ds → ∀ {i : Nat} {v : V}, vs[i]? = some v → ∃ d, ds[i]? = some d ∧ Dv K H v d
  | _, _, .nil, _, _, e => by simp at e
  | _, _, .cons a b, 0, _, e => by
    cases e
    exact ⟨_, rfl, a⟩
  | _, _, .cons a b, i + 1, _, e => b.get (i := i) e
theorem DvAll.append {K : PySem.W.Frag} {H : Hp} : ∀ {vs us : List V} {ds es : List PyData}, DvAll K H vs ds → DvAll K H us es → DvAll K H (vs ++ us) (ds ++ es)
  | _, _, _, _, .nil, h => h
  | _, _, _, _, .cons a b, h => .cons a (b.append h)
theorem Dv.dp {K : PySem.W.Frag} {H : Hp} {v : V} {d : PyData} (h : Dv K H v d) : d.canLay0 = true → Dp K H v d := by
  refine Dv.rec (K := K) (H := H) (motive_1 := fun v d _ => d.canLay0 = true → Dp K H v d) (motive_2 := fun vs ds _ => PyData.canLayAll0 ds = true → DpAll K H vs ds) (fun _ => .non) (fun b _ => .bl b) (fun i _ => .int i) (fun x _ => .str x) (fun e _ q z => .lst (SqL.of e) (q z)) (fun e _ q z => .tup (SqT.of e) (q z)) (fun _ _ _ z => ?_) (fun _ => .nil) (fun _ _ a b z => ?_) h
  · cases z
  · have z' := Bool.and_eq_true_iff.mp z
    exact .cons (a z'.1) (b z'.2)
/-- a value that may be asked whether it is an interval: what stands in it, if it is a tuple, has no dicts -/
def PlainT (d : PyData) : Prop := ∀ ds, d = .tuple ds → PyData.canLayAll0 ds = true ∧ PyData.depthAll ds ≤ 60

/-! ### a == y, a != y by an own __eq__, y of any kind -/
section
open PySem.W Builtin
variable {prog : Program} {w : World} {A : Around} {E : Value → Shared → Prop} {s : Shared} {K : Frag} {x C f : Addr} {ox : Obj} {od : Option Obj} {b tb : Value}
theorem wpAny_objNe {Q : Fin → Shared → Prop} (X : K.In s.heap) (I : InstAt s.heap x ox C od) (hu : A.units < cLine) (hs : findIn K (.ref C) "__eq__" = some (some (.ref f))) (hf : isFn K (.ref f) = true)
    (h : wpAny (model prog w) A (call (.ref f) [.ref x, b]) (fun v s' => ∃ k, v = .bool k ∧ Q (.done (.ret (.bool (!k)))) s') E s) : wpAny (model prog w) A (Builtin.«object.__ne__» ⟨[.ref x, b], []⟩) Q E s := by
  unfold Builtin.«object.__ne__»
  repeat (first
    | with_reducible refine wpAny_cRoomFor hu ?_
    | (refine wpAny_bind (m := callSpecialIfBound? (.ref x) (Str.ofString "__eq__") [b])
        (ifBound_K X I hs hf (wpAny_mono h (fun r s' hr => by
          obtain ⟨k, rfl, hq⟩ := hr
          repeat (first | exact hq | exact wpAny_pure hq | exact wpAny_truthy_bool hq | (refine wpAny_bind (m := truthy (.bool _)) (wpAny_truthy_bool ?_)) | wp_step)) fun _ _ e => e)))
    | wp_step)
theorem ne_own {Q : Value → Shared → Prop} (hu : A.units + 1 < cLine) (X : K.In s.heap) (I : InstAt s.heap x ox C od) (hb : Looks (model prog w) s.heap (typeOf b) tb) (hn : notFirst K C tb = true) (hm : mroIn K C (.type "object") = some true)
    (hs : findIn K (.ref C) "__eq__" = some (some (.ref f))) (hn2 : findIn K (.ref C) "__ne__" = some (some (.builtin "object.__ne__"))) (hf : isFn K (.ref f) = true)
    (h : wpAny (model prog w) A.in1 (call (.ref f) [.ref x, b]) (fun v s' => ∃ k, v = .bool k ∧ Q (.bool (!k)) s') E s) : wpAny (model prog w) A (richCompare .NotEq (.ref x) b) Q E s := by
  have one : wpAny (model prog w) A (tryCompare (.ref x) "__ne__" b) (fun r s' => ∃ v, r = some v ∧ Q v s') E s := by
    have inner : wpAny (model prog w) A (call (.builtin "object.__ne__") [.ref x, b]) (fun v s' => ∃ k, v = .bool k ∧ Q (.bool k) s') E s :=
      wpAny_call (codeAny_call_builtin F.cmp_object.ne.plain F.cmpEntry_ne (check_slot F.cmpKind_ne F.cmpSplit_ne (I.type.andThen (looks_mroIn X hm)) (F.cmpArgs_ne _ _)
        (wpAny_objNe (A := A.in1) X I hu hs hf (wpAny_mono h (fun v s' hv => by
          obtain ⟨k, rfl, hq⟩ := hv
          exact ⟨k, rfl, !k, rfl, hq⟩) fun _ _ e => e))))
    unfold tryCompare
    simp only [callSpecialIfBound?, bindSpecialIfBound?]
    refine wpAny_bind (wpAny_holding (wpAny_bind (wpAny_bind (wpAny_bind (I.type.here ((looks_findIn X hn2).here ?_))))))
    refine wpAny_bind (wpAny_askSetting (wpAny_ite ?_))
    split
    · refine wpAny_bind (wpAny_of_eq (F.cmp_object.ne.bind _) (wpAny_pure (wpAny_bind (wpAny_mono inner (fun v s' h' => ?_) fun _ _ h' => h'))))
      obtain ⟨k, rfl, q⟩ := h'
      exact wpAny_pure (wpAny_pure ⟨_, rfl, q⟩)
    · refine wpAny_tryCatch (wpAny_bind (wpAny_of_eq (F.cmp_object.ne.bind _) (wpAny_pure (wpAny_bind (wpAny_mono inner (fun v s' h' => ?_) fun _ _ h' => h')))))
      obtain ⟨k, rfl, q⟩ := h'
      exact wpAny_pure (wpAny_pure ⟨_, rfl, q⟩)
  unfold richCompare
  simp only [oneThing_ref]
  refine wpAny_holding (wpAny_bind (wpAny_cRoomFor (Nat.lt_of_succ_lt hu) ?_))
  refine wpAny_bind (I.type.here (wpAny_bind (hb.here ?_)))
  split
  · rename_i q
    have e : subIn K tb (.ref C) = some false := by
      rcases Bool.or_eq_true_iff.mp hn with e | e
      · rw [beq_iff_eq.mp e] at q; simp at q
      · exact beq_iff_eq.mp e
    refine wpAny_bind ((looks_subIn X e).here ?_)
    simp only [Bool.false_eq_true, if_false]
    refine wpAny_bind (wpAny_mono one (fun r s' z => ?_) fun _ _ e => e)
    obtain ⟨v, rfl, hq⟩ := z
    exact wpAny_pure hq
  · refine wpAny_bind (wpAny_pure ?_)
    simp only [Bool.false_eq_true, if_false]
    refine wpAny_bind (wpAny_mono one (fun r s' z => ?_) fun _ _ e => e)
    obtain ⟨v, rfl, hq⟩ := z
    exact wpAny_pure hq
end
section
variable {K : PySem.W.Frag} {C : Addr}
theorem sub_tyF {T : String} {l : List Value} (e : fastBuiltinMro T = some l) (hc : l.contains (.ref C) = false) : PySem.W.subIn K (.type T) (.ref C) = some false := by
  show (fastBuiltinMro T).map (·.contains (.ref C)) = some false
  rw [e]
  exact congrArg some hc
theorem sub_tyD (d : PyData) : PySem.W.subIn K (.type (tyD d)) (.ref C) = some false := by
  cases d with
  | none => exact sub_tyF (T := "NoneType") (l := [.type "NoneType", .type "object"]) (by decide +kernel) rfl
  | bool _ => exact sub_tyF (T := "bool") (l := [.type "bool", .type "int", .type "object"]) (by decide +kernel) rfl
  | int _ => exact sub_tyF (T := "int") (l := [.type "int", .type "object"]) (by decide +kernel) rfl
  | str _ => exact sub_tyF (T := "str") (l := [.type "str", .type "object"]) (by decide +kernel) rfl
  | list _ => exact sub_tyF (T := "list") (l := [.type "list", .type "object"]) (by decide +kernel) rfl
  | tuple _ => exact sub_tyF (T := "tuple") (l := [.type "tuple", .type "object"]) (by decide +kernel) rfl
  | dict _ => exact sub_tyF (T := "dict") (l := [.type "dict", .type "object"]) (by decide +kernel) rfl
/-- data is no instance of the class C -/
theorem kit_tyD (hc : PySem.W.isClsIn K C = true) (ht : PySem.W.typeIn K (.ref C) = some (.type "type")) (d : PyData) : PySem.W.kitOne K (.type (tyD d)) (.ref C) = some false := by
  have e2 : ((PySem.W.clsIn K C).isSome && PySem.W.typeIn K (.ref C) == some (.type "type")) = true := by
    have h : (PySem.W.clsIn K C).isSome = true := hc
    rw [h, ht] <;> rfl
  have e0 : ¬ ((Value.type (tyD d) == Value.ref C) = true) := fun h => nomatch beq_iff_eq.mp h
  show (if (Value.type (tyD d) == Value.ref C) = true then some true else (if ((PySem.W.clsIn K C).isSome && PySem.W.typeIn K (.ref C) == some (.type "type")) = true then PySem.W.subIn K (.type (tyD d)) (.ref C) else none)) = some false
  rw [if_neg e0, if_pos e2]
  exact sub_tyD d
theorem sub_ty {T : String} {l : List Value} (e : fastBuiltinMro T = some l) (hc : l.contains (.ref C) = false) : PySem.W.notFirst K C (.type T) = true := by
  have z := sub_tyF (K := K) e hc
  unfold PySem.W.notFirst
  rw [z, Bool.or_eq_true]
  exact .inr rfl
theorem first_own : PySem.W.notFirst K C (.ref C) = true := by
  unfold PySem.W.notFirst
  rw [Bool.or_eq_true]
  exact .inl (beq_self_eq_true _)
theorem first_ty (d : PyData) : PySem.W.notFirst K C (.type (tyD d)) = true := by
  unfold PySem.W.notFirst
  rw [sub_tyD, Bool.or_eq_true]
  exact .inr rfl
end
section
variable {X : Cx}
def rEqOwnV (K : PySem.W.Frag) (C : Addr) (sp : Sp) (E : XK) (r : Bool → Bool) : R2 := fun x y H Q => ∃ (a dx : Addr) (fs : List (Str × V)) (t : Value), x = .ref a ∧ H a = some (.ins C dx fs) ∧ TyX K H y t ∧ PySem.W.notFirst K C t = true ∧ sp [.ref a, y] H (fun v H' => ∃ k : Bool, v = .bl k ∧ Q (.bl (r k)) H') E
theorem op_eqOwnV {CX : CXT} {k : Nat} {C f : Addr} {fd : FuncData} {ps : List Str} {sp : Sp} {E : XK} (F : FnOk X.prog X.w X.K X.mg X.base CX k f fd ps sp) (hs : PySem.W.findIn X.K (.ref C) "__eq__" = some (some (.ref f))) (hf : PySem.W.isFn X.K (.ref f) = true)
    (hb : Binds X.K fd ps []) (hx : Passes CX X E) (hr : Room k X.A) : OpR X (compareOp .Eq) (rEqOwnV X.K C sp E id) := by
  intro pins s σ H x y v u Q I rx ry h
  obtain ⟨a, dx, fs, t, rfl, ha, ty, hn, hsp⟩ := h
  cases rx
  obtain ⟨ox, od, J⟩ := ins_inst I ha
  obtain ⟨P, Z, p, hne⟩ := kit_of I ry ty
  obtain ⟨m, hF⟩ := I.fr
  refine PySem.W.cmp_K (op := .Eq) (tb := t) hr.units0 hF I.ok.mod.kin J (Z.ty _ _ I.kIn p) hn hs hf (wpAny_mono (run_own F hb hx hr rfl I (us := [.ref a, u]) (vs := [.ref a, y]) (.cons rfl (.cons ry .nil)) hsp) (fun v s' z => ?_) fun _ _ x => x)
  obtain ⟨v', H', I', rv, k, rfl, q⟩ := z
  cases rv
  exact ⟨.bl k, H', I', rfl, q⟩
theorem op_neOwnV {CX : CXT} {k : Nat} {C f : Addr} {fd : FuncData} {ps : List Str} {sp : Sp} {E : XK} (F : FnOk X.prog X.w X.K X.mg X.base CX k f fd ps sp) (hs : PySem.W.findIn X.K (.ref C) "__eq__" = some (some (.ref f))) (hf : PySem.W.isFn X.K (.ref f) = true)
    (hm : PySem.W.mroIn X.K C (.type "object") = some true) (hn2 : PySem.W.findIn X.K (.ref C) "__ne__" = some (some (.builtin "object.__ne__")))
    (hb : Binds X.K fd ps []) (hx : Passes CX X E) (hr : Room (k + 1) X.A) : OpR X (compareOp .NotEq) (rEqOwnV X.K C sp E not) := by
  intro pins s σ H x y v u Q I rx ry h
  obtain ⟨a, dx, fs, t, rfl, ha, ty, hn, hsp⟩ := h
  cases rx
  obtain ⟨ox, od, J⟩ := ins_inst I ha
  obtain ⟨P, Z, p, hne⟩ := kit_of I ry ty
  refine ne_own (tb := t) hr.in1.units0 I.kIn J (Z.ty _ _ I.kIn p) hn hm hs hn2 hf (wpAny_mono (run_own F hb hx hr.in1 rfl I (us := [.ref a, u]) (vs := [.ref a, y]) (.cons rfl (.cons ry .nil)) hsp) (fun v s' z => ?_) fun _ _ x => x)
  obtain ⟨v', H', I', rv, k, rfl, q⟩ := z
  cases rv
  exact ⟨k, rfl, .bl (!k), H', I', rfl, q⟩
end

/-! ### plans: states, edits -/
abbrev St2 := List (Int × Int) × List (Int × Int)
/-- an edit: added or removed; a piece or a target; the interval -/
structure Ed where
  add : Bool
  pc : Bool
  q : Int × Int
def wordOf (add pc : Bool) : Str := match add, pc with
  | true, false => "add_target"
  | true, true => "add_piece"
  | false, false => "remove_target"
  | false, true => "remove_piece"
def wordE (e : Ed) : Str := wordOf e.add e.pc
instance (a b : Int × Int) : Decidable (ltP a b) := by unfold ltP; infer_instance
def insI (q : Int × Int) : List (Int × Int) → List (Int × Int)
  | [] => [q]
  | p :: ps => if ltP q p then q :: p :: ps else p :: insI q ps
theorem mem_insI {q x : Int × Int} : ∀ {ps : List (Int × Int)}, x ∈ insI q ps ↔ x = q ∨ x ∈ ps
  | [] => by
    show x ∈ [q] ↔ _
    rw [List.mem_singleton]
    exact ⟨.inl, fun h => h.elim id fun h => nomatch h⟩
  | p :: ps => by
    show x ∈ (if ltP q p then q :: p :: ps else p :: insI q ps) ↔ _
    split
    · rw [List.mem_cons]
    · rw [List.mem_cons, mem_insI (ps := ps), List.mem_cons]
      constructor
      · rintro (h | h | h)
        · exact .inr (.inl h)
        · exact .inl h
        · exact .inr (.inr h)
      · rintro (h | h | h)
        · exact .inr (.inl h)
        · exact .inl h
        · exact .inr (.inr h)
theorem len_insI {q : Int × Int} : ∀ {ps : List (Int × Int)}, (insI q ps).length = ps.length + 1
  | [] => rfl
  | p :: ps => by
    show (if ltP q p then q :: p :: ps else p :: insI q ps).length = _
    split
    · rfl
    · rw [List.length_cons, len_insI (ps := ps), List.length_cons]
theorem ltP_trans {a b c : Int × Int} (h1 : ltP a b) (h2 : ltP b c) : ltP a c := by
  unfold ltP at *
  omega
theorem asc_insI {q : Int × Int} : ∀ {ps : List (Int × Int)}, ps.Pairwise ltP → q ∉ ps → (insI q ps).Pairwise ltP
  | [], _, _ => List.pairwise_cons.mpr ⟨(fun _ h => nomatch h), .nil⟩
  | p :: ps, h, n => by
    have h' := List.pairwise_cons.mp h
    show (if ltP q p then q :: p :: ps else p :: insI q ps).Pairwise ltP
    split
    · rename_i c
      refine List.pairwise_cons.mpr ⟨fun x hx => ?_, h⟩
      rcases List.mem_cons.mp hx with rfl | hx
      · exact c
      · exact ltP_trans c (h'.1 x hx)
    · rename_i c
      refine List.pairwise_cons.mpr ⟨fun x hx => ?_, asc_insI h'.2 fun z => n (List.mem_cons_of_mem _ z)⟩
      rcases mem_insI.mp hx with rfl | hx
      · have ne : x ≠ p := fun e => n (e ▸ List.mem_cons_self)
        unfold ltP at c ⊢
        rcases Int.lt_trichotomy p.1 x.1 with z | z | z
        · exact .inl z
        · rcases Int.lt_trichotomy p.2 x.2 with y | y | y
          · exact .inr ⟨z, y⟩
          · exact absurd (Prod.ext z y).symm ne
          · exact absurd (.inr ⟨z.symm, y⟩) c
        · exact absurd (.inl z) c
      · exact h'.1 x hx
def upI (add : Bool) (q : Int × Int) (ps : List (Int × Int)) : List (Int × Int) := if add = true then insI q ps else wo ps q
def stepS (S : St2) (e : Ed) : St2 := if e.pc = true then (S.1, upI e.add e.q S.2) else (upI e.add e.q S.1, S.2)
def sideS (pc : Bool) (S : St2) : List (Int × Int) := if pc = true then S.2 else S.1
/-- intervals as a plan holds them -/
structure SideOk (n : Nat) (ps : List (Int × Int)) : Prop where
  asc : ps.Pairwise ltP
  ok : ∀ q ∈ ps, (0 ≤ q.1 ∧ q.1 ≤ q.2) ∧ q.2 ≤ 1000000000000
  few : ps.length ≤ n
structure StOk (S : St2) : Prop where
  t : SideOk 24 S.1
  p : SideOk 30 S.2
/-- an edit that can be done -/
structure Can (S : St2) (e : Ed) : Prop where
  ok : (0 ≤ e.q.1 ∧ e.q.1 ≤ e.q.2) ∧ e.q.2 ≤ 1000000000000
  no : e.add = true → e.q ∉ sideS e.pc S ∧ (sideS e.pc S).length < (if e.pc = true then 30 else 24)
  yes : e.add = false → e.q ∈ sideS e.pc S
theorem ltP_ndp {ps : List (Int × Int)} (h : ps.Pairwise ltP) : ps.Nodup := h.imp fun {a b} h e => by
  subst e
  rcases h with h | h <;> omega
theorem SideOk.ins {n : Nat} {ps : List (Int × Int)} {q : Int × Int} (h : SideOk n ps) (ok : (0 ≤ q.1 ∧ q.1 ≤ q.2) ∧ q.2 ≤ 1000000000000) (nq : q ∉ ps) (l : ps.length < n) : SideOk n (insI q ps) :=
  ⟨asc_insI h.asc nq, fun x hx => (mem_insI.mp hx).elim (fun e => e ▸ ok) fun m => h.ok x m, by rw [len_insI]; exact l⟩
theorem SideOk.wo {n : Nat} {ps : List (Int × Int)} (h : SideOk n ps) (q : Int × Int) : SideOk n (wo ps q) :=
  ⟨h.asc.filter _, fun x hx => h.ok x (wo_sub hx), Nat.le_trans (wo_len ps q) h.few⟩
theorem StOk.step {S : St2} {e : Ed} (h : StOk S) (c : Can S e) : StOk (stepS S e) := by
  obtain ⟨add, pc, q⟩ := e
  cases pc with
  | true =>
    refine ⟨h.t, ?_⟩
    cases add with
    | true => exact h.p.ins c.ok (c.no rfl).1 (c.no rfl).2
    | false => exact h.p.wo q
  | false =>
    refine ⟨?_, h.p⟩
    cases add with
    | true => exact h.t.ins c.ok (c.no rfl).1 (c.no rfl).2
    | false => exact h.t.wo q
/-! ### plans in the heap -/
inductive Sts (H : Hp) : List V → List St2 → Prop where
  | nil : Sts H [] []
  | cons {t x y : Addr} {xs ys us : List V} {S : St2} {Ss : List St2} (e : H t = some (.tup [.ref x, .ref y])) (ex : H x = some (.tup xs)) (ix : Ivs H xs S.1) (ey : H y = some (.tup ys)) (iy : Ivs H ys S.2) (r : Sts H us Ss) : Sts H (.ref t :: us) (S :: Ss)
theorem Sts.tps {H H' : Hp} (s : Tps H H') {us : List V} {Ss : List St2} (h : Sts H us Ss) : Sts H' us Ss := by
  induction h with
  | nil => exact .nil
  | cons e ex ix ey iy _ ih => exact .cons (s _ _ e) (s _ _ ex) (ix.tps s) (s _ _ ey) (iy.tps s) ih
theorem Sts.length {H : Hp} {us : List V} {Ss : List St2} (h : Sts H us Ss) : us.length = Ss.length := by
  induction h with
  | nil => rfl
  | cons e ex ix ey iy _ ih => rw [List.length_cons, List.length_cons, ih]
theorem Sts.get {H : Hp} {us : List V} {Ss : List St2} (h : Sts H us Ss) : ∀ {i : Nat} {S : St2}, Ss[i]? = some S → ∃ t x y xs ys, us[i]? = some (.ref t) ∧ H t = some (.tup [.ref x, .ref y]) ∧ H x = some (.tup xs) ∧ Ivs H xs S.1 ∧ H y = some (.tup ys) ∧ Ivs H ys S.2 := by
  induction h with
  | nil => intro i S e; cases e
  | @cons t x y xs ys us S0 Ss e ex ix ey iy _ ih =>
    intro i S h
    cases i with
    | zero =>
      cases h
      exact ⟨t, x, y, xs, ys, rfl, e, ex, ix, ey, iy⟩
    | succ i => exact ih h
theorem Sts.snoc {H : Hp} {us : List V} {Ss : List St2} (h : Sts H us Ss) {t x y : Addr} {xs ys : List V} {S : St2} (e : H t = some (.tup [.ref x, .ref y])) (ex : H x = some (.tup xs)) (ix : Ivs H xs S.1) (ey : H y = some (.tup ys)) (iy : Ivs H ys S.2) : Sts H (us ++ [.ref t]) (Ss ++ [S]) := by
  induction h with
  | nil => exact .cons e ex ix ey iy .nil
  | cons e1 ex1 ix1 ey1 iy1 _ ih => exact .cons e1 ex1 ix1 ey1 iy1 ih
theorem Sts.init {H : Hp} {us : List V} {Ss : List St2} (h : Sts H us Ss) : Sts H us.dropLast Ss.dropLast := by
  induction h with
  | nil => exact .nil
  | cons e ex ix ey iy r ih =>
    cases r with
    | nil => exact .nil
    | cons e2 ex2 ix2 ey2 iy2 r2 => exact .cons e ex ix ey iy ih
inductive Eds (H : Hp) : List V → List Ed → Prop where
  | nil : Eds H [] []
  | cons {t a : Addr} {vs : List V} {e : Ed} {es : List Ed} (h : H t = some (.tup [.str (wordE e), .ref a])) (ha : H a = some (.tup [.int e.q.1, .int e.q.2])) (r : Eds H vs es) : Eds H (.ref t :: vs) (e :: es)
theorem Eds.tps {H H' : Hp} (s : Tps H H') {us : List V} {es : List Ed} (h : Eds H us es) : Eds H' us es := by
  induction h with
  | nil => exact .nil
  | cons e ex _ ih => exact .cons (s _ _ e) (s _ _ ex) ih
theorem Eds.length {H : Hp} {us : List V} {es : List Ed} (h : Eds H us es) : us.length = es.length := by
  induction h with
  | nil => rfl
  | cons e ex _ ih => rw [List.length_cons, List.length_cons, ih]
theorem Eds.snoc {H : Hp} {us : List V} {es : List Ed} (h : Eds H us es) {t a : Addr} {e : Ed} (h1 : H t = some (.tup [.str (wordE e), .ref a])) (h2 : H a = some (.tup [.int e.q.1, .int e.q.2])) : Eds H (us ++ [.ref t]) (es ++ [e]) := by
  induction h with
  | nil => exact .cons h1 h2 .nil
  | cons e1 ex1 _ ih => exact .cons e1 ex1 ih
theorem Eds.init {H : Hp} {us : List V} {es : List Ed} (h : Eds H us es) : Eds H us.dropLast es.dropLast := by
  induction h with
  | nil => exact .nil
  | cons e ex r ih =>
    cases r with
    | nil => exact .nil
    | cons e2 ex2 r2 => exact .cons e ex ih
theorem Eds.get {H : Hp} {us : List V} {es : List Ed} (h : Eds H us es) : ∀ {i : Nat} {v : V}, us[i]? = some v → ∃ t a e, v = .ref t ∧ es[i]? = some e ∧ H t = some (.tup [.str (wordE e), .ref a]) ∧ H a = some (.tup [.int e.q.1, .int e.q.2]) := by
  induction h with
  | nil => intro i v e; cases e
  | @cons t a vs e es h1 h2 _ ih =>
    intro i v hv
    cases i with
    | zero =>
      cases hv
      exact ⟨t, a, e, rfl, rfl, h1, h2⟩
    | succ i => exact ih hv
def edD (e : Ed) : PyData := .tuple [.str (wordE e), .tuple [.int e.q.1, .int e.q.2]]
theorem Eds.dp {K : PySem.W.Frag} {H : Hp} {us : List V} {es : List Ed} (h : Eds H us es) : DpAll K H us (es.map edD) := by
  induction h with
  | nil => exact .nil
  | cons e ex _ ih => exact .cons (.tup (SqT.of e) (.cons (.str _) (.cons (dp2 ex) .nil))) ih
/-- the attributes of a plan, in the order in which they are stored -/
def flP (a b : Addr) (z : Bool) : List (Str × V) := [("states", .ref a), ("done", .ref b), ("busy", .bl z)]
theorem kSD : ¬ (("states" : Str) = "done") := by decide +kernel
theorem kSB : ¬ (("states" : Str) = "busy") := by decide +kernel
theorem kDB : ¬ (("done" : Str) = "busy") := by decide +kernel
theorem flP_new (a b : Addr) (z : Bool) : putF "busy" (.bl z) (putF "done" (.ref b) (putF "states" (.ref a) [])) = flP a b z := by
  show putF "busy" (.bl z) (if ("states" : Str) = "done" then [(("states" : Str), V.ref b)] else (("states" : Str), V.ref a) :: putF "done" (V.ref b) []) = _
  rw [if_neg kSD]
  show (if ("states" : Str) = "busy" then _ else (("states" : Str), V.ref a) :: (if ("done" : Str) = "busy" then _ else (("done" : Str), V.ref b) :: putF "busy" (V.bl z) [])) = _
  rw [if_neg kSB, if_neg kDB]
  rfl
theorem flP_states (a b a' : Addr) (z : Bool) : putF "states" (.ref a') (flP a b z) = flP a' b z := by
  show (if ("states" : Str) = "states" then _ else _) = _
  rw [if_pos rfl]
  rfl
theorem flP_done (a b b' : Addr) (z : Bool) : putF "done" (.ref b') (flP a b z) = flP a b' z := by
  show (if ("states" : Str) = "done" then _ else (("states" : Str), V.ref a) :: (if ("done" : Str) = "done" then _ else _)) = _
  rw [if_neg kSD, if_pos rfl]
  rfl
theorem lk_states (a b : Addr) (z : Bool) : (flP a b z).lookup ("states" : Str) = some (.ref a) := by rw [← flP_new, lookup_putF, if_neg kSB, lookup_putF, if_neg kSD, lookup_putF, if_pos rfl]
theorem lk_done (a b : Addr) (z : Bool) : (flP a b z).lookup ("done" : Str) = some (.ref b) := by rw [← flP_new, lookup_putF, if_neg kDB, lookup_putF, if_pos rfl]
theorem lk_busy (a b : Addr) (z : Bool) : (flP a b z).lookup ("busy" : Str) = some (.bl z) := by rw [← flP_new, lookup_putF, if_pos rfl]
theorem lk_no (a b : Addr) (z : Bool) {m : Str} (h : (decide (m = "states") || decide (m = "done") || decide (m = "busy")) = false) : (flP a b z).lookup m = none := by
  rw [Bool.or_eq_false_iff, Bool.or_eq_false_iff] at h
  rw [← flP_new, lookup_putF, if_neg (of_decide_eq_false h.2), lookup_putF, if_neg (of_decide_eq_false h.1.2), lookup_putF, if_neg (of_decide_eq_false h.1.1)]
  rfl
/-- a plan stands at p, with the states Ss behind the edits Es -/
structure PlanAt (C : Addr) (H : Hp) (p : Addr) (Ss : List St2) (Es : List Ed) : Prop where
  ex : ∃ dx a b us vs, H p = some (.ins C dx (flP a b false)) ∧ H a = some (.tup us) ∧ Sts H us Ss ∧ H b = some (.tup vs) ∧ Eds H vs Es
  len : Ss.length = Es.length + 1
/-- nothing but p has changed -/
def But (p : Addr) (H H' : Hp) : Prop := ∀ b o, b ≠ p → H b = some o → H' b = some o
theorem But.trans {p : Addr} {H H1 H2 : Hp} (h1 : But p H H1) (h2 : But p H1 H2) : But p H H2 := fun b o n e => h2 b o n (h1 b o n e)
theorem But.same {p : Addr} {H H1 : Hp} (s : Same H H1) : But p H H1 := fun b o _ e => s b o e
theorem But.upd {p : Addr} {H : Hp} {o : HO} : But p H (upd H p o) := fun b u n e => by
  rw [upd_ne n]
  exact e
theorem But.tps {p C dx : Addr} {fs : List (Str × V)} {H H' : Hp} (h : But p H H') (e : H p = some (.ins C dx fs)) : Tps H H' := fun b xs hb => h b _ (ne_of hb e (fun z => by cases z)) hb
theorem PlanAt.tps {C p : Addr} {H H' : Hp} {Ss : List St2} {Es : List Ed} (P : PlanAt C H p Ss Es) (b : But p H H') : Tps H H' := by
  obtain ⟨dx, _, _, _, _, e, _⟩ := P.ex
  exact b.tps e
theorem PlanAt.lst {C p : Addr} {H H' : Hp} {Ss : List St2} {Es : List Ed} (P : PlanAt C H p Ss Es) (b : But p H H') {l : Addr} {us : List V} (h : H l = some (.lst us)) : H' l = some (.lst us) := by
  obtain ⟨dx, _, _, _, _, e, _⟩ := P.ex
  exact b l _ (ne_of h e (fun z => by cases z)) h
/-- carried over a change that keeps the instance and the tuples -/
theorem PlanAt.keep {C p : Addr} {H H' : Hp} {Ss : List St2} {Es : List Ed} (P : PlanAt C H p Ss Es) (t : Tps H H') (k : ∀ C dx fs, H p = some (.ins C dx fs) → H' p = some (.ins C dx fs)) : PlanAt C H' p Ss Es := by
  obtain ⟨⟨dx, a, b, us, vs, e, ea, sa, eb, sb⟩, l⟩ := P
  exact ⟨⟨dx, a, b, us, vs, k _ _ _ e, t _ _ ea, sa.tps t, t _ _ eb, sb.tps t⟩, l⟩
theorem PlanAt.same {C p : Addr} {H H' : Hp} {Ss : List St2} {Es : List Ed} (P : PlanAt C H p Ss Es) (s : Same H H') : PlanAt C H' p Ss Es := P.keep (Tps.same s) fun _ _ _ e => s _ _ e
/-! ### checks of intervals -/
def sp_is_number : Sp := fun vs H Q _ => ∃ i : Int, vs = [.int i] ∧ Q (.bl true) H
theorem ok_is_number (T : Tx K mg f_is_number f_is_position f_is_tuple_of f_is_interval f_ascending_error f_targets_error f_is_pieces f_without_item f_with_interval f_without_interval f_edited_state f_law_deck f_law_draw f_law_line f_law_interval f_law_intervals f_law_edit f_law_after f_law_do f_law_begun f_law_flags f_law_errors_right f_law_edited f_law f_Plan_init f_Plan_add_target f_Plan_add_piece f_Plan_remove_target f_Plan_remove_piece f_Plan_undo f_Plan_targets f_Plan_pieces f_Plan_edits f_Plan_edit f_Plan_record f_Plan_require_idle f_Plan_state_at f_Plan_len f_Plan_eq f_TooWide_init f_NotGenerated_init f_TooMany_init f_BadTargets_init f_BadInterval_init f_Duplicate_init f_BadEdit_init f_Rejected_init f_BadText_init f_Unknown_init f_NoVersion_init C_Plan X_TooWide X_NotGenerated X_TooMany X_BadTargets X_BadInterval X_Duplicate X_BadEdit X_Rejected X_BadText X_Unknown X_NoVersion X_OutOfRange X_SpanError X_BadPieces X_TooManyEdits X_NothingToUndo X_BadEdits X_Busy d_is_number d_is_position d_is_tuple_of d_is_interval d_ascending_error d_targets_error d_is_pieces d_without_item d_with_interval d_without_interval d_edited_state d_law_deck d_law_draw d_law_line d_law_interval d_law_intervals d_law_edit d_law_after d_law_do d_law_begun d_law_flags d_law_errors_right d_law_edited d_law d_Plan_init d_Plan_add_target d_Plan_add_piece d_Plan_remove_target d_Plan_remove_piece d_Plan_undo d_Plan_targets d_Plan_pieces d_Plan_edits d_Plan_edit d_Plan_record d_Plan_require_idle d_Plan_state_at d_Plan_len d_Plan_eq d_TooWide_init d_NotGenerated_init d_TooMany_init d_BadTargets_init d_BadInterval_init d_Duplicate_init d_BadEdit_init d_Rejected_init d_BadText_init d_Unknown_init d_NoVersion_init t_LAST_POSITION t_MAX_TARGETS t_MAX_PIECES t_MAX_EDITS) : FnOk P w K mg base CX0 1 f_is_number d_is_number ["value"] sp_is_number := by
  refine T.F_is_number.ok sc_is_number (fun vs H Q E h => ?_) (fun cdv A outer s H vs Q E hr h => ?_)
  · obtain ⟨i, rfl, _⟩ := h
    rfl
  · obtain ⟨i, rfl, q⟩ := h
    refine ⟨_, (pss_one (ps_ret (pe_and (pe_callB call_isi (by rfl) T.z_isinstance (by decide +kernel) (pa_cons (pv 0) (pa_cons (pe_bltn (v := .ty "int") (u := .type "int") (by rfl) T.z_int (by decide +kernel) rfl) pa_nil))) (pe_one (pe_not (pe_callB call_isi (by rfl) T.z_isinstance (by decide +kernel) (pa_cons (pv 0) (pa_cons (pe_bltn (v := .ty "bool") (u := .type "bool") (by rfl) T.z_bool (by decide +kernel) rfl) pa_nil)))))))), ?_⟩
    refine ⟨.int i, rfl, .int i, .ty "int", _, _, _, rfl, .ty "int", .base (.int i), kit_intI, _, rfl, iteT ?_⟩
    exact ⟨.int i, rfl, .int i, .ty "bool", _, _, _, rfl, .ty "bool", .base (.int i), kit_intB, _, rfl, q⟩
def sp_is_position : Sp := fun vs H Q _ => ∃ i : Int, vs = [.int i] ∧ (0 ≤ i ∧ i ≤ 1000000000000) ∧ Q (.bl true) H
theorem ok_is_position (T : Tx K mg f_is_number f_is_position f_is_tuple_of f_is_interval f_ascending_error f_targets_error f_is_pieces f_without_item f_with_interval f_without_interval f_edited_state f_law_deck f_law_draw f_law_line f_law_interval f_law_intervals f_law_edit f_law_after f_law_do f_law_begun f_law_flags f_law_errors_right f_law_edited f_law f_Plan_init f_Plan_add_target f_Plan_add_piece f_Plan_remove_target f_Plan_remove_piece f_Plan_undo f_Plan_targets f_Plan_pieces f_Plan_edits f_Plan_edit f_Plan_record f_Plan_require_idle f_Plan_state_at f_Plan_len f_Plan_eq f_TooWide_init f_NotGenerated_init f_TooMany_init f_BadTargets_init f_BadInterval_init f_Duplicate_init f_BadEdit_init f_Rejected_init f_BadText_init f_Unknown_init f_NoVersion_init C_Plan X_TooWide X_NotGenerated X_TooMany X_BadTargets X_BadInterval X_Duplicate X_BadEdit X_Rejected X_BadText X_Unknown X_NoVersion X_OutOfRange X_SpanError X_BadPieces X_TooManyEdits X_NothingToUndo X_BadEdits X_Busy d_is_number d_is_position d_is_tuple_of d_is_interval d_ascending_error d_targets_error d_is_pieces d_without_item d_with_interval d_without_interval d_edited_state d_law_deck d_law_draw d_law_line d_law_interval d_law_intervals d_law_edit d_law_after d_law_do d_law_begun d_law_flags d_law_errors_right d_law_edited d_law d_Plan_init d_Plan_add_target d_Plan_add_piece d_Plan_remove_target d_Plan_remove_piece d_Plan_undo d_Plan_targets d_Plan_pieces d_Plan_edits d_Plan_edit d_Plan_record d_Plan_require_idle d_Plan_state_at d_Plan_len d_Plan_eq d_TooWide_init d_NotGenerated_init d_TooMany_init d_BadTargets_init d_BadInterval_init d_Duplicate_init d_BadEdit_init d_Rejected_init d_BadText_init d_Unknown_init d_NoVersion_init t_LAST_POSITION t_MAX_TARGETS t_MAX_PIECES t_MAX_EDITS) : FnOk P w K mg base CX0 2 f_is_position d_is_position ["value"] sp_is_position := by
  refine T.F_is_position.ok sc_is_position (fun vs H Q E h => ?_) (fun cdv A outer s H vs Q E hr h => ?_)
  · obtain ⟨i, rfl, _⟩ := h
    rfl
  · obtain ⟨i, rfl, b, q⟩ := h
    refine ⟨_, (pss_one (ps_ret (pe_and (pe_call (ok_is_number T) (hr.mono (by decide)) (by rfl) T.g_is_number T.F_is_number.kp T.b_is_number .nil pass0 (pa_cons (pv 0) pa_nil)) (pe_one (pe_chain op_le op_le pe_int (pv 0) (pe_glob (v := .int 1000000000000) (by rfl) T.c_LAST_POSITION ⟨_, rfl⟩)))))), ?_⟩
    refine ⟨.int i, rfl, i, rfl, _, rfl, iteT ?_⟩
    refine ⟨.int i, rfl, _, _, rfl, rfl, _, rfl, ?_⟩
    rw [decide_eq_true b.1]
    refine iteT ⟨_, _, rfl, rfl, ?_⟩
    have q' : Q (.bl (decide (i ≤ 1000000000000))) H := by
      rw [decide_eq_true b.2]
      exact q
    exact q'
def sp_is_tuple_of : Sp := fun vs H Q _ => ∃ (a : Addr) (x y : V), vs = [.ref a, .int 2] ∧ H a = some (.tup [x, y]) ∧ Q (.bl true) H
theorem ok_is_tuple_of (T : Tx K mg f_is_number f_is_position f_is_tuple_of f_is_interval f_ascending_error f_targets_error f_is_pieces f_without_item f_with_interval f_without_interval f_edited_state f_law_deck f_law_draw f_law_line f_law_interval f_law_intervals f_law_edit f_law_after f_law_do f_law_begun f_law_flags f_law_errors_right f_law_edited f_law f_Plan_init f_Plan_add_target f_Plan_add_piece f_Plan_remove_target f_Plan_remove_piece f_Plan_undo f_Plan_targets f_Plan_pieces f_Plan_edits f_Plan_edit f_Plan_record f_Plan_require_idle f_Plan_state_at f_Plan_len f_Plan_eq f_TooWide_init f_NotGenerated_init f_TooMany_init f_BadTargets_init f_BadInterval_init f_Duplicate_init f_BadEdit_init f_Rejected_init f_BadText_init f_Unknown_init f_NoVersion_init C_Plan X_TooWide X_NotGenerated X_TooMany X_BadTargets X_BadInterval X_Duplicate X_BadEdit X_Rejected X_BadText X_Unknown X_NoVersion X_OutOfRange X_SpanError X_BadPieces X_TooManyEdits X_NothingToUndo X_BadEdits X_Busy d_is_number d_is_position d_is_tuple_of d_is_interval d_ascending_error d_targets_error d_is_pieces d_without_item d_with_interval d_without_interval d_edited_state d_law_deck d_law_draw d_law_line d_law_interval d_law_intervals d_law_edit d_law_after d_law_do d_law_begun d_law_flags d_law_errors_right d_law_edited d_law d_Plan_init d_Plan_add_target d_Plan_add_piece d_Plan_remove_target d_Plan_remove_piece d_Plan_undo d_Plan_targets d_Plan_pieces d_Plan_edits d_Plan_edit d_Plan_record d_Plan_require_idle d_Plan_state_at d_Plan_len d_Plan_eq d_TooWide_init d_NotGenerated_init d_TooMany_init d_BadTargets_init d_BadInterval_init d_Duplicate_init d_BadEdit_init d_Rejected_init d_BadText_init d_Unknown_init d_NoVersion_init t_LAST_POSITION t_MAX_TARGETS t_MAX_PIECES t_MAX_EDITS) : FnOk P w K mg base CX0 1 f_is_tuple_of d_is_tuple_of ["value", "length"] sp_is_tuple_of := by
  refine T.F_is_tuple_of.ok sc_is_tuple_of (fun vs H Q E h => ?_) (fun cdv A outer s H vs Q E hr h => ?_)
  · obtain ⟨a, x, y, rfl, _⟩ := h
    rfl
  · obtain ⟨a, x, y, rfl, ha, q⟩ := h
    refine ⟨_, (pss_one (ps_ret (pe_and (pe_callB call_isi (by rfl) T.z_isinstance (by decide +kernel) (pa_cons (pv 0) (pa_cons (pe_bltn (v := .ty "tuple") (u := .type "tuple") (by rfl) T.z_tuple (by decide +kernel) rfl) pa_nil))) (pe_one (pe_cmpR op_eq (pe_callB call_len_seq (by rfl) T.z_len PySem.boot_len (pa_cons (pv 0) pa_nil)) (pv 1) (nomark _)))))), ?_⟩
    refine ⟨.ref a, rfl, .ref a, .ty "tuple", _, _, _, rfl, .ty "tuple", .base (.tup ha), kit_tupT, _, rfl, iteT ?_⟩
    exact ⟨.ref a, rfl, a, _, rfl, .inr (SqT.of ha), .int 2, rfl, rfl, q⟩
def sp_is_interval : Sp := fun vs H Q _ => ∃ (a : Addr) (x y : Int), vs = [.ref a] ∧ H a = some (.tup [.int x, .int y]) ∧ ((0 ≤ x ∧ x ≤ y) ∧ y ≤ 1000000000000) ∧ Q (.bl true) H
theorem ok_is_interval (T : Tx K mg f_is_number f_is_position f_is_tuple_of f_is_interval f_ascending_error f_targets_error f_is_pieces f_without_item f_with_interval f_without_interval f_edited_state f_law_deck f_law_draw f_law_line f_law_interval f_law_intervals f_law_edit f_law_after f_law_do f_law_begun f_law_flags f_law_errors_right f_law_edited f_law f_Plan_init f_Plan_add_target f_Plan_add_piece f_Plan_remove_target f_Plan_remove_piece f_Plan_undo f_Plan_targets f_Plan_pieces f_Plan_edits f_Plan_edit f_Plan_record f_Plan_require_idle f_Plan_state_at f_Plan_len f_Plan_eq f_TooWide_init f_NotGenerated_init f_TooMany_init f_BadTargets_init f_BadInterval_init f_Duplicate_init f_BadEdit_init f_Rejected_init f_BadText_init f_Unknown_init f_NoVersion_init C_Plan X_TooWide X_NotGenerated X_TooMany X_BadTargets X_BadInterval X_Duplicate X_BadEdit X_Rejected X_BadText X_Unknown X_NoVersion X_OutOfRange X_SpanError X_BadPieces X_TooManyEdits X_NothingToUndo X_BadEdits X_Busy d_is_number d_is_position d_is_tuple_of d_is_interval d_ascending_error d_targets_error d_is_pieces d_without_item d_with_interval d_without_interval d_edited_state d_law_deck d_law_draw d_law_line d_law_interval d_law_intervals d_law_edit d_law_after d_law_do d_law_begun d_law_flags d_law_errors_right d_law_edited d_law d_Plan_init d_Plan_add_target d_Plan_add_piece d_Plan_remove_target d_Plan_remove_piece d_Plan_undo d_Plan_targets d_Plan_pieces d_Plan_edits d_Plan_edit d_Plan_record d_Plan_require_idle d_Plan_state_at d_Plan_len d_Plan_eq d_TooWide_init d_NotGenerated_init d_TooMany_init d_BadTargets_init d_BadInterval_init d_Duplicate_init d_BadEdit_init d_Rejected_init d_BadText_init d_Unknown_init d_NoVersion_init t_LAST_POSITION t_MAX_TARGETS t_MAX_PIECES t_MAX_EDITS) : FnOk P w K mg base CX0 3 f_is_interval d_is_interval ["value"] sp_is_interval := by
  refine T.F_is_interval.ok sc_is_interval (fun vs H Q E h => ?_) (fun cdv A outer s H vs Q E hr h => ?_)
  · obtain ⟨a, x, y, rfl, _⟩ := h
    rfl
  · obtain ⟨a, x, y, rfl, ha, b, q⟩ := h
    refine ⟨_, (pss_cons (ps_if (pt_not (pt_val (pe_call (ok_is_tuple_of T) (hr.mono (by decide)) (by rfl) T.g_is_tuple_of T.F_is_tuple_of.kp T.b_is_tuple_of .nil pass0 (pa_cons (pv 0) (pa_cons pe_int pa_nil)))))
      (pss_one (ps_ret pe_bl))
      pss_nil)
      (pss_cons (ps_asg (pv 0) (pg_tup rfl (pgs_cons (pg_name (i := 1) sc_is_interval.nd rfl (Or.inl rfl)) (pgs_cons (pg_name (i := 2) sc_is_interval.nd rfl (Or.inl rfl)) pgs_nil))))
      (pss_one (ps_ret (pe_and (pe_call (ok_is_position T) (hr.mono (by decide)) (by rfl) T.g_is_position T.F_is_position.kp T.b_is_position .nil pass0 (pa_cons (pv 1) pa_nil)) (pe_and (pe_call (ok_is_position T) (hr.mono (by decide)) (by rfl) T.g_is_position T.F_is_position.kp T.b_is_position .nil pass0 (pa_cons (pv 2) pa_nil)) (pe_one (pe_cmpR op_le (pv 1) (pv 2) (nomark _))))))))), ?_⟩
    refine ⟨.ref a, rfl, a, .int x, .int y, rfl, ha, _, rfl, iteF ?_⟩
    refine ⟨.ref a, rfl, a, _, rfl, SqT.of ha, rfl, .int x, [.int y], rfl, .int y, [], rfl, rfl, ?_⟩
    refine ⟨.int x, rfl, x, rfl, by omega, _, rfl, iteT ?_⟩
    refine ⟨.int y, rfl, y, rfl, by omega, _, rfl, iteT ?_⟩
    refine ⟨.int x, rfl, .int y, rfl, _, _, rfl, rfl, ?_⟩
    have q' : Q (.bl (decide (x ≤ y))) H := by
      rw [decide_eq_true b.1.2]
      exact q
    exact q'
def sp_asc : Sp := fun vs H Q _ => ∃ (a : Addr) (us : List V) (ps : List (Int × Int)) (n : Nat), vs = [.ref a, .int n] ∧ H a = some (.tup us) ∧ Ivs H us ps ∧ SideOk n ps ∧ n ≤ 30 ∧ ∀ H', Same H H' → Q .non H'
theorem ok_ascending_error (T : Tx K mg f_is_number f_is_position f_is_tuple_of f_is_interval f_ascending_error f_targets_error f_is_pieces f_without_item f_with_interval f_without_interval f_edited_state f_law_deck f_law_draw f_law_line f_law_interval f_law_intervals f_law_edit f_law_after f_law_do f_law_begun f_law_flags f_law_errors_right f_law_edited f_law f_Plan_init f_Plan_add_target f_Plan_add_piece f_Plan_remove_target f_Plan_remove_piece f_Plan_undo f_Plan_targets f_Plan_pieces f_Plan_edits f_Plan_edit f_Plan_record f_Plan_require_idle f_Plan_state_at f_Plan_len f_Plan_eq f_TooWide_init f_NotGenerated_init f_TooMany_init f_BadTargets_init f_BadInterval_init f_Duplicate_init f_BadEdit_init f_Rejected_init f_BadText_init f_Unknown_init f_NoVersion_init C_Plan X_TooWide X_NotGenerated X_TooMany X_BadTargets X_BadInterval X_Duplicate X_BadEdit X_Rejected X_BadText X_Unknown X_NoVersion X_OutOfRange X_SpanError X_BadPieces X_TooManyEdits X_NothingToUndo X_BadEdits X_Busy d_is_number d_is_position d_is_tuple_of d_is_interval d_ascending_error d_targets_error d_is_pieces d_without_item d_with_interval d_without_interval d_edited_state d_law_deck d_law_draw d_law_line d_law_interval d_law_intervals d_law_edit d_law_after d_law_do d_law_begun d_law_flags d_law_errors_right d_law_edited d_law d_Plan_init d_Plan_add_target d_Plan_add_piece d_Plan_remove_target d_Plan_remove_piece d_Plan_undo d_Plan_targets d_Plan_pieces d_Plan_edits d_Plan_edit d_Plan_record d_Plan_require_idle d_Plan_state_at d_Plan_len d_Plan_eq d_TooWide_init d_NotGenerated_init d_TooMany_init d_BadTargets_init d_BadInterval_init d_Duplicate_init d_BadEdit_init d_Rejected_init d_BadText_init d_Unknown_init d_NoVersion_init t_LAST_POSITION t_MAX_TARGETS t_MAX_PIECES t_MAX_EDITS) : FnOk P w K mg base CX0 4 f_ascending_error d_ascending_error ["value", "most"] sp_asc := by
  refine T.F_ascending_error.ok sc_ascending_error (fun vs H Q E h => ?_) (fun cdv A outer s H vs Q E hr h => ?_)
  · obtain ⟨a, us, ps, n, rfl, _⟩ := h
    rfl
  · obtain ⟨a, us, ps, n, rfl, ha, iv, sd, ln, q⟩ := h
    refine ⟨_, (pss_cons (ps_if (PW.pt (pw_or (pt_not (pt_val (pe_callB call_isi (by rfl) T.z_isinstance (by decide +kernel) (pa_cons (pv 0) (pa_cons (pe_bltn (v := .ty "tuple") (u := .type "tuple") (by rfl) T.z_tuple (by decide +kernel) rfl) pa_nil))))) (pw_or1 (pt_cmpR op_gt (pe_callB call_len_seq (by rfl) T.z_len PySem.boot_len (pa_cons (pv 0) pa_nil)) (pv 1) (nomark _)))))
      (pss_one (ps_ret (pe_tup (pa_cons pe_non (pa_cons pe_str pa_nil)))))
      pss_nil)
      (pss_cons (ps_for PassesOwn.never rfl (pi_enumT (by rfl) T.z_enumerate (pa_cons (pv 0) pa_nil)) (pg_tup rfl (pgs_cons (pg_name (i := 2) sc_ascending_error.nd rfl (Or.inl rfl)) (pgs_cons (pg_name (i := 3) sc_ascending_error.nd rfl (Or.inl rfl)) pgs_nil)))
      (pss_cons (ps_if (pt_not (pt_val (pe_call (ok_is_interval T) (hr.mono (by decide)) (by rfl) T.g_is_interval T.F_is_interval.kp T.b_is_interval .nil pass0 (pa_cons (pv 3) pa_nil))))
      (pss_one (ps_ret (pe_tup (pa_cons (pv 2) (pa_cons pe_str pa_nil)))))
      pss_nil)
      (pss_one (ps_if (PW.pt (pw_and (pt_cmpR op_gt (pv 2) pe_int (nomark _)) (pw_and1 (pt_cmpR (op_leT hr.units0) (pv 3) (pe_ix ix_tup (pv 0) (pe_op op_sub (pv 2) pe_int) (fun _ _ => rfl)) (nomark _)))))
      (pss_one (ps_ret (pe_tup (pa_cons (pv 2) (pa_cons pe_str pa_nil)))))
      pss_nil))))
      (pss_one (ps_ret pe_non)))), ?_⟩
    have lu := iv.length
    have few := sd.few
    refine ⟨.ref a, rfl, .ref a, .ty "tuple", _, _, _, rfl, .ty "tuple", .base (.tup ha), kit_tupT, _, rfl, iteF ?_⟩
    refine ⟨.ref a, rfl, a, us, rfl, .inr (SqT.of ha), .int n, rfl, _, _, rfl, rfl, _, rfl, ite2 (fun z => absurd (of_decide_eq_true z) (by omega)) (fun _ => ?_)⟩
    refine ⟨.ref a, rfl, a, us, rfl, SqT.of ha, ?_⟩
    refine for_enumT (K := K) (a := a) (xs := us) (D := ⟨_, _, fun _ _ => True, fun _ _ => True⟩) (fun j σ H' => Same H H' ∧ ∃ y1 y2, σ = [some (.ref a), some (.int n), y1, y2])
      ⟨Same.refl _, _, _, rfl⟩ (fun j σ H' h => SqT.of (h.1 _ _ ha)) ?_ ?_
    · rintro k z TT σ H3 hz ⟨s3, y1, y2, rfl⟩ nT
      obtain ⟨b, x, y, rfl, ep, hb⟩ := iv.get hz
      have sT := same_new (o := .tup [.int (k : Nat), .ref b]) nT
      have eT := upd_same (H := H3) (a := TT) (o := .tup [.int (k : Nat), .ref b])
      generalize upd H3 TT (.tup [.int (k : Nat), .ref b]) = H4 at *
      have s4 := s3.trans sT
      have hb4 := s4 _ _ hb
      have ok := sd.ok _ (List.mem_of_getElem? ep)
      refine ⟨TT, _, rfl, SqT.of eT, rfl, .int (k : Nat), [.ref b], rfl, .ref b, [], rfl, rfl, ?_⟩
      refine ⟨.ref b, rfl, b, x, y, rfl, hb4, ok, _, rfl, iteF ?_⟩
      refine ⟨.int (k : Nat), rfl, _, _, rfl, rfl, _, rfl, ite2 (fun k0 => ?_) (fun _ => ⟨s4, _, _, rfl⟩)⟩
      have k1 := of_decide_eq_true k0
      have zl := (List.getElem?_eq_some_iff.mp hz).1
      have up := List.getElem?_eq_getElem (l := us) (i := k - 1) (by omega)
      obtain ⟨c, u, v, ec, ec2, hc⟩ := iv.get up
      rw [ec] at up
      have lt : ltP (u, v) (x, y) := by
        obtain ⟨z1, w1⟩ := List.getElem?_eq_some_iff.mp ec2
        obtain ⟨z2, w2⟩ := List.getElem?_eq_some_iff.mp ep
        have z := List.pairwise_iff_getElem.mp sd.asc (k - 1) k z1 z2 (by omega)
        rw [w1, w2] at z
        exact z
      refine ⟨.ref b, rfl, .ref a, rfl, .int (k : Nat), rfl, _, _, rfl, rfl, a, us, _, .ref c, rfl, rfl, SqT.of (s4 _ _ ha), (by rw [show (k : Int) - 1 = ((k - 1 : Nat) : Int) by omega]; exact atI_nat up), b, c, [x, y], [u, v], rfl, rfl, SqT.of hb4, SqT.of (s4 _ _ hc), _, rfl, ite2 (fun e => ?_) (fun _ => ⟨s4, _, _, rfl⟩)⟩
      exfalso
      have e : (if decide (x = u) = true then (if decide (y = v) = true then true else decide (y ≤ v)) else decide (x ≤ u)) = true := e
      unfold ltP at lt
      by_cases c1 : x = u
      · rw [if_pos (decide_eq_true c1)] at e
        by_cases c2 : y = v
        · omega
        · rw [if_neg (by rw [decide_eq_false c2]; decide)] at e
          have := of_decide_eq_true e
          omega
      · rw [if_neg (by rw [decide_eq_false c1]; decide)] at e
        have := of_decide_eq_true e
        omega
    · rintro σ H3 ⟨s3, y1, y2, rfl⟩
      exact q H3 s3
def sp_terr : Sp := fun vs H Q _ => ∃ (a : Addr) (us : List V) (ps : List (Int × Int)), vs = [.ref a] ∧ H a = some (.tup us) ∧ Ivs H us ps ∧ SideOk 24 ps ∧ ∀ H', Same H H' → Q .non H'
theorem ok_targets_error (T : Tx K mg f_is_number f_is_position f_is_tuple_of f_is_interval f_ascending_error f_targets_error f_is_pieces f_without_item f_with_interval f_without_interval f_edited_state f_law_deck f_law_draw f_law_line f_law_interval f_law_intervals f_law_edit f_law_after f_law_do f_law_begun f_law_flags f_law_errors_right f_law_edited f_law f_Plan_init f_Plan_add_target f_Plan_add_piece f_Plan_remove_target f_Plan_remove_piece f_Plan_undo f_Plan_targets f_Plan_pieces f_Plan_edits f_Plan_edit f_Plan_record f_Plan_require_idle f_Plan_state_at f_Plan_len f_Plan_eq f_TooWide_init f_NotGenerated_init f_TooMany_init f_BadTargets_init f_BadInterval_init f_Duplicate_init f_BadEdit_init f_Rejected_init f_BadText_init f_Unknown_init f_NoVersion_init C_Plan X_TooWide X_NotGenerated X_TooMany X_BadTargets X_BadInterval X_Duplicate X_BadEdit X_Rejected X_BadText X_Unknown X_NoVersion X_OutOfRange X_SpanError X_BadPieces X_TooManyEdits X_NothingToUndo X_BadEdits X_Busy d_is_number d_is_position d_is_tuple_of d_is_interval d_ascending_error d_targets_error d_is_pieces d_without_item d_with_interval d_without_interval d_edited_state d_law_deck d_law_draw d_law_line d_law_interval d_law_intervals d_law_edit d_law_after d_law_do d_law_begun d_law_flags d_law_errors_right d_law_edited d_law d_Plan_init d_Plan_add_target d_Plan_add_piece d_Plan_remove_target d_Plan_remove_piece d_Plan_undo d_Plan_targets d_Plan_pieces d_Plan_edits d_Plan_edit d_Plan_record d_Plan_require_idle d_Plan_state_at d_Plan_len d_Plan_eq d_TooWide_init d_NotGenerated_init d_TooMany_init d_BadTargets_init d_BadInterval_init d_Duplicate_init d_BadEdit_init d_Rejected_init d_BadText_init d_Unknown_init d_NoVersion_init t_LAST_POSITION t_MAX_TARGETS t_MAX_PIECES t_MAX_EDITS) : FnOk P w K mg base CX0 5 f_targets_error d_targets_error ["value"] sp_terr := by
  refine T.F_targets_error.ok sc_targets_error (fun vs H Q E h => ?_) (fun cdv A outer s H vs Q E hr h => ?_)
  · obtain ⟨a, us, ps, rfl, _⟩ := h
    rfl
  · obtain ⟨a, us, ps, rfl, ha, iv, sd, q⟩ := h
    refine ⟨_, (pss_one (ps_ret (pe_call (ok_ascending_error T) (hr.mono (by decide)) (by rfl) T.g_ascending_error T.F_ascending_error.kp T.b_ascending_error .nil pass0 (pa_cons (pv 0) (pa_cons (pe_glob (v := .int 24) (by rfl) T.c_MAX_TARGETS ⟨_, rfl⟩) pa_nil))))), ?_⟩
    exact ⟨.ref a, rfl, a, us, ps, 24, rfl, ha, iv, sd, by decide, q⟩
def sp_isp : Sp := fun vs H Q _ => ∃ (a : Addr) (us : List V) (ps : List (Int × Int)), vs = [.ref a] ∧ H a = some (.tup us) ∧ Ivs H us ps ∧ SideOk 30 ps ∧ ∀ H', Same H H' → Q (.bl true) H'
theorem ok_is_pieces (T : Tx K mg f_is_number f_is_position f_is_tuple_of f_is_interval f_ascending_error f_targets_error f_is_pieces f_without_item f_with_interval f_without_interval f_edited_state f_law_deck f_law_draw f_law_line f_law_interval f_law_intervals f_law_edit f_law_after f_law_do f_law_begun f_law_flags f_law_errors_right f_law_edited f_law f_Plan_init f_Plan_add_target f_Plan_add_piece f_Plan_remove_target f_Plan_remove_piece f_Plan_undo f_Plan_targets f_Plan_pieces f_Plan_edits f_Plan_edit f_Plan_record f_Plan_require_idle f_Plan_state_at f_Plan_len f_Plan_eq f_TooWide_init f_NotGenerated_init f_TooMany_init f_BadTargets_init f_BadInterval_init f_Duplicate_init f_BadEdit_init f_Rejected_init f_BadText_init f_Unknown_init f_NoVersion_init C_Plan X_TooWide X_NotGenerated X_TooMany X_BadTargets X_BadInterval X_Duplicate X_BadEdit X_Rejected X_BadText X_Unknown X_NoVersion X_OutOfRange X_SpanError X_BadPieces X_TooManyEdits X_NothingToUndo X_BadEdits X_Busy d_is_number d_is_position d_is_tuple_of d_is_interval d_ascending_error d_targets_error d_is_pieces d_without_item d_with_interval d_without_interval d_edited_state d_law_deck d_law_draw d_law_line d_law_interval d_law_intervals d_law_edit d_law_after d_law_do d_law_begun d_law_flags d_law_errors_right d_law_edited d_law d_Plan_init d_Plan_add_target d_Plan_add_piece d_Plan_remove_target d_Plan_remove_piece d_Plan_undo d_Plan_targets d_Plan_pieces d_Plan_edits d_Plan_edit d_Plan_record d_Plan_require_idle d_Plan_state_at d_Plan_len d_Plan_eq d_TooWide_init d_NotGenerated_init d_TooMany_init d_BadTargets_init d_BadInterval_init d_Duplicate_init d_BadEdit_init d_Rejected_init d_BadText_init d_Unknown_init d_NoVersion_init t_LAST_POSITION t_MAX_TARGETS t_MAX_PIECES t_MAX_EDITS) : FnOk P w K mg base CX0 5 f_is_pieces d_is_pieces ["value"] sp_isp := by
  refine T.F_is_pieces.ok sc_is_pieces (fun vs H Q E h => ?_) (fun cdv A outer s H vs Q E hr h => ?_)
  · obtain ⟨a, us, ps, rfl, _⟩ := h
    rfl
  · obtain ⟨a, us, ps, rfl, ha, iv, sd, q⟩ := h
    refine ⟨_, (pss_one (ps_ret (pe_cmpR op_isN (pe_call (ok_ascending_error T) (hr.mono (by decide)) (by rfl) T.g_ascending_error T.F_ascending_error.kp T.b_ascending_error .nil pass0 (pa_cons (pv 0) (pa_cons (pe_glob (v := .int 30) (by rfl) T.c_MAX_PIECES ⟨_, rfl⟩) pa_nil))) pe_non (nomark _)))), ?_⟩
    exact ⟨.ref a, rfl, a, us, ps, 30, rfl, ha, iv, sd, by decide, fun H' s => ⟨rfl, q H' s⟩⟩
/-! ### edits -/
theorem perm_leP_lt {ps ps' : List (Int × Int)} (h : ps'.Pairwise leP) (pm : ps'.Perm ps) (nd : ps.Nodup) : ps'.Pairwise ltP := leP_nd h (pm.nodup_iff.mpr nd)
def sp_with : Sp := fun vs H Q _ => ∃ (a t : Addr) (us : List V) (ps : List (Int × Int)) (x y : Int) (n : Nat), vs = [.ref a, .ref t, .int n] ∧ H a = some (.tup us) ∧ Ivs H us ps ∧ SideOk n ps ∧ n ≤ 30 ∧ H t = some (.tup [.int x, .int y]) ∧ ((0 ≤ x ∧ x ≤ y) ∧ y ≤ 1000000000000) ∧ (x, y) ∉ ps ∧ ps.length < n ∧
  ∀ H' p ws, Same H H' → H' p = some (.tup ws) → Ivs H' ws (insI (x, y) ps) → Q (.ref p) H'
theorem ok_with_interval (T : Tx K mg f_is_number f_is_position f_is_tuple_of f_is_interval f_ascending_error f_targets_error f_is_pieces f_without_item f_with_interval f_without_interval f_edited_state f_law_deck f_law_draw f_law_line f_law_interval f_law_intervals f_law_edit f_law_after f_law_do f_law_begun f_law_flags f_law_errors_right f_law_edited f_law f_Plan_init f_Plan_add_target f_Plan_add_piece f_Plan_remove_target f_Plan_remove_piece f_Plan_undo f_Plan_targets f_Plan_pieces f_Plan_edits f_Plan_edit f_Plan_record f_Plan_require_idle f_Plan_state_at f_Plan_len f_Plan_eq f_TooWide_init f_NotGenerated_init f_TooMany_init f_BadTargets_init f_BadInterval_init f_Duplicate_init f_BadEdit_init f_Rejected_init f_BadText_init f_Unknown_init f_NoVersion_init C_Plan X_TooWide X_NotGenerated X_TooMany X_BadTargets X_BadInterval X_Duplicate X_BadEdit X_Rejected X_BadText X_Unknown X_NoVersion X_OutOfRange X_SpanError X_BadPieces X_TooManyEdits X_NothingToUndo X_BadEdits X_Busy d_is_number d_is_position d_is_tuple_of d_is_interval d_ascending_error d_targets_error d_is_pieces d_without_item d_with_interval d_without_interval d_edited_state d_law_deck d_law_draw d_law_line d_law_interval d_law_intervals d_law_edit d_law_after d_law_do d_law_begun d_law_flags d_law_errors_right d_law_edited d_law d_Plan_init d_Plan_add_target d_Plan_add_piece d_Plan_remove_target d_Plan_remove_piece d_Plan_undo d_Plan_targets d_Plan_pieces d_Plan_edits d_Plan_edit d_Plan_record d_Plan_require_idle d_Plan_state_at d_Plan_len d_Plan_eq d_TooWide_init d_NotGenerated_init d_TooMany_init d_BadTargets_init d_BadInterval_init d_Duplicate_init d_BadEdit_init d_Rejected_init d_BadText_init d_Unknown_init d_NoVersion_init t_LAST_POSITION t_MAX_TARGETS t_MAX_PIECES t_MAX_EDITS) : FnOk P w K mg base CX0 4 f_with_interval d_with_interval ["intervals", "value", "bound"] sp_with := by
  refine T.F_with_interval.ok sc_with_interval (fun vs H Q E h => ?_) (fun cdv A outer s H vs Q E hr h => ?_)
  · obtain ⟨a, t, us, ps, x, y, n, rfl, _⟩ := h
    rfl
  · obtain ⟨a, t, us, ps, x, y, n, rfl, ha, iv, sd, ln, ht, ok, nin, lt, q⟩ := h
    refine ⟨_, (pss_cons (ps_if (pt_not (pt_val (pe_call (ok_is_interval T) (hr.mono (by decide)) (by rfl) T.g_is_interval T.F_is_interval.kp T.b_is_interval .nil pass0 (pa_cons (pv 1) pa_nil))))
      (pss_one ps_never)
      pss_nil)
      (pss_cons (ps_if (pt_cmpR (op_inT (units65 hr)) (pv 1) (pv 0) (by rfl))
      (pss_one ps_never)
      pss_nil)
      (pss_cons (ps_if (pt_cmpR op_ge (pe_callB call_len_seq (by rfl) T.z_len PySem.boot_len (pa_cons (pv 0) pa_nil)) (pv 2) (nomark _))
      (pss_one ps_never)
      pss_nil)
      (pss_one (ps_ret (pe_callTy call_tuple_of (by rfl) T.z_tuple (by decide +kernel) (pa_cons (pe_callB cr_sortTP (by rfl) T.z_sorted (by decide +kernel) (pa_cons (pe_op op_catA (pv 0) (pe_tup (pa_cons (pv 1) pa_nil))) pa_nil)) pa_nil))))))), ?_⟩
    have lu := iv.length
    refine ⟨.ref t, rfl, t, x, y, rfl, ht, ok, _, rfl, iteF ?_⟩
    refine ⟨.ref t, rfl, .ref a, rfl, _, ps.map pairD, dp2 ht, .tup (SqT.of ha) iv.dp, rfl, shaped_pairs _, _, rfl, ?_⟩
    rw [any_pair, decide_eq_false nin]
    refine iteF ?_
    refine ⟨.ref a, rfl, a, us, rfl, .inr (SqT.of ha), .int n, rfl, _, _, rfl, rfl, _, rfl, ite2 (fun z => absurd (of_decide_eq_true z) (by omega)) (fun _ => ?_)⟩
    refine ⟨.ref a, rfl, .ref t, rfl, by show 1 ≤ sizeLine; decide, fun e ne => ?_⟩
    have s1 := same_new (o := .tup [.ref t]) ne
    have ee := upd_same (H := H) (a := e) (o := .tup [.ref t])
    generalize upd H e (.tup [.ref t]) = H1 at *
    refine catA_any (s1 _ _ ha) ee (by rw [show sizeLine = 16777216 by decide]; show us.length + 1 ≤ _; omega) (fun H2 c s2 ec => ?_)
    have s12 := s1.trans s2
    refine ⟨c, _, _, rfl, SqT.of ec, (iv.same s12).append (.cons (s12 _ _ ht) .nil), fun H3 l us' ps' s3 nl el ivl srt pm => ?_⟩
    refine ⟨l, us', rfl, .inl ⟨SqL.of el, fun p np => ?_⟩⟩
    have s4 := same_new (o := .tup us') np
    have nd : (ps ++ [(x, y)]).Nodup := List.nodup_append.mpr ⟨ltP_ndp sd.asc, List.nodup_cons.mpr ⟨(fun h => nomatch h), List.nodup_nil⟩, fun z hz w hw e => nin (by
      rw [List.mem_singleton.mp hw] at e
      exact e ▸ hz)⟩
    have eq : ps' = insI (x, y) ps := ltP_uniq (perm_leP_lt srt pm nd) (asc_insI sd.asc nin) fun z => by
      rw [pm.mem_iff, mem_insI, List.mem_append, List.mem_singleton]
      exact or_comm
    refine q _ p us' ((s12.trans s3).trans s4) upd_same ?_
    rw [← eq]
    exact ivl.same s4
def sp_without : Sp := fun vs H Q _ => ∃ (a t : Addr) (us : List V) (ps : List (Int × Int)) (x y : Int), vs = [.ref a, .ref t] ∧ H a = some (.tup us) ∧ Ivs H us ps ∧ ps.length < 1000 ∧ H t = some (.tup [.int x, .int y]) ∧ ((0 ≤ x ∧ x ≤ y) ∧ y ≤ 1000000000000) ∧ (x, y) ∈ ps ∧
  ∀ H' p ws, Same H H' → H' p = some (.tup ws) → Ivs H' ws (wo ps (x, y)) → Q (.ref p) H'
theorem ok_without_interval (T : Tx K mg f_is_number f_is_position f_is_tuple_of f_is_interval f_ascending_error f_targets_error f_is_pieces f_without_item f_with_interval f_without_interval f_edited_state f_law_deck f_law_draw f_law_line f_law_interval f_law_intervals f_law_edit f_law_after f_law_do f_law_begun f_law_flags f_law_errors_right f_law_edited f_law f_Plan_init f_Plan_add_target f_Plan_add_piece f_Plan_remove_target f_Plan_remove_piece f_Plan_undo f_Plan_targets f_Plan_pieces f_Plan_edits f_Plan_edit f_Plan_record f_Plan_require_idle f_Plan_state_at f_Plan_len f_Plan_eq f_TooWide_init f_NotGenerated_init f_TooMany_init f_BadTargets_init f_BadInterval_init f_Duplicate_init f_BadEdit_init f_Rejected_init f_BadText_init f_Unknown_init f_NoVersion_init C_Plan X_TooWide X_NotGenerated X_TooMany X_BadTargets X_BadInterval X_Duplicate X_BadEdit X_Rejected X_BadText X_Unknown X_NoVersion X_OutOfRange X_SpanError X_BadPieces X_TooManyEdits X_NothingToUndo X_BadEdits X_Busy d_is_number d_is_position d_is_tuple_of d_is_interval d_ascending_error d_targets_error d_is_pieces d_without_item d_with_interval d_without_interval d_edited_state d_law_deck d_law_draw d_law_line d_law_interval d_law_intervals d_law_edit d_law_after d_law_do d_law_begun d_law_flags d_law_errors_right d_law_edited d_law d_Plan_init d_Plan_add_target d_Plan_add_piece d_Plan_remove_target d_Plan_remove_piece d_Plan_undo d_Plan_targets d_Plan_pieces d_Plan_edits d_Plan_edit d_Plan_record d_Plan_require_idle d_Plan_state_at d_Plan_len d_Plan_eq d_TooWide_init d_NotGenerated_init d_TooMany_init d_BadTargets_init d_BadInterval_init d_Duplicate_init d_BadEdit_init d_Rejected_init d_BadText_init d_Unknown_init d_NoVersion_init t_LAST_POSITION t_MAX_TARGETS t_MAX_PIECES t_MAX_EDITS) : FnOk P w K mg base CX0 4 f_without_interval d_without_interval ["intervals", "value"] sp_without := by
  refine T.F_without_interval.ok sc_without_interval (fun vs H Q E h => ?_) (fun cdv A outer s H vs Q E hr h => ?_)
  · obtain ⟨a, t, us, ps, x, y, rfl, _⟩ := h
    rfl
  · obtain ⟨a, t, us, ps, x, y, rfl, ha, iv, few, ht, ok, hin, q⟩ := h
    refine ⟨_, (pss_cons (ps_if (PW.pt (pw_or (pt_not (pt_val (pe_call (ok_is_interval T) (hr.mono (by decide)) (by rfl) T.g_is_interval T.F_is_interval.kp T.b_is_interval .nil pass0 (pa_cons (pv 1) pa_nil)))) (pw_or1 (pt_cmpR (op_notInT (units65 hr)) (pv 1) (pv 0) (by rfl)))))
      (pss_one ps_never)
      pss_nil)
      (pss_one (ps_ret (pe_call (ok_without_item T) (hr.mono (by decide)) (by rfl) T.g_without_item T.F_without_item.kp T.b_without_item .nil pass0 (pa_cons (pv 0) (pa_cons (pv 1) pa_nil)))))), ?_⟩
    refine ⟨.ref t, rfl, t, x, y, rfl, ht, ok, _, rfl, iteF ?_⟩
    refine ⟨.ref t, rfl, .ref a, rfl, _, ps.map pairD, dp2 ht, .tup (SqT.of ha) iv.dp, rfl, shaped_pairs _, _, rfl, ?_⟩
    rw [any_pair, decide_eq_true hin]
    refine iteF ?_
    exact ⟨.ref a, rfl, .ref t, rfl, a, t, us, ps, x, y, rfl, ha, iv, few, ht, q⟩
theorem wneq {a b : Str} (h : a ≠ b) : ¬ (decide (V.str a = V.str b) = true) := fun e => h (V.str.inj (of_decide_eq_true e))
def sp_edited : Sp := fun vs H Q _ => ∃ (s t x y : Addr) (xs ys : List V) (S : St2) (e : Ed), vs = [.ref s, .str (wordE e), .ref t] ∧ H s = some (.tup [.ref x, .ref y]) ∧ H x = some (.tup xs) ∧ Ivs H xs S.1 ∧ H y = some (.tup ys) ∧ Ivs H ys S.2 ∧ StOk S ∧ H t = some (.tup [.int e.q.1, .int e.q.2]) ∧ Can S e ∧
  ∀ H' r x' y' xs' ys', Same H H' → H' r = some (.tup [.ref x', .ref y']) → H' x' = some (.tup xs') → Ivs H' xs' (stepS S e).1 → H' y' = some (.tup ys') → Ivs H' ys' (stepS S e).2 → Q (.ref r) H'
theorem ok_edited_state (T : Tx K mg f_is_number f_is_position f_is_tuple_of f_is_interval f_ascending_error f_targets_error f_is_pieces f_without_item f_with_interval f_without_interval f_edited_state f_law_deck f_law_draw f_law_line f_law_interval f_law_intervals f_law_edit f_law_after f_law_do f_law_begun f_law_flags f_law_errors_right f_law_edited f_law f_Plan_init f_Plan_add_target f_Plan_add_piece f_Plan_remove_target f_Plan_remove_piece f_Plan_undo f_Plan_targets f_Plan_pieces f_Plan_edits f_Plan_edit f_Plan_record f_Plan_require_idle f_Plan_state_at f_Plan_len f_Plan_eq f_TooWide_init f_NotGenerated_init f_TooMany_init f_BadTargets_init f_BadInterval_init f_Duplicate_init f_BadEdit_init f_Rejected_init f_BadText_init f_Unknown_init f_NoVersion_init C_Plan X_TooWide X_NotGenerated X_TooMany X_BadTargets X_BadInterval X_Duplicate X_BadEdit X_Rejected X_BadText X_Unknown X_NoVersion X_OutOfRange X_SpanError X_BadPieces X_TooManyEdits X_NothingToUndo X_BadEdits X_Busy d_is_number d_is_position d_is_tuple_of d_is_interval d_ascending_error d_targets_error d_is_pieces d_without_item d_with_interval d_without_interval d_edited_state d_law_deck d_law_draw d_law_line d_law_interval d_law_intervals d_law_edit d_law_after d_law_do d_law_begun d_law_flags d_law_errors_right d_law_edited d_law d_Plan_init d_Plan_add_target d_Plan_add_piece d_Plan_remove_target d_Plan_remove_piece d_Plan_undo d_Plan_targets d_Plan_pieces d_Plan_edits d_Plan_edit d_Plan_record d_Plan_require_idle d_Plan_state_at d_Plan_len d_Plan_eq d_TooWide_init d_NotGenerated_init d_TooMany_init d_BadTargets_init d_BadInterval_init d_Duplicate_init d_BadEdit_init d_Rejected_init d_BadText_init d_Unknown_init d_NoVersion_init t_LAST_POSITION t_MAX_TARGETS t_MAX_PIECES t_MAX_EDITS) : FnOk P w K mg base CX0 5 f_edited_state d_edited_state ["state", "word", "value"] sp_edited := by
  refine T.F_edited_state.ok sc_edited_state (fun vs H Q E h => ?_) (fun cdv A outer s H vs Q E hr h => ?_)
  · obtain ⟨s, t, x, y, xs, ys, S, e, rfl, _⟩ := h
    rfl
  · obtain ⟨s, t, x, y, xs, ys, S, e, rfl, hs, hx, ix, hy, iy, so, ht, can, q⟩ := h
    refine ⟨_, (pss_cons (ps_asg (pv 0) (pg_tup rfl (pgs_cons (pg_name (i := 3) sc_edited_state.nd rfl (Or.inl rfl)) (pgs_cons (pg_name (i := 4) sc_edited_state.nd rfl (Or.inl rfl)) pgs_nil))))
      (pss_cons (ps_if (pt_cmpR op_eq (pv 1) pe_str (nomark _))
      (pss_one (ps_ret (pe_tup (pa_cons (pe_call (ok_with_interval T) (hr.mono (by decide)) (by rfl) T.g_with_interval T.F_with_interval.kp T.b_with_interval .nil pass0 (pa_cons (pv 3) (pa_cons (pv 2) (pa_cons (pe_glob (v := .int 24) (by rfl) T.c_MAX_TARGETS ⟨_, rfl⟩) pa_nil)))) (pa_cons (pv 4) pa_nil)))))
      pss_nil)
      (pss_cons (ps_if (pt_cmpR op_eq (pv 1) pe_str (nomark _))
      (pss_one (ps_ret (pe_tup (pa_cons (pv 3) (pa_cons (pe_call (ok_with_interval T) (hr.mono (by decide)) (by rfl) T.g_with_interval T.F_with_interval.kp T.b_with_interval .nil pass0 (pa_cons (pv 4) (pa_cons (pv 2) (pa_cons (pe_glob (v := .int 30) (by rfl) T.c_MAX_PIECES ⟨_, rfl⟩) pa_nil)))) pa_nil)))))
      pss_nil)
      (pss_cons (ps_if (pt_cmpR op_eq (pv 1) pe_str (nomark _))
      (pss_one (ps_ret (pe_tup (pa_cons (pe_call (ok_without_interval T) (hr.mono (by decide)) (by rfl) T.g_without_interval T.F_without_interval.kp T.b_without_interval .nil pass0 (pa_cons (pv 3) (pa_cons (pv 2) pa_nil))) (pa_cons (pv 4) pa_nil)))))
      pss_nil)
      (pss_one (ps_ret (pe_tup (pa_cons (pv 3) (pa_cons (pe_call (ok_without_interval T) (hr.mono (by decide)) (by rfl) T.g_without_interval T.F_without_interval.kp T.b_without_interval .nil pass0 (pa_cons (pv 4) (pa_cons (pv 2) pa_nil))) pa_nil))))))))), ?_⟩
    refine ⟨.ref s, rfl, s, _, rfl, SqT.of hs, rfl, .ref x, [.ref y], rfl, .ref y, [], rfl, rfl, ?_⟩
    obtain ⟨add, pc, qq⟩ := e
    have ft := so.t.few
    have fp := so.p.few
    have w1 : ¬ (("add_piece" : Str) = "add_target") := by decide +kernel
    have w2 : ¬ (("remove_target" : Str) = "add_target") := by decide +kernel
    have w3 : ¬ (("remove_piece" : Str) = "add_target") := by decide +kernel
    have w4 : ¬ (("remove_target" : Str) = "add_piece") := by decide +kernel
    have w5 : ¬ (("remove_piece" : Str) = "add_piece") := by decide +kernel
    have w6 : ¬ (("remove_piece" : Str) = "remove_target") := by decide +kernel
    cases add with
    | true =>
      have no := can.no rfl
      cases pc with
      | false =>
        refine ⟨_, rfl, rfl, _, rfl, ite2 (fun _ => ?_) (fun z => absurd (decide_eq_true rfl) z)⟩
        refine ⟨.ref x, rfl, .ref t, rfl, x, t, xs, S.1, qq.1, qq.2, 24, rfl, hx, ix, so.t, by decide, ht, can.ok, no.1, no.2, fun H1 p ws s1 ep iv => ?_⟩
        refine ⟨.ref y, rfl, by show 2 ≤ sizeLine; decide, fun r nr => ?_⟩
        have s2 := same_new (o := .tup [.ref p, .ref y]) nr
        have s12 := s1.trans s2
        exact q _ r p y ws ys s12 upd_same (s2 _ _ ep) (iv.same s2) (s12 _ _ hy) (iy.same s12)
      | true =>
        refine ⟨_, rfl, rfl, _, rfl, ite2 (fun z => absurd z (wneq w1)) (fun _ => ?_)⟩
        refine ⟨_, rfl, rfl, _, rfl, ite2 (fun _ => ?_) (fun z => absurd (decide_eq_true rfl) z)⟩
        refine ⟨.ref x, rfl, .ref y, rfl, .ref t, rfl, y, t, ys, S.2, qq.1, qq.2, 30, rfl, hy, iy, so.p, by decide, ht, can.ok, no.1, no.2, fun H1 p ws s1 ep iv => ?_⟩
        refine ⟨by show 2 ≤ sizeLine; decide, fun r nr => ?_⟩
        have s2 := same_new (o := .tup [.ref x, .ref p]) nr
        have s12 := s1.trans s2
        exact q _ r x p xs ws s12 upd_same (s12 _ _ hx) (ix.same s12) (s2 _ _ ep) (iv.same s2)
    | false =>
      have yes := can.yes rfl
      cases pc with
      | false =>
        refine ⟨_, rfl, rfl, _, rfl, ite2 (fun z => absurd z (wneq w2)) (fun _ => ?_)⟩
        refine ⟨_, rfl, rfl, _, rfl, ite2 (fun z => absurd z (wneq w4)) (fun _ => ?_)⟩
        refine ⟨_, rfl, rfl, _, rfl, ite2 (fun _ => ?_) (fun z => absurd (decide_eq_true rfl) z)⟩
        refine ⟨.ref x, rfl, .ref t, rfl, x, t, xs, S.1, qq.1, qq.2, rfl, hx, ix, by omega, ht, can.ok, yes, fun H1 p ws s1 ep iv => ?_⟩
        refine ⟨.ref y, rfl, by show 2 ≤ sizeLine; decide, fun r nr => ?_⟩
        have s2 := same_new (o := .tup [.ref p, .ref y]) nr
        have s12 := s1.trans s2
        exact q _ r p y ws ys s12 upd_same (s2 _ _ ep) (iv.same s2) (s12 _ _ hy) (iy.same s12)
      | true =>
        refine ⟨_, rfl, rfl, _, rfl, ite2 (fun z => absurd z (wneq w3)) (fun _ => ?_)⟩
        refine ⟨_, rfl, rfl, _, rfl, ite2 (fun z => absurd z (wneq w5)) (fun _ => ?_)⟩
        refine ⟨_, rfl, rfl, _, rfl, ite2 (fun z => absurd z (wneq w6)) (fun _ => ?_)⟩
        refine ⟨.ref x, rfl, .ref y, rfl, .ref t, rfl, y, t, ys, S.2, qq.1, qq.2, rfl, hy, iy, by omega, ht, can.ok, yes, fun H1 p ws s1 ep iv => ?_⟩
        refine ⟨by show 2 ≤ sizeLine; decide, fun r nr => ?_⟩
        have s2 := same_new (o := .tup [.ref x, .ref p]) nr
        have s12 := s1.trans s2
        exact q _ r x p xs ws s12 upd_same (s12 _ _ hx) (ix.same s12) (s2 _ _ ep) (iv.same s2)
/-! ### the methods -/
def sp_init (C : Addr) : Sp := fun vs H Q _ => ∃ (p dx x y : Addr) (xs ys : List V) (S : St2), vs = [.ref p, .ref x, .ref y] ∧ H p = some (.ins C dx []) ∧ H x = some (.tup xs) ∧ Ivs H xs S.1 ∧ H y = some (.tup ys) ∧ Ivs H ys S.2 ∧ StOk S ∧
  ∀ H', But p H H' → PlanAt C H' p [S] [] → Q .non H'
theorem ok_Plan_init (T : Tx K mg f_is_number f_is_position f_is_tuple_of f_is_interval f_ascending_error f_targets_error f_is_pieces f_without_item f_with_interval f_without_interval f_edited_state f_law_deck f_law_draw f_law_line f_law_interval f_law_intervals f_law_edit f_law_after f_law_do f_law_begun f_law_flags f_law_errors_right f_law_edited f_law f_Plan_init f_Plan_add_target f_Plan_add_piece f_Plan_remove_target f_Plan_remove_piece f_Plan_undo f_Plan_targets f_Plan_pieces f_Plan_edits f_Plan_edit f_Plan_record f_Plan_require_idle f_Plan_state_at f_Plan_len f_Plan_eq f_TooWide_init f_NotGenerated_init f_TooMany_init f_BadTargets_init f_BadInterval_init f_Duplicate_init f_BadEdit_init f_Rejected_init f_BadText_init f_Unknown_init f_NoVersion_init C_Plan X_TooWide X_NotGenerated X_TooMany X_BadTargets X_BadInterval X_Duplicate X_BadEdit X_Rejected X_BadText X_Unknown X_NoVersion X_OutOfRange X_SpanError X_BadPieces X_TooManyEdits X_NothingToUndo X_BadEdits X_Busy d_is_number d_is_position d_is_tuple_of d_is_interval d_ascending_error d_targets_error d_is_pieces d_without_item d_with_interval d_without_interval d_edited_state d_law_deck d_law_draw d_law_line d_law_interval d_law_intervals d_law_edit d_law_after d_law_do d_law_begun d_law_flags d_law_errors_right d_law_edited d_law d_Plan_init d_Plan_add_target d_Plan_add_piece d_Plan_remove_target d_Plan_remove_piece d_Plan_undo d_Plan_targets d_Plan_pieces d_Plan_edits d_Plan_edit d_Plan_record d_Plan_require_idle d_Plan_state_at d_Plan_len d_Plan_eq d_TooWide_init d_NotGenerated_init d_TooMany_init d_BadTargets_init d_BadInterval_init d_Duplicate_init d_BadEdit_init d_Rejected_init d_BadText_init d_Unknown_init d_NoVersion_init t_LAST_POSITION t_MAX_TARGETS t_MAX_PIECES t_MAX_EDITS) : FnOk P w K mg base CX0 6 f_Plan_init d_Plan_init ["self", "targets", "pieces"] (sp_init C_Plan) := by
  refine T.F_Plan_init.ok sc_Plan_init (fun vs H Q E h => ?_) (fun cdv A outer s H vs Q E hr h => ?_)
  · obtain ⟨p, dx, x, y, xs, ys, S, rfl, _⟩ := h
    rfl
  · obtain ⟨p, dx, x, y, xs, ys, S, rfl, hp, hx, ix, hy, iy, so, q⟩ := h
    refine ⟨_, (pss_cons (ps_set (i := 3) sc_Plan_init.nd rfl (Or.inl rfl) (pe_call (ok_targets_error T) (hr.mono (by decide)) (by rfl) T.g_targets_error T.F_targets_error.kp T.b_targets_error .nil pass0 (pa_cons (pv 1) pa_nil)))
      (pss_cons (ps_if (pt_cmpR op_notN (pv 3) pe_non (nomark _))
      (pss_one ps_never)
      pss_nil)
      (pss_cons (ps_if (pt_not (pt_val (pe_call (ok_is_pieces T) (hr.mono (by decide)) (by rfl) T.g_is_pieces T.F_is_pieces.kp T.b_is_pieces .nil pass0 (pa_cons (pv 2) pa_nil))))
      (pss_one ps_never)
      pss_nil)
      (pss_cons (ps_fld (pv 0) (pe_tup (pa_cons (pe_tup (pa_cons (pv 1) (pa_cons (pv 2) pa_nil))) pa_nil)) rfl)
      (pss_cons (ps_fld (pv 0) (pe_tup pa_nil) rfl)
      (pss_one (ps_fld (pv 0) pe_bl rfl))))))), ?_⟩
    refine ⟨.ref x, rfl, x, xs, S.1, rfl, hx, ix, so.t, fun H1 s1 => ?_⟩
    refine ⟨_, rfl, rfl, _, rfl, iteNS rfl ?_⟩
    refine ⟨.ref y, rfl, y, ys, S.2, rfl, s1 _ _ hy, iy.same s1, so.p, fun H2 s2 => ⟨_, rfl, iteF ?_⟩⟩
    have s12 := s1.trans s2
    refine ⟨.ref x, rfl, .ref y, rfl, by show 2 ≤ sizeLine; decide, fun t nt => ?_⟩
    have s3 := same_new (o := .tup [.ref x, .ref y]) nt
    have et := upd_same (H := H2) (a := t) (o := .tup [.ref x, .ref y])
    generalize upd H2 t (.tup [.ref x, .ref y]) = H3 at *
    refine ⟨by show 1 ≤ sizeLine; decide, fun a na => ?_⟩
    have s4 := same_new (o := .tup [.ref t]) na
    have ea := upd_same (H := H3) (a := a) (o := .tup [.ref t])
    generalize upd H3 a (.tup [.ref t]) = H4 at *
    have s24 := s3.trans s4
    have s14 := s12.trans s24
    have hp4 := s14 _ _ hp
    refine ⟨.ref p, rfl, p, C_Plan, dx, [], rfl, hp4, T.cl_Plan, T.n_Plan_states, by show 0 < 1000; decide, ?_⟩
    refine ⟨by show 0 ≤ sizeLine; decide, fun b nb => ?_⟩
    have nbp : b ≠ p := fun e => by
      rw [e, upd_same] at nb
      cases nb
    refine ⟨.ref p, rfl, p, C_Plan, dx, _, rfl, by rw [upd_ne nbp.symm, upd_same], T.cl_Plan, T.n_Plan_done, by show 1 < 1000; decide, ?_⟩
    refine ⟨.ref p, rfl, p, C_Plan, dx, _, rfl, upd_same, T.cl_Plan, T.n_Plan_busy, by rw [show putF "done" (V.ref b) (putF "states" (V.ref a) []) = [(("states" : Str), V.ref a), ("done", V.ref b)] from if_neg kSD]; show 2 < 1000; decide, ?_⟩
    rw [flP_new]
    have nb4 : H4 b = none := by
      rw [upd_ne nbp] at nb
      exact nb
    have fin : ∀ {c : Addr} {o : HO}, c ≠ p → H4 c = some o → upd (upd (upd (upd H4 p (.ins C_Plan dx (putF "states" (.ref a) []))) b (.tup [])) p (.ins C_Plan dx (putF "done" (.ref b) (putF "states" (.ref a) [])))) p (.ins C_Plan dx (flP a b false)) c = some o := fun {c o} n e => by
      rw [upd_ne n, upd_ne n, upd_ne (ne_of_none e nb4), upd_ne n]
      exact e
    have tp : Tps H4 (upd (upd (upd (upd H4 p (.ins C_Plan dx (putF "states" (.ref a) []))) b (.tup [])) p (.ins C_Plan dx (putF "done" (.ref b) (putF "states" (.ref a) [])))) p (.ins C_Plan dx (flP a b false))) := fun c us e => fin (ne_of e hp4 (fun z => by cases z)) e
    refine q _ (fun c o n e => fin n (s14 _ _ e)) ⟨⟨dx, a, b, _, _, upd_same, tp _ _ ea, ?_, by rw [upd_ne nbp, upd_ne nbp, upd_same], .nil⟩, rfl⟩
    exact .cons (tp _ _ (s4 _ _ et)) (tp _ _ (s14 _ _ hx)) ((ix.same s14).tps tp) (tp _ _ (s14 _ _ hy)) ((iy.same s14).tps tp) .nil
def sp_idle (C : Addr) : Sp := fun vs H Q _ => ∃ (p dx a b : Addr), vs = [.ref p] ∧ H p = some (.ins C dx (flP a b false)) ∧ Q .non H
theorem ok_Plan_require_idle (T : Tx K mg f_is_number f_is_position f_is_tuple_of f_is_interval f_ascending_error f_targets_error f_is_pieces f_without_item f_with_interval f_without_interval f_edited_state f_law_deck f_law_draw f_law_line f_law_interval f_law_intervals f_law_edit f_law_after f_law_do f_law_begun f_law_flags f_law_errors_right f_law_edited f_law f_Plan_init f_Plan_add_target f_Plan_add_piece f_Plan_remove_target f_Plan_remove_piece f_Plan_undo f_Plan_targets f_Plan_pieces f_Plan_edits f_Plan_edit f_Plan_record f_Plan_require_idle f_Plan_state_at f_Plan_len f_Plan_eq f_TooWide_init f_NotGenerated_init f_TooMany_init f_BadTargets_init f_BadInterval_init f_Duplicate_init f_BadEdit_init f_Rejected_init f_BadText_init f_Unknown_init f_NoVersion_init C_Plan X_TooWide X_NotGenerated X_TooMany X_BadTargets X_BadInterval X_Duplicate X_BadEdit X_Rejected X_BadText X_Unknown X_NoVersion X_OutOfRange X_SpanError X_BadPieces X_TooManyEdits X_NothingToUndo X_BadEdits X_Busy d_is_number d_is_position d_is_tuple_of d_is_interval d_ascending_error d_targets_error d_is_pieces d_without_item d_with_interval d_without_interval d_edited_state d_law_deck d_law_draw d_law_line d_law_interval d_law_intervals d_law_edit d_law_after d_law_do d_law_begun d_law_flags d_law_errors_right d_law_edited d_law d_Plan_init d_Plan_add_target d_Plan_add_piece d_Plan_remove_target d_Plan_remove_piece d_Plan_undo d_Plan_targets d_Plan_pieces d_Plan_edits d_Plan_edit d_Plan_record d_Plan_require_idle d_Plan_state_at d_Plan_len d_Plan_eq d_TooWide_init d_NotGenerated_init d_TooMany_init d_BadTargets_init d_BadInterval_init d_Duplicate_init d_BadEdit_init d_Rejected_init d_BadText_init d_Unknown_init d_NoVersion_init t_LAST_POSITION t_MAX_TARGETS t_MAX_PIECES t_MAX_EDITS) : FnOk P w K mg base CX0 1 f_Plan_require_idle d_Plan_require_idle ["self"] (sp_idle C_Plan) := by
  refine T.F_Plan_require_idle.ok sc_Plan_require_idle (fun vs H Q E h => ?_) (fun cdv A outer s H vs Q E hr h => ?_)
  · obtain ⟨p, dx, a, b, rfl, _⟩ := h
    rfl
  · obtain ⟨p, dx, a, b, rfl, hp, q⟩ := h
    refine ⟨_, (pss_one (ps_if (pt_val (pe_fld (pv 0) rfl))
      (pss_one ps_never)
      pss_nil)), ?_⟩
    exact ⟨.ref p, rfl, p, C_Plan, dx, _, _, rfl, hp, T.cl_Plan, T.n_Plan_busy, lk_busy _ _ _, _, rfl, iteF q⟩
def sp_edit (C : Addr) (R : Nat → V) (ws : Ed → List V) : Sp := fun vs H Q _ => ∃ (p t : Addr) (Ls : List St2) (S : St2) (Es : List Ed) (e : Ed), vs = (.ref p :: ws e) ++ [.ref t] ∧ PlanAt C H p (Ls ++ [S]) Es ∧ Es.length < 60 ∧ StOk S ∧ H t = some (.tup [.int e.q.1, .int e.q.2]) ∧ Can S e ∧
  ∀ H', But p H H' → PlanAt C H' p (Ls ++ [S] ++ [stepS S e]) (Es ++ [e]) → Q (R (Es.length + 1)) H'
def wE (e : Ed) : List V := [.str (wordE e)]
def sp_record (C : Addr) : Sp := sp_edit C (fun _ => .non) wE
theorem ok_Plan_record (T : Tx K mg f_is_number f_is_position f_is_tuple_of f_is_interval f_ascending_error f_targets_error f_is_pieces f_without_item f_with_interval f_without_interval f_edited_state f_law_deck f_law_draw f_law_line f_law_interval f_law_intervals f_law_edit f_law_after f_law_do f_law_begun f_law_flags f_law_errors_right f_law_edited f_law f_Plan_init f_Plan_add_target f_Plan_add_piece f_Plan_remove_target f_Plan_remove_piece f_Plan_undo f_Plan_targets f_Plan_pieces f_Plan_edits f_Plan_edit f_Plan_record f_Plan_require_idle f_Plan_state_at f_Plan_len f_Plan_eq f_TooWide_init f_NotGenerated_init f_TooMany_init f_BadTargets_init f_BadInterval_init f_Duplicate_init f_BadEdit_init f_Rejected_init f_BadText_init f_Unknown_init f_NoVersion_init C_Plan X_TooWide X_NotGenerated X_TooMany X_BadTargets X_BadInterval X_Duplicate X_BadEdit X_Rejected X_BadText X_Unknown X_NoVersion X_OutOfRange X_SpanError X_BadPieces X_TooManyEdits X_NothingToUndo X_BadEdits X_Busy d_is_number d_is_position d_is_tuple_of d_is_interval d_ascending_error d_targets_error d_is_pieces d_without_item d_with_interval d_without_interval d_edited_state d_law_deck d_law_draw d_law_line d_law_interval d_law_intervals d_law_edit d_law_after d_law_do d_law_begun d_law_flags d_law_errors_right d_law_edited d_law d_Plan_init d_Plan_add_target d_Plan_add_piece d_Plan_remove_target d_Plan_remove_piece d_Plan_undo d_Plan_targets d_Plan_pieces d_Plan_edits d_Plan_edit d_Plan_record d_Plan_require_idle d_Plan_state_at d_Plan_len d_Plan_eq d_TooWide_init d_NotGenerated_init d_TooMany_init d_BadTargets_init d_BadInterval_init d_Duplicate_init d_BadEdit_init d_Rejected_init d_BadText_init d_Unknown_init d_NoVersion_init t_LAST_POSITION t_MAX_TARGETS t_MAX_PIECES t_MAX_EDITS) : FnOk P w K mg base CX0 6 f_Plan_record d_Plan_record ["self", "word", "value"] (sp_record C_Plan) := by
  refine T.F_Plan_record.ok sc_Plan_record (fun vs H Q E h => ?_) (fun cdv A outer s H vs Q E hr h => ?_)
  · obtain ⟨p, t, Ls, S, Es, e, rfl, _⟩ := h
    rfl
  · obtain ⟨p, t, Ls, S, Es, e, rfl, P, few, so, ht, can, q⟩ := h
    refine ⟨_, (pss_cons (ps_if (pt_cmpR op_ge (pe_callB call_len_seq (by rfl) T.z_len PySem.boot_len (pa_cons (pe_fld (pv 0) rfl) pa_nil)) (pe_glob (v := .int 60) (by rfl) T.c_MAX_EDITS ⟨_, rfl⟩) (nomark _))
      (pss_one ps_never)
      pss_nil)
      (pss_cons (ps_set (i := 3) sc_Plan_record.nd rfl (Or.inl rfl) (pe_call (ok_edited_state T) (hr.mono (by decide)) (by rfl) T.g_edited_state T.F_edited_state.kp T.b_edited_state .nil pass0 (pa_cons (pe_ix ix_tup (pe_fld (pv 0) rfl) (pe_un un_neg pe_int) (fun _ _ => rfl)) (pa_cons (pv 1) (pa_cons (pv 2) pa_nil)))))
      (pss_cons (ps_fldaug (pv 0) (pe_tup (pa_cons (pv 3) pa_nil)) in_catA)
      (pss_one (ps_fldaug (pv 0) (pe_tup (pa_cons (pe_tup (pa_cons (pv 1) (pa_cons (pv 2) pa_nil))) pa_nil)) in_catA))))), ?_⟩
    obtain ⟨⟨dx, a, b, us, vs, hp, ha, sts, hb, eds⟩, pl⟩ := id P
    have lv := eds.length
    have lu := sts.length
    refine ⟨.ref p, rfl, p, C_Plan, dx, _, _, rfl, hp, T.cl_Plan, T.n_Plan_done, lk_done _ _ _, b, vs, rfl, .inr (SqT.of hb), _, _, rfl, rfl, _, rfl, ite2 (fun z => absurd (of_decide_eq_true z) (by omega)) (fun _ => ?_)⟩
    rw [List.length_append] at lu pl
    obtain ⟨s, x, y, xs, ys, eu, hs, hx, ix, hy, iy⟩ := sts.get (i := Ls.length) (S := S) (by rw [List.getElem?_append_right (Nat.le_refl _), Nat.sub_self]; rfl)
    have lu : us.length = Ls.length + 1 := lu
    refine ⟨.ref p, rfl, p, C_Plan, dx, _, _, rfl, hp, T.cl_Plan, T.n_Plan_states, lk_states _ _ _, 1, rfl, a, us, -1, .ref s, rfl, rfl, SqT.of ha, atI_end (by rw [lu]; exact eu), _, rfl, .ref t, rfl, ?_⟩
    refine ⟨s, t, x, y, xs, ys, S, e, rfl, hs, hx, ix, hy, iy, so, ht, can, fun H1 r x' y' xs' ys' s1 er ex' ix' ey' iy' => ?_⟩
    refine ⟨.ref p, rfl, p, C_Plan, dx, _, _, rfl, s1 _ _ hp, T.cl_Plan, T.n_Plan_states, lk_states _ _ _, .ref r, rfl, by show 1 ≤ sizeLine; decide, fun u nu => ?_⟩
    have s2 := same_new (o := .tup [.ref r]) nu
    have eu2 := upd_same (H := H1) (a := u) (o := .tup [.ref r])
    generalize upd H1 u (.tup [.ref r]) = H2 at *
    have s12 := s1.trans s2
    refine catA_any (s12 _ _ ha) eu2 (by rw [show sizeLine = 16777216 by decide]; show us.length + 1 ≤ _; omega) (fun H3 a2 s3 ea2 => ?_)
    have s13 := s12.trans s3
    refine ⟨dx, _, s13 _ _ hp, by show 3 < 1000; decide, ?_⟩
    rw [flP_states]
    have np3 : ∀ {c : Addr} {xs : List V}, H3 c = some (.tup xs) → c ≠ p := fun {c xs} h => ne_of h (s13 _ _ hp) (fun z => by cases z)
    generalize eH4 : upd H3 p (.ins C_Plan dx (flP a2 b false)) = H4
    have t4 : Tps H3 H4 := fun c xs h => by
      rw [← eH4, upd_ne (np3 h)]
      exact h
    have b4 : But p H3 H4 := eH4 ▸ But.upd
    have hp4 : H4 p = some (.ins C_Plan dx (flP a2 b false)) := by rw [← eH4, upd_same]
    refine ⟨.ref p, rfl, p, C_Plan, dx, _, _, rfl, hp4, T.cl_Plan, T.n_Plan_done, lk_done _ _ _, _, rfl, .ref t, rfl, by show 2 ≤ sizeLine; decide, fun w nw => ?_⟩
    have s5 := same_new (o := .tup [.str (wordE e), .ref t]) nw
    have ew := upd_same (H := H4) (a := w) (o := .tup [.str (wordE e), .ref t])
    generalize upd H4 w (.tup [.str (wordE e), .ref t]) = H5 at *
    refine ⟨by show 1 ≤ sizeLine; decide, fun w2 nw2 => ?_⟩
    have s6 := same_new (o := .tup [.ref w]) nw2
    have ew2 := upd_same (H := H5) (a := w2) (o := .tup [.ref w])
    generalize upd H5 w2 (.tup [.ref w]) = H6 at *
    have s46 := s5.trans s6
    have hb6 := s46 _ _ (t4 _ _ (s13 _ _ hb))
    refine catA_any hb6 ew2 (by rw [show sizeLine = 16777216 by decide]; show vs.length + 1 ≤ _; omega) (fun H7 b2 s7 eb2 => ?_)
    have s47 := s46.trans s7
    refine ⟨dx, _, s47 _ _ hp4, by show 3 < 1000; decide, ?_⟩
    rw [flP_done]
    have t7 : Tps H7 (upd H7 p (.ins C_Plan dx (flP a2 b2 false))) := fun c xs h => by
      rw [upd_ne (ne_of h (s47 _ _ hp4) (fun z => by cases z))]
      exact h
    have t37 : Tps H3 H7 := t4.trans (Tps.same s47)
    have t17 : Tps H1 H7 := (Tps.same (s2.trans s3)).trans t37
    have t07 : Tps H H7 := (Tps.same s1).trans t17
    refine q _ ((But.same s13).trans (b4.trans ((But.same s47).trans But.upd))) ⟨⟨dx, a2, b2, _, _, upd_same, t7 _ _ (t37 _ _ ea2), (sts.tps (t07.trans t7)).snoc (t7 _ _ (t17 _ _ er)) (t7 _ _ (t17 _ _ ex')) (ix'.tps (t17.trans t7)) (t7 _ _ (t17 _ _ ey')) (iy'.tps (t17.trans t7)), t7 _ _ eb2, (eds.tps (t07.trans t7)).snoc (t7 _ _ (s7 _ _ (s6 _ _ ew))) (t7 _ _ (t07 _ _ ht))⟩, ?_⟩
    rw [List.length_append, List.length_append, List.length_append, show [stepS S e].length = 1 from rfl, show [S].length = 1 from rfl, show [e].length = 1 from rfl]
    have pl : Ls.length + 1 = Es.length + 1 := pl
    omega
def sp_Plan_edit (C : Addr) : Sp := sp_edit C (fun n => .int n) wE
theorem ok_Plan_edit (T : Tx K mg f_is_number f_is_position f_is_tuple_of f_is_interval f_ascending_error f_targets_error f_is_pieces f_without_item f_with_interval f_without_interval f_edited_state f_law_deck f_law_draw f_law_line f_law_interval f_law_intervals f_law_edit f_law_after f_law_do f_law_begun f_law_flags f_law_errors_right f_law_edited f_law f_Plan_init f_Plan_add_target f_Plan_add_piece f_Plan_remove_target f_Plan_remove_piece f_Plan_undo f_Plan_targets f_Plan_pieces f_Plan_edits f_Plan_edit f_Plan_record f_Plan_require_idle f_Plan_state_at f_Plan_len f_Plan_eq f_TooWide_init f_NotGenerated_init f_TooMany_init f_BadTargets_init f_BadInterval_init f_Duplicate_init f_BadEdit_init f_Rejected_init f_BadText_init f_Unknown_init f_NoVersion_init C_Plan X_TooWide X_NotGenerated X_TooMany X_BadTargets X_BadInterval X_Duplicate X_BadEdit X_Rejected X_BadText X_Unknown X_NoVersion X_OutOfRange X_SpanError X_BadPieces X_TooManyEdits X_NothingToUndo X_BadEdits X_Busy d_is_number d_is_position d_is_tuple_of d_is_interval d_ascending_error d_targets_error d_is_pieces d_without_item d_with_interval d_without_interval d_edited_state d_law_deck d_law_draw d_law_line d_law_interval d_law_intervals d_law_edit d_law_after d_law_do d_law_begun d_law_flags d_law_errors_right d_law_edited d_law d_Plan_init d_Plan_add_target d_Plan_add_piece d_Plan_remove_target d_Plan_remove_piece d_Plan_undo d_Plan_targets d_Plan_pieces d_Plan_edits d_Plan_edit d_Plan_record d_Plan_require_idle d_Plan_state_at d_Plan_len d_Plan_eq d_TooWide_init d_NotGenerated_init d_TooMany_init d_BadTargets_init d_BadInterval_init d_Duplicate_init d_BadEdit_init d_Rejected_init d_BadText_init d_Unknown_init d_NoVersion_init t_LAST_POSITION t_MAX_TARGETS t_MAX_PIECES t_MAX_EDITS) : FnOk P w K mg base CX0 7 f_Plan_edit d_Plan_edit ["self", "word", "value"] (sp_Plan_edit C_Plan) := by
  refine T.F_Plan_edit.ok sc_Plan_edit (fun vs H Q E h => ?_) (fun cdv A outer s H vs Q E hr h => ?_)
  · obtain ⟨p, t, Ls, S, Es, e, rfl, _⟩ := h
    rfl
  · obtain ⟨p, t, Ls, S, Es, e, rfl, P, few, so, ht, can, q⟩ := h
    refine ⟨_, (pss_cons (ps_expr (pe_meth0 (pv 0) T.cl_Plan T.m_Plan_require_idle (ok_Plan_require_idle T) (hr.mono (by decide)) T.b_Plan_require_idle .nil pass0))
      (pss_cons (ps_expr (pe_meth (pv 0) T.cl_Plan T.m_Plan_record (ok_Plan_record T) (hr.mono (by decide)) T.b_Plan_record .nil pass0 (pa_cons (pv 1) (pa_cons (pv 2) pa_nil))))
      (pss_one (ps_ret (pe_callB call_len_seq (by rfl) T.z_len PySem.boot_len (pa_cons (pe_fld (pv 0) rfl) pa_nil)))))), ?_⟩
    obtain ⟨dx, a, b, us, vs, hp, _⟩ := id P.ex
    refine ⟨.ref p, rfl, p, dx, _, rfl, hp, lk_no _ _ _ (by decide +kernel), p, dx, a, b, rfl, hp, ?_⟩
    refine ⟨.ref p, rfl, p, dx, _, rfl, hp, lk_no _ _ _ (by decide +kernel), _, rfl, .ref t, rfl, p, t, Ls, S, Es, e, rfl, P, few, so, ht, can, fun H1 b1 P1 => ?_⟩
    obtain ⟨dx', a', b', us', vs', hp', ha', sts', hb', eds'⟩ := id P1.ex
    have lv := eds'.length
    refine ⟨.ref p, rfl, p, C_Plan, dx', _, _, rfl, hp', T.cl_Plan, T.n_Plan_done, lk_done _ _ _, b', vs', rfl, .inr (SqT.of hb'), ?_⟩
    have z := q H1 b1 P1
    rw [lv, List.length_append]
    exact z
def sp_do (C : Addr) (add pc : Bool) : Sp := fun vs H Q _ => ∃ (p t : Addr) (Ls : List St2) (S : St2) (Es : List Ed) (q : Int × Int), vs = [.ref p, .ref t] ∧ PlanAt C H p (Ls ++ [S]) Es ∧ Es.length < 60 ∧ StOk S ∧ H t = some (.tup [.int q.1, .int q.2]) ∧ Can S ⟨add, pc, q⟩ ∧
  ∀ H', But p H H' → PlanAt C H' p (Ls ++ [S] ++ [stepS S ⟨add, pc, q⟩]) (Es ++ [⟨add, pc, q⟩]) → Q (.int (Es.length + 1 : Nat)) H'
theorem ok_Plan_add_target (T : Tx K mg f_is_number f_is_position f_is_tuple_of f_is_interval f_ascending_error f_targets_error f_is_pieces f_without_item f_with_interval f_without_interval f_edited_state f_law_deck f_law_draw f_law_line f_law_interval f_law_intervals f_law_edit f_law_after f_law_do f_law_begun f_law_flags f_law_errors_right f_law_edited f_law f_Plan_init f_Plan_add_target f_Plan_add_piece f_Plan_remove_target f_Plan_remove_piece f_Plan_undo f_Plan_targets f_Plan_pieces f_Plan_edits f_Plan_edit f_Plan_record f_Plan_require_idle f_Plan_state_at f_Plan_len f_Plan_eq f_TooWide_init f_NotGenerated_init f_TooMany_init f_BadTargets_init f_BadInterval_init f_Duplicate_init f_BadEdit_init f_Rejected_init f_BadText_init f_Unknown_init f_NoVersion_init C_Plan X_TooWide X_NotGenerated X_TooMany X_BadTargets X_BadInterval X_Duplicate X_BadEdit X_Rejected X_BadText X_Unknown X_NoVersion X_OutOfRange X_SpanError X_BadPieces X_TooManyEdits X_NothingToUndo X_BadEdits X_Busy d_is_number d_is_position d_is_tuple_of d_is_interval d_ascending_error d_targets_error d_is_pieces d_without_item d_with_interval d_without_interval d_edited_state d_law_deck d_law_draw d_law_line d_law_interval d_law_intervals d_law_edit d_law_after d_law_do d_law_begun d_law_flags d_law_errors_right d_law_edited d_law d_Plan_init d_Plan_add_target d_Plan_add_piece d_Plan_remove_target d_Plan_remove_piece d_Plan_undo d_Plan_targets d_Plan_pieces d_Plan_edits d_Plan_edit d_Plan_record d_Plan_require_idle d_Plan_state_at d_Plan_len d_Plan_eq d_TooWide_init d_NotGenerated_init d_TooMany_init d_BadTargets_init d_BadInterval_init d_Duplicate_init d_BadEdit_init d_Rejected_init d_BadText_init d_Unknown_init d_NoVersion_init t_LAST_POSITION t_MAX_TARGETS t_MAX_PIECES t_MAX_EDITS) : FnOk P w K mg base CX0 8 f_Plan_add_target d_Plan_add_target ["self", "interval"] (sp_do C_Plan true false) := by
  refine T.F_Plan_add_target.ok sc_Plan_add_target (fun vs H Q E h => ?_) (fun cdv A outer s H vs Q E hr h => ?_)
  · obtain ⟨p, t, Ls, S, Es, z, rfl, _⟩ := h
    rfl
  · obtain ⟨p, t, Ls, S, Es, z, rfl, P, few, so, ht, can, q⟩ := h
    refine ⟨_, (pss_one (ps_ret (pe_meth (pv 0) T.cl_Plan T.m_Plan_edit (ok_Plan_edit T) (hr.mono (by decide)) T.b_Plan_edit .nil pass0 (pa_cons pe_str (pa_cons (pv 1) pa_nil))))), ?_⟩
    obtain ⟨dx, a, b, us, vs, hp, _⟩ := id P.ex
    exact ⟨.ref p, rfl, p, dx, _, rfl, hp, lk_no _ _ _ (by decide +kernel), .ref t, rfl, p, t, Ls, S, Es, _, rfl, P, few, so, ht, can, q⟩
theorem ok_Plan_add_piece (T : Tx K mg f_is_number f_is_position f_is_tuple_of f_is_interval f_ascending_error f_targets_error f_is_pieces f_without_item f_with_interval f_without_interval f_edited_state f_law_deck f_law_draw f_law_line f_law_interval f_law_intervals f_law_edit f_law_after f_law_do f_law_begun f_law_flags f_law_errors_right f_law_edited f_law f_Plan_init f_Plan_add_target f_Plan_add_piece f_Plan_remove_target f_Plan_remove_piece f_Plan_undo f_Plan_targets f_Plan_pieces f_Plan_edits f_Plan_edit f_Plan_record f_Plan_require_idle f_Plan_state_at f_Plan_len f_Plan_eq f_TooWide_init f_NotGenerated_init f_TooMany_init f_BadTargets_init f_BadInterval_init f_Duplicate_init f_BadEdit_init f_Rejected_init f_BadText_init f_Unknown_init f_NoVersion_init C_Plan X_TooWide X_NotGenerated X_TooMany X_BadTargets X_BadInterval X_Duplicate X_BadEdit X_Rejected X_BadText X_Unknown X_NoVersion X_OutOfRange X_SpanError X_BadPieces X_TooManyEdits X_NothingToUndo X_BadEdits X_Busy d_is_number d_is_position d_is_tuple_of d_is_interval d_ascending_error d_targets_error d_is_pieces d_without_item d_with_interval d_without_interval d_edited_state d_law_deck d_law_draw d_law_line d_law_interval d_law_intervals d_law_edit d_law_after d_law_do d_law_begun d_law_flags d_law_errors_right d_law_edited d_law d_Plan_init d_Plan_add_target d_Plan_add_piece d_Plan_remove_target d_Plan_remove_piece d_Plan_undo d_Plan_targets d_Plan_pieces d_Plan_edits d_Plan_edit d_Plan_record d_Plan_require_idle d_Plan_state_at d_Plan_len d_Plan_eq d_TooWide_init d_NotGenerated_init d_TooMany_init d_BadTargets_init d_BadInterval_init d_Duplicate_init d_BadEdit_init d_Rejected_init d_BadText_init d_Unknown_init d_NoVersion_init t_LAST_POSITION t_MAX_TARGETS t_MAX_PIECES t_MAX_EDITS) : FnOk P w K mg base CX0 8 f_Plan_add_piece d_Plan_add_piece ["self", "interval"] (sp_do C_Plan true true) := by
  refine T.F_Plan_add_piece.ok sc_Plan_add_piece (fun vs H Q E h => ?_) (fun cdv A outer s H vs Q E hr h => ?_)
  · obtain ⟨p, t, Ls, S, Es, z, rfl, _⟩ := h
    rfl
  · obtain ⟨p, t, Ls, S, Es, z, rfl, P, few, so, ht, can, q⟩ := h
    refine ⟨_, (pss_one (ps_ret (pe_meth (pv 0) T.cl_Plan T.m_Plan_edit (ok_Plan_edit T) (hr.mono (by decide)) T.b_Plan_edit .nil pass0 (pa_cons pe_str (pa_cons (pv 1) pa_nil))))), ?_⟩
    obtain ⟨dx, a, b, us, vs, hp, _⟩ := id P.ex
    exact ⟨.ref p, rfl, p, dx, _, rfl, hp, lk_no _ _ _ (by decide +kernel), .ref t, rfl, p, t, Ls, S, Es, _, rfl, P, few, so, ht, can, q⟩
theorem ok_Plan_remove_target (T : Tx K mg f_is_number f_is_position f_is_tuple_of f_is_interval f_ascending_error f_targets_error f_is_pieces f_without_item f_with_interval f_without_interval f_edited_state f_law_deck f_law_draw f_law_line f_law_interval f_law_intervals f_law_edit f_law_after f_law_do f_law_begun f_law_flags f_law_errors_right f_law_edited f_law f_Plan_init f_Plan_add_target f_Plan_add_piece f_Plan_remove_target f_Plan_remove_piece f_Plan_undo f_Plan_targets f_Plan_pieces f_Plan_edits f_Plan_edit f_Plan_record f_Plan_require_idle f_Plan_state_at f_Plan_len f_Plan_eq f_TooWide_init f_NotGenerated_init f_TooMany_init f_BadTargets_init f_BadInterval_init f_Duplicate_init f_BadEdit_init f_Rejected_init f_BadText_init f_Unknown_init f_NoVersion_init C_Plan X_TooWide X_NotGenerated X_TooMany X_BadTargets X_BadInterval X_Duplicate X_BadEdit X_Rejected X_BadText X_Unknown X_NoVersion X_OutOfRange X_SpanError X_BadPieces X_TooManyEdits X_NothingToUndo X_BadEdits X_Busy d_is_number d_is_position d_is_tuple_of d_is_interval d_ascending_error d_targets_error d_is_pieces d_without_item d_with_interval d_without_interval d_edited_state d_law_deck d_law_draw d_law_line d_law_interval d_law_intervals d_law_edit d_law_after d_law_do d_law_begun d_law_flags d_law_errors_right d_law_edited d_law d_Plan_init d_Plan_add_target d_Plan_add_piece d_Plan_remove_target d_Plan_remove_piece d_Plan_undo d_Plan_targets d_Plan_pieces d_Plan_edits d_Plan_edit d_Plan_record d_Plan_require_idle d_Plan_state_at d_Plan_len d_Plan_eq d_TooWide_init d_NotGenerated_init d_TooMany_init d_BadTargets_init d_BadInterval_init d_Duplicate_init d_BadEdit_init d_Rejected_init d_BadText_init d_Unknown_init d_NoVersion_init t_LAST_POSITION t_MAX_TARGETS t_MAX_PIECES t_MAX_EDITS) : FnOk P w K mg base CX0 8 f_Plan_remove_target d_Plan_remove_target ["self", "interval"] (sp_do C_Plan false false) := by
  refine T.F_Plan_remove_target.ok sc_Plan_remove_target (fun vs H Q E h => ?_) (fun cdv A outer s H vs Q E hr h => ?_)
  · obtain ⟨p, t, Ls, S, Es, z, rfl, _⟩ := h
    rfl
  · obtain ⟨p, t, Ls, S, Es, z, rfl, P, few, so, ht, can, q⟩ := h
    refine ⟨_, (pss_one (ps_ret (pe_meth (pv 0) T.cl_Plan T.m_Plan_edit (ok_Plan_edit T) (hr.mono (by decide)) T.b_Plan_edit .nil pass0 (pa_cons pe_str (pa_cons (pv 1) pa_nil))))), ?_⟩
    obtain ⟨dx, a, b, us, vs, hp, _⟩ := id P.ex
    exact ⟨.ref p, rfl, p, dx, _, rfl, hp, lk_no _ _ _ (by decide +kernel), .ref t, rfl, p, t, Ls, S, Es, _, rfl, P, few, so, ht, can, q⟩
theorem ok_Plan_remove_piece (T : Tx K mg f_is_number f_is_position f_is_tuple_of f_is_interval f_ascending_error f_targets_error f_is_pieces f_without_item f_with_interval f_without_interval f_edited_state f_law_deck f_law_draw f_law_line f_law_interval f_law_intervals f_law_edit f_law_after f_law_do f_law_begun f_law_flags f_law_errors_right f_law_edited f_law f_Plan_init f_Plan_add_target f_Plan_add_piece f_Plan_remove_target f_Plan_remove_piece f_Plan_undo f_Plan_targets f_Plan_pieces f_Plan_edits f_Plan_edit f_Plan_record f_Plan_require_idle f_Plan_state_at f_Plan_len f_Plan_eq f_TooWide_init f_NotGenerated_init f_TooMany_init f_BadTargets_init f_BadInterval_init f_Duplicate_init f_BadEdit_init f_Rejected_init f_BadText_init f_Unknown_init f_NoVersion_init C_Plan X_TooWide X_NotGenerated X_TooMany X_BadTargets X_BadInterval X_Duplicate X_BadEdit X_Rejected X_BadText X_Unknown X_NoVersion X_OutOfRange X_SpanError X_BadPieces X_TooManyEdits X_NothingToUndo X_BadEdits X_Busy d_is_number d_is_position d_is_tuple_of d_is_interval d_ascending_error d_targets_error d_is_pieces d_without_item d_with_interval d_without_interval d_edited_state d_law_deck d_law_draw d_law_line d_law_interval d_law_intervals d_law_edit d_law_after d_law_do d_law_begun d_law_flags d_law_errors_right d_law_edited d_law d_Plan_init d_Plan_add_target d_Plan_add_piece d_Plan_remove_target d_Plan_remove_piece d_Plan_undo d_Plan_targets d_Plan_pieces d_Plan_edits d_Plan_edit d_Plan_record d_Plan_require_idle d_Plan_state_at d_Plan_len d_Plan_eq d_TooWide_init d_NotGenerated_init d_TooMany_init d_BadTargets_init d_BadInterval_init d_Duplicate_init d_BadEdit_init d_Rejected_init d_BadText_init d_Unknown_init d_NoVersion_init t_LAST_POSITION t_MAX_TARGETS t_MAX_PIECES t_MAX_EDITS) : FnOk P w K mg base CX0 8 f_Plan_remove_piece d_Plan_remove_piece ["self", "interval"] (sp_do C_Plan false true) := by
  refine T.F_Plan_remove_piece.ok sc_Plan_remove_piece (fun vs H Q E h => ?_) (fun cdv A outer s H vs Q E hr h => ?_)
  · obtain ⟨p, t, Ls, S, Es, z, rfl, _⟩ := h
    rfl
  · obtain ⟨p, t, Ls, S, Es, z, rfl, P, few, so, ht, can, q⟩ := h
    refine ⟨_, (pss_one (ps_ret (pe_meth (pv 0) T.cl_Plan T.m_Plan_edit (ok_Plan_edit T) (hr.mono (by decide)) T.b_Plan_edit .nil pass0 (pa_cons pe_str (pa_cons (pv 1) pa_nil))))), ?_⟩
    obtain ⟨dx, a, b, us, vs, hp, _⟩ := id P.ex
    exact ⟨.ref p, rfl, p, dx, _, rfl, hp, lk_no _ _ _ (by decide +kernel), .ref t, rfl, p, t, Ls, S, Es, _, rfl, P, few, so, ht, can, q⟩
/-! ### queries -/
/-- a version: None, or a number; i the state's place -/
def IsVer (v : V) (n i : Nat) : Prop := (v = .non ∧ i = n) ∨ (v = .int i ∧ i ≤ n)
def sp_state_at (C : Addr) : Sp := fun vs H Q _ => ∃ (p : Addr) (v : V) (Ss : List St2) (Es : List Ed) (S : St2) (i : Nat), vs = [.ref p, v] ∧ PlanAt C H p Ss Es ∧ IsVer v Es.length i ∧ Ss[i]? = some S ∧
  ∀ t x y xs ys, H t = some (.tup [.ref x, .ref y]) → H x = some (.tup xs) → Ivs H xs S.1 → H y = some (.tup ys) → Ivs H ys S.2 → Q (.ref t) H
theorem ok_Plan_state_at (T : Tx K mg f_is_number f_is_position f_is_tuple_of f_is_interval f_ascending_error f_targets_error f_is_pieces f_without_item f_with_interval f_without_interval f_edited_state f_law_deck f_law_draw f_law_line f_law_interval f_law_intervals f_law_edit f_law_after f_law_do f_law_begun f_law_flags f_law_errors_right f_law_edited f_law f_Plan_init f_Plan_add_target f_Plan_add_piece f_Plan_remove_target f_Plan_remove_piece f_Plan_undo f_Plan_targets f_Plan_pieces f_Plan_edits f_Plan_edit f_Plan_record f_Plan_require_idle f_Plan_state_at f_Plan_len f_Plan_eq f_TooWide_init f_NotGenerated_init f_TooMany_init f_BadTargets_init f_BadInterval_init f_Duplicate_init f_BadEdit_init f_Rejected_init f_BadText_init f_Unknown_init f_NoVersion_init C_Plan X_TooWide X_NotGenerated X_TooMany X_BadTargets X_BadInterval X_Duplicate X_BadEdit X_Rejected X_BadText X_Unknown X_NoVersion X_OutOfRange X_SpanError X_BadPieces X_TooManyEdits X_NothingToUndo X_BadEdits X_Busy d_is_number d_is_position d_is_tuple_of d_is_interval d_ascending_error d_targets_error d_is_pieces d_without_item d_with_interval d_without_interval d_edited_state d_law_deck d_law_draw d_law_line d_law_interval d_law_intervals d_law_edit d_law_after d_law_do d_law_begun d_law_flags d_law_errors_right d_law_edited d_law d_Plan_init d_Plan_add_target d_Plan_add_piece d_Plan_remove_target d_Plan_remove_piece d_Plan_undo d_Plan_targets d_Plan_pieces d_Plan_edits d_Plan_edit d_Plan_record d_Plan_require_idle d_Plan_state_at d_Plan_len d_Plan_eq d_TooWide_init d_NotGenerated_init d_TooMany_init d_BadTargets_init d_BadInterval_init d_Duplicate_init d_BadEdit_init d_Rejected_init d_BadText_init d_Unknown_init d_NoVersion_init t_LAST_POSITION t_MAX_TARGETS t_MAX_PIECES t_MAX_EDITS) : FnOk P w K mg base CX0 2 f_Plan_state_at d_Plan_state_at ["self", "version"] (sp_state_at C_Plan) := by
  refine T.F_Plan_state_at.ok sc_Plan_state_at (fun vs H Q E h => ?_) (fun cdv A outer s H vs Q E hr h => ?_)
  · obtain ⟨p, v, Ss, Es, S, i, rfl, _⟩ := h
    rfl
  · obtain ⟨p, v, Ss, Es, S, i, rfl, P, ver, eS, q⟩ := h
    refine ⟨_, (pss_cons (ps_if (pt_cmpR op_isN (pv 1) pe_non (nomark _))
      (pss_one (ps_ret (pe_ix ix_tup (pe_fld (pv 0) rfl) (pe_un un_neg pe_int) (fun _ _ => rfl))))
      pss_nil)
      (pss_cons (ps_if (PW.pt (pw_or (pt_not (pt_val (pe_call (ok_is_number T) (hr.mono (by decide)) (by rfl) T.g_is_number T.F_is_number.kp T.b_is_number .nil pass0 (pa_cons (pv 1) pa_nil)))) (pw_or1 (pt_not (pt_chain op_le op_le pe_int (pv 1) (pe_callB call_len_seq (by rfl) T.z_len PySem.boot_len (pa_cons (pe_fld (pv 0) rfl) pa_nil)))))))
      (pss_one ps_never)
      pss_nil)
      (pss_one (ps_ret (pe_ix ix_tup (pe_fld (pv 0) rfl) (pv 1) (fun _ _ => rfl)))))), ?_⟩
    obtain ⟨⟨dx, a, b, us, vs, hp, ha, sts, hb, eds⟩, pl⟩ := id P
    have lv := eds.length
    have lu := sts.length
    obtain ⟨s, x, y, xs, ys, eu, hs, hx, ix, hy, iy⟩ := sts.get eS
    have q := q s x y xs ys hs hx ix hy iy
    rcases ver with ⟨rfl, rfl⟩ | ⟨rfl, li⟩
    · refine ⟨_, rfl, rfl, _, rfl, iteT ?_⟩
      exact ⟨.ref p, rfl, p, C_Plan, dx, _, _, rfl, hp, T.cl_Plan, T.n_Plan_states, lk_states _ _ _, 1, rfl, a, us, -1, .ref s, rfl, rfl, SqT.of ha, atI_end (by rw [lu, pl]; exact eu), q⟩
    · refine ⟨_, rfl, rfl, _, rfl, iteF ?_⟩
      refine ⟨_, rfl, i, rfl, _, rfl, iteF ?_⟩
      refine ⟨_, rfl, _, _, rfl, rfl, _, rfl, ?_⟩
      rw [decide_eq_true (show (0 : Int) ≤ (i : Int) by omega)]
      refine iteT ⟨.ref p, rfl, p, C_Plan, dx, _, _, rfl, hp, T.cl_Plan, T.n_Plan_done, lk_done _ _ _, b, vs, rfl, .inr (SqT.of hb), _, _, rfl, rfl, _, rfl, ?_⟩
      rw [decide_eq_true (show (i : Int) ≤ (vs.length : Int) by omega)]
      refine iteF ?_
      exact ⟨.ref p, rfl, p, C_Plan, dx, _, _, rfl, hp, T.cl_Plan, T.n_Plan_states, lk_states _ _ _, _, rfl, a, us, i, .ref s, rfl, rfl, SqT.of ha, atI_nat eu, q⟩
def sp_side (C : Addr) (pc : Bool) : Sp := fun vs H Q _ => ∃ (p : Addr) (v : V) (Ss : List St2) (Es : List Ed) (S : St2) (i : Nat), vs = [.ref p, v] ∧ PlanAt C H p Ss Es ∧ IsVer v Es.length i ∧ Ss[i]? = some S ∧
  ∀ x xs, H x = some (.tup xs) → Ivs H xs (sideS pc S) → Q (.ref x) H
theorem ok_Plan_targets (T : Tx K mg f_is_number f_is_position f_is_tuple_of f_is_interval f_ascending_error f_targets_error f_is_pieces f_without_item f_with_interval f_without_interval f_edited_state f_law_deck f_law_draw f_law_line f_law_interval f_law_intervals f_law_edit f_law_after f_law_do f_law_begun f_law_flags f_law_errors_right f_law_edited f_law f_Plan_init f_Plan_add_target f_Plan_add_piece f_Plan_remove_target f_Plan_remove_piece f_Plan_undo f_Plan_targets f_Plan_pieces f_Plan_edits f_Plan_edit f_Plan_record f_Plan_require_idle f_Plan_state_at f_Plan_len f_Plan_eq f_TooWide_init f_NotGenerated_init f_TooMany_init f_BadTargets_init f_BadInterval_init f_Duplicate_init f_BadEdit_init f_Rejected_init f_BadText_init f_Unknown_init f_NoVersion_init C_Plan X_TooWide X_NotGenerated X_TooMany X_BadTargets X_BadInterval X_Duplicate X_BadEdit X_Rejected X_BadText X_Unknown X_NoVersion X_OutOfRange X_SpanError X_BadPieces X_TooManyEdits X_NothingToUndo X_BadEdits X_Busy d_is_number d_is_position d_is_tuple_of d_is_interval d_ascending_error d_targets_error d_is_pieces d_without_item d_with_interval d_without_interval d_edited_state d_law_deck d_law_draw d_law_line d_law_interval d_law_intervals d_law_edit d_law_after d_law_do d_law_begun d_law_flags d_law_errors_right d_law_edited d_law d_Plan_init d_Plan_add_target d_Plan_add_piece d_Plan_remove_target d_Plan_remove_piece d_Plan_undo d_Plan_targets d_Plan_pieces d_Plan_edits d_Plan_edit d_Plan_record d_Plan_require_idle d_Plan_state_at d_Plan_len d_Plan_eq d_TooWide_init d_NotGenerated_init d_TooMany_init d_BadTargets_init d_BadInterval_init d_Duplicate_init d_BadEdit_init d_Rejected_init d_BadText_init d_Unknown_init d_NoVersion_init t_LAST_POSITION t_MAX_TARGETS t_MAX_PIECES t_MAX_EDITS) : FnOk P w K mg base CX0 3 f_Plan_targets d_Plan_targets ["self", "version"] (sp_side C_Plan false) := by
  refine T.F_Plan_targets.ok sc_Plan_targets (fun vs H Q E h => ?_) (fun cdv A outer s H vs Q E hr h => ?_)
  · obtain ⟨p, v, Ss, Es, S, i, rfl, _⟩ := h
    rfl
  · obtain ⟨p, v, Ss, Es, S, i, rfl, P, ver, eS, q⟩ := h
    refine ⟨_, (pss_one (ps_ret (pe_ix ix_tup (pe_meth (pv 0) T.cl_Plan T.m_Plan_state_at (ok_Plan_state_at T) (hr.mono (by decide)) T.b_Plan_state_at .nil pass0 (pa_cons (pv 1) pa_nil)) pe_int (fun _ _ => rfl)))), ?_⟩
    obtain ⟨dx, a, b, us, vs, hp, _⟩ := id P.ex
    refine ⟨.ref p, rfl, p, dx, _, rfl, hp, lk_no _ _ _ (by decide +kernel), _, rfl, p, v, Ss, Es, S, i, rfl, P, ver, eS, fun t x y xs ys ht hx ix hy iy => ?_⟩
    exact ⟨t, _, 0, .ref x, rfl, rfl, SqT.of ht, rfl, q x xs hx ix⟩
theorem ok_Plan_pieces (T : Tx K mg f_is_number f_is_position f_is_tuple_of f_is_interval f_ascending_error f_targets_error f_is_pieces f_without_item f_with_interval f_without_interval f_edited_state f_law_deck f_law_draw f_law_line f_law_interval f_law_intervals f_law_edit f_law_after f_law_do f_law_begun f_law_flags f_law_errors_right f_law_edited f_law f_Plan_init f_Plan_add_target f_Plan_add_piece f_Plan_remove_target f_Plan_remove_piece f_Plan_undo f_Plan_targets f_Plan_pieces f_Plan_edits f_Plan_edit f_Plan_record f_Plan_require_idle f_Plan_state_at f_Plan_len f_Plan_eq f_TooWide_init f_NotGenerated_init f_TooMany_init f_BadTargets_init f_BadInterval_init f_Duplicate_init f_BadEdit_init f_Rejected_init f_BadText_init f_Unknown_init f_NoVersion_init C_Plan X_TooWide X_NotGenerated X_TooMany X_BadTargets X_BadInterval X_Duplicate X_BadEdit X_Rejected X_BadText X_Unknown X_NoVersion X_OutOfRange X_SpanError X_BadPieces X_TooManyEdits X_NothingToUndo X_BadEdits X_Busy d_is_number d_is_position d_is_tuple_of d_is_interval d_ascending_error d_targets_error d_is_pieces d_without_item d_with_interval d_without_interval d_edited_state d_law_deck d_law_draw d_law_line d_law_interval d_law_intervals d_law_edit d_law_after d_law_do d_law_begun d_law_flags d_law_errors_right d_law_edited d_law d_Plan_init d_Plan_add_target d_Plan_add_piece d_Plan_remove_target d_Plan_remove_piece d_Plan_undo d_Plan_targets d_Plan_pieces d_Plan_edits d_Plan_edit d_Plan_record d_Plan_require_idle d_Plan_state_at d_Plan_len d_Plan_eq d_TooWide_init d_NotGenerated_init d_TooMany_init d_BadTargets_init d_BadInterval_init d_Duplicate_init d_BadEdit_init d_Rejected_init d_BadText_init d_Unknown_init d_NoVersion_init t_LAST_POSITION t_MAX_TARGETS t_MAX_PIECES t_MAX_EDITS) : FnOk P w K mg base CX0 3 f_Plan_pieces d_Plan_pieces ["self", "version"] (sp_side C_Plan true) := by
  refine T.F_Plan_pieces.ok sc_Plan_pieces (fun vs H Q E h => ?_) (fun cdv A outer s H vs Q E hr h => ?_)
  · obtain ⟨p, v, Ss, Es, S, i, rfl, _⟩ := h
    rfl
  · obtain ⟨p, v, Ss, Es, S, i, rfl, P, ver, eS, q⟩ := h
    refine ⟨_, (pss_one (ps_ret (pe_ix ix_tup (pe_meth (pv 0) T.cl_Plan T.m_Plan_state_at (ok_Plan_state_at T) (hr.mono (by decide)) T.b_Plan_state_at .nil pass0 (pa_cons (pv 1) pa_nil)) pe_int (fun _ _ => rfl)))), ?_⟩
    obtain ⟨dx, a, b, us, vs, hp, _⟩ := id P.ex
    refine ⟨.ref p, rfl, p, dx, _, rfl, hp, lk_no _ _ _ (by decide +kernel), _, rfl, p, v, Ss, Es, S, i, rfl, P, ver, eS, fun t x y xs ys ht hx ix hy iy => ?_⟩
    exact ⟨t, _, 1, .ref y, rfl, rfl, SqT.of ht, rfl, q y ys hy iy⟩
def sp_edits (C : Addr) : Sp := fun vs H Q _ => ∃ (p : Addr) (Ss : List St2) (Es : List Ed), vs = [.ref p] ∧ PlanAt C H p Ss Es ∧ ∀ b vs, H b = some (.tup vs) → Eds H vs Es → Q (.ref b) H
theorem ok_Plan_edits (T : Tx K mg f_is_number f_is_position f_is_tuple_of f_is_interval f_ascending_error f_targets_error f_is_pieces f_without_item f_with_interval f_without_interval f_edited_state f_law_deck f_law_draw f_law_line f_law_interval f_law_intervals f_law_edit f_law_after f_law_do f_law_begun f_law_flags f_law_errors_right f_law_edited f_law f_Plan_init f_Plan_add_target f_Plan_add_piece f_Plan_remove_target f_Plan_remove_piece f_Plan_undo f_Plan_targets f_Plan_pieces f_Plan_edits f_Plan_edit f_Plan_record f_Plan_require_idle f_Plan_state_at f_Plan_len f_Plan_eq f_TooWide_init f_NotGenerated_init f_TooMany_init f_BadTargets_init f_BadInterval_init f_Duplicate_init f_BadEdit_init f_Rejected_init f_BadText_init f_Unknown_init f_NoVersion_init C_Plan X_TooWide X_NotGenerated X_TooMany X_BadTargets X_BadInterval X_Duplicate X_BadEdit X_Rejected X_BadText X_Unknown X_NoVersion X_OutOfRange X_SpanError X_BadPieces X_TooManyEdits X_NothingToUndo X_BadEdits X_Busy d_is_number d_is_position d_is_tuple_of d_is_interval d_ascending_error d_targets_error d_is_pieces d_without_item d_with_interval d_without_interval d_edited_state d_law_deck d_law_draw d_law_line d_law_interval d_law_intervals d_law_edit d_law_after d_law_do d_law_begun d_law_flags d_law_errors_right d_law_edited d_law d_Plan_init d_Plan_add_target d_Plan_add_piece d_Plan_remove_target d_Plan_remove_piece d_Plan_undo d_Plan_targets d_Plan_pieces d_Plan_edits d_Plan_edit d_Plan_record d_Plan_require_idle d_Plan_state_at d_Plan_len d_Plan_eq d_TooWide_init d_NotGenerated_init d_TooMany_init d_BadTargets_init d_BadInterval_init d_Duplicate_init d_BadEdit_init d_Rejected_init d_BadText_init d_Unknown_init d_NoVersion_init t_LAST_POSITION t_MAX_TARGETS t_MAX_PIECES t_MAX_EDITS) : FnOk P w K mg base CX0 1 f_Plan_edits d_Plan_edits ["self"] (sp_edits C_Plan) := by
  refine T.F_Plan_edits.ok sc_Plan_edits (fun vs H Q E h => ?_) (fun cdv A outer s H vs Q E hr h => ?_)
  · obtain ⟨p, Ss, Es, rfl, _⟩ := h
    rfl
  · obtain ⟨p, Ss, Es, rfl, P, q⟩ := h
    refine ⟨_, (pss_one (ps_ret (pe_fld (pv 0) rfl))), ?_⟩
    obtain ⟨⟨dx, a, b, us, vs, hp, ha, sts, hb, eds⟩, pl⟩ := id P
    exact ⟨.ref p, rfl, p, C_Plan, dx, _, _, rfl, hp, T.cl_Plan, T.n_Plan_done, lk_done _ _ _, q b vs hb eds⟩
def sp_plen (C : Addr) : Sp := fun vs H Q _ => ∃ (p : Addr) (Ss : List St2) (Es : List Ed), vs = [.ref p] ∧ PlanAt C H p Ss Es ∧ Q (.int (Es.length : Nat)) H
theorem ok_Plan_len (T : Tx K mg f_is_number f_is_position f_is_tuple_of f_is_interval f_ascending_error f_targets_error f_is_pieces f_without_item f_with_interval f_without_interval f_edited_state f_law_deck f_law_draw f_law_line f_law_interval f_law_intervals f_law_edit f_law_after f_law_do f_law_begun f_law_flags f_law_errors_right f_law_edited f_law f_Plan_init f_Plan_add_target f_Plan_add_piece f_Plan_remove_target f_Plan_remove_piece f_Plan_undo f_Plan_targets f_Plan_pieces f_Plan_edits f_Plan_edit f_Plan_record f_Plan_require_idle f_Plan_state_at f_Plan_len f_Plan_eq f_TooWide_init f_NotGenerated_init f_TooMany_init f_BadTargets_init f_BadInterval_init f_Duplicate_init f_BadEdit_init f_Rejected_init f_BadText_init f_Unknown_init f_NoVersion_init C_Plan X_TooWide X_NotGenerated X_TooMany X_BadTargets X_BadInterval X_Duplicate X_BadEdit X_Rejected X_BadText X_Unknown X_NoVersion X_OutOfRange X_SpanError X_BadPieces X_TooManyEdits X_NothingToUndo X_BadEdits X_Busy d_is_number d_is_position d_is_tuple_of d_is_interval d_ascending_error d_targets_error d_is_pieces d_without_item d_with_interval d_without_interval d_edited_state d_law_deck d_law_draw d_law_line d_law_interval d_law_intervals d_law_edit d_law_after d_law_do d_law_begun d_law_flags d_law_errors_right d_law_edited d_law d_Plan_init d_Plan_add_target d_Plan_add_piece d_Plan_remove_target d_Plan_remove_piece d_Plan_undo d_Plan_targets d_Plan_pieces d_Plan_edits d_Plan_edit d_Plan_record d_Plan_require_idle d_Plan_state_at d_Plan_len d_Plan_eq d_TooWide_init d_NotGenerated_init d_TooMany_init d_BadTargets_init d_BadInterval_init d_Duplicate_init d_BadEdit_init d_Rejected_init d_BadText_init d_Unknown_init d_NoVersion_init t_LAST_POSITION t_MAX_TARGETS t_MAX_PIECES t_MAX_EDITS) : FnOk P w K mg base CX0 1 f_Plan_len d_Plan_len ["self"] (sp_plen C_Plan) := by
  refine T.F_Plan_len.ok sc_Plan_len (fun vs H Q E h => ?_) (fun cdv A outer s H vs Q E hr h => ?_)
  · obtain ⟨p, Ss, Es, rfl, _⟩ := h
    rfl
  · obtain ⟨p, Ss, Es, rfl, P, q⟩ := h
    refine ⟨_, (pss_one (ps_ret (pe_callB call_len_seq (by rfl) T.z_len PySem.boot_len (pa_cons (pe_fld (pv 0) rfl) pa_nil)))), ?_⟩
    obtain ⟨⟨dx, a, b, us, vs, hp, ha, sts, hb, eds⟩, pl⟩ := id P
    have lv := eds.length
    refine ⟨.ref p, rfl, p, C_Plan, dx, _, _, rfl, hp, T.cl_Plan, T.n_Plan_done, lk_done _ _ _, b, vs, rfl, .inr (SqT.of hb), ?_⟩
    rw [lv]
    exact q

/-! ### the deck and a plan (deck without a table) -/
theorem Dk.noti {H : Hp} {d c : Addr} {n : Int} (h : Dk H d c n) {p C dx : Addr} {fs : List (Str × V)} (e : H p = some (.ins C dx fs)) : Off d c p := by
  obtain ⟨ys, z, _⟩ := h.cells
  exact ⟨ne_of e h.top (fun z => by cases z), ne_of e z (fun z => by cases z)⟩
theorem Dk.butp {H H' : Hp} {d c : Addr} {n : Int} (h : Dk H d c n) {p C dx : Addr} {fs : List (Str × V)} (e : H p = some (.ins C dx fs)) (b : But p H H') : Dk H' d c n := by
  obtain ⟨ys, z, w⟩ := h.cells
  exact ⟨b _ _ (ne_of h.top e (fun z => by cases z)) h.top, ys, b _ _ (ne_of z e (fun z => by cases z)) z, w⟩

/-! ### t != () -/
section
variable {X : Cx}
def rNeE (K : PySem.W.Frag) : R2 := fun x y H Q => ∃ (a b : Addr) (xs : List V), x = .ref a ∧ y = .ref b ∧ SqT K H a xs ∧ SqT K H b [] ∧ Q (.bl (!xs.isEmpty)) H
theorem op_neE (units : X.A.units < cLine) : OpR X (compareOp .NotEq) (rNeE X.K) := by
  intro pins s σ H x y v u Q I rx ry h
  obtain ⟨a, b, xs, rfl, rfl, ha, hb, q⟩ := h
  cases rx
  cases ry
  obtain ⟨its, r1, p1, _⟩ := I.tuple ha
  obtain ⟨its2, r2, p2, _⟩ := I.tuple hb
  cases r2
  refine SeqAt.RcNeAt.tuples (e := fun _ => true) (show s.heap.IsTuple a its.toArray from p1) (show s.heap.IsTuple b ([] : List Value).toArray from p2) units (fun j h1 h2 => absurd h2 (Nat.not_lt_zero j)) X.prog X.w X.xe (EP X pins σ Q) ⟨.bl (!xs.isEmpty), H, I, ?_, q⟩
  cases r1 with
  | nil => rfl
  | cons r t => rfl
end

/-! ### what plan laws do -/
/-- a law's state of a plan: a list of two tuples -/
structure LawS (H : Hp) (l : Addr) (S : St2) : Prop where
  ex : ∃ (x y : Addr) (xs ys : List V), H l = some (.lst [.ref x, .ref y]) ∧ H x = some (.tup xs) ∧ Ivs H xs S.1 ∧ H y = some (.tup ys) ∧ Ivs H ys S.2
theorem LawS.keep {H H' : Hp} {l : Addr} {S : St2} (h : LawS H l S) (t : Tps H H') (k : ∀ us, H l = some (.lst us) → H' l = some (.lst us)) : LawS H' l S := by
  obtain ⟨x, y, xs, ys, e, ex, ix, ey, iy⟩ := h.ex
  exact ⟨x, y, xs, ys, k _ e, t _ _ ex, ix.tps t, t _ _ ey, iy.tps t⟩
theorem LawS.same {H H' : Hp} {l : Addr} {S : St2} (h : LawS H l S) (s : Same H H') : LawS H' l S := h.keep (Tps.same s) fun us e => s _ _ e
theorem LawS.side {H : Hp} {l : Addr} {S : St2} (h : LawS H l S) (pc : Bool) : ∃ (us : List V) (x : Addr) (xs : List V), H l = some (.lst us) ∧ us.length = 2 ∧ atI us (if pc = true then 1 else 0) = some (.ref x) ∧ ixN us.length (if pc = true then 1 else 0) = some (if pc = true then 1 else 0) ∧ H x = some (.tup xs) ∧ Ivs H xs (sideS pc S) ∧
    ∀ {H' : Hp} {l' x' : Addr} {xs' : List V} {ps : List (Int × Int)}, Tps H H' → H' l' = some (.lst (us.set (if pc = true then 1 else 0) (.ref x'))) → H' x' = some (.tup xs') → Ivs H' xs' ps → LawS H' l' (if pc = true then (S.1, ps) else (ps, S.2)) := by
  obtain ⟨x, y, xs, ys, e, ex, ix, ey, iy⟩ := h.ex
  cases pc with
  | false => exact ⟨_, x, xs, e, rfl, rfl, rfl, ex, ix, fun t e' ex' ix' => ⟨_, y, _, ys, e', ex', ix', t _ _ ey, iy.tps t⟩⟩
  | true => exact ⟨_, y, ys, e, rfl, rfl, rfl, ey, iy, fun t e' ex' ix' => ⟨x, _, xs, _, e', t _ _ ex, ix.tps t, ex', ix'⟩⟩
/-- an edit as a tuple -/
def EdAt (H : Hp) (t : Addr) (e : Ed) : Prop := ∃ a, H t = some (.tup [.str (wordE e), .ref a]) ∧ H a = some (.tup [.int e.q.1, .int e.q.2])
theorem EdAt.tps {H H' : Hp} {t : Addr} {e : Ed} (h : EdAt H t e) (s : Tps H H') : EdAt H' t e := by
  obtain ⟨a, h1, h2⟩ := h
  exact ⟨a, s _ _ h1, s _ _ h2⟩
theorem piece_w : ∀ add pc : Bool, inV (.str (wordOf add pc)) [.str "add_piece", .str "remove_piece"] = pc := by decide +kernel
theorem piece_in (e : Ed) : inV (.str (wordE e)) [.str "add_piece", .str "remove_piece"] = e.pc := piece_w e.add e.pc
theorem add_w : ∀ add pc : Bool, inV (.str (wordOf add pc)) [.str "add_target", .str "add_piece"] = add := by decide +kernel
theorem add_in (e : Ed) : inV (.str (wordE e)) [.str "add_target", .str "add_piece"] = e.add := add_w e.add e.pc
theorem step_side (S : St2) (e : Ed) : stepS S e = if e.pc = true then (S.1, upI e.add e.q (sideS e.pc S)) else (upI e.add e.q (sideS e.pc S), S.2) := by
  obtain ⟨add, pc, q⟩ := e
  cases pc <;> rfl
theorem StOk.side {S : St2} (h : StOk S) (pc : Bool) : SideOk 30 (sideS pc S) := by
  cases pc with
  | true => exact h.p
  | false => exact ⟨h.t.asc, h.t.ok, Nat.le_trans h.t.few (by decide)⟩
theorem wo_none {ps : List (Int × Int)} {q : Int × Int} (h : q ∉ ps) : wo ps q = ps := List.filter_eq_self.mpr fun x hx => by
  rw [decide_eq_false]
  · rfl
  · intro e
    exact h (e ▸ hx)
theorem ins_sorted {ps ps' : List (Int × Int)} {q : Int × Int} (asc : ps.Pairwise ltP) (n : q ∉ ps) (srt : ps'.Pairwise leP) (pm : ps'.Perm (ps ++ [q])) : ps' = insI q ps := by
  have nd : (ps ++ [q]).Nodup := List.nodup_append.mpr ⟨ltP_ndp asc, List.nodup_cons.mpr ⟨(fun h => nomatch h), List.nodup_nil⟩, fun z hz w hw e => n (by
    rw [List.mem_singleton.mp hw] at e
    exact e ▸ hz)⟩
  refine ltP_uniq (perm_leP_lt srt pm nd) (asc_insI asc n) fun z => ?_
  rw [pm.mem_iff, mem_insI, List.mem_append, List.mem_singleton]
  exact or_comm
def sp_law_after : Sp := fun vs H Q _ => ∃ (l t : Addr) (S : St2) (e : Ed), vs = [.ref l, .ref t] ∧ LawS H l S ∧ EdAt H t e ∧ StOk S ∧ Can S e ∧
  ∀ H' l', Same H H' → H l' = none → LawS H' l' (stepS S e) → Q (.ref l') H'
theorem ok_law_after (T : Tx K mg f_is_number f_is_position f_is_tuple_of f_is_interval f_ascending_error f_targets_error f_is_pieces f_without_item f_with_interval f_without_interval f_edited_state f_law_deck f_law_draw f_law_line f_law_interval f_law_intervals f_law_edit f_law_after f_law_do f_law_begun f_law_flags f_law_errors_right f_law_edited f_law f_Plan_init f_Plan_add_target f_Plan_add_piece f_Plan_remove_target f_Plan_remove_piece f_Plan_undo f_Plan_targets f_Plan_pieces f_Plan_edits f_Plan_edit f_Plan_record f_Plan_require_idle f_Plan_state_at f_Plan_len f_Plan_eq f_TooWide_init f_NotGenerated_init f_TooMany_init f_BadTargets_init f_BadInterval_init f_Duplicate_init f_BadEdit_init f_Rejected_init f_BadText_init f_Unknown_init f_NoVersion_init C_Plan X_TooWide X_NotGenerated X_TooMany X_BadTargets X_BadInterval X_Duplicate X_BadEdit X_Rejected X_BadText X_Unknown X_NoVersion X_OutOfRange X_SpanError X_BadPieces X_TooManyEdits X_NothingToUndo X_BadEdits X_Busy d_is_number d_is_position d_is_tuple_of d_is_interval d_ascending_error d_targets_error d_is_pieces d_without_item d_with_interval d_without_interval d_edited_state d_law_deck d_law_draw d_law_line d_law_interval d_law_intervals d_law_edit d_law_after d_law_do d_law_begun d_law_flags d_law_errors_right d_law_edited d_law d_Plan_init d_Plan_add_target d_Plan_add_piece d_Plan_remove_target d_Plan_remove_piece d_Plan_undo d_Plan_targets d_Plan_pieces d_Plan_edits d_Plan_edit d_Plan_record d_Plan_require_idle d_Plan_state_at d_Plan_len d_Plan_eq d_TooWide_init d_NotGenerated_init d_TooMany_init d_BadTargets_init d_BadInterval_init d_Duplicate_init d_BadEdit_init d_Rejected_init d_BadText_init d_Unknown_init d_NoVersion_init t_LAST_POSITION t_MAX_TARGETS t_MAX_PIECES t_MAX_EDITS) : FnOk P w K mg base CX0 1 f_law_after d_law_after ["_law_state", "_law_edit_here"] sp_law_after := by
  refine T.F_law_after.ok sc_law_after (fun vs H Q E h => ?_) (fun cdv A outer s H vs Q E hr h => ?_)
  · obtain ⟨l, t, S, e, rfl, _⟩ := h
    rfl
  · obtain ⟨l, t, S, e, rfl, hl, ht, so, can, q⟩ := h
    refine ⟨_, (pss_cons (ps_asg (pv 1) (pg_tup rfl (pgs_cons (pg_name (i := 2) sc_law_after.nd rfl (Or.inl rfl)) (pgs_cons (pg_name (i := 3) sc_law_after.nd rfl (Or.inr rfl)) pgs_nil))))
      (pss_cons (ps_set (i := 4) sc_law_after.nd rfl (Or.inl rfl) (pe_callTy call_int1 (by rfl) T.z_int (by decide +kernel) (pa_cons (pe_cmpR op_in_seq (pv 2) (pe_tup (pa_cons pe_str (pa_cons pe_str pa_nil))) (by rfl)) pa_nil)))
      (pss_cons (ps_setLc (i := 5) (own := [("_law_one", 6)]) (g := (gName 6)) (by rfl) sc_law_after.nd rfl rfl (sw_true rfl rfl rfl (by decide +kernel)) (pi_tup (pe_ix ix_list (pv 0) (pv 4) (fun _ _ => rfl))) (blkOk_by (own := [("_law_one", 6)]) (N := N_law_after) (sc := defScope s_law_after) (by decide +kernel)) (fun _ _ _ _ _ => (pg_name (i := 6) sc_law_after.nd rfl (Or.inl rfl))) (fun _ _ _ _ _ => pts_one (pt_cmpR (show OpR _ (compareOp .NotEq) (rNeD K) from (op_neD hr.units)) (pv 6) (pv 3) (nomark _))) (fun _ _ _ _ _ => (pv 6)))
      (pss_cons (ps_if (pt_cmpR op_in_seq (pv 2) (pe_tup (pa_cons pe_str (pa_cons pe_str pa_nil))) (by rfl))
      (pss_one (ps_set (i := 5) sc_law_after.nd rfl (Or.inl rfl) (pe_callB (cr_sortT (d := 2) (B := 10 ^ 13) (by decide)) (by rfl) T.z_sorted (by decide +kernel) (pa_cons (pe_op op_cat (pv 5) (pe_lst (pa_cons (pv 3) pa_nil))) pa_nil))))
      pss_nil)
      (pss_cons (ps_set (i := 7) sc_law_after.nd rfl (Or.inl rfl) (pe_callTy call_list_of (by rfl) T.z_list (by decide +kernel) (pa_cons (pv 0) pa_nil)))
      (pss_cons (ps_asg (pe_callTy call_tuple_of (by rfl) T.z_tuple (by decide +kernel) (pa_cons (pv 5) pa_nil)) (pg_sub (pv 7) (pv 4) set_list))
      (pss_one (ps_ret (pv 7))))))))), ?_⟩
    obtain ⟨us, x, xs, el, us2, ax, ixn, hx, ix, put⟩ := hl.side e.pc
    obtain ⟨a, h1, h2⟩ := ht
    refine ⟨.ref t, rfl, t, _, rfl, SqT.of h1, rfl, .str (wordE e), [.ref a], rfl, .ref a, [], rfl, rfl, ?_⟩
    refine ⟨_, rfl, by show 2 ≤ sizeLine; decide, fun w nw => ?_⟩
    have s1 := same_new (o := .tup [.str "add_piece", .str "remove_piece"]) nw
    have ew := upd_same (H := H) (a := w) (o := .tup [.str "add_piece", .str "remove_piece"])
    generalize upd H w (.tup [.str "add_piece", .str "remove_piece"]) = H1 at *
    refine ⟨w, _, rfl, .inr (SqT.of ew), rfl, rfl, ?_⟩
    rw [piece_in e]
    refine .inr ⟨_, rfl, ?_⟩
    have el1 := s1 _ _ el
    have hx1 := s1 _ _ hx
    have ix1 := ix.same s1
    have h21 := s1 _ _ h2
    have lx := ix.length
    refine ⟨.ref l, rfl, _, rfl, l, us, (if e.pc = true then 1 else 0), .ref x, rfl, rfl, SqL.of el1, ax, x, rfl, ⟨_, SqT.of hx1⟩, fun D nD => ?_⟩
    refine lcT (K := K) (a := x) (xs := xs) (fun j H' ws => Ivs H' ws (((sideS e.pc S).take j).filter fun z => !decide (z = e.q))) nD (fun H' s => SqT.of (s _ _ (hx1))) (by have := so.t.few; have := so.p.few; cases hp : e.pc <;> rw [hp] at lx <;> (unfold sideS at lx; simp only [if_true, if_false, Bool.false_eq_true] at lx; omega)) (fun _ _ _ _ t r => r.tps t) (fun j H' ws r => (by rw [r.length]; exact Nat.le_trans (List.length_filter_le _ _) (List.length_take_le _ _))) (fun _ => .nil) ?_ ?_
    · rintro j z H' N acc hj sj eA sz r no yes
      obtain ⟨b, u, v, rfl, exy, hb⟩ := ix1.get hj
      refine ⟨rfl, .ref b, rfl, .ref a, rfl, _, _, dp2 (sj _ _ hb), dp2 (sj _ _ h21), rfl, rfl, _, rfl, ?_⟩
      rw [eqv_pair]
      refine ite2 (fun c => ?_) (fun c => ?_)
      · refine ⟨.ref b, rfl, yes H' _ (Same.refl _) ?_⟩
        rw [take_filter exy, if_pos c]
        exact r.snoc (sj _ _ hb)
      · refine no H' (Same.refl _) ?_
        rw [take_filter exy, if_neg c, List.append_nil]
        exact r
    intro H2 wt s2 eD r
    rw [lx, List.take_length] at r
    have s12 := s1.trans s2
    have el2 := s12 _ _ el
    refine ⟨_, rfl, by show 2 ≤ sizeLine; decide, fun w2 nw2 => ?_⟩
    have s3 := same_new (o := .tup [.str "add_target", .str "add_piece"]) nw2
    have ew2 := upd_same (H := H2) (a := w2) (o := .tup [.str "add_target", .str "add_piece"])
    generalize upd H2 w2 (.tup [.str "add_target", .str "add_piece"]) = H3 at *
    refine ⟨w2, _, rfl, .inr (SqT.of ew2), rfl, rfl, ?_⟩
    rw [add_in e]
    have s13 := s12.trans s3
    have eD3 := s3 _ _ eD
    have r3 : Ivs H3 wt (wo (sideS e.pc S) e.q) := r.same s3
    have sd := so.side e.pc
    have lwt := r3.length
    have lwo := wo_len (sideS e.pc S) e.q
    have fw := sd.few
    cases hA : e.add with
    | true =>
      refine ⟨_, rfl, iteT ?_⟩
      have no := (can.no hA).1
      refine ⟨.ref D, rfl, .ref a, rfl, by show 1 ≤ sizeLine; decide, fun u1 nu1 => ?_⟩
      have s4 := same_new (o := .lst [.ref a]) nu1
      have eu1 := upd_same (H := H3) (a := u1) (o := .lst [.ref a])
      generalize upd H3 u1 (.lst [.ref a]) = H4 at *
      refine ⟨D, u1, wt, [.ref a], rfl, rfl, s4 _ _ eD3, eu1, by rw [show sizeLine = 16777216 by decide]; show wt.length + 1 ≤ _; omega, fun g ng => ?_⟩
      have s4b := same_new (o := .lst (wt ++ [.ref a])) ng
      have eg := upd_same (H := H4) (a := g) (o := .lst (wt ++ [.ref a]))
      generalize upd H4 g (.lst (wt ++ [.ref a])) = H4b at *
      have s34 := s4.trans s4b
      have s14 := s13.trans s34
      dsimp only [tNil]
      refine sort_pairs (SqL.of eg) ((r3.same s34).append (.cons (s14 _ _ h2) .nil)) (by rw [List.length_append]; show _ + 1 < 64; omega) (fun z hz => ?_) (fun H5 l2 us' ps' s5 nl2 el2' iv2 srt pm => ?_)
      · have b : (0 ≤ z.1 ∧ z.1 ≤ z.2) ∧ z.2 ≤ 1000000000000 := by
          rcases List.mem_append.mp hz with h | h
          · exact sd.ok z (wo_sub h)
          · rw [List.mem_singleton.mp h]
            exact can.ok
        exact ⟨⟨b.1.1, by omega⟩, by omega, by omega⟩
      have s15 := s14.trans s5
      rw [wo_none no] at pm

      have el5 := s15 _ _ el
      refine ⟨.ref l, rfl, l, us, rfl, .inl (SqL.of el5), fun u nu => ?_⟩
      have nu0 : H u = none := s15.free nu
      have s6 := same_new (o := .lst us) nu
      have eu := upd_same (H := H5) (a := u) (o := .lst us)
      generalize upd H5 u (.lst us) = H6 at *
      refine ⟨.ref l2, rfl, l2, us', rfl, .inl ⟨SqL.of (s6 _ _ el2'), fun p np => ?_⟩⟩
      have s7 := same_new (o := .tup us') np
      have ep := upd_same (H := H6) (a := p) (o := .tup us')
      generalize upd H6 p (.tup us') = H7 at *
      have s57 := s6.trans s7
      refine ⟨.ref u, rfl, _, rfl, u, us, (if e.pc = true then 1 else 0), (if e.pc = true then 1 else 0), rfl, rfl, s7 _ _ eu, ixn, ?_⟩
      have sAll := same_off (o := .lst (us.set (if e.pc = true then 1 else 0) (.ref p))) nu0 (s15.trans s57)
      have t7 : Tps H7 (upd H7 u (.lst (us.set (if e.pc = true then 1 else 0) (.ref p)))) := Tps.lst (s7 _ _ eu)
      refine ⟨.ref u, rfl, q _ u sAll nu0 ?_⟩
      rw [step_side]
      exact put (ps := upI e.add e.q (sideS e.pc S)) (Tps.same sAll) upd_same (t7 _ _ ep) (by
        rw [show upI e.add e.q (sideS e.pc S) = ps' from (by rw [hA, ins_sorted sd.asc no srt pm]; rfl)]
        exact (iv2.same s57).tps t7)
    | false =>
      refine ⟨_, rfl, iteF ?_⟩

      have el5 := s13 _ _ el
      refine ⟨.ref l, rfl, l, us, rfl, .inl (SqL.of el5), fun u nu => ?_⟩
      have nu0 : H u = none := s13.free nu
      have s6 := same_new (o := .lst us) nu
      have eu := upd_same (H := H3) (a := u) (o := .lst us)
      generalize upd H3 u (.lst us) = H6 at *
      refine ⟨.ref D, rfl, D, wt, rfl, .inl ⟨SqL.of (s6 _ _ eD3), fun p np => ?_⟩⟩
      have s7 := same_new (o := .tup wt) np
      have ep := upd_same (H := H6) (a := p) (o := .tup wt)
      generalize upd H6 p (.tup wt) = H7 at *
      have s57 := s6.trans s7
      refine ⟨.ref u, rfl, _, rfl, u, us, (if e.pc = true then 1 else 0), (if e.pc = true then 1 else 0), rfl, rfl, s7 _ _ eu, ixn, ?_⟩
      have sAll := same_off (o := .lst (us.set (if e.pc = true then 1 else 0) (.ref p))) nu0 (s13.trans s57)
      have t7 : Tps H7 (upd H7 u (.lst (us.set (if e.pc = true then 1 else 0) (.ref p)))) := Tps.lst (s7 _ _ eu)
      refine ⟨.ref u, rfl, q _ u sAll nu0 ?_⟩
      rw [step_side]
      exact put (ps := upI e.add e.q (sideS e.pc S)) (Tps.same sAll) upd_same (t7 _ _ ep) (by
        rw [show upI e.add e.q (sideS e.pc S) = wo (sideS e.pc S) e.q from (by rw [hA]; rfl)]
        exact (r3.same s57).tps t7)
def wE2 (C : Addr) : Sp := fun vs H Q _ => ∃ (p t : Addr) (Ls : List St2) (S : St2) (Es : List Ed) (e : Ed), vs = [.ref p, .ref t] ∧ PlanAt C H p (Ls ++ [S]) Es ∧ Es.length < 60 ∧ StOk S ∧ EdAt H t e ∧ Can S e ∧
  ∀ H', But p H H' → PlanAt C H' p (Ls ++ [S] ++ [stepS S e]) (Es ++ [e]) → Q (.int (Es.length + 1 : Nat)) H'
theorem ok_law_do (T : Tx K mg f_is_number f_is_position f_is_tuple_of f_is_interval f_ascending_error f_targets_error f_is_pieces f_without_item f_with_interval f_without_interval f_edited_state f_law_deck f_law_draw f_law_line f_law_interval f_law_intervals f_law_edit f_law_after f_law_do f_law_begun f_law_flags f_law_errors_right f_law_edited f_law f_Plan_init f_Plan_add_target f_Plan_add_piece f_Plan_remove_target f_Plan_remove_piece f_Plan_undo f_Plan_targets f_Plan_pieces f_Plan_edits f_Plan_edit f_Plan_record f_Plan_require_idle f_Plan_state_at f_Plan_len f_Plan_eq f_TooWide_init f_NotGenerated_init f_TooMany_init f_BadTargets_init f_BadInterval_init f_Duplicate_init f_BadEdit_init f_Rejected_init f_BadText_init f_Unknown_init f_NoVersion_init C_Plan X_TooWide X_NotGenerated X_TooMany X_BadTargets X_BadInterval X_Duplicate X_BadEdit X_Rejected X_BadText X_Unknown X_NoVersion X_OutOfRange X_SpanError X_BadPieces X_TooManyEdits X_NothingToUndo X_BadEdits X_Busy d_is_number d_is_position d_is_tuple_of d_is_interval d_ascending_error d_targets_error d_is_pieces d_without_item d_with_interval d_without_interval d_edited_state d_law_deck d_law_draw d_law_line d_law_interval d_law_intervals d_law_edit d_law_after d_law_do d_law_begun d_law_flags d_law_errors_right d_law_edited d_law d_Plan_init d_Plan_add_target d_Plan_add_piece d_Plan_remove_target d_Plan_remove_piece d_Plan_undo d_Plan_targets d_Plan_pieces d_Plan_edits d_Plan_edit d_Plan_record d_Plan_require_idle d_Plan_state_at d_Plan_len d_Plan_eq d_TooWide_init d_NotGenerated_init d_TooMany_init d_BadTargets_init d_BadInterval_init d_Duplicate_init d_BadEdit_init d_Rejected_init d_BadText_init d_Unknown_init d_NoVersion_init t_LAST_POSITION t_MAX_TARGETS t_MAX_PIECES t_MAX_EDITS) : FnOk P w K mg base CX0 9 f_law_do d_law_do ["_law_plan", "_law_edit_here"] (wE2 C_Plan) := by
  refine T.F_law_do.ok sc_law_do (fun vs H Q E h => ?_) (fun cdv A outer s H vs Q E hr h => ?_)
  · obtain ⟨p, t, Ls, S, Es, e, rfl, _⟩ := h
    rfl
  · obtain ⟨p, t, Ls, S, Es, e, rfl, P, few, so, ht, can, q⟩ := h
    refine ⟨_, (pss_cons (ps_asg (pv 1) (pg_tup rfl (pgs_cons (pg_name (i := 2) sc_law_do.nd rfl (Or.inl rfl)) (pgs_cons (pg_name (i := 3) sc_law_do.nd rfl (Or.inl rfl)) pgs_nil))))
      (pss_cons (ps_if (pt_cmpR op_eq (pv 2) pe_str (nomark _))
      (pss_one (ps_ret (pe_meth (pv 0) T.cl_Plan T.m_Plan_add_target (ok_Plan_add_target T) (hr.mono (by decide)) T.b_Plan_add_target .nil pass0 (pa_cons (pv 3) pa_nil))))
      pss_nil)
      (pss_cons (ps_if (pt_cmpR op_eq (pv 2) pe_str (nomark _))
      (pss_one (ps_ret (pe_meth (pv 0) T.cl_Plan T.m_Plan_remove_target (ok_Plan_remove_target T) (hr.mono (by decide)) T.b_Plan_remove_target .nil pass0 (pa_cons (pv 3) pa_nil))))
      pss_nil)
      (pss_cons (ps_if (pt_cmpR op_eq (pv 2) pe_str (nomark _))
      (pss_one (ps_ret (pe_meth (pv 0) T.cl_Plan T.m_Plan_add_piece (ok_Plan_add_piece T) (hr.mono (by decide)) T.b_Plan_add_piece .nil pass0 (pa_cons (pv 3) pa_nil))))
      pss_nil)
      (pss_one (ps_ret (pe_meth (pv 0) T.cl_Plan T.m_Plan_remove_piece (ok_Plan_remove_piece T) (hr.mono (by decide)) T.b_Plan_remove_piece .nil pass0 (pa_cons (pv 3) pa_nil)))))))), ?_⟩
    obtain ⟨a, h1, h2⟩ := ht
    obtain ⟨dx, _, _, _, _, hp, _⟩ := id P.ex
    refine ⟨.ref t, rfl, t, _, rfl, SqT.of h1, rfl, .str (wordE e), [.ref a], rfl, .ref a, [], rfl, rfl, ?_⟩
    obtain ⟨add, pc, qq⟩ := e
    have w1 : ¬ (("add_piece" : Str) = "add_target") := by decide +kernel
    have w2 : ¬ (("remove_target" : Str) = "add_target") := by decide +kernel
    have w3 : ¬ (("remove_piece" : Str) = "add_target") := by decide +kernel
    have w4 : ¬ (("add_piece" : Str) = "remove_target") := by decide +kernel
    have w5 : ¬ (("remove_piece" : Str) = "remove_target") := by decide +kernel
    have w6 : ¬ (("remove_piece" : Str) = "add_piece") := by decide +kernel
    cases add with
    | true =>
      cases pc with
      | false =>
        refine ⟨_, rfl, rfl, _, rfl, ite2 (fun _ => ?_) (fun z => absurd (decide_eq_true rfl) z)⟩
        exact ⟨.ref p, rfl, p, dx, _, rfl, hp, lk_no _ _ _ (by decide +kernel), .ref a, rfl, p, a, Ls, S, Es, qq, rfl, P, few, so, h2, can, q⟩
      | true =>
        refine ⟨_, rfl, rfl, _, rfl, ite2 (fun z => absurd z (wneq w1)) (fun _ => ?_)⟩
        refine ⟨_, rfl, rfl, _, rfl, ite2 (fun z => absurd z (wneq w4)) (fun _ => ?_)⟩
        refine ⟨_, rfl, rfl, _, rfl, ite2 (fun _ => ?_) (fun z => absurd (decide_eq_true rfl) z)⟩
        exact ⟨.ref p, rfl, p, dx, _, rfl, hp, lk_no _ _ _ (by decide +kernel), .ref a, rfl, p, a, Ls, S, Es, qq, rfl, P, few, so, h2, can, q⟩
    | false =>
      cases pc with
      | false =>
        refine ⟨_, rfl, rfl, _, rfl, ite2 (fun z => absurd z (wneq w2)) (fun _ => ?_)⟩
        refine ⟨_, rfl, rfl, _, rfl, ite2 (fun _ => ?_) (fun z => absurd (decide_eq_true rfl) z)⟩
        exact ⟨.ref p, rfl, p, dx, _, rfl, hp, lk_no _ _ _ (by decide +kernel), .ref a, rfl, p, a, Ls, S, Es, qq, rfl, P, few, so, h2, can, q⟩
      | true =>
        refine ⟨_, rfl, rfl, _, rfl, ite2 (fun z => absurd z (wneq w3)) (fun _ => ?_)⟩
        refine ⟨_, rfl, rfl, _, rfl, ite2 (fun z => absurd z (wneq w5)) (fun _ => ?_)⟩
        refine ⟨_, rfl, rfl, _, rfl, ite2 (fun z => absurd z (wneq w6)) (fun _ => ?_)⟩
        exact ⟨.ref p, rfl, p, dx, _, rfl, hp, lk_no _ _ _ (by decide +kernel), .ref a, rfl, p, a, Ls, S, Es, qq, rfl, P, few, so, h2, can, q⟩
theorem LawS.off {H : Hp} {l : Addr} {S : St2} (h : LawS H l S) {u : Addr} (n : H u = none) : u ≠ l := by
  obtain ⟨x, y, xs, ys, e, _⟩ := h.ex
  exact (ne_of_none e n).symm
/-! ### what is told of a plan -/
theorem sm_word : ∀ add pc : Bool, Sm 100 0 (.str (wordOf add pc))
  | true, true => ⟨rfl, by decide +kernel, by decide +kernel, Nat.le_refl _⟩
  | true, false => ⟨rfl, by decide +kernel, by decide +kernel, Nat.le_refl _⟩
  | false, true => ⟨rfl, by decide +kernel, by decide +kernel, Nat.le_refl _⟩
  | false, false => ⟨rfl, by decide +kernel, by decide +kernel, Nat.le_refl _⟩
theorem sm_pr {q : Int × Int} (h : (0 ≤ q.1 ∧ q.1 ≤ q.2) ∧ q.2 ≤ 1000000000000) : Sm 202 1 (pairD q) := by
  refine (Sm.tup (n := 100) (dp := 0) fun x hx => ?_).mono (by show 2 * 101 ≤ 202; decide) (Nat.le_refl _)
  have b1 : q.1.natAbs < 10 ^ 30 := Nat.lt_of_le_of_lt (show q.1.natAbs ≤ 1000000000000 by omega) (by decide)
  have b2 : q.2.natAbs < 10 ^ 30 := Nat.lt_of_le_of_lt (show q.2.natAbs ≤ 1000000000000 by omega) (by decide)
  rcases List.mem_cons.mp hx with rfl | hx
  · exact Sm.int b1
  · rw [List.mem_singleton.mp hx]
    exact Sm.int b2
def EdOk (e : Ed) : Prop := (0 ≤ e.q.1 ∧ e.q.1 ≤ e.q.2) ∧ e.q.2 ≤ 1000000000000
theorem sm_ed {e : Ed} (h : EdOk e) : Sm 406 2 (edD e) := by
  refine (Sm.tup (n := 202) (dp := 1) fun x hx => ?_).mono (by show 2 * 203 ≤ 406; decide) (Nat.le_refl _)
  rcases List.mem_cons.mp hx with rfl | hx
  · exact (sm_word _ _).mono (by decide) (by decide)
  · rw [List.mem_singleton.mp hx]
    exact sm_pr h
theorem sm_prs {n : Nat} {ps : List (Int × Int)} (h : SideOk n ps) (hn : n ≤ 30) : Sm 6090 2 (.tuple (ps.map pairD)) := by
  refine (Sm.tup (n := 202) (dp := 1) fun x hx => ?_).mono (by rw [List.length_map]; have := h.few; omega) (by decide)
  obtain ⟨q, hq, rfl⟩ := List.mem_map.mp hx
  exact sm_pr (h.ok q hq)
theorem sm_eds {es : List Ed} (h : ∀ e ∈ es, EdOk e) (l : es.length ≤ 60) : Sm 24420 3 (.tuple (es.map edD)) := by
  refine (Sm.tup (n := 406) (dp := 2) fun x hx => ?_).mono (by rw [List.length_map]; omega) (by decide)
  obtain ⟨q, hq, rfl⟩ := List.mem_map.mp hx
  exact sm_ed (h q hq)
def told3 (S : St2) (Es : List Ed) : PyData := .list [.tuple (S.1.map pairD), .tuple (S.2.map pairD), .tuple (Es.map edD)]
theorem sm_told3 {S : St2} {Es : List Ed} (so : StOk S) (h : ∀ e ∈ Es, EdOk e) (l : Es.length ≤ 60) : Sm 100000 4 (told3 S Es) := by
  refine (Sm.lst (n := 24420) (dp := 3) fun x hx => ?_).mono (by show 3 * 24421 ≤ 100000; decide) (Nat.le_refl _)
  rcases List.mem_cons.mp hx with rfl | hx
  · exact (sm_prs so.t (by decide)).mono (by decide) (by decide)
  rcases List.mem_cons.mp hx with rfl | hx
  · exact (sm_prs so.p (by decide)).mono (by decide) (by decide)
  · rw [List.mem_singleton.mp hx]
    exact sm_eds h l
theorem big_ok {n : Nat} (h : n < 100) : ((n : Nat) : Int).natAbs.log2 < 1920 := by
  rw [Int.natAbs_natCast]
  rcases Nat.eq_zero_or_pos n with z | z
  · rw [z]
    decide
  · exact (Nat.log2_lt (by omega)).mpr (Nat.lt_of_lt_of_le h (by decide +kernel))
def sp_law_right (C : Addr) : Sp := fun vs H Q _ => ∃ (p l le : Addr) (Ls : List St2) (S : St2) (Es : List Ed) (evs : List V), vs = [.ref p, .ref l, .ref le] ∧ PlanAt C H p (Ls ++ [S]) Es ∧ StOk S ∧ LawS H l S ∧ H le = some (.lst evs) ∧ Eds H evs Es ∧ Es.length ≤ 60 ∧ (∀ e ∈ Es, EdOk e) ∧
  ∀ H', Same H H' → Q (.bl true) H'
def sp_law_begun : Sp := fun vs H Q _ => ∃ (d c : Addr) (n most : Int), vs = [.ref d, .int most] ∧ Dk H d c n ∧ 0 ≤ n ∧ n < 800000 ∧ 1 ≤ most ∧ most ≤ 8 ∧
  ∀ H' g l ls us cs S m, Kp d c H H' → Dk H' d c m → n ≤ m → m ≤ n + 24 + most → H' g = some (.lst [.ref l, .ref ls]) → H' l = some (.lst us) → Ivs H' us cs → Cells cs → 0 < cs.length → (cs.length : Int) ≤ most → (∀ q ∈ cs, q.2 < 1000000 + 100000000000 * most) → Off d c l → LawS H' ls S → Off d c ls → ls ≠ l → S.1.Pairwise ltP → S.2.Pairwise ltP → (∀ q ∈ S.1, OfCells cs q) → (∀ q ∈ S.2, OfCells cs q) → S.1.length ≤ 6 → S.2.length ≤ 4 → Q (.ref g) H'
theorem ok_law_begun (T : Tx K mg f_is_number f_is_position f_is_tuple_of f_is_interval f_ascending_error f_targets_error f_is_pieces f_without_item f_with_interval f_without_interval f_edited_state f_law_deck f_law_draw f_law_line f_law_interval f_law_intervals f_law_edit f_law_after f_law_do f_law_begun f_law_flags f_law_errors_right f_law_edited f_law f_Plan_init f_Plan_add_target f_Plan_add_piece f_Plan_remove_target f_Plan_remove_piece f_Plan_undo f_Plan_targets f_Plan_pieces f_Plan_edits f_Plan_edit f_Plan_record f_Plan_require_idle f_Plan_state_at f_Plan_len f_Plan_eq f_TooWide_init f_NotGenerated_init f_TooMany_init f_BadTargets_init f_BadInterval_init f_Duplicate_init f_BadEdit_init f_Rejected_init f_BadText_init f_Unknown_init f_NoVersion_init C_Plan X_TooWide X_NotGenerated X_TooMany X_BadTargets X_BadInterval X_Duplicate X_BadEdit X_Rejected X_BadText X_Unknown X_NoVersion X_OutOfRange X_SpanError X_BadPieces X_TooManyEdits X_NothingToUndo X_BadEdits X_Busy d_is_number d_is_position d_is_tuple_of d_is_interval d_ascending_error d_targets_error d_is_pieces d_without_item d_with_interval d_without_interval d_edited_state d_law_deck d_law_draw d_law_line d_law_interval d_law_intervals d_law_edit d_law_after d_law_do d_law_begun d_law_flags d_law_errors_right d_law_edited d_law d_Plan_init d_Plan_add_target d_Plan_add_piece d_Plan_remove_target d_Plan_remove_piece d_Plan_undo d_Plan_targets d_Plan_pieces d_Plan_edits d_Plan_edit d_Plan_record d_Plan_require_idle d_Plan_state_at d_Plan_len d_Plan_eq d_TooWide_init d_NotGenerated_init d_TooMany_init d_BadTargets_init d_BadInterval_init d_Duplicate_init d_BadEdit_init d_Rejected_init d_BadText_init d_Unknown_init d_NoVersion_init t_LAST_POSITION t_MAX_TARGETS t_MAX_PIECES t_MAX_EDITS) : FnOk P w K mg base CX0 4 f_law_begun d_law_begun ["_law_deck_here", "_law_most"] sp_law_begun := by
  refine T.F_law_begun.ok sc_law_begun (fun vs H Q E h => ?_) (fun cdv A outer s H vs Q E hr h => ?_)
  · obtain ⟨d, c, n, most, rfl, _⟩ := h
    rfl
  · obtain ⟨d, c, n, most, rfl, dk, n0, n1, m0, m1, q⟩ := h
    refine ⟨_, (pss_cons (ps_set (i := 2) sc_law_begun.nd rfl (Or.inl rfl) (pe_call (ok_law_line T) (hr.mono (by decide)) (by rfl) T.g_law_line T.F_law_line.kp T.b_law_line .nil pass0 (pa_cons (pv 0) (pa_cons (pv 1) pa_nil))))
      (pss_one (ps_ret (pe_lst (pa_cons (pv 2) (pa_cons (pe_lst (pa_cons (pe_call (ok_law_intervals T) (hr.mono (by decide)) (by rfl) T.g_law_intervals T.F_law_intervals.kp T.b_law_intervals .nil pass0 (pa_cons (pv 0) (pa_cons (pv 2) (pa_cons pe_int pa_nil)))) (pa_cons (pe_call (ok_law_intervals T) (hr.mono (by decide)) (by rfl) T.g_law_intervals T.F_law_intervals.kp T.b_law_intervals .nil pass0 (pa_cons (pv 0) (pa_cons (pv 2) (pa_cons pe_int pa_nil)))) pa_nil))) pa_nil)))))), ?_⟩
    refine ⟨.ref d, rfl, .int most, rfl, d, c, n, most, rfl, dk, n0, by omega, m0, by omega, fun H1 l us cs m2 kp1 dk1 a0 a1 el iv cells l0 l1 top off => ?_⟩
    have tc : ∀ q ∈ cs, q.2 < 1000000000000 := fun q hq => by
      have := top q hq
      omega
    refine ⟨.ref l, rfl, .ref d, rfl, .ref l, rfl, d, c, m2, l, us, cs, 6, rfl, dk1, by omega, by omega, off, el, iv, cells, l0, by omega, tc, by decide, by decide, fun H2 t1 w1 p1 m3 kp2 dk2 b0 b1 e1 i1 s1 o1 f1 => ?_⟩
    have el2 := kp2.keep off el
    have iv2 := iv.tps (kp2.tps dk1)
    refine ⟨.ref d, rfl, .ref l, rfl, d, c, m3, l, us, cs, 4, rfl, dk2, by omega, by omega, off, el2, iv2, cells, l0, by omega, tc, by decide, by decide, fun H3 t2 w2 p2 m4 kp3 dk3 c0 c1 e2 i2 s2 o2 f2 => ?_⟩
    have t3 := kp3.tps dk2
    have el3 := kp3.keep off el2
    refine ⟨by show 2 ≤ sizeLine; decide, fun ls nls => ?_⟩
    have off2 := dk3.off nls
    have nl : ls ≠ l := (ne_of_none el3 nls).symm
    have s4 := same_new (o := .lst [.ref t1, .ref t2]) nls
    have els := upd_same (H := H3) (a := ls) (o := .lst [.ref t1, .ref t2])
    generalize upd H3 ls (.lst [.ref t1, .ref t2]) = H4 at *
    refine ⟨by show 2 ≤ sizeLine; decide, fun g ng => ?_⟩
    have s5 := same_new (o := .lst [.ref l, .ref ls]) ng
    have eg := upd_same (H := H4) (a := g) (o := .lst [.ref l, .ref ls])
    generalize upd H4 g (.lst [.ref l, .ref ls]) = H5 at *
    have s35 := s4.trans s5
    exact q H5 g l ls us cs (p1, p2) m4 ((kp1.trans kp2).trans (kp3.trans (Kp.same s35))) (dk3.kept s35) (by omega) (by omega) eg (s35 _ _ el3) ((iv2.tps t3).same s35) cells l0 l1 top off ⟨_, _, _, _, s5 _ _ els, s35 _ _ (t3 _ _ e1), (i1.tps t3).same s35, s35 _ _ e2, i2.same s35⟩ off2 nl s1 s2 o1 o2 (by show p1.length ≤ 6; omega) (by show p2.length ≤ 4; omega)
theorem OfCells.edok {cs : List (Int × Int)} (h : Cells cs) {q : Int × Int} (o : OfCells cs q) (top : ∀ z ∈ cs, z.2 < 1000000000000) : (0 ≤ q.1 ∧ q.1 ≤ q.2) ∧ q.2 ≤ 1000000000000 := by
  have := o.ok h top
  omega
theorem cells_side {cs ps : List (Int × Int)} {n : Nat} (h : Cells cs) (top : ∀ z ∈ cs, z.2 < 1000000000000) (asc : ps.Pairwise ltP) (o : ∀ q ∈ ps, OfCells cs q) (l : ps.length ≤ n) : SideOk n ps := ⟨asc, fun q hq => (o q hq).edok h top, l⟩

/-! ### a plan and a law's own state, side by side -/
theorem PlanAt.kp {C p : Addr} {d c : Addr} {n : Int} {H H' : Hp} {Ss : List St2} {Es : List Ed} (P : PlanAt C H p Ss Es) (k : Kp d c H H') (dk : Dk H d c n) : PlanAt C H' p Ss Es := P.keep (k.tps dk) fun C dx fs e => k.keep (dk.noti e) e
theorem LawS.ne {H : Hp} {l a : Addr} {S : St2} (h : LawS H l S) (n : H a = none) : l ≠ a := by
  obtain ⟨_, _, _, _, e, _⟩ := h.ex
  exact ne_of_none e n
structure Run (C : Addr) (H : Hp) (d c : Addr) (l le ls p : Addr) (us : List V) (cs : List (Int × Int)) (Ls : List St2) (S : St2) (Es : List Ed) (evs : List V) : Prop where
  el : H l = some (.lst us)
  iv : Ivs H us cs
  st : LawS H ls S
  P : PlanAt C H p (Ls ++ [S]) Es
  ele : H le = some (.lst evs)
  ev : Eds H evs Es
  offl : Off d c l
  offe : Off d c le
  offs : Off d c ls
  nl : l ≠ le
  ns : ls ≠ le
  so : StOk S
  eok : ∀ e ∈ Es, EdOk e
section
variable {C l le ls p : Addr} {d c : Addr} {n : Int} {H H' : Hp} {us evs : List V} {cs : List (Int × Int)} {Ls : List St2} {S : St2} {Es : List Ed}
theorem Run.keep (R : Run C H d c l le ls p us cs Ls S Es evs) (t : Tps H H') (kl : ∀ a us, (a = l ∨ a = le ∨ a = ls) → H a = some (.lst us) → H' a = some (.lst us)) (ki : ∀ C dx fs, H p = some (.ins C dx fs) → H' p = some (.ins C dx fs)) : Run C H' d c l le ls p us cs Ls S Es evs :=
  ⟨kl _ _ (.inl rfl) R.el, R.iv.tps t, R.st.keep t (fun us e => kl _ _ (.inr (.inr rfl)) e), R.P.keep t ki, kl _ _ (.inr (.inl rfl)) R.ele, R.ev.tps t, R.offl, R.offe, R.offs, R.nl, R.ns, R.so, R.eok⟩
theorem Run.same (R : Run C H d c l le ls p us cs Ls S Es evs) (s : Same H H') : Run C H' d c l le ls p us cs Ls S Es evs := R.keep (Tps.same s) (fun _ _ _ e => s _ _ e) (fun _ _ _ e => s _ _ e)
theorem Run.kp (R : Run C H d c l le ls p us cs Ls S Es evs) (k : Kp d c H H') (dk : Dk H d c n) : Run C H' d c l le ls p us cs Ls S Es evs :=
  R.keep (k.tps dk) (fun a us h e => by
    rcases h with rfl | rfl | rfl
    · exact k.keep R.offl e
    · exact k.keep R.offe e
    · exact k.keep R.offs e) (fun C dx fs e => k.keep (dk.noti e) e)
end
theorem side_r {r : Int} (h0 : 0 ≤ r) (h1 : r < 2) : ∃ pc : Bool, r = if pc = true then 1 else 0 := by
  have : r = 0 ∨ r = 1 := by omega
  rcases this with rfl | rfl
  · exact ⟨false, rfl⟩
  · exact ⟨true, rfl⟩
theorem sm_len {n : Nat} (h : n ≤ 60) : Sm 100 0 (.int (n : Nat)) := Sm.int (by
  rw [Int.natAbs_natCast]
  exact Nat.lt_of_le_of_lt h (by decide))
theorem lenS_add {S : St2} {pc : Bool} {q : Int × Int} : (stepS S ⟨true, pc, q⟩).1.length ≤ S.1.length + 1 ∧ (stepS S ⟨true, pc, q⟩).2.length ≤ S.2.length + 1 := by
  cases pc with
  | true => exact ⟨Nat.le_succ _, Nat.le_of_eq len_insI⟩
  | false => exact ⟨Nat.le_of_eq len_insI, Nat.le_succ _⟩

/-! ### an edit that can be done -/
/-- a state of intervals of whole cells -/
structure StC (cs : List (Int × Int)) (S : St2) : Prop where
  so : StOk S
  oc : ∀ pc, ∀ q ∈ sideS pc S, OfCells cs q
theorem mem_step {S : St2} {e : Ed} {pc : Bool} {q : Int × Int} (h : q ∈ sideS pc (stepS S e)) : q ∈ sideS pc S ∨ q = e.q := by
  obtain ⟨add, c, x⟩ := e
  have up : ∀ ps : List (Int × Int), q ∈ upI add x ps → q ∈ ps ∨ q = x := fun ps h => by
    cases add with
    | true => exact (mem_insI.mp h).symm
    | false => exact .inl (wo_sub h)
  cases c with
  | true =>
    cases pc with
    | true => exact up _ h
    | false => exact .inl h
  | false =>
    cases pc with
    | true => exact .inl h
    | false => exact up _ h
theorem StC.step {cs : List (Int × Int)} {S : St2} {e : Ed} (h : StC cs S) (c : Can S e) (o : OfCells cs e.q) : StC cs (stepS S e) :=
  ⟨h.so.step c, fun pc q hq => (mem_step hq).elim (h.oc pc q) fun z => z ▸ o⟩
def sp_law_edit : Sp := fun vs H Q _ => ∃ (d c : Addr) (n : Int) (l : Addr) (us : List V) (cs : List (Int × Int)) (ls : Addr) (S : St2), vs = [.ref d, .ref l, .ref ls] ∧ Dk H d c n ∧ 0 ≤ n ∧ n < 800000 ∧ Off d c l ∧ H l = some (.lst us) ∧ Ivs H us cs ∧ Cells cs ∧ 0 < cs.length ∧ cs.length ≤ 9 ∧ (∀ q ∈ cs, q.2 < 1000000000000) ∧ Off d c ls ∧ LawS H ls S ∧ StC cs S ∧
  ∀ H' t e m, Kp d c H H' → Dk H' d c m → n ≤ m → m ≤ n + 4 → EdAt H' t e → Can S e → OfCells cs e.q → (e.add = true → (sideS e.pc S).length ≤ 20) → Q (.ref t) H'
theorem ok_law_edit (T : Tx K mg f_is_number f_is_position f_is_tuple_of f_is_interval f_ascending_error f_targets_error f_is_pieces f_without_item f_with_interval f_without_interval f_edited_state f_law_deck f_law_draw f_law_line f_law_interval f_law_intervals f_law_edit f_law_after f_law_do f_law_begun f_law_flags f_law_errors_right f_law_edited f_law f_Plan_init f_Plan_add_target f_Plan_add_piece f_Plan_remove_target f_Plan_remove_piece f_Plan_undo f_Plan_targets f_Plan_pieces f_Plan_edits f_Plan_edit f_Plan_record f_Plan_require_idle f_Plan_state_at f_Plan_len f_Plan_eq f_TooWide_init f_NotGenerated_init f_TooMany_init f_BadTargets_init f_BadInterval_init f_Duplicate_init f_BadEdit_init f_Rejected_init f_BadText_init f_Unknown_init f_NoVersion_init C_Plan X_TooWide X_NotGenerated X_TooMany X_BadTargets X_BadInterval X_Duplicate X_BadEdit X_Rejected X_BadText X_Unknown X_NoVersion X_OutOfRange X_SpanError X_BadPieces X_TooManyEdits X_NothingToUndo X_BadEdits X_Busy d_is_number d_is_position d_is_tuple_of d_is_interval d_ascending_error d_targets_error d_is_pieces d_without_item d_with_interval d_without_interval d_edited_state d_law_deck d_law_draw d_law_line d_law_interval d_law_intervals d_law_edit d_law_after d_law_do d_law_begun d_law_flags d_law_errors_right d_law_edited d_law d_Plan_init d_Plan_add_target d_Plan_add_piece d_Plan_remove_target d_Plan_remove_piece d_Plan_undo d_Plan_targets d_Plan_pieces d_Plan_edits d_Plan_edit d_Plan_record d_Plan_require_idle d_Plan_state_at d_Plan_len d_Plan_eq d_TooWide_init d_NotGenerated_init d_TooMany_init d_BadTargets_init d_BadInterval_init d_Duplicate_init d_BadEdit_init d_Rejected_init d_BadText_init d_Unknown_init d_NoVersion_init t_LAST_POSITION t_MAX_TARGETS t_MAX_PIECES t_MAX_EDITS) : FnOk P w K mg base CX0 3 f_law_edit d_law_edit ["_law_deck_here", "_law_line_here", "_law_state"] sp_law_edit := by
  refine T.F_law_edit.ok sc_law_edit (fun vs H Q E h => ?_) (fun cdv A outer s H vs Q E hr h => ?_)
  · obtain ⟨d, c, n, l, us, cs, ls, S, rfl, _⟩ := h
    rfl
  · obtain ⟨d, c, n, l, us, cs, ls, S, rfl, dk, n0, n1, off, el, iv, cells, l0, l1, top, offs, st, sc, q⟩ := h
    refine ⟨_, (pss_cons (ps_set (i := 3) sc_law_edit.nd rfl (Or.inl rfl) (pe_call (ok_law_draw T) (hr.mono (by decide)) (by rfl) T.g_law_draw T.F_law_draw.kp T.b_law_draw .nil pass0 (pa_cons (pv 0) (pa_cons pe_int pa_nil))))
      (pss_cons (ps_set (i := 4) sc_law_edit.nd rfl (Or.inl rfl) (pe_callTy call_int1 (by rfl) T.z_int (by decide +kernel) (pa_cons (pe_cmpR op_gt (pv 3) pe_int (nomark _)) pa_nil)))
      (pss_cons (ps_set (i := 5) sc_law_edit.nd rfl (Or.inl rfl) (pe_ix ix_list (pe_lst (pa_cons (pe_lst (pa_cons pe_str (pa_cons pe_str pa_nil))) (pa_cons (pe_lst (pa_cons pe_str (pa_cons pe_str pa_nil))) pa_nil))) (pv 4) (fun _ _ => rfl)))
      (pss_cons (ps_set (i := 6) sc_law_edit.nd rfl (Or.inl rfl) (pe_call (ok_law_interval T) (hr.mono (by decide)) (by rfl) T.g_law_interval T.F_law_interval.kp T.b_law_interval .nil pass0 (pa_cons (pv 0) (pa_cons (pv 1) pa_nil))))
      (pss_cons (ps_set (i := 7) sc_law_edit.nd rfl (Or.inl rfl) (pe_ix ix_list (pv 2) (pv 4) (fun _ _ => rfl)))
      (pss_cons (ps_if (pt_cmpR (op_inT (units65 hr)) (pv 6) (pv 7) (by rfl))
      (pss_one (ps_ret (pe_tup (pa_cons (pe_ix ix_list (pv 5) pe_int (fun _ _ => rfl)) (pa_cons (pv 6) pa_nil)))))
      pss_nil)
      (pss_cons (ps_if (PW.pt (pw_and (PW.pt (pw_or (pt_cmpR op_eq (pe_op op_mod (pv 3) pe_int) pe_int (nomark _)) (pw_or1 (pt_cmpR op_gt (pe_callB call_len_seq (by rfl) T.z_len PySem.boot_len (pa_cons (pv 7) pa_nil)) pe_int (nomark _))))) (pw_and1 (pt_cmpR (show OpR _ (compareOp .NotEq) (rNeE K) from op_neE hr.units0) (pv 7) (pe_tup pa_nil) (nomark _)))))
      (pss_one (ps_ret (pe_tup (pa_cons (pe_ix ix_list (pv 5) pe_int (fun _ _ => rfl)) (pa_cons (pe_ix ix_tup (pv 7) (pe_call (ok_law_draw T) (hr.mono (by decide)) (by rfl) T.g_law_draw T.F_law_draw.kp T.b_law_draw .nil pass0 (pa_cons (pv 0) (pa_cons (pe_callB call_len_seq (by rfl) T.z_len PySem.boot_len (pa_cons (pv 7) pa_nil)) pa_nil))) (fun _ _ => rfl)) pa_nil)))))
      pss_nil)
      (pss_one (ps_ret (pe_tup (pa_cons (pe_ix ix_list (pv 5) pe_int (fun _ _ => rfl)) (pa_cons (pv 6) pa_nil)))))))))))), ?_⟩
    refine ⟨.ref d, rfl, d, c, n, 6, rfl, dk, n0, by omega, by decide, by decide, fun H1 r kp1 dk1 r0 r1 => ?_⟩
    refine ⟨.int r, rfl, _, _, rfl, rfl, ?_⟩
    obtain ⟨pc, epc⟩ : ∃ pc : Bool, decide (r > 2) = pc := ⟨_, rfl⟩
    refine .inr ⟨pc, congrArg (fun z => [V.bl z]) epc, ?_⟩
    refine ⟨by show 2 ≤ sizeLine; decide, fun w1 nw1 => ?_⟩
    have off1 := dk1.off nw1
    have s2 := same_new (o := .lst [.str "add_target", .str "remove_target"]) nw1
    have ew1 := upd_same (H := H1) (a := w1) (o := .lst [.str "add_target", .str "remove_target"])
    generalize upd H1 w1 (.lst [.str "add_target", .str "remove_target"]) = H2 at *
    have dk2 := dk1.kept s2
    refine ⟨by show 2 ≤ sizeLine; decide, fun w2 nw2 => ?_⟩
    have off2 := dk2.off nw2
    have s3 := same_new (o := .lst [.str "add_piece", .str "remove_piece"]) nw2
    have ew2 := upd_same (H := H2) (a := w2) (o := .lst [.str "add_piece", .str "remove_piece"])
    generalize upd H2 w2 (.lst [.str "add_piece", .str "remove_piece"]) = H3 at *
    refine ⟨by show 2 ≤ sizeLine; decide, fun w3 nw3 => ?_⟩
    have s4 := same_new (o := .lst [.ref w1, .ref w2]) nw3
    have ew3 := upd_same (H := H3) (a := w3) (o := .lst [.ref w1, .ref w2])
    generalize upd H3 w3 (.lst [.ref w1, .ref w2]) = H4 at *
    have s34 := s3.trans s4
    have s24 := s2.trans s34
    obtain ⟨W, aW, eW, offW⟩ : ∃ W, atI [V.ref w1, .ref w2] (if pc = true then 1 else 0) = some (.ref W) ∧ H4 W = some (.lst [.str (wordOf true pc), .str (wordOf false pc)]) ∧ Off d c W := by
      cases pc
      · exact ⟨w1, rfl, s34 _ _ ew1, off1⟩
      · exact ⟨w2, rfl, s4 _ _ ew2, off2⟩
    refine ⟨.int _, rfl, w3, _, _, .ref W, rfl, rfl, SqL.of ew3, aW, ?_⟩
    have kp4 : Kp d c H H4 := kp1.trans (Kp.same s24)
    have dk4 := dk1.kept s24
    refine ⟨.ref d, rfl, .ref l, rfl, d, c, n + 1, l, us, cs, rfl, dk4, by omega, by omega, off, kp4.keep off el, iv.tps (kp4.tps dk), l0, l1, fun H5 v vx vy kp5 dk5 ev oc => ?_⟩
    have kp := kp4.trans kp5
    have eW5 := kp5.keep offW eW
    have st5 : LawS H5 ls S := st.keep (kp.tps dk) fun us e => kp.keep offs e
    obtain ⟨sus, x, xs, els, us2, ax, ixn, hx, ix, put⟩ := st5.side pc
    have lx := ix.length
    refine ⟨.ref ls, rfl, .int _, rfl, ls, sus, _, .ref x, rfl, rfl, SqL.of els, ax, ?_⟩
    have okv := oc.edok cells top
    have fin : ∀ (H6 : Hp) (t v : Addr) (add : Bool) (vx vy : Int) (m : Int), Kp d c H H6 → Dk H6 d c m → n ≤ m → m ≤ n + 4 → H6 t = none → H6 v = some (.tup [.int vx, .int vy]) → Can S ⟨add, pc, (vx, vy)⟩ → OfCells cs (vx, vy) → (add = true → (sideS pc S).length ≤ 20) → Q (.ref t) (upd H6 t (.tup [.str (wordOf add pc), .ref v])) := by
      intro H6 t v add vx vy m k6 d6 a0 a1 nt hv can oc l20
      have s7 := same_new (o := .tup [.str (wordOf add pc), .ref v]) nt
      exact q _ t ⟨add, pc, (vx, vy)⟩ m (k6.trans (Kp.same s7)) (d6.kept s7) a0 a1 ⟨v, upd_same, s7 _ _ hv⟩ can oc l20
    refine ⟨.ref v, rfl, .ref x, rfl, _, (sideS pc S).map pairD, dp2 ev, .tup (SqT.of hx) ix.dp, rfl, shaped_pairs _, _, rfl, ?_⟩
    rw [any_pair]
    refine ite2 (fun c => ?_) (fun c => ?_)
    · have hin : (vx, vy) ∈ sideS pc S := of_decide_eq_true c
      refine ⟨.ref W, rfl, W, _, 1, _, rfl, rfl, SqL.of eW5, rfl, .ref v, rfl, by show 2 ≤ sizeLine; decide, fun t nt => ?_⟩
      exact fin H5 t v false vx vy _ kp dk5 (by omega) (by omega) nt ev ⟨okv, fun z => (nomatch z), fun _ => hin⟩ oc (fun z => nomatch z)
    have nin : (vx, vy) ∉ sideS pc S := fun z => c (decide_eq_true z)
    clear c put
    have can20 : (sideS pc S).length ≤ 20 → Can S ⟨true, pc, (vx, vy)⟩ := fun l => ⟨okv, fun _ => ⟨nin, by show (sideS pc S).length < (if pc = true then 30 else 24); split <;> omega⟩, fun z => nomatch z⟩
    refine ⟨.int r, rfl, _, _, rfl, rfl, (by show (0 : Int) < 3; decide), rfl, _, rfl, ite2 (fun _ => ?_) (fun _ => ⟨.ref x, rfl, x, xs, rfl, .inr (SqT.of hx), _, _, rfl, rfl, _, rfl, ite2 (fun _ => ?_) (fun c => ?_)⟩)⟩
    rotate_left 2
    · have c : ¬ ((xs.length : Int) > 20) := fun z => c (decide_eq_true z)
      refine iteF ⟨.ref W, rfl, W, _, 0, _, rfl, rfl, SqL.of eW5, rfl, .ref v, rfl, by show 2 ≤ sizeLine; decide, fun t nt => ?_⟩
      exact fin H5 t v true vx vy _ kp dk5 (by omega) (by omega) nt ev (can20 (by omega)) oc (fun _ => by omega)
    all_goals
      refine ⟨.ref x, rfl, by show 0 ≤ sizeLine; decide, fun e ne => ?_⟩
      have s6 := same_new (o := .tup []) ne
      have ee := upd_same (H := H5) (a := e) (o := .tup [])
      generalize upd H5 e (.tup []) = H6 at *
      refine ⟨x, e, xs, rfl, rfl, SqT.of (s6 _ _ hx), SqT.of ee, _, rfl, ?_⟩
      have kp6 := kp.trans (Kp.same s6)
      have dk6 := dk5.kept s6
      cases xs with
      | nil =>
        have lx : 0 = (sideS pc S).length := lx
        refine iteF ⟨.ref W, rfl, W, _, 0, _, rfl, rfl, SqL.of (s6 _ _ eW5), rfl, .ref v, rfl, by show 2 ≤ sizeLine; decide, fun t nt => ?_⟩
        exact fin H6 t v true vx vy _ kp6 dk6 (by omega) (by omega) nt (s6 _ _ ev) (can20 (by omega)) oc (fun _ => by omega)
      | cons x0 xr =>
        refine iteT ⟨.ref W, rfl, W, _, 1, _, rfl, rfl, SqL.of (s6 _ _ eW5), rfl, .ref x, rfl, .ref d, rfl, .ref x, rfl, x, _, rfl, .inr (SqT.of (s6 _ _ hx)), d, c, _, _, rfl, dk6, by omega, by omega, by rw [List.length_cons]; omega, by (have := (sc.so.side pc).few; omega), fun H7 j kp7 dk7 j0 j1 => ?_⟩
        have hx7 := kp7.tup dk6 (s6 _ _ hx)
        have gx := List.getElem?_eq_getElem (l := x0 :: xr) (i := j.toNat) (by omega)
        obtain ⟨u, ux, uy, eu, eq, hu⟩ := ((ix.same s6).tps (kp7.tps dk6)).get gx
        rw [eu] at gx
        have hm : (ux, uy) ∈ sideS pc S := List.mem_of_getElem? eq
        refine ⟨x, _, j, .ref u, rfl, rfl, SqT.of hx7, (by rw [show j = (j.toNat : Int) by omega]; exact atI_nat gx), by show 2 ≤ sizeLine; decide, fun t nt => ?_⟩
        exact fin H7 t u false ux uy _ (kp6.trans kp7) dk7 (by omega) (by omega) nt hu ⟨(sc.so.side pc).ok _ hm, fun z => (nomatch z), fun _ => hm⟩ (sc.oc pc _ hm) (fun z => nomatch z)

/-! ### undo -/
theorem cut_init (xs : List V) : cutV xs none (some (-1)) = xs.dropLast := by
  unfold cutV
  rw [HT.sIx_none]
  have e : HT.sIx xs.length xs.length (some (-1)) = xs.length - 1 := by
    show (if (-1 : Int) < 0 then ((-1 : Int) + (xs.length : Int)).toNat else min (-1 : Int).toNat xs.length) = _
    rw [if_pos (by decide)]
    omega
  rw [e, Nat.sub_zero, List.drop_zero, List.dropLast_eq_take]
def sp_undo (C : Addr) : Sp := fun vs H Q _ => ∃ (p : Addr) (Ls : List St2) (S : St2) (Es : List Ed) (e : Ed), vs = [.ref p] ∧ PlanAt C H p (Ls ++ [S]) (Es ++ [e]) ∧ ∀ H', But p H H' → PlanAt C H' p Ls Es → Q (.int (Es.length : Nat)) H'
theorem ok_Plan_undo (T : Tx K mg f_is_number f_is_position f_is_tuple_of f_is_interval f_ascending_error f_targets_error f_is_pieces f_without_item f_with_interval f_without_interval f_edited_state f_law_deck f_law_draw f_law_line f_law_interval f_law_intervals f_law_edit f_law_after f_law_do f_law_begun f_law_flags f_law_errors_right f_law_edited f_law f_Plan_init f_Plan_add_target f_Plan_add_piece f_Plan_remove_target f_Plan_remove_piece f_Plan_undo f_Plan_targets f_Plan_pieces f_Plan_edits f_Plan_edit f_Plan_record f_Plan_require_idle f_Plan_state_at f_Plan_len f_Plan_eq f_TooWide_init f_NotGenerated_init f_TooMany_init f_BadTargets_init f_BadInterval_init f_Duplicate_init f_BadEdit_init f_Rejected_init f_BadText_init f_Unknown_init f_NoVersion_init C_Plan X_TooWide X_NotGenerated X_TooMany X_BadTargets X_BadInterval X_Duplicate X_BadEdit X_Rejected X_BadText X_Unknown X_NoVersion X_OutOfRange X_SpanError X_BadPieces X_TooManyEdits X_NothingToUndo X_BadEdits X_Busy d_is_number d_is_position d_is_tuple_of d_is_interval d_ascending_error d_targets_error d_is_pieces d_without_item d_with_interval d_without_interval d_edited_state d_law_deck d_law_draw d_law_line d_law_interval d_law_intervals d_law_edit d_law_after d_law_do d_law_begun d_law_flags d_law_errors_right d_law_edited d_law d_Plan_init d_Plan_add_target d_Plan_add_piece d_Plan_remove_target d_Plan_remove_piece d_Plan_undo d_Plan_targets d_Plan_pieces d_Plan_edits d_Plan_edit d_Plan_record d_Plan_require_idle d_Plan_state_at d_Plan_len d_Plan_eq d_TooWide_init d_NotGenerated_init d_TooMany_init d_BadTargets_init d_BadInterval_init d_Duplicate_init d_BadEdit_init d_Rejected_init d_BadText_init d_Unknown_init d_NoVersion_init t_LAST_POSITION t_MAX_TARGETS t_MAX_PIECES t_MAX_EDITS) : FnOk P w K mg base CX0 2 f_Plan_undo d_Plan_undo ["self"] (sp_undo C_Plan) := by
  refine T.F_Plan_undo.ok sc_Plan_undo (fun vs H Q E h => ?_) (fun cdv A outer s H vs Q E hr h => ?_)
  · obtain ⟨p, Ls, S, Es, e, rfl, _⟩ := h
    rfl
  · obtain ⟨p, Ls, S, Es, e, rfl, P, q⟩ := h
    refine ⟨_, (pss_cons (ps_expr (pe_meth0 (pv 0) T.cl_Plan T.m_Plan_require_idle (ok_Plan_require_idle T) (hr.mono (by decide)) T.b_Plan_require_idle .nil pass0))
      (pss_cons (ps_if (pt_not (pt_truth (pe_fld (pv 0) rfl) (by intro _; rfl)))
      (pss_one ps_never)
      pss_nil)
      (pss_cons (ps_fld (pv 0) (pe_slice sl_tupA (pe_fld (pv 0) rfl) po_none (po_some (pe_un un_neg pe_int))) rfl)
      (pss_cons (ps_fld (pv 0) (pe_slice sl_tupA (pe_fld (pv 0) rfl) po_none (po_some (pe_un un_neg pe_int))) rfl)
      (pss_one (ps_ret (pe_callB call_len_seq (by rfl) T.z_len PySem.boot_len (pa_cons (pe_fld (pv 0) rfl) pa_nil)))))))), ?_⟩
    obtain ⟨⟨dx, a, b, us, vs, hp, ha, sts, hb, eds⟩, pl⟩ := id P
    have lv := eds.length
    rw [List.length_append] at lv
    have lv : vs.length = Es.length + 1 := lv
    have ne : vs.isEmpty = false := by
      cases vs with
      | nil => cases lv
      | cons _ _ => rfl
    refine ⟨.ref p, rfl, p, dx, _, rfl, hp, lk_no _ _ _ (by decide +kernel), p, dx, a, b, rfl, hp, ?_⟩
    refine ⟨.ref p, rfl, p, C_Plan, dx, _, _, rfl, hp, T.cl_Plan, T.n_Plan_done, lk_done _ _ _, !vs.isEmpty, .inr (.inl ⟨_, SqT.of hb, rfl⟩), ?_⟩
    rw [ne]
    refine iteF ?_
    refine ⟨.ref p, rfl, p, C_Plan, dx, _, _, rfl, hp, T.cl_Plan, T.n_Plan_states, lk_states _ _ _, 1, rfl, -1, rfl, slA_any ha (fun H1 a2 s1 ea2 => ?_)⟩
    rw [cut_init] at ea2
    refine ⟨.ref p, rfl, p, C_Plan, dx, _, rfl, s1 _ _ hp, T.cl_Plan, T.n_Plan_states, by show 3 < 1000; decide, ?_⟩
    rw [flP_states]
    have t1 : Tps H1 (upd H1 p (.ins C_Plan dx (flP a2 b false))) := fun c xs h => by
      rw [upd_ne (ne_of h (s1 _ _ hp) (fun z => by cases z))]
      exact h
    have b1 : But p H1 (upd H1 p (.ins C_Plan dx (flP a2 b false))) := But.upd
    have hp2 := upd_same (H := H1) (a := p) (o := .ins C_Plan dx (flP a2 b false))
    generalize upd H1 p (.ins C_Plan dx (flP a2 b false)) = H2 at *
    have hb2 := t1 _ _ (s1 _ _ hb)
    refine ⟨.ref p, rfl, p, C_Plan, dx, _, _, rfl, hp2, T.cl_Plan, T.n_Plan_done, lk_done _ _ _, 1, rfl, -1, rfl, slA_any hb2 (fun H3 b2 s3 eb2 => ?_)⟩
    rw [cut_init] at eb2
    have hp3 := s3 _ _ hp2
    refine ⟨.ref p, rfl, p, C_Plan, dx, _, rfl, hp3, T.cl_Plan, T.n_Plan_done, by show 3 < 1000; decide, ?_⟩
    rw [flP_done]
    have t3 : Tps H3 (upd H3 p (.ins C_Plan dx (flP a2 b2 false))) := fun c xs h => by
      rw [upd_ne (ne_of h hp3 (fun z => by cases z))]
      exact h
    have b3 : But p H3 (upd H3 p (.ins C_Plan dx (flP a2 b2 false))) := But.upd
    have hp4 := upd_same (H := H3) (a := p) (o := .ins C_Plan dx (flP a2 b2 false))
    generalize upd H3 p (.ins C_Plan dx (flP a2 b2 false)) = H4 at *
    have t4 : Tps H H4 := (Tps.same s1).trans (t1.trans ((Tps.same s3).trans t3))
    have eb4 := t3 _ _ eb2
    have sts4 := sts.init
    have eds4 := eds.init
    rw [List.dropLast_concat] at sts4 eds4
    refine ⟨.ref p, rfl, p, C_Plan, dx, _, _, rfl, hp4, T.cl_Plan, T.n_Plan_done, lk_done _ _ _, b2, _, rfl, .inr (SqT.of eb4), ?_⟩
    rw [eds4.length]
    refine q H4 ((But.same s1).trans (b1.trans ((But.same s3).trans b3))) ⟨⟨dx, a2, b2, _, _, hp4, t3 _ _ (s3 _ _ (t1 _ _ ea2)), sts4.tps t4, eb4, eds4.tps t4⟩, ?_⟩
    rw [List.length_append, List.length_append] at pl
    have pl : Ls.length + 1 = Es.length + 1 + 1 := pl
    omega

/-! ### the errors: each own __init__ -/
theorem ok_TooWide_init (T : Tx K mg f_is_number f_is_position f_is_tuple_of f_is_interval f_ascending_error f_targets_error f_is_pieces f_without_item f_with_interval f_without_interval f_edited_state f_law_deck f_law_draw f_law_line f_law_interval f_law_intervals f_law_edit f_law_after f_law_do f_law_begun f_law_flags f_law_errors_right f_law_edited f_law f_Plan_init f_Plan_add_target f_Plan_add_piece f_Plan_remove_target f_Plan_remove_piece f_Plan_undo f_Plan_targets f_Plan_pieces f_Plan_edits f_Plan_edit f_Plan_record f_Plan_require_idle f_Plan_state_at f_Plan_len f_Plan_eq f_TooWide_init f_NotGenerated_init f_TooMany_init f_BadTargets_init f_BadInterval_init f_Duplicate_init f_BadEdit_init f_Rejected_init f_BadText_init f_Unknown_init f_NoVersion_init C_Plan X_TooWide X_NotGenerated X_TooMany X_BadTargets X_BadInterval X_Duplicate X_BadEdit X_Rejected X_BadText X_Unknown X_NoVersion X_OutOfRange X_SpanError X_BadPieces X_TooManyEdits X_NothingToUndo X_BadEdits X_Busy d_is_number d_is_position d_is_tuple_of d_is_interval d_ascending_error d_targets_error d_is_pieces d_without_item d_with_interval d_without_interval d_edited_state d_law_deck d_law_draw d_law_line d_law_interval d_law_intervals d_law_edit d_law_after d_law_do d_law_begun d_law_flags d_law_errors_right d_law_edited d_law d_Plan_init d_Plan_add_target d_Plan_add_piece d_Plan_remove_target d_Plan_remove_piece d_Plan_undo d_Plan_targets d_Plan_pieces d_Plan_edits d_Plan_edit d_Plan_record d_Plan_require_idle d_Plan_state_at d_Plan_len d_Plan_eq d_TooWide_init d_NotGenerated_init d_TooMany_init d_BadTargets_init d_BadInterval_init d_Duplicate_init d_BadEdit_init d_Rejected_init d_BadText_init d_Unknown_init d_NoVersion_init t_LAST_POSITION t_MAX_TARGETS t_MAX_PIECES t_MAX_EDITS) : FnOk P w K mg base CX0 1 f_TooWide_init d_TooWide_init ["self", "bound"] (sp_exc_init K X_TooWide "bound") := by
  refine T.F_TooWide_init.ok sc_TooWide_init (fun vs H Q E h => ?_) (fun cdv A outer s H vs Q E hr h => ?_)
  · obtain ⟨a, v, rfl, _⟩ := h
    rfl
  · obtain ⟨a, v, rfl, ha, q⟩ := h
    refine ⟨_, (pss_one (ps_field (newId := "ValueError.__new__") PySem.F.store_ValueError (pv 0) (pv 1))), ?_⟩
    exact ⟨v, rfl, .ref a, rfl, a, X_TooWide, _, rfl, T.xh_TooWide, ha, fun dx nd ne => q dx nd ne⟩
theorem ok_NotGenerated_init (T : Tx K mg f_is_number f_is_position f_is_tuple_of f_is_interval f_ascending_error f_targets_error f_is_pieces f_without_item f_with_interval f_without_interval f_edited_state f_law_deck f_law_draw f_law_line f_law_interval f_law_intervals f_law_edit f_law_after f_law_do f_law_begun f_law_flags f_law_errors_right f_law_edited f_law f_Plan_init f_Plan_add_target f_Plan_add_piece f_Plan_remove_target f_Plan_remove_piece f_Plan_undo f_Plan_targets f_Plan_pieces f_Plan_edits f_Plan_edit f_Plan_record f_Plan_require_idle f_Plan_state_at f_Plan_len f_Plan_eq f_TooWide_init f_NotGenerated_init f_TooMany_init f_BadTargets_init f_BadInterval_init f_Duplicate_init f_BadEdit_init f_Rejected_init f_BadText_init f_Unknown_init f_NoVersion_init C_Plan X_TooWide X_NotGenerated X_TooMany X_BadTargets X_BadInterval X_Duplicate X_BadEdit X_Rejected X_BadText X_Unknown X_NoVersion X_OutOfRange X_SpanError X_BadPieces X_TooManyEdits X_NothingToUndo X_BadEdits X_Busy d_is_number d_is_position d_is_tuple_of d_is_interval d_ascending_error d_targets_error d_is_pieces d_without_item d_with_interval d_without_interval d_edited_state d_law_deck d_law_draw d_law_line d_law_interval d_law_intervals d_law_edit d_law_after d_law_do d_law_begun d_law_flags d_law_errors_right d_law_edited d_law d_Plan_init d_Plan_add_target d_Plan_add_piece d_Plan_remove_target d_Plan_remove_piece d_Plan_undo d_Plan_targets d_Plan_pieces d_Plan_edits d_Plan_edit d_Plan_record d_Plan_require_idle d_Plan_state_at d_Plan_len d_Plan_eq d_TooWide_init d_NotGenerated_init d_TooMany_init d_BadTargets_init d_BadInterval_init d_Duplicate_init d_BadEdit_init d_Rejected_init d_BadText_init d_Unknown_init d_NoVersion_init t_LAST_POSITION t_MAX_TARGETS t_MAX_PIECES t_MAX_EDITS) : FnOk P w K mg base CX0 1 f_NotGenerated_init d_NotGenerated_init ["self", "demand"] (sp_exc_init K X_NotGenerated "demand") := by
  refine T.F_NotGenerated_init.ok sc_NotGenerated_init (fun vs H Q E h => ?_) (fun cdv A outer s H vs Q E hr h => ?_)
  · obtain ⟨a, v, rfl, _⟩ := h
    rfl
  · obtain ⟨a, v, rfl, ha, q⟩ := h
    refine ⟨_, (pss_one (ps_field (newId := "ValueError.__new__") PySem.F.store_ValueError (pv 0) (pv 1))), ?_⟩
    exact ⟨v, rfl, .ref a, rfl, a, X_NotGenerated, _, rfl, T.xh_NotGenerated, ha, fun dx nd ne => q dx nd ne⟩
theorem ok_TooMany_init (T : Tx K mg f_is_number f_is_position f_is_tuple_of f_is_interval f_ascending_error f_targets_error f_is_pieces f_without_item f_with_interval f_without_interval f_edited_state f_law_deck f_law_draw f_law_line f_law_interval f_law_intervals f_law_edit f_law_after f_law_do f_law_begun f_law_flags f_law_errors_right f_law_edited f_law f_Plan_init f_Plan_add_target f_Plan_add_piece f_Plan_remove_target f_Plan_remove_piece f_Plan_undo f_Plan_targets f_Plan_pieces f_Plan_edits f_Plan_edit f_Plan_record f_Plan_require_idle f_Plan_state_at f_Plan_len f_Plan_eq f_TooWide_init f_NotGenerated_init f_TooMany_init f_BadTargets_init f_BadInterval_init f_Duplicate_init f_BadEdit_init f_Rejected_init f_BadText_init f_Unknown_init f_NoVersion_init C_Plan X_TooWide X_NotGenerated X_TooMany X_BadTargets X_BadInterval X_Duplicate X_BadEdit X_Rejected X_BadText X_Unknown X_NoVersion X_OutOfRange X_SpanError X_BadPieces X_TooManyEdits X_NothingToUndo X_BadEdits X_Busy d_is_number d_is_position d_is_tuple_of d_is_interval d_ascending_error d_targets_error d_is_pieces d_without_item d_with_interval d_without_interval d_edited_state d_law_deck d_law_draw d_law_line d_law_interval d_law_intervals d_law_edit d_law_after d_law_do d_law_begun d_law_flags d_law_errors_right d_law_edited d_law d_Plan_init d_Plan_add_target d_Plan_add_piece d_Plan_remove_target d_Plan_remove_piece d_Plan_undo d_Plan_targets d_Plan_pieces d_Plan_edits d_Plan_edit d_Plan_record d_Plan_require_idle d_Plan_state_at d_Plan_len d_Plan_eq d_TooWide_init d_NotGenerated_init d_TooMany_init d_BadTargets_init d_BadInterval_init d_Duplicate_init d_BadEdit_init d_Rejected_init d_BadText_init d_Unknown_init d_NoVersion_init t_LAST_POSITION t_MAX_TARGETS t_MAX_PIECES t_MAX_EDITS) : FnOk P w K mg base CX0 1 f_TooMany_init d_TooMany_init ["self", "bound"] (sp_exc_init K X_TooMany "bound") := by
  refine T.F_TooMany_init.ok sc_TooMany_init (fun vs H Q E h => ?_) (fun cdv A outer s H vs Q E hr h => ?_)
  · obtain ⟨a, v, rfl, _⟩ := h
    rfl
  · obtain ⟨a, v, rfl, ha, q⟩ := h
    refine ⟨_, (pss_one (ps_field (newId := "ValueError.__new__") PySem.F.store_ValueError (pv 0) (pv 1))), ?_⟩
    exact ⟨v, rfl, .ref a, rfl, a, X_TooMany, _, rfl, T.xh_TooMany, ha, fun dx nd ne => q dx nd ne⟩
theorem ok_BadTargets_init (T : Tx K mg f_is_number f_is_position f_is_tuple_of f_is_interval f_ascending_error f_targets_error f_is_pieces f_without_item f_with_interval f_without_interval f_edited_state f_law_deck f_law_draw f_law_line f_law_interval f_law_intervals f_law_edit f_law_after f_law_do f_law_begun f_law_flags f_law_errors_right f_law_edited f_law f_Plan_init f_Plan_add_target f_Plan_add_piece f_Plan_remove_target f_Plan_remove_piece f_Plan_undo f_Plan_targets f_Plan_pieces f_Plan_edits f_Plan_edit f_Plan_record f_Plan_require_idle f_Plan_state_at f_Plan_len f_Plan_eq f_TooWide_init f_NotGenerated_init f_TooMany_init f_BadTargets_init f_BadInterval_init f_Duplicate_init f_BadEdit_init f_Rejected_init f_BadText_init f_Unknown_init f_NoVersion_init C_Plan X_TooWide X_NotGenerated X_TooMany X_BadTargets X_BadInterval X_Duplicate X_BadEdit X_Rejected X_BadText X_Unknown X_NoVersion X_OutOfRange X_SpanError X_BadPieces X_TooManyEdits X_NothingToUndo X_BadEdits X_Busy d_is_number d_is_position d_is_tuple_of d_is_interval d_ascending_error d_targets_error d_is_pieces d_without_item d_with_interval d_without_interval d_edited_state d_law_deck d_law_draw d_law_line d_law_interval d_law_intervals d_law_edit d_law_after d_law_do d_law_begun d_law_flags d_law_errors_right d_law_edited d_law d_Plan_init d_Plan_add_target d_Plan_add_piece d_Plan_remove_target d_Plan_remove_piece d_Plan_undo d_Plan_targets d_Plan_pieces d_Plan_edits d_Plan_edit d_Plan_record d_Plan_require_idle d_Plan_state_at d_Plan_len d_Plan_eq d_TooWide_init d_NotGenerated_init d_TooMany_init d_BadTargets_init d_BadInterval_init d_Duplicate_init d_BadEdit_init d_Rejected_init d_BadText_init d_Unknown_init d_NoVersion_init t_LAST_POSITION t_MAX_TARGETS t_MAX_PIECES t_MAX_EDITS) : FnOk P w K mg base CX0 1 f_BadTargets_init d_BadTargets_init ["self", "error"] (sp_exc_init K X_BadTargets "error") := by
  refine T.F_BadTargets_init.ok sc_BadTargets_init (fun vs H Q E h => ?_) (fun cdv A outer s H vs Q E hr h => ?_)
  · obtain ⟨a, v, rfl, _⟩ := h
    rfl
  · obtain ⟨a, v, rfl, ha, q⟩ := h
    refine ⟨_, (pss_one (ps_field (newId := "ValueError.__new__") PySem.F.store_ValueError (pv 0) (pv 1))), ?_⟩
    exact ⟨v, rfl, .ref a, rfl, a, X_BadTargets, _, rfl, T.xh_BadTargets, ha, fun dx nd ne => q dx nd ne⟩
theorem ok_BadInterval_init (T : Tx K mg f_is_number f_is_position f_is_tuple_of f_is_interval f_ascending_error f_targets_error f_is_pieces f_without_item f_with_interval f_without_interval f_edited_state f_law_deck f_law_draw f_law_line f_law_interval f_law_intervals f_law_edit f_law_after f_law_do f_law_begun f_law_flags f_law_errors_right f_law_edited f_law f_Plan_init f_Plan_add_target f_Plan_add_piece f_Plan_remove_target f_Plan_remove_piece f_Plan_undo f_Plan_targets f_Plan_pieces f_Plan_edits f_Plan_edit f_Plan_record f_Plan_require_idle f_Plan_state_at f_Plan_len f_Plan_eq f_TooWide_init f_NotGenerated_init f_TooMany_init f_BadTargets_init f_BadInterval_init f_Duplicate_init f_BadEdit_init f_Rejected_init f_BadText_init f_Unknown_init f_NoVersion_init C_Plan X_TooWide X_NotGenerated X_TooMany X_BadTargets X_BadInterval X_Duplicate X_BadEdit X_Rejected X_BadText X_Unknown X_NoVersion X_OutOfRange X_SpanError X_BadPieces X_TooManyEdits X_NothingToUndo X_BadEdits X_Busy d_is_number d_is_position d_is_tuple_of d_is_interval d_ascending_error d_targets_error d_is_pieces d_without_item d_with_interval d_without_interval d_edited_state d_law_deck d_law_draw d_law_line d_law_interval d_law_intervals d_law_edit d_law_after d_law_do d_law_begun d_law_flags d_law_errors_right d_law_edited d_law d_Plan_init d_Plan_add_target d_Plan_add_piece d_Plan_remove_target d_Plan_remove_piece d_Plan_undo d_Plan_targets d_Plan_pieces d_Plan_edits d_Plan_edit d_Plan_record d_Plan_require_idle d_Plan_state_at d_Plan_len d_Plan_eq d_TooWide_init d_NotGenerated_init d_TooMany_init d_BadTargets_init d_BadInterval_init d_Duplicate_init d_BadEdit_init d_Rejected_init d_BadText_init d_Unknown_init d_NoVersion_init t_LAST_POSITION t_MAX_TARGETS t_MAX_PIECES t_MAX_EDITS) : FnOk P w K mg base CX0 1 f_BadInterval_init d_BadInterval_init ["self", "value"] (sp_exc_init K X_BadInterval "value") := by
  refine T.F_BadInterval_init.ok sc_BadInterval_init (fun vs H Q E h => ?_) (fun cdv A outer s H vs Q E hr h => ?_)
  · obtain ⟨a, v, rfl, _⟩ := h
    rfl
  · obtain ⟨a, v, rfl, ha, q⟩ := h
    refine ⟨_, (pss_one (ps_field (newId := "ValueError.__new__") PySem.F.store_ValueError (pv 0) (pv 1))), ?_⟩
    exact ⟨v, rfl, .ref a, rfl, a, X_BadInterval, _, rfl, T.xh_BadInterval, ha, fun dx nd ne => q dx nd ne⟩
theorem ok_Duplicate_init (T : Tx K mg f_is_number f_is_position f_is_tuple_of f_is_interval f_ascending_error f_targets_error f_is_pieces f_without_item f_with_interval f_without_interval f_edited_state f_law_deck f_law_draw f_law_line f_law_interval f_law_intervals f_law_edit f_law_after f_law_do f_law_begun f_law_flags f_law_errors_right f_law_edited f_law f_Plan_init f_Plan_add_target f_Plan_add_piece f_Plan_remove_target f_Plan_remove_piece f_Plan_undo f_Plan_targets f_Plan_pieces f_Plan_edits f_Plan_edit f_Plan_record f_Plan_require_idle f_Plan_state_at f_Plan_len f_Plan_eq f_TooWide_init f_NotGenerated_init f_TooMany_init f_BadTargets_init f_BadInterval_init f_Duplicate_init f_BadEdit_init f_Rejected_init f_BadText_init f_Unknown_init f_NoVersion_init C_Plan X_TooWide X_NotGenerated X_TooMany X_BadTargets X_BadInterval X_Duplicate X_BadEdit X_Rejected X_BadText X_Unknown X_NoVersion X_OutOfRange X_SpanError X_BadPieces X_TooManyEdits X_NothingToUndo X_BadEdits X_Busy d_is_number d_is_position d_is_tuple_of d_is_interval d_ascending_error d_targets_error d_is_pieces d_without_item d_with_interval d_without_interval d_edited_state d_law_deck d_law_draw d_law_line d_law_interval d_law_intervals d_law_edit d_law_after d_law_do d_law_begun d_law_flags d_law_errors_right d_law_edited d_law d_Plan_init d_Plan_add_target d_Plan_add_piece d_Plan_remove_target d_Plan_remove_piece d_Plan_undo d_Plan_targets d_Plan_pieces d_Plan_edits d_Plan_edit d_Plan_record d_Plan_require_idle d_Plan_state_at d_Plan_len d_Plan_eq d_TooWide_init d_NotGenerated_init d_TooMany_init d_BadTargets_init d_BadInterval_init d_Duplicate_init d_BadEdit_init d_Rejected_init d_BadText_init d_Unknown_init d_NoVersion_init t_LAST_POSITION t_MAX_TARGETS t_MAX_PIECES t_MAX_EDITS) : FnOk P w K mg base CX0 1 f_Duplicate_init d_Duplicate_init ["self", "value"] (sp_exc_init K X_Duplicate "value") := by
  refine T.F_Duplicate_init.ok sc_Duplicate_init (fun vs H Q E h => ?_) (fun cdv A outer s H vs Q E hr h => ?_)
  · obtain ⟨a, v, rfl, _⟩ := h
    rfl
  · obtain ⟨a, v, rfl, ha, q⟩ := h
    refine ⟨_, (pss_one (ps_field (newId := "ValueError.__new__") PySem.F.store_ValueError (pv 0) (pv 1))), ?_⟩
    exact ⟨v, rfl, .ref a, rfl, a, X_Duplicate, _, rfl, T.xh_Duplicate, ha, fun dx nd ne => q dx nd ne⟩
theorem ok_BadEdit_init (T : Tx K mg f_is_number f_is_position f_is_tuple_of f_is_interval f_ascending_error f_targets_error f_is_pieces f_without_item f_with_interval f_without_interval f_edited_state f_law_deck f_law_draw f_law_line f_law_interval f_law_intervals f_law_edit f_law_after f_law_do f_law_begun f_law_flags f_law_errors_right f_law_edited f_law f_Plan_init f_Plan_add_target f_Plan_add_piece f_Plan_remove_target f_Plan_remove_piece f_Plan_undo f_Plan_targets f_Plan_pieces f_Plan_edits f_Plan_edit f_Plan_record f_Plan_require_idle f_Plan_state_at f_Plan_len f_Plan_eq f_TooWide_init f_NotGenerated_init f_TooMany_init f_BadTargets_init f_BadInterval_init f_Duplicate_init f_BadEdit_init f_Rejected_init f_BadText_init f_Unknown_init f_NoVersion_init C_Plan X_TooWide X_NotGenerated X_TooMany X_BadTargets X_BadInterval X_Duplicate X_BadEdit X_Rejected X_BadText X_Unknown X_NoVersion X_OutOfRange X_SpanError X_BadPieces X_TooManyEdits X_NothingToUndo X_BadEdits X_Busy d_is_number d_is_position d_is_tuple_of d_is_interval d_ascending_error d_targets_error d_is_pieces d_without_item d_with_interval d_without_interval d_edited_state d_law_deck d_law_draw d_law_line d_law_interval d_law_intervals d_law_edit d_law_after d_law_do d_law_begun d_law_flags d_law_errors_right d_law_edited d_law d_Plan_init d_Plan_add_target d_Plan_add_piece d_Plan_remove_target d_Plan_remove_piece d_Plan_undo d_Plan_targets d_Plan_pieces d_Plan_edits d_Plan_edit d_Plan_record d_Plan_require_idle d_Plan_state_at d_Plan_len d_Plan_eq d_TooWide_init d_NotGenerated_init d_TooMany_init d_BadTargets_init d_BadInterval_init d_Duplicate_init d_BadEdit_init d_Rejected_init d_BadText_init d_Unknown_init d_NoVersion_init t_LAST_POSITION t_MAX_TARGETS t_MAX_PIECES t_MAX_EDITS) : FnOk P w K mg base CX0 1 f_BadEdit_init d_BadEdit_init ["self", "index"] (sp_exc_init K X_BadEdit "index") := by
  refine T.F_BadEdit_init.ok sc_BadEdit_init (fun vs H Q E h => ?_) (fun cdv A outer s H vs Q E hr h => ?_)
  · obtain ⟨a, v, rfl, _⟩ := h
    rfl
  · obtain ⟨a, v, rfl, ha, q⟩ := h
    refine ⟨_, (pss_one (ps_field (newId := "ValueError.__new__") PySem.F.store_ValueError (pv 0) (pv 1))), ?_⟩
    exact ⟨v, rfl, .ref a, rfl, a, X_BadEdit, _, rfl, T.xh_BadEdit, ha, fun dx nd ne => q dx nd ne⟩
theorem ok_Rejected_init (T : Tx K mg f_is_number f_is_position f_is_tuple_of f_is_interval f_ascending_error f_targets_error f_is_pieces f_without_item f_with_interval f_without_interval f_edited_state f_law_deck f_law_draw f_law_line f_law_interval f_law_intervals f_law_edit f_law_after f_law_do f_law_begun f_law_flags f_law_errors_right f_law_edited f_law f_Plan_init f_Plan_add_target f_Plan_add_piece f_Plan_remove_target f_Plan_remove_piece f_Plan_undo f_Plan_targets f_Plan_pieces f_Plan_edits f_Plan_edit f_Plan_record f_Plan_require_idle f_Plan_state_at f_Plan_len f_Plan_eq f_TooWide_init f_NotGenerated_init f_TooMany_init f_BadTargets_init f_BadInterval_init f_Duplicate_init f_BadEdit_init f_Rejected_init f_BadText_init f_Unknown_init f_NoVersion_init C_Plan X_TooWide X_NotGenerated X_TooMany X_BadTargets X_BadInterval X_Duplicate X_BadEdit X_Rejected X_BadText X_Unknown X_NoVersion X_OutOfRange X_SpanError X_BadPieces X_TooManyEdits X_NothingToUndo X_BadEdits X_Busy d_is_number d_is_position d_is_tuple_of d_is_interval d_ascending_error d_targets_error d_is_pieces d_without_item d_with_interval d_without_interval d_edited_state d_law_deck d_law_draw d_law_line d_law_interval d_law_intervals d_law_edit d_law_after d_law_do d_law_begun d_law_flags d_law_errors_right d_law_edited d_law d_Plan_init d_Plan_add_target d_Plan_add_piece d_Plan_remove_target d_Plan_remove_piece d_Plan_undo d_Plan_targets d_Plan_pieces d_Plan_edits d_Plan_edit d_Plan_record d_Plan_require_idle d_Plan_state_at d_Plan_len d_Plan_eq d_TooWide_init d_NotGenerated_init d_TooMany_init d_BadTargets_init d_BadInterval_init d_Duplicate_init d_BadEdit_init d_Rejected_init d_BadText_init d_Unknown_init d_NoVersion_init t_LAST_POSITION t_MAX_TARGETS t_MAX_PIECES t_MAX_EDITS) : FnOk P w K mg base CX0 1 f_Rejected_init d_Rejected_init ["self", "index"] (sp_exc_init K X_Rejected "index") := by
  refine T.F_Rejected_init.ok sc_Rejected_init (fun vs H Q E h => ?_) (fun cdv A outer s H vs Q E hr h => ?_)
  · obtain ⟨a, v, rfl, _⟩ := h
    rfl
  · obtain ⟨a, v, rfl, ha, q⟩ := h
    refine ⟨_, (pss_one (ps_field (newId := "ValueError.__new__") PySem.F.store_ValueError (pv 0) (pv 1))), ?_⟩
    exact ⟨v, rfl, .ref a, rfl, a, X_Rejected, _, rfl, T.xh_Rejected, ha, fun dx nd ne => q dx nd ne⟩
theorem ok_BadText_init (T : Tx K mg f_is_number f_is_position f_is_tuple_of f_is_interval f_ascending_error f_targets_error f_is_pieces f_without_item f_with_interval f_without_interval f_edited_state f_law_deck f_law_draw f_law_line f_law_interval f_law_intervals f_law_edit f_law_after f_law_do f_law_begun f_law_flags f_law_errors_right f_law_edited f_law f_Plan_init f_Plan_add_target f_Plan_add_piece f_Plan_remove_target f_Plan_remove_piece f_Plan_undo f_Plan_targets f_Plan_pieces f_Plan_edits f_Plan_edit f_Plan_record f_Plan_require_idle f_Plan_state_at f_Plan_len f_Plan_eq f_TooWide_init f_NotGenerated_init f_TooMany_init f_BadTargets_init f_BadInterval_init f_Duplicate_init f_BadEdit_init f_Rejected_init f_BadText_init f_Unknown_init f_NoVersion_init C_Plan X_TooWide X_NotGenerated X_TooMany X_BadTargets X_BadInterval X_Duplicate X_BadEdit X_Rejected X_BadText X_Unknown X_NoVersion X_OutOfRange X_SpanError X_BadPieces X_TooManyEdits X_NothingToUndo X_BadEdits X_Busy d_is_number d_is_position d_is_tuple_of d_is_interval d_ascending_error d_targets_error d_is_pieces d_without_item d_with_interval d_without_interval d_edited_state d_law_deck d_law_draw d_law_line d_law_interval d_law_intervals d_law_edit d_law_after d_law_do d_law_begun d_law_flags d_law_errors_right d_law_edited d_law d_Plan_init d_Plan_add_target d_Plan_add_piece d_Plan_remove_target d_Plan_remove_piece d_Plan_undo d_Plan_targets d_Plan_pieces d_Plan_edits d_Plan_edit d_Plan_record d_Plan_require_idle d_Plan_state_at d_Plan_len d_Plan_eq d_TooWide_init d_NotGenerated_init d_TooMany_init d_BadTargets_init d_BadInterval_init d_Duplicate_init d_BadEdit_init d_Rejected_init d_BadText_init d_Unknown_init d_NoVersion_init t_LAST_POSITION t_MAX_TARGETS t_MAX_PIECES t_MAX_EDITS) : FnOk P w K mg base CX0 1 f_BadText_init d_BadText_init ["self", "index"] (sp_exc_init K X_BadText "index") := by
  refine T.F_BadText_init.ok sc_BadText_init (fun vs H Q E h => ?_) (fun cdv A outer s H vs Q E hr h => ?_)
  · obtain ⟨a, v, rfl, _⟩ := h
    rfl
  · obtain ⟨a, v, rfl, ha, q⟩ := h
    refine ⟨_, (pss_one (ps_field (newId := "ValueError.__new__") PySem.F.store_ValueError (pv 0) (pv 1))), ?_⟩
    exact ⟨v, rfl, .ref a, rfl, a, X_BadText, _, rfl, T.xh_BadText, ha, fun dx nd ne => q dx nd ne⟩
theorem ok_Unknown_init (T : Tx K mg f_is_number f_is_position f_is_tuple_of f_is_interval f_ascending_error f_targets_error f_is_pieces f_without_item f_with_interval f_without_interval f_edited_state f_law_deck f_law_draw f_law_line f_law_interval f_law_intervals f_law_edit f_law_after f_law_do f_law_begun f_law_flags f_law_errors_right f_law_edited f_law f_Plan_init f_Plan_add_target f_Plan_add_piece f_Plan_remove_target f_Plan_remove_piece f_Plan_undo f_Plan_targets f_Plan_pieces f_Plan_edits f_Plan_edit f_Plan_record f_Plan_require_idle f_Plan_state_at f_Plan_len f_Plan_eq f_TooWide_init f_NotGenerated_init f_TooMany_init f_BadTargets_init f_BadInterval_init f_Duplicate_init f_BadEdit_init f_Rejected_init f_BadText_init f_Unknown_init f_NoVersion_init C_Plan X_TooWide X_NotGenerated X_TooMany X_BadTargets X_BadInterval X_Duplicate X_BadEdit X_Rejected X_BadText X_Unknown X_NoVersion X_OutOfRange X_SpanError X_BadPieces X_TooManyEdits X_NothingToUndo X_BadEdits X_Busy d_is_number d_is_position d_is_tuple_of d_is_interval d_ascending_error d_targets_error d_is_pieces d_without_item d_with_interval d_without_interval d_edited_state d_law_deck d_law_draw d_law_line d_law_interval d_law_intervals d_law_edit d_law_after d_law_do d_law_begun d_law_flags d_law_errors_right d_law_edited d_law d_Plan_init d_Plan_add_target d_Plan_add_piece d_Plan_remove_target d_Plan_remove_piece d_Plan_undo d_Plan_targets d_Plan_pieces d_Plan_edits d_Plan_edit d_Plan_record d_Plan_require_idle d_Plan_state_at d_Plan_len d_Plan_eq d_TooWide_init d_NotGenerated_init d_TooMany_init d_BadTargets_init d_BadInterval_init d_Duplicate_init d_BadEdit_init d_Rejected_init d_BadText_init d_Unknown_init d_NoVersion_init t_LAST_POSITION t_MAX_TARGETS t_MAX_PIECES t_MAX_EDITS) : FnOk P w K mg base CX0 1 f_Unknown_init d_Unknown_init ["self", "value"] (sp_exc_init K X_Unknown "value") := by
  refine T.F_Unknown_init.ok sc_Unknown_init (fun vs H Q E h => ?_) (fun cdv A outer s H vs Q E hr h => ?_)
  · obtain ⟨a, v, rfl, _⟩ := h
    rfl
  · obtain ⟨a, v, rfl, ha, q⟩ := h
    refine ⟨_, (pss_one (ps_field (newId := "LookupError.__new__") PySem.F.store_LookupError (pv 0) (pv 1))), ?_⟩
    exact ⟨v, rfl, .ref a, rfl, a, X_Unknown, _, rfl, T.xg_Unknown, ha, fun dx nd ne => q dx nd ne⟩
theorem ok_NoVersion_init (T : Tx K mg f_is_number f_is_position f_is_tuple_of f_is_interval f_ascending_error f_targets_error f_is_pieces f_without_item f_with_interval f_without_interval f_edited_state f_law_deck f_law_draw f_law_line f_law_interval f_law_intervals f_law_edit f_law_after f_law_do f_law_begun f_law_flags f_law_errors_right f_law_edited f_law f_Plan_init f_Plan_add_target f_Plan_add_piece f_Plan_remove_target f_Plan_remove_piece f_Plan_undo f_Plan_targets f_Plan_pieces f_Plan_edits f_Plan_edit f_Plan_record f_Plan_require_idle f_Plan_state_at f_Plan_len f_Plan_eq f_TooWide_init f_NotGenerated_init f_TooMany_init f_BadTargets_init f_BadInterval_init f_Duplicate_init f_BadEdit_init f_Rejected_init f_BadText_init f_Unknown_init f_NoVersion_init C_Plan X_TooWide X_NotGenerated X_TooMany X_BadTargets X_BadInterval X_Duplicate X_BadEdit X_Rejected X_BadText X_Unknown X_NoVersion X_OutOfRange X_SpanError X_BadPieces X_TooManyEdits X_NothingToUndo X_BadEdits X_Busy d_is_number d_is_position d_is_tuple_of d_is_interval d_ascending_error d_targets_error d_is_pieces d_without_item d_with_interval d_without_interval d_edited_state d_law_deck d_law_draw d_law_line d_law_interval d_law_intervals d_law_edit d_law_after d_law_do d_law_begun d_law_flags d_law_errors_right d_law_edited d_law d_Plan_init d_Plan_add_target d_Plan_add_piece d_Plan_remove_target d_Plan_remove_piece d_Plan_undo d_Plan_targets d_Plan_pieces d_Plan_edits d_Plan_edit d_Plan_record d_Plan_require_idle d_Plan_state_at d_Plan_len d_Plan_eq d_TooWide_init d_NotGenerated_init d_TooMany_init d_BadTargets_init d_BadInterval_init d_Duplicate_init d_BadEdit_init d_Rejected_init d_BadText_init d_Unknown_init d_NoVersion_init t_LAST_POSITION t_MAX_TARGETS t_MAX_PIECES t_MAX_EDITS) : FnOk P w K mg base CX0 1 f_NoVersion_init d_NoVersion_init ["self", "value"] (sp_exc_init K X_NoVersion "value") := by
  refine T.F_NoVersion_init.ok sc_NoVersion_init (fun vs H Q E h => ?_) (fun cdv A outer s H vs Q E hr h => ?_)
  · obtain ⟨a, v, rfl, _⟩ := h
    rfl
  · obtain ⟨a, v, rfl, ha, q⟩ := h
    refine ⟨_, (pss_one (ps_field (newId := "LookupError.__new__") PySem.F.store_LookupError (pv 0) (pv 1))), ?_⟩
    exact ⟨v, rfl, .ref a, rfl, a, X_NoVersion, _, rfl, T.xg_NoVersion, ha, fun dx nd ne => q dx nd ne⟩

/-! ### isinstance of an error, for each class -/
def ErrAt (K : PySem.W.Frag) (H : Hp) (a D : Addr) : Prop := ∃ d, H a = some (exo a D d) ∧ ExV H d ∧ ExcC K D
theorem ExV.same {H H' : Hp} {d : Option Addr} (h : ExV H d) (s : Same H H') : ExV H' d := h.imp id fun ⟨dd, fs, e, q⟩ => ⟨dd, fs, e, s _ _ q⟩
theorem ErrAt.same {K : PySem.W.Frag} {H H' : Hp} {a D : Addr} (h : ErrAt K H a D) (s : Same H H') : ErrAt K H' a D := by
  obtain ⟨d, h1, h2, h3⟩ := h
  exact ⟨d, s _ _ h1, h2.same s, h3⟩
theorem sameNone {H G : Hp} {a : Addr} (s : Same H G) (n : G a = none) : H a = none := by
  cases e : H a with
  | none => rfl
  | some o =>
    rw [s _ _ e] at n
    cases n
def flagsL (i : Nat) : List V := (List.range 17).map fun j => V.bl (decide (i = j))
def sp_law_flags (K : PySem.W.Frag) (Xs : List Addr) : Sp := fun vs H Q _ => ∃ (a : Addr) (i : Nat), vs = [.ref a] ∧ i < 17 ∧ ErrAt K H a (Xs.getD i 0) ∧ ∀ H' u, Same H H' → H u = none → H' u = some (.lst (flagsL i)) → Q (.ref u) H'
theorem ok_law_flags (T : Tx K mg f_is_number f_is_position f_is_tuple_of f_is_interval f_ascending_error f_targets_error f_is_pieces f_without_item f_with_interval f_without_interval f_edited_state f_law_deck f_law_draw f_law_line f_law_interval f_law_intervals f_law_edit f_law_after f_law_do f_law_begun f_law_flags f_law_errors_right f_law_edited f_law f_Plan_init f_Plan_add_target f_Plan_add_piece f_Plan_remove_target f_Plan_remove_piece f_Plan_undo f_Plan_targets f_Plan_pieces f_Plan_edits f_Plan_edit f_Plan_record f_Plan_require_idle f_Plan_state_at f_Plan_len f_Plan_eq f_TooWide_init f_NotGenerated_init f_TooMany_init f_BadTargets_init f_BadInterval_init f_Duplicate_init f_BadEdit_init f_Rejected_init f_BadText_init f_Unknown_init f_NoVersion_init C_Plan X_TooWide X_NotGenerated X_TooMany X_BadTargets X_BadInterval X_Duplicate X_BadEdit X_Rejected X_BadText X_Unknown X_NoVersion X_OutOfRange X_SpanError X_BadPieces X_TooManyEdits X_NothingToUndo X_BadEdits X_Busy d_is_number d_is_position d_is_tuple_of d_is_interval d_ascending_error d_targets_error d_is_pieces d_without_item d_with_interval d_without_interval d_edited_state d_law_deck d_law_draw d_law_line d_law_interval d_law_intervals d_law_edit d_law_after d_law_do d_law_begun d_law_flags d_law_errors_right d_law_edited d_law d_Plan_init d_Plan_add_target d_Plan_add_piece d_Plan_remove_target d_Plan_remove_piece d_Plan_undo d_Plan_targets d_Plan_pieces d_Plan_edits d_Plan_edit d_Plan_record d_Plan_require_idle d_Plan_state_at d_Plan_len d_Plan_eq d_TooWide_init d_NotGenerated_init d_TooMany_init d_BadTargets_init d_BadInterval_init d_Duplicate_init d_BadEdit_init d_Rejected_init d_BadText_init d_Unknown_init d_NoVersion_init t_LAST_POSITION t_MAX_TARGETS t_MAX_PIECES t_MAX_EDITS) : FnOk P w K mg base CX0 2 f_law_flags d_law_flags ["_law_e"] (sp_law_flags K [X_OutOfRange, X_BadPieces, X_TooManyEdits, X_NothingToUndo, X_BadEdits, X_Busy, X_TooWide, X_NotGenerated, X_TooMany, X_BadTargets, X_BadInterval, X_Duplicate, X_BadEdit, X_Rejected, X_BadText, X_Unknown, X_NoVersion]) := by
  refine T.F_law_flags.ok sc_law_flags (fun vs H Q E h => ?_) (fun cdv A outer s H vs Q E hr h => ?_)
  · obtain ⟨a, i, rfl, _⟩ := h
    rfl
  · obtain ⟨a, i, rfl, i17, ea, q⟩ := h
    refine ⟨_, (pss_cons (ps_set (i := 1) sc_law_flags.nd rfl (Or.inl rfl) (pe_lst (pa_cons (pe_callB call_isV (by rfl) T.z_isinstance (by decide +kernel) (pa_cons (pv 0) (pa_cons (pe_glob (v := .ref X_OutOfRange) (by rfl) T.xn_OutOfRange.g rfl) pa_nil))) (pa_cons (pe_callB call_isV (by rfl) T.z_isinstance (by decide +kernel) (pa_cons (pv 0) (pa_cons (pe_glob (v := .ref X_BadPieces) (by rfl) T.xn_BadPieces.g rfl) pa_nil))) (pa_cons (pe_callB call_isV (by rfl) T.z_isinstance (by decide +kernel) (pa_cons (pv 0) (pa_cons (pe_glob (v := .ref X_TooManyEdits) (by rfl) T.xn_TooManyEdits.g rfl) pa_nil))) pa_nil)))))
      (pss_cons (ps_set (i := 1) sc_law_flags.nd rfl (Or.inl rfl) (pe_op op_cat (pv 1) (pe_lst (pa_cons (pe_callB call_isV (by rfl) T.z_isinstance (by decide +kernel) (pa_cons (pv 0) (pa_cons (pe_glob (v := .ref X_NothingToUndo) (by rfl) T.xn_NothingToUndo.g rfl) pa_nil))) (pa_cons (pe_callB call_isV (by rfl) T.z_isinstance (by decide +kernel) (pa_cons (pv 0) (pa_cons (pe_glob (v := .ref X_BadEdits) (by rfl) T.xn_BadEdits.g rfl) pa_nil))) (pa_cons (pe_callB call_isV (by rfl) T.z_isinstance (by decide +kernel) (pa_cons (pv 0) (pa_cons (pe_glob (v := .ref X_Busy) (by rfl) T.xn_Busy.g rfl) pa_nil))) pa_nil))))))
      (pss_cons (ps_set (i := 1) sc_law_flags.nd rfl (Or.inl rfl) (pe_op op_cat (pv 1) (pe_lst (pa_cons (pe_callB call_isV (by rfl) T.z_isinstance (by decide +kernel) (pa_cons (pv 0) (pa_cons (pe_glob (v := .ref X_TooWide) (by rfl) T.xn_TooWide.g rfl) pa_nil))) (pa_cons (pe_callB call_isV (by rfl) T.z_isinstance (by decide +kernel) (pa_cons (pv 0) (pa_cons (pe_glob (v := .ref X_NotGenerated) (by rfl) T.xn_NotGenerated.g rfl) pa_nil))) (pa_cons (pe_callB call_isV (by rfl) T.z_isinstance (by decide +kernel) (pa_cons (pv 0) (pa_cons (pe_glob (v := .ref X_TooMany) (by rfl) T.xn_TooMany.g rfl) pa_nil))) pa_nil))))))
      (pss_cons (ps_set (i := 1) sc_law_flags.nd rfl (Or.inl rfl) (pe_op op_cat (pv 1) (pe_lst (pa_cons (pe_callB call_isV (by rfl) T.z_isinstance (by decide +kernel) (pa_cons (pv 0) (pa_cons (pe_glob (v := .ref X_BadTargets) (by rfl) T.xn_BadTargets.g rfl) pa_nil))) (pa_cons (pe_callB call_isV (by rfl) T.z_isinstance (by decide +kernel) (pa_cons (pv 0) (pa_cons (pe_glob (v := .ref X_BadInterval) (by rfl) T.xn_BadInterval.g rfl) pa_nil))) (pa_cons (pe_callB call_isV (by rfl) T.z_isinstance (by decide +kernel) (pa_cons (pv 0) (pa_cons (pe_glob (v := .ref X_Duplicate) (by rfl) T.xn_Duplicate.g rfl) pa_nil))) pa_nil))))))
      (pss_cons (ps_set (i := 1) sc_law_flags.nd rfl (Or.inl rfl) (pe_op op_cat (pv 1) (pe_lst (pa_cons (pe_callB call_isV (by rfl) T.z_isinstance (by decide +kernel) (pa_cons (pv 0) (pa_cons (pe_glob (v := .ref X_BadEdit) (by rfl) T.xn_BadEdit.g rfl) pa_nil))) (pa_cons (pe_callB call_isV (by rfl) T.z_isinstance (by decide +kernel) (pa_cons (pv 0) (pa_cons (pe_glob (v := .ref X_Rejected) (by rfl) T.xn_Rejected.g rfl) pa_nil))) (pa_cons (pe_callB call_isV (by rfl) T.z_isinstance (by decide +kernel) (pa_cons (pv 0) (pa_cons (pe_glob (v := .ref X_BadText) (by rfl) T.xn_BadText.g rfl) pa_nil))) pa_nil))))))
      (pss_one (ps_ret (pe_op op_cat (pv 1) (pe_lst (pa_cons (pe_callB call_isV (by rfl) T.z_isinstance (by decide +kernel) (pa_cons (pv 0) (pa_cons (pe_glob (v := .ref X_Unknown) (by rfl) T.xn_Unknown.g rfl) pa_nil))) (pa_cons (pe_callB call_isV (by rfl) T.z_isinstance (by decide +kernel) (pa_cons (pv 0) (pa_cons (pe_glob (v := .ref X_NoVersion) (by rfl) T.xn_NoVersion.g rfl) pa_nil))) pa_nil))))))))))), ?_⟩
    obtain ⟨d, e1, e2, e3⟩ := ea
    have kit : ∀ (j : Nat) {x : Str}, j < 17 → XcN K mg x (([X_OutOfRange, X_BadPieces, X_TooManyEdits, X_NothingToUndo, X_BadEdits, X_Busy, X_TooWide, X_NotGenerated, X_TooMany, X_BadTargets, X_BadInterval, X_Duplicate, X_BadEdit, X_Rejected, X_BadText, X_Unknown, X_NoVersion] : List Addr).getD j 0) → _ := fun j x hj N => errTab_kit T.et (i := i) i17 hj N
    refine ⟨.ref a, rfl, a, _, d, .ref X_OutOfRange, _, _, rfl, e1, e2, e3, .own _, kit 0 (by decide) T.xn_OutOfRange, .ref a, rfl, a, _, d, .ref X_BadPieces, _, _, rfl, e1, e2, e3, .own _, kit 1 (by decide) T.xn_BadPieces, .ref a, rfl, a, _, d, .ref X_TooManyEdits, _, _, rfl, e1, e2, e3, .own _, kit 2 (by decide) T.xn_TooManyEdits, by show 3 ≤ sizeLine; decide, fun w0 nw0 => ?_⟩
    have s0 := same_new (o := .lst [V.bl (decide (i = 0)), V.bl (decide (i = 1)), V.bl (decide (i = 2))]) nw0
    have ew0 := upd_same (H := H) (a := w0) (o := .lst [V.bl (decide (i = 0)), V.bl (decide (i = 1)), V.bl (decide (i = 2))])
    generalize upd H w0 (.lst [V.bl (decide (i = 0)), V.bl (decide (i = 1)), V.bl (decide (i = 2))]) = G0 at *
    have s00b := s0
    refine ⟨.ref w0, rfl, .ref a, rfl, a, _, d, .ref X_NothingToUndo, _, _, rfl, (s00b _ _ e1), (e2.same s00b), e3, .own _, kit 3 (by decide) T.xn_NothingToUndo, .ref a, rfl, a, _, d, .ref X_BadEdits, _, _, rfl, (s00b _ _ e1), (e2.same s00b), e3, .own _, kit 4 (by decide) T.xn_BadEdits, .ref a, rfl, a, _, d, .ref X_Busy, _, _, rfl, (s00b _ _ e1), (e2.same s00b), e3, .own _, kit 5 (by decide) T.xn_Busy, by show 3 ≤ sizeLine; decide, fun w1 nw1 => ?_⟩
    have s1 := same_new (o := .lst [V.bl (decide (i = 3)), V.bl (decide (i = 4)), V.bl (decide (i = 5))]) nw1
    have ew1 := upd_same (H := G0) (a := w1) (o := .lst [V.bl (decide (i = 3)), V.bl (decide (i = 4)), V.bl (decide (i = 5))])
    generalize upd G0 w1 (.lst [V.bl (decide (i = 3)), V.bl (decide (i = 4)), V.bl (decide (i = 5))]) = G1 at *
    have ep1 := s1 _ _ ew0
    refine ⟨w0, w1, _, _, rfl, rfl, ep1, ew1, by show 6 ≤ sizeLine; decide, fun wc1 nc1 => ?_⟩
    have sx1 := s00b.trans s1
    have t1 := same_new (o := .lst ([V.bl (decide (i = 0)), V.bl (decide (i = 1)), V.bl (decide (i = 2))] ++ [V.bl (decide (i = 3)), V.bl (decide (i = 4)), V.bl (decide (i = 5))])) nc1
    have ec1 := upd_same (H := G1) (a := wc1) (o := .lst ([V.bl (decide (i = 0)), V.bl (decide (i = 1)), V.bl (decide (i = 2))] ++ [V.bl (decide (i = 3)), V.bl (decide (i = 4)), V.bl (decide (i = 5))]))
    generalize upd G1 wc1 (.lst ([V.bl (decide (i = 0)), V.bl (decide (i = 1)), V.bl (decide (i = 2))] ++ [V.bl (decide (i = 3)), V.bl (decide (i = 4)), V.bl (decide (i = 5))])) = F1 at *
    have s01b := sx1.trans t1
    refine ⟨.ref wc1, rfl, .ref a, rfl, a, _, d, .ref X_TooWide, _, _, rfl, (s01b _ _ e1), (e2.same s01b), e3, .own _, kit 6 (by decide) T.xn_TooWide, .ref a, rfl, a, _, d, .ref X_NotGenerated, _, _, rfl, (s01b _ _ e1), (e2.same s01b), e3, .own _, kit 7 (by decide) T.xn_NotGenerated, .ref a, rfl, a, _, d, .ref X_TooMany, _, _, rfl, (s01b _ _ e1), (e2.same s01b), e3, .own _, kit 8 (by decide) T.xn_TooMany, by show 3 ≤ sizeLine; decide, fun w2 nw2 => ?_⟩
    have s2 := same_new (o := .lst [V.bl (decide (i = 6)), V.bl (decide (i = 7)), V.bl (decide (i = 8))]) nw2
    have ew2 := upd_same (H := F1) (a := w2) (o := .lst [V.bl (decide (i = 6)), V.bl (decide (i = 7)), V.bl (decide (i = 8))])
    generalize upd F1 w2 (.lst [V.bl (decide (i = 6)), V.bl (decide (i = 7)), V.bl (decide (i = 8))]) = G2 at *
    have ep2 := s2 _ _ ec1
    refine ⟨wc1, w2, _, _, rfl, rfl, ep2, ew2, by show 9 ≤ sizeLine; decide, fun wc2 nc2 => ?_⟩
    have sx2 := s01b.trans s2
    have t2 := same_new (o := .lst (([V.bl (decide (i = 0)), V.bl (decide (i = 1)), V.bl (decide (i = 2))] ++ [V.bl (decide (i = 3)), V.bl (decide (i = 4)), V.bl (decide (i = 5))]) ++ [V.bl (decide (i = 6)), V.bl (decide (i = 7)), V.bl (decide (i = 8))])) nc2
    have ec2 := upd_same (H := G2) (a := wc2) (o := .lst (([V.bl (decide (i = 0)), V.bl (decide (i = 1)), V.bl (decide (i = 2))] ++ [V.bl (decide (i = 3)), V.bl (decide (i = 4)), V.bl (decide (i = 5))]) ++ [V.bl (decide (i = 6)), V.bl (decide (i = 7)), V.bl (decide (i = 8))]))
    generalize upd G2 wc2 (.lst (([V.bl (decide (i = 0)), V.bl (decide (i = 1)), V.bl (decide (i = 2))] ++ [V.bl (decide (i = 3)), V.bl (decide (i = 4)), V.bl (decide (i = 5))]) ++ [V.bl (decide (i = 6)), V.bl (decide (i = 7)), V.bl (decide (i = 8))])) = F2 at *
    have s02b := sx2.trans t2
    refine ⟨.ref wc2, rfl, .ref a, rfl, a, _, d, .ref X_BadTargets, _, _, rfl, (s02b _ _ e1), (e2.same s02b), e3, .own _, kit 9 (by decide) T.xn_BadTargets, .ref a, rfl, a, _, d, .ref X_BadInterval, _, _, rfl, (s02b _ _ e1), (e2.same s02b), e3, .own _, kit 10 (by decide) T.xn_BadInterval, .ref a, rfl, a, _, d, .ref X_Duplicate, _, _, rfl, (s02b _ _ e1), (e2.same s02b), e3, .own _, kit 11 (by decide) T.xn_Duplicate, by show 3 ≤ sizeLine; decide, fun w3 nw3 => ?_⟩
    have s3 := same_new (o := .lst [V.bl (decide (i = 9)), V.bl (decide (i = 10)), V.bl (decide (i = 11))]) nw3
    have ew3 := upd_same (H := F2) (a := w3) (o := .lst [V.bl (decide (i = 9)), V.bl (decide (i = 10)), V.bl (decide (i = 11))])
    generalize upd F2 w3 (.lst [V.bl (decide (i = 9)), V.bl (decide (i = 10)), V.bl (decide (i = 11))]) = G3 at *
    have ep3 := s3 _ _ ec2
    refine ⟨wc2, w3, _, _, rfl, rfl, ep3, ew3, by show 12 ≤ sizeLine; decide, fun wc3 nc3 => ?_⟩
    have sx3 := s02b.trans s3
    have t3 := same_new (o := .lst ((([V.bl (decide (i = 0)), V.bl (decide (i = 1)), V.bl (decide (i = 2))] ++ [V.bl (decide (i = 3)), V.bl (decide (i = 4)), V.bl (decide (i = 5))]) ++ [V.bl (decide (i = 6)), V.bl (decide (i = 7)), V.bl (decide (i = 8))]) ++ [V.bl (decide (i = 9)), V.bl (decide (i = 10)), V.bl (decide (i = 11))])) nc3
    have ec3 := upd_same (H := G3) (a := wc3) (o := .lst ((([V.bl (decide (i = 0)), V.bl (decide (i = 1)), V.bl (decide (i = 2))] ++ [V.bl (decide (i = 3)), V.bl (decide (i = 4)), V.bl (decide (i = 5))]) ++ [V.bl (decide (i = 6)), V.bl (decide (i = 7)), V.bl (decide (i = 8))]) ++ [V.bl (decide (i = 9)), V.bl (decide (i = 10)), V.bl (decide (i = 11))]))
    generalize upd G3 wc3 (.lst ((([V.bl (decide (i = 0)), V.bl (decide (i = 1)), V.bl (decide (i = 2))] ++ [V.bl (decide (i = 3)), V.bl (decide (i = 4)), V.bl (decide (i = 5))]) ++ [V.bl (decide (i = 6)), V.bl (decide (i = 7)), V.bl (decide (i = 8))]) ++ [V.bl (decide (i = 9)), V.bl (decide (i = 10)), V.bl (decide (i = 11))])) = F3 at *
    have s03b := sx3.trans t3
    refine ⟨.ref wc3, rfl, .ref a, rfl, a, _, d, .ref X_BadEdit, _, _, rfl, (s03b _ _ e1), (e2.same s03b), e3, .own _, kit 12 (by decide) T.xn_BadEdit, .ref a, rfl, a, _, d, .ref X_Rejected, _, _, rfl, (s03b _ _ e1), (e2.same s03b), e3, .own _, kit 13 (by decide) T.xn_Rejected, .ref a, rfl, a, _, d, .ref X_BadText, _, _, rfl, (s03b _ _ e1), (e2.same s03b), e3, .own _, kit 14 (by decide) T.xn_BadText, by show 3 ≤ sizeLine; decide, fun w4 nw4 => ?_⟩
    have s4 := same_new (o := .lst [V.bl (decide (i = 12)), V.bl (decide (i = 13)), V.bl (decide (i = 14))]) nw4
    have ew4 := upd_same (H := F3) (a := w4) (o := .lst [V.bl (decide (i = 12)), V.bl (decide (i = 13)), V.bl (decide (i = 14))])
    generalize upd F3 w4 (.lst [V.bl (decide (i = 12)), V.bl (decide (i = 13)), V.bl (decide (i = 14))]) = G4 at *
    have ep4 := s4 _ _ ec3
    refine ⟨wc3, w4, _, _, rfl, rfl, ep4, ew4, by show 15 ≤ sizeLine; decide, fun wc4 nc4 => ?_⟩
    have sx4 := s03b.trans s4
    have t4 := same_new (o := .lst (((([V.bl (decide (i = 0)), V.bl (decide (i = 1)), V.bl (decide (i = 2))] ++ [V.bl (decide (i = 3)), V.bl (decide (i = 4)), V.bl (decide (i = 5))]) ++ [V.bl (decide (i = 6)), V.bl (decide (i = 7)), V.bl (decide (i = 8))]) ++ [V.bl (decide (i = 9)), V.bl (decide (i = 10)), V.bl (decide (i = 11))]) ++ [V.bl (decide (i = 12)), V.bl (decide (i = 13)), V.bl (decide (i = 14))])) nc4
    have ec4 := upd_same (H := G4) (a := wc4) (o := .lst (((([V.bl (decide (i = 0)), V.bl (decide (i = 1)), V.bl (decide (i = 2))] ++ [V.bl (decide (i = 3)), V.bl (decide (i = 4)), V.bl (decide (i = 5))]) ++ [V.bl (decide (i = 6)), V.bl (decide (i = 7)), V.bl (decide (i = 8))]) ++ [V.bl (decide (i = 9)), V.bl (decide (i = 10)), V.bl (decide (i = 11))]) ++ [V.bl (decide (i = 12)), V.bl (decide (i = 13)), V.bl (decide (i = 14))]))
    generalize upd G4 wc4 (.lst (((([V.bl (decide (i = 0)), V.bl (decide (i = 1)), V.bl (decide (i = 2))] ++ [V.bl (decide (i = 3)), V.bl (decide (i = 4)), V.bl (decide (i = 5))]) ++ [V.bl (decide (i = 6)), V.bl (decide (i = 7)), V.bl (decide (i = 8))]) ++ [V.bl (decide (i = 9)), V.bl (decide (i = 10)), V.bl (decide (i = 11))]) ++ [V.bl (decide (i = 12)), V.bl (decide (i = 13)), V.bl (decide (i = 14))])) = F4 at *
    have s04b := sx4.trans t4
    refine ⟨.ref wc4, rfl, .ref a, rfl, a, _, d, .ref X_Unknown, _, _, rfl, (s04b _ _ e1), (e2.same s04b), e3, .own _, kit 15 (by decide) T.xn_Unknown, .ref a, rfl, a, _, d, .ref X_NoVersion, _, _, rfl, (s04b _ _ e1), (e2.same s04b), e3, .own _, kit 16 (by decide) T.xn_NoVersion, by show 2 ≤ sizeLine; decide, fun w5 nw5 => ?_⟩
    have s5 := same_new (o := .lst [V.bl (decide (i = 15)), V.bl (decide (i = 16))]) nw5
    have ew5 := upd_same (H := F4) (a := w5) (o := .lst [V.bl (decide (i = 15)), V.bl (decide (i = 16))])
    generalize upd F4 w5 (.lst [V.bl (decide (i = 15)), V.bl (decide (i = 16))]) = G5 at *
    have ep5 := s5 _ _ ec4
    refine ⟨wc4, w5, _, _, rfl, rfl, ep5, ew5, by show 17 ≤ sizeLine; decide, fun wc5 nc5 => ?_⟩
    have sx5 := s04b.trans s5
    have t5 := same_new (o := .lst ((((([V.bl (decide (i = 0)), V.bl (decide (i = 1)), V.bl (decide (i = 2))] ++ [V.bl (decide (i = 3)), V.bl (decide (i = 4)), V.bl (decide (i = 5))]) ++ [V.bl (decide (i = 6)), V.bl (decide (i = 7)), V.bl (decide (i = 8))]) ++ [V.bl (decide (i = 9)), V.bl (decide (i = 10)), V.bl (decide (i = 11))]) ++ [V.bl (decide (i = 12)), V.bl (decide (i = 13)), V.bl (decide (i = 14))]) ++ [V.bl (decide (i = 15)), V.bl (decide (i = 16))])) nc5
    have ec5 := upd_same (H := G5) (a := wc5) (o := .lst ((((([V.bl (decide (i = 0)), V.bl (decide (i = 1)), V.bl (decide (i = 2))] ++ [V.bl (decide (i = 3)), V.bl (decide (i = 4)), V.bl (decide (i = 5))]) ++ [V.bl (decide (i = 6)), V.bl (decide (i = 7)), V.bl (decide (i = 8))]) ++ [V.bl (decide (i = 9)), V.bl (decide (i = 10)), V.bl (decide (i = 11))]) ++ [V.bl (decide (i = 12)), V.bl (decide (i = 13)), V.bl (decide (i = 14))]) ++ [V.bl (decide (i = 15)), V.bl (decide (i = 16))]))
    generalize upd G5 wc5 (.lst ((((([V.bl (decide (i = 0)), V.bl (decide (i = 1)), V.bl (decide (i = 2))] ++ [V.bl (decide (i = 3)), V.bl (decide (i = 4)), V.bl (decide (i = 5))]) ++ [V.bl (decide (i = 6)), V.bl (decide (i = 7)), V.bl (decide (i = 8))]) ++ [V.bl (decide (i = 9)), V.bl (decide (i = 10)), V.bl (decide (i = 11))]) ++ [V.bl (decide (i = 12)), V.bl (decide (i = 13)), V.bl (decide (i = 14))]) ++ [V.bl (decide (i = 15)), V.bl (decide (i = 16))])) = F5 at *
    have s05b := sx5.trans t5
    exact q _ wc5 s05b (sameNone sx5 nc5) (by rw [ec5]; rfl)

/-! ### comprehensions over a range that change nothing but make new objects -/
theorem lcR {lo : Int} {n : Nat} {g : TG} {tt : TT} {te : TE} {vs : List Nat} {σ : L2.St} {H1 : Hp} {D : Addr} {Qd : Hp → Prop} (R : Nat → Hp → List V → Prop) (nD : H1 D = none) (few : n < 1000)
    (mono : ∀ i H' H'' ws, Tps H' H'' → R i H' ws → R i H'' ws) (len : ∀ i H' ws, R i H' ws → ws.length ≤ i) (r0 : ∀ H', R 0 H' [])
    (hs : ∀ i H' (N : Hp → Prop) acc, i < n → Same H1 H' → H' D = some (.lst acc) → acc.length < sizeLine → R i H' acc → (∀ H'', Same H' H'' → R (i + 1) H'' acc → N H'') → (∀ H'' y, Same H' H'' → R (i + 1) H'' (acc ++ [y]) → ∃ acc', H'' D = some (.lst acc') ∧ acc'.length < sizeLine ∧ N (upd H'' D (.lst (acc' ++ [y])))) →
      g (.int (lo + i)) (wipe σ vs) H' fun σ2 H2 => wipe σ2 vs = wipe σ vs ∧ tt σ2 H2 fun b H3 => if b = true then te σ2 H3 fun y H4 => ∃ acc, H4 D = some (.lst acc) ∧ acc.length < sizeLine ∧ N (upd H4 D (.lst (acc ++ [y]))) else N H3)
    (hd : ∀ H' ws, Same H1 H' → H' D = some (.lst ws) → R n H' ws → Qd H') :
    ∃ W : Nat → Nat → Hp → Prop, (∃ m, W 0 m (upd H1 D (.lst []))) ∧ ∀ i m H, W i m H →
      ((Itr lo n).stop i H ∧ Qd H) ∨ ((Itr lo n).go i H ∧ ∃ Nx : Hp → Prop, (∀ H', Nx H' → ∃ m', m' < m ∧ W (i + 1) m' H') ∧ ∀ x H', (Itr lo n).yld i H x H' → g x (wipe σ vs) H' fun σ2 H2 => wipe σ2 vs = wipe σ vs ∧ tt σ2 H2 fun b H3 =>
        if b = true then te σ2 H3 fun y H4 => ∃ acc, H4 D = some (.lst acc) ∧ acc.length < sizeLine ∧ Nx (upd H4 D (.lst (acc ++ [y]))) else Nx H3) := by
  refine lc_range (lo := lo) (n := n) (fun i H' => Same H1 H' ∧ ∃ ws, H' D = some (.lst ws) ∧ R i H' ws) ⟨same_new nD, [], upd_same, r0 _⟩ ?_ ?_
  · rintro i H' hi ⟨sm, ws, eD, r⟩
    have lw := len i H' ws r
    have sz : ws.length < sizeLine := few_line (by omega)
    refine hs i H' _ ws hi sm eD sz r (fun H'' s r2 => ⟨sm.trans s, ws, s _ _ eD, r2⟩) (fun H'' y s r2 => ?_)
    exact ⟨ws, s _ _ eD, sz, same_off nD (sm.trans s), _, upd_same, mono _ _ _ _ (Tps.lst (s _ _ eD)) r2⟩
  · rintro H' ⟨sm, ws, eD, r⟩
    exact hd H' ws sm eD r

/-! ### the errors made of a value -/
def rReprK (K : PySem.W.Frag) : List V → Hp → VK → Prop := fun xs H Q => ∃ v d n dp, xs = [v] ∧ Dv K H v d ∧ Sm n dp d ∧ n ≤ 300000 ∧ dp ≤ 60 ∧ Q (.str d.shown) H
theorem err0_new {K : PySem.W.Frag} {H : Hp} {a C : Addr} (n : H a = none) (x : ExcC K C) : Same H (upd H a (exo a C none)) ∧ ErrAt K (upd H a (exo a C none)) a C := ⟨same_new n, none, upd_same, .inl rfl, x⟩
theorem err1_new {K : PySem.W.Frag} {H : Hp} {a dx C : Addr} {fs : List (Str × V)} (n : H a = none) (nd : H dx = none) (ne : dx ≠ a) (x : ExcC K C) : Same H (upd (upd H dx (exd dx fs)) a (exo a C (some dx))) ∧ ErrAt K (upd (upd H dx (exd dx fs)) a (exo a C (some dx))) a C ∧
    upd (upd H dx (exd dx fs)) a (exo a C (some dx)) a = some (exo a C (some dx)) ∧ upd (upd H dx (exd dx fs)) a (exo a C (some dx)) dx = some (exd dx fs) := by
  have e2 : upd (upd H dx (exd dx fs)) a (exo a C (some dx)) dx = some (exd dx fs) := by
    rw [upd_ne ne]
    exact upd_same
  exact ⟨(same_new nd).trans (same_new (by rw [upd_ne ne.symm]; exact n)), ⟨_, upd_same, .inr ⟨dx, fs, rfl, e2⟩, x⟩, upd_same, e2⟩
theorem dps_bools {K : PySem.W.Frag} {H : Hp} : ∀ bs : List Bool, DpAll K H (bs.map V.bl) (bs.map PyData.bool)
  | [] => .nil
  | b :: bs => .cons (.bl b) (dps_bools bs)
theorem shaped_bools (ns : List Bool) : SeqAt.shaped (.list (ns.map PyData.bool)) = true := by
  have h1 : ∀ ns : List Bool, PyData.canLayAll0 (ns.map PyData.bool) = true := by
    intro ns
    induction ns with
    | nil => rfl
    | cons n r ih => exact ih
  have h2 : ∀ ns : List Bool, PyData.depthAll (ns.map PyData.bool) = 0 := by
    intro ns
    induction ns with
    | nil => rfl
    | cons n r ih =>
      show max 0 (PyData.depthAll (r.map PyData.bool)) = 0
      rw [ih]
      rfl
  unfold SeqAt.shaped
  rw [show PyData.canLay0 (.list (ns.map PyData.bool)) = PyData.canLayAll0 (ns.map PyData.bool) from rfl, h1]
  refine decide_eq_true ?_
  show PyData.depthAll (ns.map PyData.bool) + 1 ≤ 64
  rw [h2]
  decide
theorem dps_strs {K : PySem.W.Frag} {H : Hp} (x : Str) : ∀ n : Nat, DpAll K H (List.replicate n (V.str x)) (List.replicate n (PyData.str x))
  | 0 => .nil
  | n + 1 => by
    rw [List.replicate_succ, List.replicate_succ]
    exact .cons (.str x) (dps_strs x n)
theorem eqv_strs (x : Str) : ∀ n : Nat, PyData.eqvAll (List.replicate n (PyData.str x)) (List.replicate n (PyData.str x)) = true
  | 0 => rfl
  | n + 1 => by
    rw [List.replicate_succ]
    show (PyData.eqv (.str x) (.str x) && PyData.eqvAll (List.replicate n (PyData.str x)) (List.replicate n (PyData.str x))) = true
    rw [eqv_strs x n, Bool.and_true]
    show decide _ = true
    exact decide_eq_true rfl
theorem shaped_strs {x : Str} (ok : PyData.canLay0 (.str x) = true) (n : Nat) : SeqAt.shaped (.list (List.replicate n (PyData.str x))) = true := by
  have h1 : ∀ n : Nat, PyData.canLayAll0 (List.replicate n (PyData.str x)) = true := by
    intro n
    induction n with
    | zero => rfl
    | succ n ih =>
      rw [List.replicate_succ]
      show (PyData.canLay0 (.str x) && PyData.canLayAll0 (List.replicate n (PyData.str x))) = true
      rw [ok, ih]
      rfl
  have h2 : ∀ n : Nat, PyData.depthAll (List.replicate n (PyData.str x)) = 0 := by
    intro n
    induction n with
    | zero => rfl
    | succ n ih =>
      rw [List.replicate_succ]
      show max 0 (PyData.depthAll (List.replicate n (PyData.str x))) = 0
      rw [ih]
      rfl
  unfold SeqAt.shaped
  rw [show PyData.canLay0 (.list (List.replicate n (PyData.str x))) = PyData.canLayAll0 (List.replicate n (PyData.str x)) from rfl, h1]
  refine decide_eq_true ?_
  show PyData.depthAll (List.replicate n (PyData.str x)) + 1 ≤ 64
  rw [h2]
  decide
theorem eqv_bools : ∀ bs : List Bool, PyData.eqvAll (bs.map PyData.bool) (bs.map PyData.bool) = true
  | [] => rfl
  | b :: bs => by
    show (PyData.eqv (.bool b) (.bool b) && PyData.eqvAll (bs.map PyData.bool) (bs.map PyData.bool)) = true
    rw [eqv_bools bs, Bool.and_true]
    cases b <;> rfl
def Errs (K : PySem.W.Frag) (H : Hp) (Xs : List Addr) (us : List V) : Prop := us.length = 17 ∧ ∀ i, i < 17 → ∃ a, us[i]? = some (.ref a) ∧ ErrAt K H a (Xs.getD i 0)
theorem Errs.same {K : PySem.W.Frag} {H H' : Hp} {Xs : List Addr} {us : List V} (h : Errs K H Xs us) (s : Same H H') : Errs K H' Xs us := ⟨h.1, fun i hi => by
  obtain ⟨a, e, x⟩ := h.2 i hi
  exact ⟨a, e, x.same s⟩⟩
def sp_law_errors_right (K : PySem.W.Frag) : Sp := fun vs H Q _ => ∃ (v : V) (dd : PyData), vs = [v] ∧ Dv K H v dd ∧ Sm 1000 3 dd ∧ PyData.canLay0 (.str dd.shown) = true ∧ ∀ H', Same H H' → Q (.bl true) H'
theorem ok_law_errors_right (T : Tx K mg f_is_number f_is_position f_is_tuple_of f_is_interval f_ascending_error f_targets_error f_is_pieces f_without_item f_with_interval f_without_interval f_edited_state f_law_deck f_law_draw f_law_line f_law_interval f_law_intervals f_law_edit f_law_after f_law_do f_law_begun f_law_flags f_law_errors_right f_law_edited f_law f_Plan_init f_Plan_add_target f_Plan_add_piece f_Plan_remove_target f_Plan_remove_piece f_Plan_undo f_Plan_targets f_Plan_pieces f_Plan_edits f_Plan_edit f_Plan_record f_Plan_require_idle f_Plan_state_at f_Plan_len f_Plan_eq f_TooWide_init f_NotGenerated_init f_TooMany_init f_BadTargets_init f_BadInterval_init f_Duplicate_init f_BadEdit_init f_Rejected_init f_BadText_init f_Unknown_init f_NoVersion_init C_Plan X_TooWide X_NotGenerated X_TooMany X_BadTargets X_BadInterval X_Duplicate X_BadEdit X_Rejected X_BadText X_Unknown X_NoVersion X_OutOfRange X_SpanError X_BadPieces X_TooManyEdits X_NothingToUndo X_BadEdits X_Busy d_is_number d_is_position d_is_tuple_of d_is_interval d_ascending_error d_targets_error d_is_pieces d_without_item d_with_interval d_without_interval d_edited_state d_law_deck d_law_draw d_law_line d_law_interval d_law_intervals d_law_edit d_law_after d_law_do d_law_begun d_law_flags d_law_errors_right d_law_edited d_law d_Plan_init d_Plan_add_target d_Plan_add_piece d_Plan_remove_target d_Plan_remove_piece d_Plan_undo d_Plan_targets d_Plan_pieces d_Plan_edits d_Plan_edit d_Plan_record d_Plan_require_idle d_Plan_state_at d_Plan_len d_Plan_eq d_TooWide_init d_NotGenerated_init d_TooMany_init d_BadTargets_init d_BadInterval_init d_Duplicate_init d_BadEdit_init d_Rejected_init d_BadText_init d_Unknown_init d_NoVersion_init t_LAST_POSITION t_MAX_TARGETS t_MAX_PIECES t_MAX_EDITS) (hM : ∃ mm, base.Ns sysModules mm) : FnG P w K mg base 3 f_law_errors_right d_law_errors_right ["_law_value"] (sp_law_errors_right K) := by
  refine FnG.of T.F_law_errors_right sc_law_errors_right (fun {vs H Q} h => ?_) (fun cdv A outer s H vs Q hr hq h => ?_)
  · obtain ⟨v, dd, rfl, _⟩ := h
    rfl
  · obtain ⟨v, dd, rfl, dv, sm, ok, q⟩ := h
    refine ⟨_, (pss_cons (ps_set (i := 1) sc_law_errors_right.nd rfl (Or.inl rfl) (pe_lst (pa_cons (pe_err0 PySem.F.excBase_ValueError T.xr_OutOfRange.xP T.xn_OutOfRange.g T.xr_OutOfRange.kP (by rfl)) (pa_cons (pe_err0 PySem.F.excBase_ValueError T.xr_BadPieces.xP T.xn_BadPieces.g T.xr_BadPieces.kP (by rfl)) (pa_cons (pe_err0 PySem.F.excBase_ValueError T.xr_TooManyEdits.xP T.xn_TooManyEdits.g T.xr_TooManyEdits.kP (by rfl)) (pa_cons (pe_err0 PySem.F.excBase_ValueError T.xr_NothingToUndo.xP T.xn_NothingToUndo.g T.xr_NothingToUndo.kP (by rfl)) (pa_cons (pe_err0 PySem.F.excBase_ValueError T.xr_BadEdits.xP T.xn_BadEdits.g T.xr_BadEdits.kP (by rfl)) (pa_cons (pe_err0 PySem.F.excBase_ValueError T.xr_Busy.xP T.xn_Busy.g T.xr_Busy.kP (by rfl)) (pa_cons (pe_errG PySem.F.excBase_ValueError T.xn_TooWide T.xh_TooWide (ok_TooWide_init T) (hr.mono (by decide)) T.b_TooWide_init (by rfl) (pa_cons (pv 0) pa_nil)) pa_nil)))))))))
      (pss_cons (ps_set (i := 1) sc_law_errors_right.nd rfl (Or.inl rfl) (pe_op op_cat (pv 1) (pe_lst (pa_cons (pe_errG PySem.F.excBase_ValueError T.xn_NotGenerated T.xh_NotGenerated (ok_NotGenerated_init T) (hr.mono (by decide)) T.b_NotGenerated_init (by rfl) (pa_cons (pv 0) pa_nil)) (pa_cons (pe_errG PySem.F.excBase_ValueError T.xn_TooMany T.xh_TooMany (ok_TooMany_init T) (hr.mono (by decide)) T.b_TooMany_init (by rfl) (pa_cons (pv 0) pa_nil)) (pa_cons (pe_errG PySem.F.excBase_ValueError T.xn_BadTargets T.xh_BadTargets (ok_BadTargets_init T) (hr.mono (by decide)) T.b_BadTargets_init (by rfl) (pa_cons (pv 0) pa_nil)) (pa_cons (pe_errG PySem.F.excBase_ValueError T.xn_BadInterval T.xh_BadInterval (ok_BadInterval_init T) (hr.mono (by decide)) T.b_BadInterval_init (by rfl) (pa_cons (pv 0) pa_nil)) (pa_cons (pe_errG PySem.F.excBase_ValueError T.xn_Duplicate T.xh_Duplicate (ok_Duplicate_init T) (hr.mono (by decide)) T.b_Duplicate_init (by rfl) (pa_cons (pv 0) pa_nil)) pa_nil))))))))
      (pss_cons (ps_set (i := 1) sc_law_errors_right.nd rfl (Or.inl rfl) (pe_op op_cat (pv 1) (pe_lst (pa_cons (pe_errG PySem.F.excBase_ValueError T.xn_BadEdit T.xh_BadEdit (ok_BadEdit_init T) (hr.mono (by decide)) T.b_BadEdit_init (by rfl) (pa_cons (pv 0) pa_nil)) (pa_cons (pe_errG PySem.F.excBase_ValueError T.xn_Rejected T.xh_Rejected (ok_Rejected_init T) (hr.mono (by decide)) T.b_Rejected_init (by rfl) (pa_cons (pv 0) pa_nil)) (pa_cons (pe_errG PySem.F.excBase_ValueError T.xn_BadText T.xh_BadText (ok_BadText_init T) (hr.mono (by decide)) T.b_BadText_init (by rfl) (pa_cons (pv 0) pa_nil)) (pa_cons (pe_errG PySem.F.excBase_LookupError T.xn_Unknown T.xg_Unknown (ok_Unknown_init T) (hr.mono (by decide)) T.b_Unknown_init (by rfl) (pa_cons (pv 0) pa_nil)) (pa_cons (pe_errG PySem.F.excBase_LookupError T.xn_NoVersion T.xg_NoVersion (ok_NoVersion_init T) (hr.mono (by decide)) T.b_NoVersion_init (by rfl) (pa_cons (pv 0) pa_nil)) pa_nil))))))))
      (pss_cons (ps_for PassesOwn.never rfl (pi_range1 (by rfl) T.z_range (pa_cons pe_int pa_nil)) (pg_name (i := 2) sc_law_errors_right.nd rfl (Or.inr rfl))
      (pss_cons (ps_set (i := 3) sc_law_errors_right.nd rfl (Or.inl rfl) (pe_lst (pa_cons (pe_callB call_isV (by rfl) T.z_isinstance (by decide +kernel) (pa_cons (pe_ix ix_list (pv 1) (pv 2) (fun _ _ => rfl)) (pa_cons (pe_glob (v := .ref X_SpanError) (by rfl) T.xn_SpanError.g rfl) pa_nil))) (pa_cons (pe_callB call_isV (by rfl) T.z_isinstance (by decide +kernel) (pa_cons (pe_ix ix_list (pv 1) (pv 2) (fun _ _ => rfl)) (pa_cons (pe_bltn (v := .ty "ValueError") (u := .type "ValueError") (by rfl) T.z_ValueError (by decide +kernel) rfl) pa_nil))) (pa_cons (pe_callB call_isV (by rfl) T.z_isinstance (by decide +kernel) (pa_cons (pe_ix ix_list (pv 1) (pv 2) (fun _ _ => rfl)) (pa_cons (pe_bltn (v := .ty "LookupError") (u := .type "LookupError") (by rfl) T.z_LookupError (by decide +kernel) rfl) pa_nil))) pa_nil)))))
      (pss_one (ps_if (PW.pt (pw_or (pt_cmpR (op_neD hr.units) (pe_call (ok_law_flags T) (hr.mono (by decide)) (by rfl) T.g_law_flags T.F_law_flags.kp T.b_law_flags .nil pass0 (pa_cons (pe_ix ix_list (pv 1) (pv 2) (fun _ _ => rfl)) pa_nil)) (pe_lc (own := [("_law_j", 4)]) (g := (gName 4)) (tt := tYes) (by rfl) sc_law_errors_right.nd (pi_range1 (by rfl) T.z_range (pa_cons pe_int pa_nil)) (blkOk_by (own := [("_law_j", 4)]) (N := N_law_errors_right) (sc := defScope s_law_errors_right) (by decide +kernel)) (fun _ _ _ _ _ => (pg_name (i := 4) sc_law_errors_right.nd rfl (Or.inl rfl))) (fun _ _ _ _ _ => pts_nil) (fun _ _ _ _ _ => (pe_cmpR op_eq (pv 4) (pv 2) (nomark _)))) (nomark _)) (pw_or1 (pt_cmpR (op_neD hr.units) (pv 3) (pe_lst (pa_cons (pe_cmpR op_lt (pv 2) pe_int (nomark _)) (pa_cons (pe_cmpR op_lt (pv 2) pe_int (nomark _)) (pa_cons (pe_cmpR op_gt (pv 2) pe_int (nomark _)) pa_nil)))) (nomark _)))))
      (pss_one (ps_ret pe_bl))
      pss_nil))))
      (pss_cons (ps_set (i := 5) sc_law_errors_right.nd rfl (Or.inl rfl) (pe_lst (pa_cons (pe_errF (pe_errG PySem.F.excBase_ValueError T.xn_TooWide T.xh_TooWide (ok_TooWide_init T) (hr.mono (by decide)) T.b_TooWide_init (by rfl) (pa_cons (pv 0) pa_nil))) (pa_cons (pe_errF (pe_errG PySem.F.excBase_ValueError T.xn_NotGenerated T.xh_NotGenerated (ok_NotGenerated_init T) (hr.mono (by decide)) T.b_NotGenerated_init (by rfl) (pa_cons (pv 0) pa_nil))) (pa_cons (pe_errF (pe_errG PySem.F.excBase_ValueError T.xn_TooMany T.xh_TooMany (ok_TooMany_init T) (hr.mono (by decide)) T.b_TooMany_init (by rfl) (pa_cons (pv 0) pa_nil))) (pa_cons (pe_errF (pe_errG PySem.F.excBase_ValueError T.xn_BadTargets T.xh_BadTargets (ok_BadTargets_init T) (hr.mono (by decide)) T.b_BadTargets_init (by rfl) (pa_cons (pv 0) pa_nil))) pa_nil))))))
      (pss_cons (ps_set (i := 5) sc_law_errors_right.nd rfl (Or.inl rfl) (pe_op op_cat (pv 5) (pe_lst (pa_cons (pe_errF (pe_errG PySem.F.excBase_ValueError T.xn_BadInterval T.xh_BadInterval (ok_BadInterval_init T) (hr.mono (by decide)) T.b_BadInterval_init (by rfl) (pa_cons (pv 0) pa_nil))) (pa_cons (pe_errF (pe_errG PySem.F.excBase_ValueError T.xn_Duplicate T.xh_Duplicate (ok_Duplicate_init T) (hr.mono (by decide)) T.b_Duplicate_init (by rfl) (pa_cons (pv 0) pa_nil))) (pa_cons (pe_errF (pe_errG PySem.F.excBase_ValueError T.xn_BadEdit T.xh_BadEdit (ok_BadEdit_init T) (hr.mono (by decide)) T.b_BadEdit_init (by rfl) (pa_cons (pv 0) pa_nil))) (pa_cons (pe_errF (pe_errG PySem.F.excBase_ValueError T.xn_Rejected T.xh_Rejected (ok_Rejected_init T) (hr.mono (by decide)) T.b_Rejected_init (by rfl) (pa_cons (pv 0) pa_nil))) pa_nil)))))))
      (pss_cons (ps_set (i := 5) sc_law_errors_right.nd rfl (Or.inl rfl) (pe_op op_cat (pv 5) (pe_lst (pa_cons (pe_errF (pe_errG PySem.F.excBase_ValueError T.xn_BadText T.xh_BadText (ok_BadText_init T) (hr.mono (by decide)) T.b_BadText_init (by rfl) (pa_cons (pv 0) pa_nil))) (pa_cons (pe_errF (pe_errG PySem.F.excBase_LookupError T.xn_Unknown T.xg_Unknown (ok_Unknown_init T) (hr.mono (by decide)) T.b_Unknown_init (by rfl) (pa_cons (pv 0) pa_nil))) (pa_cons (pe_errF (pe_errG PySem.F.excBase_LookupError T.xn_NoVersion T.xg_NoVersion (ok_NoVersion_init T) (hr.mono (by decide)) T.b_NoVersion_init (by rfl) (pa_cons (pv 0) pa_nil))) pa_nil))))))
      (pss_one (ps_ret (pe_cmpR (op_eqD hr.units) (pe_lc (own := [("_law_field", 6)]) (g := (gName 6)) (tt := tYes) (by rfl) sc_law_errors_right.nd (pi_list (pv 5)) (blkOk_by (own := [("_law_field", 6)]) (N := N_law_errors_right) (sc := defScope s_law_errors_right) (by decide +kernel)) (fun _ _ _ _ _ => (pg_name (i := 6) sc_law_errors_right.nd rfl (Or.inl rfl))) (fun _ _ _ _ _ => pts_nil) (fun _ _ _ _ _ => (pe_callB (show CallR _ (.builtin "repr") (rReprK K) from call_reprV hM hq hr.units) (by rfl) T.z_repr (by decide +kernel) (pa_cons (pv 6) pa_nil)))) (pe_op op_rep (pe_lst (pa_cons (pe_callB (call_reprV hM hq hr.units) (by rfl) T.z_repr (by decide +kernel) (pa_cons (pv 0) pa_nil)) pa_nil)) pe_int) (nomark _))))))))))), ?_⟩
    refine fun a0 n0 => ?_
    obtain ⟨s0, y0⟩ := err0_new (K := K) n0 T.xr_OutOfRange.ex
    generalize upd H a0 (exo a0 X_OutOfRange none) = H0 at *
    clear n0
    have z1 := s0
    refine fun a1 n1 => ?_
    obtain ⟨s1, y1⟩ := err0_new (K := K) n1 T.xr_BadPieces.ex
    generalize upd H0 a1 (exo a1 X_BadPieces none) = H1 at *
    clear n1
    have z2 := z1.trans s1
    replace y0 := y0.same s1
    refine fun a2 n2 => ?_
    obtain ⟨s2, y2⟩ := err0_new (K := K) n2 T.xr_TooManyEdits.ex
    generalize upd H1 a2 (exo a2 X_TooManyEdits none) = H2 at *
    clear n2
    have z3 := z2.trans s2
    replace y0 := y0.same s2
    replace y1 := y1.same s2
    refine fun a3 n3 => ?_
    obtain ⟨s3, y3⟩ := err0_new (K := K) n3 T.xr_NothingToUndo.ex
    generalize upd H2 a3 (exo a3 X_NothingToUndo none) = H3 at *
    clear n3
    have z4 := z3.trans s3
    replace y0 := y0.same s3
    replace y1 := y1.same s3
    replace y2 := y2.same s3
    refine fun a4 n4 => ?_
    obtain ⟨s4, y4⟩ := err0_new (K := K) n4 T.xr_BadEdits.ex
    generalize upd H3 a4 (exo a4 X_BadEdits none) = H4 at *
    clear n4
    have z5 := z4.trans s4
    replace y0 := y0.same s4
    replace y1 := y1.same s4
    replace y2 := y2.same s4
    replace y3 := y3.same s4
    refine fun a5 n5 => ?_
    obtain ⟨s5, y5⟩ := err0_new (K := K) n5 T.xr_Busy.ex
    generalize upd H4 a5 (exo a5 X_Busy none) = H5 at *
    clear n5
    have z6 := z5.trans s5
    replace y0 := y0.same s5
    replace y1 := y1.same s5
    replace y2 := y2.same s5
    replace y3 := y3.same s5
    replace y4 := y4.same s5
    refine ⟨v, rfl, v, rfl, fun a6 b6 n6 m6 o6 => ?_⟩
    obtain ⟨s6, y6, -, -⟩ := err1_new (K := K) (fs := [("bound", v)]) n6 m6 o6 T.xh_TooWide.ex
    generalize upd (upd H5 b6 (exd b6 [("bound", v)])) a6 (exo a6 X_TooWide (some b6)) = H6 at *
    clear n6 m6 o6
    have z7 := z6.trans s6
    replace y0 := y0.same s6
    replace y1 := y1.same s6
    replace y2 := y2.same s6
    replace y3 := y3.same s6
    replace y4 := y4.same s6
    replace y5 := y5.same s6
    refine ⟨by show 7 ≤ sizeLine; decide, fun w0 nw0 => ?_⟩
    have t0 := same_new (o := .lst [V.ref a0, V.ref a1, V.ref a2, V.ref a3, V.ref a4, V.ref a5, V.ref a6]) nw0
    have ew0 := upd_same (H := H6) (a := w0) (o := .lst [V.ref a0, V.ref a1, V.ref a2, V.ref a3, V.ref a4, V.ref a5, V.ref a6])
    generalize upd H6 w0 (.lst [V.ref a0, V.ref a1, V.ref a2, V.ref a3, V.ref a4, V.ref a5, V.ref a6]) = G0 at *
    have z8 := z7.trans t0
    replace y0 := y0.same t0
    replace y1 := y1.same t0
    replace y2 := y2.same t0
    replace y3 := y3.same t0
    replace y4 := y4.same t0
    replace y5 := y5.same t0
    replace y6 := y6.same t0
    have ew := ew0
    refine ⟨.ref w0, rfl, ?_⟩
    refine ⟨v, rfl, v, rfl, fun a7 b7 n7 m7 o7 => ?_⟩
    obtain ⟨s7, y7, -, -⟩ := err1_new (K := K) (fs := [("demand", v)]) n7 m7 o7 T.xh_NotGenerated.ex
    generalize upd (upd G0 b7 (exd b7 [("demand", v)])) a7 (exo a7 X_NotGenerated (some b7)) = H7 at *
    clear n7 m7 o7
    have z9 := z8.trans s7
    replace y0 := y0.same s7
    replace y1 := y1.same s7
    replace y2 := y2.same s7
    replace y3 := y3.same s7
    replace y4 := y4.same s7
    replace y5 := y5.same s7
    replace y6 := y6.same s7
    replace ew := s7 _ _ ew
    refine ⟨v, rfl, v, rfl, fun a8 b8 n8 m8 o8 => ?_⟩
    obtain ⟨s8, y8, -, -⟩ := err1_new (K := K) (fs := [("bound", v)]) n8 m8 o8 T.xh_TooMany.ex
    generalize upd (upd H7 b8 (exd b8 [("bound", v)])) a8 (exo a8 X_TooMany (some b8)) = H8 at *
    clear n8 m8 o8
    have z10 := z9.trans s8
    replace y0 := y0.same s8
    replace y1 := y1.same s8
    replace y2 := y2.same s8
    replace y3 := y3.same s8
    replace y4 := y4.same s8
    replace y5 := y5.same s8
    replace y6 := y6.same s8
    replace y7 := y7.same s8
    replace ew := s8 _ _ ew
    refine ⟨v, rfl, v, rfl, fun a9 b9 n9 m9 o9 => ?_⟩
    obtain ⟨s9, y9, -, -⟩ := err1_new (K := K) (fs := [("error", v)]) n9 m9 o9 T.xh_BadTargets.ex
    generalize upd (upd H8 b9 (exd b9 [("error", v)])) a9 (exo a9 X_BadTargets (some b9)) = H9 at *
    clear n9 m9 o9
    have z11 := z10.trans s9
    replace y0 := y0.same s9
    replace y1 := y1.same s9
    replace y2 := y2.same s9
    replace y3 := y3.same s9
    replace y4 := y4.same s9
    replace y5 := y5.same s9
    replace y6 := y6.same s9
    replace y7 := y7.same s9
    replace y8 := y8.same s9
    replace ew := s9 _ _ ew
    refine ⟨v, rfl, v, rfl, fun a10 b10 n10 m10 o10 => ?_⟩
    obtain ⟨s10, y10, -, -⟩ := err1_new (K := K) (fs := [("value", v)]) n10 m10 o10 T.xh_BadInterval.ex
    generalize upd (upd H9 b10 (exd b10 [("value", v)])) a10 (exo a10 X_BadInterval (some b10)) = H10 at *
    clear n10 m10 o10
    have z12 := z11.trans s10
    replace y0 := y0.same s10
    replace y1 := y1.same s10
    replace y2 := y2.same s10
    replace y3 := y3.same s10
    replace y4 := y4.same s10
    replace y5 := y5.same s10
    replace y6 := y6.same s10
    replace y7 := y7.same s10
    replace y8 := y8.same s10
    replace y9 := y9.same s10
    replace ew := s10 _ _ ew
    refine ⟨v, rfl, v, rfl, fun a11 b11 n11 m11 o11 => ?_⟩
    obtain ⟨s11, y11, -, -⟩ := err1_new (K := K) (fs := [("value", v)]) n11 m11 o11 T.xh_Duplicate.ex
    generalize upd (upd H10 b11 (exd b11 [("value", v)])) a11 (exo a11 X_Duplicate (some b11)) = H11 at *
    clear n11 m11 o11
    have z13 := z12.trans s11
    replace y0 := y0.same s11
    replace y1 := y1.same s11
    replace y2 := y2.same s11
    replace y3 := y3.same s11
    replace y4 := y4.same s11
    replace y5 := y5.same s11
    replace y6 := y6.same s11
    replace y7 := y7.same s11
    replace y8 := y8.same s11
    replace y9 := y9.same s11
    replace y10 := y10.same s11
    replace ew := s11 _ _ ew
    refine ⟨by show 5 ≤ sizeLine; decide, fun w1 nw1 => ?_⟩
    have t1 := same_new (o := .lst [V.ref a7, V.ref a8, V.ref a9, V.ref a10, V.ref a11]) nw1
    have ew1 := upd_same (H := H11) (a := w1) (o := .lst [V.ref a7, V.ref a8, V.ref a9, V.ref a10, V.ref a11])
    generalize upd H11 w1 (.lst [V.ref a7, V.ref a8, V.ref a9, V.ref a10, V.ref a11]) = G1 at *
    have z14 := z13.trans t1
    replace y0 := y0.same t1
    replace y1 := y1.same t1
    replace y2 := y2.same t1
    replace y3 := y3.same t1
    replace y4 := y4.same t1
    replace y5 := y5.same t1
    replace y6 := y6.same t1
    replace y7 := y7.same t1
    replace y8 := y8.same t1
    replace y9 := y9.same t1
    replace y10 := y10.same t1
    replace y11 := y11.same t1
    replace ew := t1 _ _ ew
    refine ⟨w0, w1, _, _, rfl, rfl, ew, ew1, by show 12 ≤ sizeLine; decide, fun c1 nc1 => ?_⟩
    have u1 := same_new (o := .lst ([V.ref a0, V.ref a1, V.ref a2, V.ref a3, V.ref a4, V.ref a5, V.ref a6] ++ [V.ref a7, V.ref a8, V.ref a9, V.ref a10, V.ref a11])) nc1
    have ec1 := upd_same (H := G1) (a := c1) (o := .lst ([V.ref a0, V.ref a1, V.ref a2, V.ref a3, V.ref a4, V.ref a5, V.ref a6] ++ [V.ref a7, V.ref a8, V.ref a9, V.ref a10, V.ref a11]))
    generalize upd G1 c1 (.lst ([V.ref a0, V.ref a1, V.ref a2, V.ref a3, V.ref a4, V.ref a5, V.ref a6] ++ [V.ref a7, V.ref a8, V.ref a9, V.ref a10, V.ref a11])) = K1 at *
    have z15 := z14.trans u1
    replace y0 := y0.same u1
    replace y1 := y1.same u1
    replace y2 := y2.same u1
    replace y3 := y3.same u1
    replace y4 := y4.same u1
    replace y5 := y5.same u1
    replace y6 := y6.same u1
    replace y7 := y7.same u1
    replace y8 := y8.same u1
    replace y9 := y9.same u1
    replace y10 := y10.same u1
    replace y11 := y11.same u1
    clear ew
    have ew := ec1
    refine ⟨.ref c1, rfl, ?_⟩
    refine ⟨v, rfl, v, rfl, fun a12 b12 n12 m12 o12 => ?_⟩
    obtain ⟨s12, y12, -, -⟩ := err1_new (K := K) (fs := [("index", v)]) n12 m12 o12 T.xh_BadEdit.ex
    generalize upd (upd K1 b12 (exd b12 [("index", v)])) a12 (exo a12 X_BadEdit (some b12)) = H12 at *
    clear n12 m12 o12
    have z16 := z15.trans s12
    replace y0 := y0.same s12
    replace y1 := y1.same s12
    replace y2 := y2.same s12
    replace y3 := y3.same s12
    replace y4 := y4.same s12
    replace y5 := y5.same s12
    replace y6 := y6.same s12
    replace y7 := y7.same s12
    replace y8 := y8.same s12
    replace y9 := y9.same s12
    replace y10 := y10.same s12
    replace y11 := y11.same s12
    replace ew := s12 _ _ ew
    refine ⟨v, rfl, v, rfl, fun a13 b13 n13 m13 o13 => ?_⟩
    obtain ⟨s13, y13, -, -⟩ := err1_new (K := K) (fs := [("index", v)]) n13 m13 o13 T.xh_Rejected.ex
    generalize upd (upd H12 b13 (exd b13 [("index", v)])) a13 (exo a13 X_Rejected (some b13)) = H13 at *
    clear n13 m13 o13
    have z17 := z16.trans s13
    replace y0 := y0.same s13
    replace y1 := y1.same s13
    replace y2 := y2.same s13
    replace y3 := y3.same s13
    replace y4 := y4.same s13
    replace y5 := y5.same s13
    replace y6 := y6.same s13
    replace y7 := y7.same s13
    replace y8 := y8.same s13
    replace y9 := y9.same s13
    replace y10 := y10.same s13
    replace y11 := y11.same s13
    replace y12 := y12.same s13
    replace ew := s13 _ _ ew
    refine ⟨v, rfl, v, rfl, fun a14 b14 n14 m14 o14 => ?_⟩
    obtain ⟨s14, y14, -, -⟩ := err1_new (K := K) (fs := [("index", v)]) n14 m14 o14 T.xh_BadText.ex
    generalize upd (upd H13 b14 (exd b14 [("index", v)])) a14 (exo a14 X_BadText (some b14)) = H14 at *
    clear n14 m14 o14
    have z18 := z17.trans s14
    replace y0 := y0.same s14
    replace y1 := y1.same s14
    replace y2 := y2.same s14
    replace y3 := y3.same s14
    replace y4 := y4.same s14
    replace y5 := y5.same s14
    replace y6 := y6.same s14
    replace y7 := y7.same s14
    replace y8 := y8.same s14
    replace y9 := y9.same s14
    replace y10 := y10.same s14
    replace y11 := y11.same s14
    replace y12 := y12.same s14
    replace y13 := y13.same s14
    replace ew := s14 _ _ ew
    refine ⟨v, rfl, v, rfl, fun a15 b15 n15 m15 o15 => ?_⟩
    obtain ⟨s15, y15, -, -⟩ := err1_new (K := K) (fs := [("value", v)]) n15 m15 o15 T.xg_Unknown.ex
    generalize upd (upd H14 b15 (exd b15 [("value", v)])) a15 (exo a15 X_Unknown (some b15)) = H15 at *
    clear n15 m15 o15
    have z19 := z18.trans s15
    replace y0 := y0.same s15
    replace y1 := y1.same s15
    replace y2 := y2.same s15
    replace y3 := y3.same s15
    replace y4 := y4.same s15
    replace y5 := y5.same s15
    replace y6 := y6.same s15
    replace y7 := y7.same s15
    replace y8 := y8.same s15
    replace y9 := y9.same s15
    replace y10 := y10.same s15
    replace y11 := y11.same s15
    replace y12 := y12.same s15
    replace y13 := y13.same s15
    replace y14 := y14.same s15
    replace ew := s15 _ _ ew
    refine ⟨v, rfl, v, rfl, fun a16 b16 n16 m16 o16 => ?_⟩
    obtain ⟨s16, y16, -, -⟩ := err1_new (K := K) (fs := [("value", v)]) n16 m16 o16 T.xg_NoVersion.ex
    generalize upd (upd H15 b16 (exd b16 [("value", v)])) a16 (exo a16 X_NoVersion (some b16)) = H16 at *
    clear n16 m16 o16
    have z20 := z19.trans s16
    replace y0 := y0.same s16
    replace y1 := y1.same s16
    replace y2 := y2.same s16
    replace y3 := y3.same s16
    replace y4 := y4.same s16
    replace y5 := y5.same s16
    replace y6 := y6.same s16
    replace y7 := y7.same s16
    replace y8 := y8.same s16
    replace y9 := y9.same s16
    replace y10 := y10.same s16
    replace y11 := y11.same s16
    replace y12 := y12.same s16
    replace y13 := y13.same s16
    replace y14 := y14.same s16
    replace y15 := y15.same s16
    replace ew := s16 _ _ ew
    refine ⟨by show 5 ≤ sizeLine; decide, fun w2 nw2 => ?_⟩
    have t2 := same_new (o := .lst [V.ref a12, V.ref a13, V.ref a14, V.ref a15, V.ref a16]) nw2
    have ew2 := upd_same (H := H16) (a := w2) (o := .lst [V.ref a12, V.ref a13, V.ref a14, V.ref a15, V.ref a16])
    generalize upd H16 w2 (.lst [V.ref a12, V.ref a13, V.ref a14, V.ref a15, V.ref a16]) = G2 at *
    have z21 := z20.trans t2
    replace y0 := y0.same t2
    replace y1 := y1.same t2
    replace y2 := y2.same t2
    replace y3 := y3.same t2
    replace y4 := y4.same t2
    replace y5 := y5.same t2
    replace y6 := y6.same t2
    replace y7 := y7.same t2
    replace y8 := y8.same t2
    replace y9 := y9.same t2
    replace y10 := y10.same t2
    replace y11 := y11.same t2
    replace y12 := y12.same t2
    replace y13 := y13.same t2
    replace y14 := y14.same t2
    replace y15 := y15.same t2
    replace y16 := y16.same t2
    replace ew := t2 _ _ ew
    refine ⟨c1, w2, _, _, rfl, rfl, ew, ew2, by show 17 ≤ sizeLine; decide, fun c2 nc2 => ?_⟩
    have u2 := same_new (o := .lst (([V.ref a0, V.ref a1, V.ref a2, V.ref a3, V.ref a4, V.ref a5, V.ref a6] ++ [V.ref a7, V.ref a8, V.ref a9, V.ref a10, V.ref a11]) ++ [V.ref a12, V.ref a13, V.ref a14, V.ref a15, V.ref a16])) nc2
    have ec2 := upd_same (H := G2) (a := c2) (o := .lst (([V.ref a0, V.ref a1, V.ref a2, V.ref a3, V.ref a4, V.ref a5, V.ref a6] ++ [V.ref a7, V.ref a8, V.ref a9, V.ref a10, V.ref a11]) ++ [V.ref a12, V.ref a13, V.ref a14, V.ref a15, V.ref a16]))
    generalize upd G2 c2 (.lst (([V.ref a0, V.ref a1, V.ref a2, V.ref a3, V.ref a4, V.ref a5, V.ref a6] ++ [V.ref a7, V.ref a8, V.ref a9, V.ref a10, V.ref a11]) ++ [V.ref a12, V.ref a13, V.ref a14, V.ref a15, V.ref a16])) = K2 at *
    have z22 := z21.trans u2
    replace y0 := y0.same u2
    replace y1 := y1.same u2
    replace y2 := y2.same u2
    replace y3 := y3.same u2
    replace y4 := y4.same u2
    replace y5 := y5.same u2
    replace y6 := y6.same u2
    replace y7 := y7.same u2
    replace y8 := y8.same u2
    replace y9 := y9.same u2
    replace y10 := y10.same u2
    replace y11 := y11.same u2
    replace y12 := y12.same u2
    replace y13 := y13.same u2
    replace y14 := y14.same u2
    replace y15 := y15.same u2
    replace y16 := y16.same u2
    clear ew
    have ew := ec2
    have er : Errs K K2 [X_OutOfRange, X_BadPieces, X_TooManyEdits, X_NothingToUndo, X_BadEdits, X_Busy, X_TooWide, X_NotGenerated, X_TooMany, X_BadTargets, X_BadInterval, X_Duplicate, X_BadEdit, X_Rejected, X_BadText, X_Unknown, X_NoVersion] (([V.ref a0, V.ref a1, V.ref a2, V.ref a3, V.ref a4, V.ref a5, V.ref a6] ++ [V.ref a7, V.ref a8, V.ref a9, V.ref a10, V.ref a11]) ++ [V.ref a12, V.ref a13, V.ref a14, V.ref a15, V.ref a16]) := ⟨rfl, fun i hi => by
      match i, hi with
      | 0, _ => exact ⟨a0, rfl, y0⟩
      | 1, _ => exact ⟨a1, rfl, y1⟩
      | 2, _ => exact ⟨a2, rfl, y2⟩
      | 3, _ => exact ⟨a3, rfl, y3⟩
      | 4, _ => exact ⟨a4, rfl, y4⟩
      | 5, _ => exact ⟨a5, rfl, y5⟩
      | 6, _ => exact ⟨a6, rfl, y6⟩
      | 7, _ => exact ⟨a7, rfl, y7⟩
      | 8, _ => exact ⟨a8, rfl, y8⟩
      | 9, _ => exact ⟨a9, rfl, y9⟩
      | 10, _ => exact ⟨a10, rfl, y10⟩
      | 11, _ => exact ⟨a11, rfl, y11⟩
      | 12, _ => exact ⟨a12, rfl, y12⟩
      | 13, _ => exact ⟨a13, rfl, y13⟩
      | 14, _ => exact ⟨a14, rfl, y14⟩
      | 15, _ => exact ⟨a15, rfl, y15⟩
      | 16, _ => exact ⟨a16, rfl, y16⟩
      | i + 17, hi => omega⟩
    generalize (([V.ref a0, V.ref a1, V.ref a2, V.ref a3, V.ref a4, V.ref a5, V.ref a6] ++ [V.ref a7, V.ref a8, V.ref a9, V.ref a10, V.ref a11]) ++ [V.ref a12, V.ref a13, V.ref a14, V.ref a15, V.ref a16]) = us at *
    clear y0 y1 y2 y3 y4 y5 y6 y7 y8 y9 y10 y11 y12 y13 y14 y15 y16
    have dv1 := dv_same z22 dv
    have s0 := z22
    generalize K2 = HL at *
    clear s1 s2 s3 s4 s5 s6 s7 s8 s9 s10 s11 s12 s13 s14 s15 s16 t0 t1 t2 u1 u2
    refine ⟨17, rfl, by decide, by decide, for_range (D := ⟨_, _, fun _ _ => True, fun _ _ => True⟩) (n := 17) (fun i σ H' => Same HL H' ∧ ∃ y2 y3 y4, σ = [some v, some (.ref c2), y2, y3, y4, none, none]) ⟨Same.refl _, _, _, _, rfl⟩ ?_ ?_⟩
    · rintro i σ H1 hi ⟨sm1, y2, y3, y4, rfl⟩
      have i17 : i < 17 := by omega
      obtain ⟨a, ea, d, e1, e2, e3⟩ := (er.same sm1).2 i i17
      have ew1 := sm1 _ _ ew
      have ai : atI us (0 + (i : Nat)) = some (.ref a) := by
        rw [Int.zero_add]
        exact atI_nat ea
      obtain ⟨-, -, k3, k4, -⟩ := errTab_at T.et (i := i) i17
      refine ⟨.ref c2, rfl, .int (0 + (i : Nat)), rfl, c2, us, 0 + (i : Nat), .ref a, rfl, rfl, SqL.of ew1, ai, a, _, d, .ref X_SpanError, _, _, rfl, e1, e2, e3, .own _, errTab_S T.et (i := i) i17 T.xn_SpanError, ?_⟩
      refine ⟨.ref c2, rfl, .int (0 + (i : Nat)), rfl, c2, us, 0 + (i : Nat), .ref a, rfl, rfl, SqL.of ew1, ai, a, _, d, .ty "ValueError", _, _, rfl, e1, e2, e3, .ty _, kit_bltn (by decide +kernel) k3, ?_⟩
      refine ⟨.ref c2, rfl, .int (0 + (i : Nat)), rfl, c2, us, 0 + (i : Nat), .ref a, rfl, rfl, SqL.of ew1, ai, a, _, d, .ty "LookupError", _, _, rfl, e1, e2, e3, .ty _, kit_bltn (by decide +kernel) k4, ?_⟩
      refine ⟨by show 3 ≤ sizeLine; decide, fun B nB => ?_⟩
      have s2 := same_new (o := .lst [.bl (decide (i < 15)), .bl (decide (i < 15)), .bl (decide (14 < i))]) nB
      have eB := upd_same (H := H1) (a := B) (o := .lst [.bl (decide (i < 15)), .bl (decide (i < 15)), .bl (decide (14 < i))])
      generalize upd H1 B (.lst [.bl (decide (i < 15)), .bl (decide (i < 15)), .bl (decide (14 < i))]) = H2 at *
      refine ⟨.ref c2, rfl, .int (0 + (i : Nat)), rfl, c2, us, 0 + (i : Nat), .ref a, rfl, rfl, SqL.of (s2 _ _ ew1), ai, a, i, rfl, i17, ⟨d, s2 _ _ e1, e2.same s2, e3⟩, fun H3 u s3 nu eu => ?_⟩
      have s13 := s2.trans s3
      refine ⟨17, rfl, by decide, by decide, fun D nD => ?_⟩
      refine lcR (lo := 0) (n := 17) (fun j H' ws => ws = ((List.range j).map fun j => decide (i = j)).map V.bl) nD (by decide) (fun _ _ _ _ _ r => r) (fun j H' ws r => by rw [r, List.length_map, List.length_map, List.length_range]; exact Nat.le_refl _) (fun _ => rfl) ?_ ?_
      · rintro j H' N acc hj sj eA sz r no yes
        refine ⟨rfl, .int (0 + (j : Nat)), rfl, .int (0 + (i : Nat)), rfl, rfl, yes H' _ (Same.refl _) ?_⟩
        have eb : decide (V.int (0 + (j : Nat)) = V.int (0 + (i : Nat))) = decide (i = j) := by
          rw [Bool.eq_iff_iff, decide_eq_true_iff, decide_eq_true_iff]
          constructor
          · intro z
            have := V.int.inj z
            omega
          · rintro rfl
            rfl
        rw [r, List.range_succ, List.map_append, List.map_append, eb]
        rfl
      · intro H4 ws s4 eD r
        subst r
        have s14 := s13.trans s4
        have dF : Dp K H4 (.ref u) (.list (((List.range 17).map fun j => decide (i = j)).map PyData.bool)) := .lst (SqL.of (s4 _ _ (eu.trans (by unfold flagsL; rw [List.map_map]; rfl)))) (dps_bools _)
        have dD : Dp K H4 (.ref D) (.list (((List.range 17).map fun j => decide (i = j)).map PyData.bool)) := .lst (SqL.of eD) (dps_bools _)
        refine ⟨_, _, dF, dD, shaped_bools _, shaped_bools _, _, rfl, ?_⟩
        rw [show PyData.eqv (.list (((List.range 17).map fun j => decide (i = j)).map PyData.bool)) (.list (((List.range 17).map fun j => decide (i = j)).map PyData.bool)) = true from eqv_bools _]
        refine iteF ⟨.ref B, rfl, .int (0 + (i : Nat)), rfl, _, _, rfl, rfl, .int (0 + (i : Nat)), rfl, _, _, rfl, rfl, .int (0 + (i : Nat)), rfl, _, _, rfl, rfl, by show 3 ≤ sizeLine; decide, fun C nC => ?_⟩
        have s5 := same_new (o := .lst [.bl (decide ((0 : Int) + (i : Nat) < 15)), .bl (decide ((0 : Int) + (i : Nat) < 15)), .bl (decide ((14 : Int) < 0 + (i : Nat)))]) nC
        have eC := upd_same (H := H4) (a := C) (o := .lst [.bl (decide ((0 : Int) + (i : Nat) < 15)), .bl (decide ((0 : Int) + (i : Nat) < 15)), .bl (decide ((14 : Int) < 0 + (i : Nat)))])
        generalize upd H4 C (.lst [.bl (decide ((0 : Int) + (i : Nat) < 15)), .bl (decide ((0 : Int) + (i : Nat) < 15)), .bl (decide ((14 : Int) < 0 + (i : Nat)))]) = H5 at *
        have s25 := s3.trans (s4.trans s5)
        have b15 : decide ((0 : Int) + (i : Nat) < 15) = decide (i < 15) := by
          rw [Bool.eq_iff_iff, decide_eq_true_iff, decide_eq_true_iff]
          omega
        have b14 : decide ((14 : Int) < 0 + (i : Nat)) = decide (14 < i) := by
          rw [Bool.eq_iff_iff, decide_eq_true_iff, decide_eq_true_iff]
          omega
        rw [b15, b14] at eC
        have gB : Dp K H5 (.ref B) (.list ([decide (i < 15), decide (i < 15), decide (14 < i)].map PyData.bool)) := .lst (SqL.of (s25 _ _ eB)) (dps_bools [decide (i < 15), decide (i < 15), decide (14 < i)])
        have gC : Dp K H5 (.ref C) (.list ([decide (i < 15), decide (i < 15), decide (14 < i)].map PyData.bool)) := .lst (SqL.of eC) (dps_bools [decide (i < 15), decide (i < 15), decide (14 < i)])
        refine ⟨_, _, gB, gC, shaped_bools _, shaped_bools _, _, rfl, ?_⟩
        rw [show PyData.eqv (.list ([decide (i < 15), decide (i < 15), decide (14 < i)].map PyData.bool)) (.list ([decide (i < 15), decide (i < 15), decide (14 < i)].map PyData.bool)) = true from eqv_bools _]
        exact iteF ⟨sm1.trans (s14.trans s5), _, _, _, rfl⟩
    · rintro σ H1 ⟨sm1, y2, y3, y4, rfl⟩
      replace s0 := s0.trans sm1
      replace dv1 := dv_same sm1 dv1
      clear ew er sm1
      refine ⟨v, rfl, v, rfl, fun a b n m o => ?_⟩
      obtain ⟨s, -, e1, e2⟩ := err1_new (K := K) (fs := [("bound", v)]) n m o T.xh_TooWide.ex
      generalize upd (upd H1 b (exd b [("bound", v)])) a (exo a X_TooWide (some b)) = L0 at *
      refine ⟨a, X_TooWide, b, [("bound", v)], v, rfl, T.xh_TooWide.xf, T.xh_TooWide.no, e1, e2, rfl, ?_⟩
      replace s0 := s0.trans s
      replace dv1 := dv_same s dv1
      clear e1 e2 n m o s a b
      refine ⟨v, rfl, v, rfl, fun a b n m o => ?_⟩
      obtain ⟨s, -, e1, e2⟩ := err1_new (K := K) (fs := [("demand", v)]) n m o T.xh_NotGenerated.ex
      generalize upd (upd L0 b (exd b [("demand", v)])) a (exo a X_NotGenerated (some b)) = L1 at *
      refine ⟨a, X_NotGenerated, b, [("demand", v)], v, rfl, T.xh_NotGenerated.xf, T.xh_NotGenerated.no, e1, e2, rfl, ?_⟩
      replace s0 := s0.trans s
      replace dv1 := dv_same s dv1
      clear e1 e2 n m o s a b
      refine ⟨v, rfl, v, rfl, fun a b n m o => ?_⟩
      obtain ⟨s, -, e1, e2⟩ := err1_new (K := K) (fs := [("bound", v)]) n m o T.xh_TooMany.ex
      generalize upd (upd L1 b (exd b [("bound", v)])) a (exo a X_TooMany (some b)) = L2 at *
      refine ⟨a, X_TooMany, b, [("bound", v)], v, rfl, T.xh_TooMany.xf, T.xh_TooMany.no, e1, e2, rfl, ?_⟩
      replace s0 := s0.trans s
      replace dv1 := dv_same s dv1
      clear e1 e2 n m o s a b
      refine ⟨v, rfl, v, rfl, fun a b n m o => ?_⟩
      obtain ⟨s, -, e1, e2⟩ := err1_new (K := K) (fs := [("error", v)]) n m o T.xh_BadTargets.ex
      generalize upd (upd L2 b (exd b [("error", v)])) a (exo a X_BadTargets (some b)) = L3 at *
      refine ⟨a, X_BadTargets, b, [("error", v)], v, rfl, T.xh_BadTargets.xf, T.xh_BadTargets.no, e1, e2, rfl, ?_⟩
      replace s0 := s0.trans s
      replace dv1 := dv_same s dv1
      clear e1 e2 n m o s a b
      refine ⟨by show 4 ≤ sizeLine; decide, fun p0 n0 => ?_⟩
      have l0 := same_new (o := .lst [v, v, v, v]) n0
      have ep0 := upd_same (H := L3) (a := p0) (o := .lst [v, v, v, v])
      generalize upd L3 p0 (.lst [v, v, v, v]) = M0 at *
      replace s0 := s0.trans l0
      replace dv1 := dv_same l0 dv1
      have ew := ep0
      refine ⟨.ref p0, rfl, ?_⟩
      refine ⟨v, rfl, v, rfl, fun a b n m o => ?_⟩
      obtain ⟨s, -, e1, e2⟩ := err1_new (K := K) (fs := [("value", v)]) n m o T.xh_BadInterval.ex
      generalize upd (upd M0 b (exd b [("value", v)])) a (exo a X_BadInterval (some b)) = L4 at *
      refine ⟨a, X_BadInterval, b, [("value", v)], v, rfl, T.xh_BadInterval.xf, T.xh_BadInterval.no, e1, e2, rfl, ?_⟩
      replace s0 := s0.trans s
      replace dv1 := dv_same s dv1
      replace ew := s _ _ ew
      clear e1 e2 n m o s a b
      refine ⟨v, rfl, v, rfl, fun a b n m o => ?_⟩
      obtain ⟨s, -, e1, e2⟩ := err1_new (K := K) (fs := [("value", v)]) n m o T.xh_Duplicate.ex
      generalize upd (upd L4 b (exd b [("value", v)])) a (exo a X_Duplicate (some b)) = L5 at *
      refine ⟨a, X_Duplicate, b, [("value", v)], v, rfl, T.xh_Duplicate.xf, T.xh_Duplicate.no, e1, e2, rfl, ?_⟩
      replace s0 := s0.trans s
      replace dv1 := dv_same s dv1
      replace ew := s _ _ ew
      clear e1 e2 n m o s a b
      refine ⟨v, rfl, v, rfl, fun a b n m o => ?_⟩
      obtain ⟨s, -, e1, e2⟩ := err1_new (K := K) (fs := [("index", v)]) n m o T.xh_BadEdit.ex
      generalize upd (upd L5 b (exd b [("index", v)])) a (exo a X_BadEdit (some b)) = L6 at *
      refine ⟨a, X_BadEdit, b, [("index", v)], v, rfl, T.xh_BadEdit.xf, T.xh_BadEdit.no, e1, e2, rfl, ?_⟩
      replace s0 := s0.trans s
      replace dv1 := dv_same s dv1
      replace ew := s _ _ ew
      clear e1 e2 n m o s a b
      refine ⟨v, rfl, v, rfl, fun a b n m o => ?_⟩
      obtain ⟨s, -, e1, e2⟩ := err1_new (K := K) (fs := [("index", v)]) n m o T.xh_Rejected.ex
      generalize upd (upd L6 b (exd b [("index", v)])) a (exo a X_Rejected (some b)) = L7 at *
      refine ⟨a, X_Rejected, b, [("index", v)], v, rfl, T.xh_Rejected.xf, T.xh_Rejected.no, e1, e2, rfl, ?_⟩
      replace s0 := s0.trans s
      replace dv1 := dv_same s dv1
      replace ew := s _ _ ew
      clear e1 e2 n m o s a b
      refine ⟨by show 4 ≤ sizeLine; decide, fun p1 n1 => ?_⟩
      have l1 := same_new (o := .lst [v, v, v, v]) n1
      have ep1 := upd_same (H := L7) (a := p1) (o := .lst [v, v, v, v])
      generalize upd L7 p1 (.lst [v, v, v, v]) = M1 at *
      replace s0 := s0.trans l1
      replace dv1 := dv_same l1 dv1
      replace ew := l1 _ _ ew
      refine ⟨p0, p1, _, _, rfl, rfl, ew, ep1, by show 8 ≤ sizeLine; decide, fun q1 m1 => ?_⟩
      have t1 := same_new (o := .lst ([v, v, v, v] ++ [v, v, v, v])) m1
      have eq1 := upd_same (H := M1) (a := q1) (o := .lst ([v, v, v, v] ++ [v, v, v, v]))
      generalize upd M1 q1 (.lst ([v, v, v, v] ++ [v, v, v, v])) = N1 at *
      replace s0 := s0.trans t1
      replace dv1 := dv_same t1 dv1
      clear ew
      have ew := eq1
      refine ⟨.ref q1, rfl, ?_⟩
      refine ⟨v, rfl, v, rfl, fun a b n m o => ?_⟩
      obtain ⟨s, -, e1, e2⟩ := err1_new (K := K) (fs := [("index", v)]) n m o T.xh_BadText.ex
      generalize upd (upd N1 b (exd b [("index", v)])) a (exo a X_BadText (some b)) = L8 at *
      refine ⟨a, X_BadText, b, [("index", v)], v, rfl, T.xh_BadText.xf, T.xh_BadText.no, e1, e2, rfl, ?_⟩
      replace s0 := s0.trans s
      replace dv1 := dv_same s dv1
      replace ew := s _ _ ew
      clear e1 e2 n m o s a b
      refine ⟨v, rfl, v, rfl, fun a b n m o => ?_⟩
      obtain ⟨s, -, e1, e2⟩ := err1_new (K := K) (fs := [("value", v)]) n m o T.xg_Unknown.ex
      generalize upd (upd L8 b (exd b [("value", v)])) a (exo a X_Unknown (some b)) = L9 at *
      refine ⟨a, X_Unknown, b, [("value", v)], v, rfl, T.xg_Unknown.xf, T.xg_Unknown.no, e1, e2, rfl, ?_⟩
      replace s0 := s0.trans s
      replace dv1 := dv_same s dv1
      replace ew := s _ _ ew
      clear e1 e2 n m o s a b
      refine ⟨v, rfl, v, rfl, fun a b n m o => ?_⟩
      obtain ⟨s, -, e1, e2⟩ := err1_new (K := K) (fs := [("value", v)]) n m o T.xg_NoVersion.ex
      generalize upd (upd L9 b (exd b [("value", v)])) a (exo a X_NoVersion (some b)) = L10 at *
      refine ⟨a, X_NoVersion, b, [("value", v)], v, rfl, T.xg_NoVersion.xf, T.xg_NoVersion.no, e1, e2, rfl, ?_⟩
      replace s0 := s0.trans s
      replace dv1 := dv_same s dv1
      replace ew := s _ _ ew
      clear e1 e2 n m o s a b
      refine ⟨by show 3 ≤ sizeLine; decide, fun p2 n2 => ?_⟩
      have l2 := same_new (o := .lst [v, v, v]) n2
      have ep2 := upd_same (H := L10) (a := p2) (o := .lst [v, v, v])
      generalize upd L10 p2 (.lst [v, v, v]) = M2 at *
      replace s0 := s0.trans l2
      replace dv1 := dv_same l2 dv1
      replace ew := l2 _ _ ew
      refine ⟨q1, p2, _, _, rfl, rfl, ew, ep2, by show 11 ≤ sizeLine; decide, fun q2 m2 => ?_⟩
      have t2 := same_new (o := .lst (([v, v, v, v] ++ [v, v, v, v]) ++ [v, v, v])) m2
      have eq2 := upd_same (H := M2) (a := q2) (o := .lst (([v, v, v, v] ++ [v, v, v, v]) ++ [v, v, v]))
      generalize upd M2 q2 (.lst (([v, v, v, v] ++ [v, v, v, v]) ++ [v, v, v])) = N2 at *
      replace s0 := s0.trans t2
      replace dv1 := dv_same t2 dv1
      clear ew
      have ew := eq2
      rw [show (([v, v, v, v] ++ [v, v, v, v]) ++ [v, v, v]) = List.replicate 11 v from rfl] at ew
      refine ⟨.ref q2, rfl, q2, rfl, ⟨_, SqL.of ew⟩, fun D nD => ?_⟩
      refine lcL (K := K) (a := q2) (xs := (List.replicate 11 v)) (fun j H' ws => ws = List.replicate j (V.str dd.shown)) nD (fun H' s => SqL.of (s _ _ (ew))) (by rw [List.length_replicate]; decide) (fun _ _ _ _ t r => r) (fun j H' ws r => (by rw [r, List.length_replicate]; exact Nat.le_refl _)) (fun _ => rfl) ?_ ?_
      · rintro j z H' N acc hj sj eA sz r no yes
        obtain rfl : z = v := List.eq_of_mem_replicate (List.mem_of_getElem? hj)
        refine ⟨rfl, z, rfl, z, dd, 1000, 3, rfl, dv_same sj dv1, sm, by decide, by decide, yes H' _ (Same.refl _) ?_⟩
        rw [r, List.replicate_succ']
      · intro H2 ws s2 eD r
        subst r
        rw [List.length_replicate] at eD
        refine ⟨v, rfl, v, dd, 1000, 3, rfl, dv_same s2 dv1, sm, by decide, by decide, by show 1 ≤ sizeLine; decide, fun p np => ?_⟩
        have s3 := same_new (o := .lst [.str dd.shown]) np
        have ep := upd_same (H := H2) (a := p) (o := .lst [.str dd.shown])
        generalize upd H2 p (.lst [.str dd.shown]) = H3 at *
        refine ⟨p, 11, _, rfl, rfl, ep, by decide, by decide, by show 1 * 11 ≤ sizeLine; decide, fun g ng => ?_⟩
        have s4 := same_new (o := .lst (List.replicate (11 : Int).toNat [.str dd.shown]).flatten) ng
        have eg := upd_same (H := H3) (a := g) (o := .lst (List.replicate (11 : Int).toNat [.str dd.shown]).flatten)
        generalize upd H3 g (.lst (List.replicate (11 : Int).toNat [.str dd.shown]).flatten) = H4 at *
        have hD : Dp K H4 (.ref D) (.list (List.replicate 11 (PyData.str dd.shown))) := .lst (SqL.of (s4 _ _ (s3 _ _ eD))) (dps_strs _ 11)
        have hg : Dp K H4 (.ref g) (.list (List.replicate 11 (PyData.str dd.shown))) := .lst (SqL.of eg) (dps_strs _ 11)
        refine ⟨_, _, hD, hg, shaped_strs ok 11, shaped_strs ok 11, ?_⟩
        rw [show PyData.eqv (.list (List.replicate 11 (PyData.str dd.shown))) (.list (List.replicate 11 (PyData.str dd.shown))) = true from eqv_strs _ 11]
        exact q _ (s0.trans (s2.trans (s3.trans s4)))

/-! ### plan == plan -/
theorem eqv_rows : ∀ ps qs : List (Int × Int), PyData.eqvAll (ps.map pairD) (qs.map pairD) = decide (ps = qs)
  | [], [] => rfl
  | [], q :: qs => (decide_eq_false (fun e => nomatch e)).symm
  | p :: ps, [] => (decide_eq_false (fun e => nomatch e)).symm
  | p :: ps, q :: qs => by
    show (PyData.eqv (pairD p) (pairD q) && PyData.eqvAll (ps.map pairD) (qs.map pairD)) = _
    rw [eqv_rows ps qs, show PyData.eqv (pairD p) (pairD q) = decide ((p.1, p.2) = (q.1, q.2)) from eqv_pair _ _ _ _, Bool.eq_iff_iff, Bool.and_eq_true, decide_eq_true_iff, decide_eq_true_iff, decide_eq_true_iff, List.cons.injEq]
def stD (S : St2) : PyData := .tuple [.tuple (S.1.map pairD), .tuple (S.2.map pairD)]
theorem eqv_st (S T : St2) : PyData.eqv (stD S) (stD T) = decide (S = T) := by
  show (PyData.eqvAll (S.1.map pairD) (T.1.map pairD) && (PyData.eqvAll (S.2.map pairD) (T.2.map pairD) && true)) = _
  rw [eqv_rows, eqv_rows, Bool.and_true, Bool.eq_iff_iff, Bool.and_eq_true, decide_eq_true_iff, decide_eq_true_iff, decide_eq_true_iff]
  exact ⟨fun h => Prod.ext h.1 h.2, fun h => h ▸ ⟨rfl, rfl⟩⟩
theorem shaped_st (S : St2) : SeqAt.shaped (stD S) = true := by
  have h1 := SeqAt.canLay_of_shaped (shaped_pairs S.1)
  have h2 := SeqAt.canLay_of_shaped (shaped_pairs S.2)
  have d : ∀ ps : List (Int × Int), PyData.depthAll (ps.map pairD) ≤ 1 := by
    intro ps
    induction ps with
    | nil => exact Nat.zero_le _
    | cons n r ih =>
      show max 1 (PyData.depthAll (r.map pairD)) ≤ 1
      omega
  have d1 := d S.1
  have d2 := d S.2
  unfold SeqAt.shaped
  rw [show PyData.canLay0 (stD S) = (PyData.canLay0 (.tuple (S.1.map pairD)) && (PyData.canLay0 (.tuple (S.2.map pairD)) && true)) from rfl, h1, h2]
  refine decide_eq_true ?_
  show max (PyData.depthAll (S.1.map pairD) + 1) (max (PyData.depthAll (S.2.map pairD) + 1) 0) + 1 ≤ 64
  omega
theorem PlanAt.last {C : Addr} {H : Hp} {p : Addr} {Ls : List St2} {S : St2} {Es : List Ed} (P : PlanAt C H p (Ls ++ [S]) Es) : ∃ dx a b us s, H p = some (.ins C dx (flP a b false)) ∧ H a = some (.tup us) ∧ atI us (-1) = some (.ref s) ∧ ∀ {K : PySem.W.Frag}, Dp K H (.ref s) (stD S) := by
  obtain ⟨dx, a, b, us, vs, hp, ha, sts, hb, eds⟩ := P.ex
  have lu := sts.length
  rw [List.length_append] at lu
  have lu : us.length = Ls.length + 1 := lu
  obtain ⟨s, x, y, xs, ys, eu, hs, hx, ix, hy, iy⟩ := sts.get (i := Ls.length) (S := S) (by rw [List.getElem?_append_right (Nat.le_refl _), Nat.sub_self]; rfl)
  exact ⟨dx, a, b, us, s, hp, ha, atI_end (by rw [lu]; exact eu), .tup (SqT.of hs) (.cons (.tup (SqT.of hx) ix.dp) (.cons (.tup (SqT.of hy) iy.dp) .nil))⟩
def sp_eqV (C : Addr) (K : PySem.W.Frag) : Sp := fun vs H Q _ => (∃ (p o : Addr) (Ls : List St2) (S : St2) (Es : List Ed) (Ls' : List St2) (S' : St2) (Es' : List Ed), vs = [.ref p, .ref o] ∧ PlanAt C H p (Ls ++ [S]) Es ∧ PlanAt C H o (Ls' ++ [S']) Es' ∧ Q (.bl (decide (S = S'))) H) ∨
  ∃ (p : Addr) (y : V) (d : PyData), vs = [.ref p, y] ∧ Dv K H y d ∧ Q (.bl false) H
theorem ok_Plan_eq (T : Tx K mg f_is_number f_is_position f_is_tuple_of f_is_interval f_ascending_error f_targets_error f_is_pieces f_without_item f_with_interval f_without_interval f_edited_state f_law_deck f_law_draw f_law_line f_law_interval f_law_intervals f_law_edit f_law_after f_law_do f_law_begun f_law_flags f_law_errors_right f_law_edited f_law f_Plan_init f_Plan_add_target f_Plan_add_piece f_Plan_remove_target f_Plan_remove_piece f_Plan_undo f_Plan_targets f_Plan_pieces f_Plan_edits f_Plan_edit f_Plan_record f_Plan_require_idle f_Plan_state_at f_Plan_len f_Plan_eq f_TooWide_init f_NotGenerated_init f_TooMany_init f_BadTargets_init f_BadInterval_init f_Duplicate_init f_BadEdit_init f_Rejected_init f_BadText_init f_Unknown_init f_NoVersion_init C_Plan X_TooWide X_NotGenerated X_TooMany X_BadTargets X_BadInterval X_Duplicate X_BadEdit X_Rejected X_BadText X_Unknown X_NoVersion X_OutOfRange X_SpanError X_BadPieces X_TooManyEdits X_NothingToUndo X_BadEdits X_Busy d_is_number d_is_position d_is_tuple_of d_is_interval d_ascending_error d_targets_error d_is_pieces d_without_item d_with_interval d_without_interval d_edited_state d_law_deck d_law_draw d_law_line d_law_interval d_law_intervals d_law_edit d_law_after d_law_do d_law_begun d_law_flags d_law_errors_right d_law_edited d_law d_Plan_init d_Plan_add_target d_Plan_add_piece d_Plan_remove_target d_Plan_remove_piece d_Plan_undo d_Plan_targets d_Plan_pieces d_Plan_edits d_Plan_edit d_Plan_record d_Plan_require_idle d_Plan_state_at d_Plan_len d_Plan_eq d_TooWide_init d_NotGenerated_init d_TooMany_init d_BadTargets_init d_BadInterval_init d_Duplicate_init d_BadEdit_init d_Rejected_init d_BadText_init d_Unknown_init d_NoVersion_init t_LAST_POSITION t_MAX_TARGETS t_MAX_PIECES t_MAX_EDITS) : FnOk P w K mg base CX0 2 f_Plan_eq d_Plan_eq ["self", "other"] (sp_eqV C_Plan K) := by
  refine T.F_Plan_eq.ok sc_Plan_eq (fun vs H Q E h => ?_) (fun cdv A outer s H vs Q E hr h => ?_)
  · rcases h with ⟨p, o, Ls, S, Es, Ls', S', Es', rfl, _⟩ | ⟨p, y, d, rfl, _⟩ <;> rfl
  refine ⟨_, (pss_one (ps_ret (pe_and (pe_callB call_isi (by rfl) T.z_isinstance (by decide +kernel) (pa_cons (pv 1) (pa_cons (pe_glob (v := V.ref C_Plan) (by rfl) T.g_Plan rfl) pa_nil))) (pe_one (pe_cmpR (op_eqD hr.units) (pe_ix ix_tup (pe_fld (pv 0) rfl) (pe_un un_neg pe_int) (fun _ _ => rfl)) (pe_ix ix_tup (pe_fld (pv 1) rfl) (pe_un un_neg pe_int) (fun _ _ => rfl)) (nomark _)))))), ?_⟩
  rcases h with ⟨p, o, Ls, S, Es, Ls', S', Es', rfl, P, P', q⟩ | ⟨p, y, d, rfl, dy, q⟩
  · obtain ⟨dx, a, b, us, s, hp, ha, au, ds⟩ := P.last
    obtain ⟨dx', a', b', us', s', hp', ha', au', ds'⟩ := P'.last
    refine ⟨.ref o, rfl, .ref o, .ref C_Plan, _, _, true, rfl, .own C_Plan, .base (.ins hp' T.cl_Plan T.is_Plan.1 T.is_Plan.2.1 T.is_Plan.2.2.1 T.is_Plan.2.2.2), kit_self, _, rfl, iteT ?_⟩
    refine ⟨.ref p, rfl, p, C_Plan, dx, _, _, rfl, hp, T.cl_Plan, T.n_Plan_states, lk_states _ _ _, 1, rfl, a, us, -1, .ref s, rfl, rfl, SqT.of ha, au, .ref o, rfl, o, C_Plan, dx', _, _, rfl, hp', T.cl_Plan, T.n_Plan_states, lk_states _ _ _, 1, rfl, a', us', -1, .ref s', rfl, rfl, SqT.of ha', au', _, _, ds, ds', shaped_st S, shaped_st S', ?_⟩
    rw [eqv_st]
    exact q
  · exact ⟨y, rfl, y, .ref C_Plan, _, _, false, rfl, .own C_Plan, dy.ty, kit_tyD T.ne_Plan.2.1 T.ne_Plan.2.2 d, _, rfl, iteF q⟩

/-! ### edits of one plan, some of them undone, beside another -/
/-- nothing but the deck and the plan at p has changed -/
def KB (d c p : Addr) (H H' : Hp) : Prop := ∀ b o, b ≠ d → b ≠ c → b ≠ p → H b = some o → H' b = some o
section
variable {C d c p : Addr} {n : Int} {H H1 H' : Hp} {Ss : List St2} {Es : List Ed}
theorem KB.trans (h : KB d c p H H1) (g : KB d c p H1 H') : KB d c p H H' := fun b o n1 n2 n3 e => g b o n1 n2 n3 (h b o n1 n2 n3 e)
theorem KB.kp (h : Kp d c H H') : KB d c p H H' := fun b o n1 n2 _ e => h b o n1 n2 e
theorem KB.but (h : But p H H') : KB d c p H H' := fun b o _ _ n3 e => h b o n3 e
theorem KB.same (h : Same H H') : KB d c p H H' := fun b o _ _ _ e => h b o e
theorem KB.tps (k : KB d c p H H') (dk : Dk H d c n) (P : PlanAt C H p Ss Es) : Tps H H' := fun b xs e => by
  obtain ⟨dx, _, _, _, _, hp, _⟩ := P.ex
  obtain ⟨ys, e2, _⟩ := dk.cells
  refine k b _ (fun z => ?_) (fun z => ?_) (fun z => ?_) e
  · rw [z, dk.top] at e
    cases e
  · rw [z, e2] at e
    cases e
  · rw [z, hp] at e
    cases e
theorem KB.lst (k : KB d c p H H') (P : PlanAt C H p Ss Es) {a : Addr} {us : List V} (o : Off d c a) (e : H a = some (.lst us)) : H' a = some (.lst us) := by
  obtain ⟨dx, _, _, _, _, hp, _⟩ := P.ex
  refine k a _ o.1 o.2 (fun z => ?_) e
  rw [z, hp] at e
  cases e
theorem KB.lawS (k : KB d c p H H') (dk : Dk H d c n) (P : PlanAt C H p Ss Es) {l : Addr} {S : St2} (o : Off d c l) (h : LawS H l S) : LawS H' l S := h.keep (k.tps dk P) fun us e => k.lst P o e
theorem KB.plan (k : KB d c p H H') (dk : Dk H d c n) (P : PlanAt C H p Ss Es) {o : Addr} {Ts : List St2} {Fs : List Ed} (ne : o ≠ p) (h : PlanAt C H o Ts Fs) : PlanAt C H' o Ts Fs :=
  h.keep (k.tps dk P) fun D dx fs e => k _ _ (dk.noti e).1 (dk.noti e).2 ne e
end
def sp_law_edited (C : Addr) : Sp := fun vs H Q _ => ∃ (d c : Addr) (n : Int) (l : Addr) (us : List V) (cs : List (Int × Int)) (p ls : Addr) (S : St2) (Ls : List St2) (Es : List Ed), vs = [.ref d, .ref l, .ref p, .ref ls] ∧ Dk H d c n ∧ 0 ≤ n ∧ n < 700000 ∧ Off d c l ∧ H l = some (.lst us) ∧ Ivs H us cs ∧
  Cells cs ∧ 0 < cs.length ∧ cs.length ≤ 9 ∧ (∀ q ∈ cs, q.2 < 1000000000000) ∧ Off d c ls ∧ LawS H ls S ∧ StC cs S ∧ PlanAt C H p (Ls ++ [S]) Es ∧ Es.length ≤ 40 ∧
  ∀ H' ls' S' Ls' Es' m, KB d c p H H' → Dk H' d c m → n ≤ m → m ≤ n + 60 → Off d c ls' → LawS H' ls' S' → StC cs S' → PlanAt C H' p (Ls' ++ [S']) Es' → Es'.length ≤ Es.length + 8 → Q (.ref ls') H'
theorem ok_law_edited (T : Tx K mg f_is_number f_is_position f_is_tuple_of f_is_interval f_ascending_error f_targets_error f_is_pieces f_without_item f_with_interval f_without_interval f_edited_state f_law_deck f_law_draw f_law_line f_law_interval f_law_intervals f_law_edit f_law_after f_law_do f_law_begun f_law_flags f_law_errors_right f_law_edited f_law f_Plan_init f_Plan_add_target f_Plan_add_piece f_Plan_remove_target f_Plan_remove_piece f_Plan_undo f_Plan_targets f_Plan_pieces f_Plan_edits f_Plan_edit f_Plan_record f_Plan_require_idle f_Plan_state_at f_Plan_len f_Plan_eq f_TooWide_init f_NotGenerated_init f_TooMany_init f_BadTargets_init f_BadInterval_init f_Duplicate_init f_BadEdit_init f_Rejected_init f_BadText_init f_Unknown_init f_NoVersion_init C_Plan X_TooWide X_NotGenerated X_TooMany X_BadTargets X_BadInterval X_Duplicate X_BadEdit X_Rejected X_BadText X_Unknown X_NoVersion X_OutOfRange X_SpanError X_BadPieces X_TooManyEdits X_NothingToUndo X_BadEdits X_Busy d_is_number d_is_position d_is_tuple_of d_is_interval d_ascending_error d_targets_error d_is_pieces d_without_item d_with_interval d_without_interval d_edited_state d_law_deck d_law_draw d_law_line d_law_interval d_law_intervals d_law_edit d_law_after d_law_do d_law_begun d_law_flags d_law_errors_right d_law_edited d_law d_Plan_init d_Plan_add_target d_Plan_add_piece d_Plan_remove_target d_Plan_remove_piece d_Plan_undo d_Plan_targets d_Plan_pieces d_Plan_edits d_Plan_edit d_Plan_record d_Plan_require_idle d_Plan_state_at d_Plan_len d_Plan_eq d_TooWide_init d_NotGenerated_init d_TooMany_init d_BadTargets_init d_BadInterval_init d_Duplicate_init d_BadEdit_init d_Rejected_init d_BadText_init d_Unknown_init d_NoVersion_init t_LAST_POSITION t_MAX_TARGETS t_MAX_PIECES t_MAX_EDITS) : FnOk P w K mg base CX0 10 f_law_edited d_law_edited ["_law_deck_here", "_law_line_here", "_law_plan", "_law_state"] (sp_law_edited C_Plan) := by
  refine T.F_law_edited.ok sc_law_edited (fun vs H Q E h => ?_) (fun cdv A outer s H vs Q E hr h => ?_)
  · obtain ⟨d, c, n, l, us, cs, p, ls, S, Ls, Es, rfl, _⟩ := h
    rfl
  · obtain ⟨d, c, n, l, us, cs, p, ls, S, Ls, Es, rfl, dk, n0, n1, offl, el, iv, cells, l0, l9, top, offs, st, sc, P, le, q⟩ := h
    refine ⟨_, (pss_cons (ps_for PassesOwn.never rfl (pi_range1 (by rfl) T.z_range (pa_cons (pe_call (ok_law_draw T) (hr.mono (by decide)) (by rfl) T.g_law_draw T.F_law_draw.kp T.b_law_draw .nil pass0 (pa_cons (pv 0) (pa_cons pe_int pa_nil))) pa_nil)) (pg_name (i := 4) sc_law_edited.nd rfl (Or.inl rfl))
      (pss_cons (ps_set (i := 5) sc_law_edited.nd rfl (Or.inl rfl) (pe_call (ok_law_edit T) (hr.mono (by decide)) (by rfl) T.g_law_edit T.F_law_edit.kp T.b_law_edit .nil pass0 (pa_cons (pv 0) (pa_cons (pv 1) (pa_cons (pv 3) pa_nil)))))
      (pss_cons (ps_set (i := 6) sc_law_edited.nd rfl (Or.inl rfl) (pe_call (ok_law_do T) (hr.mono (by decide)) (by rfl) T.g_law_do T.F_law_do.kp T.b_law_do .nil pass0 (pa_cons (pv 2) (pa_cons (pv 5) pa_nil))))
      (pss_one (ps_if (pt_cmpR op_gt (pe_call (ok_law_draw T) (hr.mono (by decide)) (by rfl) T.g_law_draw T.F_law_draw.kp T.b_law_draw .nil pass0 (pa_cons (pv 0) (pa_cons pe_int pa_nil))) pe_int (nomark _))
      (pss_one (ps_set (i := 3) sc_law_edited.nd rfl (Or.inl rfl) (pe_call (ok_law_after T) (hr.mono (by decide)) (by rfl) T.g_law_after T.F_law_after.kp T.b_law_after .nil pass0 (pa_cons (pv 3) (pa_cons (pv 5) pa_nil)))))
      (pss_one (ps_if (pt_cmpR op_ne (pe_meth0 (pv 2) T.cl_Plan T.m_Plan_undo (ok_Plan_undo T) (hr.mono (by decide)) T.b_Plan_undo .nil pass0) (pe_op op_sub (pv 6) pe_int) (nomark _))
      (pss_one (ps_ret pe_non))
      pss_nil)))))))
      (pss_one (ps_ret (pv 3)))), ?_⟩
    refine ⟨.ref d, rfl, d, c, n, 9, rfl, dk, n0, by omega, by decide, by decide, fun H1 r kp1 dk1 r0 r1 => ?_⟩
    refine ⟨r, rfl, by omega, by omega, for_range (D := ⟨_, _, fun _ _ => True, fun _ _ => True⟩) (n := r.toNat) (fun i σ H' => ∃ (m : Int) (ls' : Addr) (S' : St2) (Ls' : List St2) (Es' : List Ed) (y4 y5 y6 : Option V), KB d c p H H' ∧ Dk H' d c m ∧ n ≤ m ∧ m ≤ n + 1 + 6 * i ∧ Off d c ls' ∧ LawS H' ls' S' ∧ StC cs S' ∧
      PlanAt C_Plan H' p (Ls' ++ [S']) Es' ∧ Es'.length ≤ Es.length + i ∧ σ = [some (.ref d), some (.ref l), some (.ref p), some (.ref ls'), y4, y5, y6]) ?_ ?_ ?_⟩
    · exact ⟨n + 1, ls, S, Ls, Es, _, _, _, KB.kp kp1, dk1, by omega, by omega, offs, st.keep (kp1.tps dk) fun us e => kp1.keep offs e, sc, P.kp kp1 dk, Nat.le_add_right _ _, rfl⟩
    · rintro i σ H2 hi ⟨m, ls2, S2, Ls2, Es2, y4, y5, y6, kb, dk2, m0, m1, off2, st2, sc2, P2, le2, rfl⟩
      have i9 : i < 9 := by omega
      have el2 := kb.lst P offl el
      have iv2 := iv.tps (kb.tps dk P)
      refine ⟨.ref d, rfl, .ref l, rfl, .ref ls2, rfl, d, c, m, l, us, cs, ls2, S2, rfl, dk2, by omega, by omega, offl, el2, iv2, cells, l0, l9, top, off2, st2, sc2, fun H3 t e m3 kp3 dk3 a3 b3 et can oc l20 => ?_⟩
      have P3 := P2.kp kp3 dk2
      have st3 : LawS H3 ls2 S2 := st2.keep (kp3.tps dk2) fun us e => kp3.keep off2 e
      obtain ⟨dx3, _, _, _, _, hp3, _⟩ := id P3.ex
      have kb3 := kb.trans (KB.kp kp3)
      refine ⟨.ref p, rfl, .ref t, rfl, p, t, Ls2, S2, Es2, e, rfl, P3, by omega, sc2.so, et, can, fun H4 b4 P4 => ?_⟩
      have dk4 := dk3.butp hp3 b4
      have kb4 := kb3.trans (KB.but b4)
      have t34 := P3.tps b4
      have et4 := et.tps t34
      have st4 : LawS H4 ls2 S2 := st3.keep t34 fun us e => P3.lst b4 e
      refine ⟨.ref d, rfl, d, c, m3, 3, rfl, dk4, by omega, by omega, by decide, by decide, fun H5 s kp5 dk5 s0 s1 => ?_⟩
      have kb5 := kb4.trans (KB.kp kp5)
      have P5 := P4.kp kp5 dk4
      have st5 : LawS H5 ls2 S2 := st4.keep (kp5.tps dk4) fun us e => kp5.keep off2 e
      have et5 := et4.tps (kp5.tps dk4)
      obtain ⟨dx5, _, _, _, _, hp5, _⟩ := id P5.ex
      refine ⟨_, _, rfl, rfl, _, rfl, ite2 (fun _ => ?_) (fun _ => ?_)⟩
      · refine ⟨.ref ls2, rfl, .ref t, rfl, ls2, t, S2, e, rfl, st5, et5, sc2.so, can, fun H6 l' s6 nl' st6 => ?_⟩
        exact ⟨m3 + 1, l', stepS S2 e, Ls2 ++ [S2], Es2 ++ [e], _, _, _, kb5.trans (KB.same s6), dk5.kept s6, by omega, by omega, dk5.off nl', st6, sc2.step can oc, P5.same s6, by rw [List.length_append]; show _ + 1 ≤ _; omega, rfl⟩
      · refine ⟨.ref p, rfl, p, dx5, _, rfl, hp5, lk_no _ _ _ (by decide +kernel), p, Ls2 ++ [S2], stepS S2 e, Es2, e, rfl, P5, fun H6 b6 P6 => ?_⟩
        have kb6 := kb5.trans (KB.but b6)
        have dk6 := dk5.butp hp5 b6
        have st6 : LawS H6 ls2 S2 := st5.keep (P5.tps b6) fun us e => P5.lst b6 e
        refine ⟨.int _, rfl, _, _, rfl, rfl, rfl, _, rfl, ?_⟩
        refine ite2 (fun z => ?_) (fun _ => ⟨m3 + 1, ls2, S2, Ls2, Es2, _, _, _, kb6, dk6, by omega, by omega, off2, st6, sc2, P6, by omega, rfl⟩)
        exfalso
        have z : (!decide (V.int ((Es2.length : Nat) : Int) = V.int (((Es2.length + 1 : Nat) : Int) - 1))) = true := z
        rw [decide_eq_true (congrArg V.int (show ((Es2.length : Nat) : Int) = ((Es2.length + 1 : Nat) : Int) - 1 by omega))] at z
        cases z
    · rintro σ H2 ⟨m, ls2, S2, Ls2, Es2, y4, y5, y6, kb, dk2, m0, m1, off2, st2, sc2, P2, le2, rfl⟩
      exact ⟨_, rfl, q H2 ls2 S2 Ls2 Es2 m kb dk2 m0 (by omega) off2 st2 sc2 P2 (by omega)⟩

theorem last_at {Ls : List St2} {S : St2} {n : Nat} (h : n = Ls.length) : (Ls ++ [S])[n]? = some S := by
  subst h
  rw [List.getElem?_append_right (Nat.le_refl _), Nat.sub_self]
  rfl
theorem PlanAt.lens {C p : Addr} {H : Hp} {Ls : List St2} {S : St2} {Es : List Ed} (P : PlanAt C H p (Ls ++ [S]) Es) : Es.length = Ls.length := by
  have z := P.len
  rw [List.length_append] at z
  have z : Ls.length + 1 = Es.length + 1 := z
  omega
theorem PlanAt.but {C p q : Addr} {H H' : Hp} {Ss Ss' : List St2} {Es Es' : List Ed} (P : PlanAt C H p Ss Es) (Q : PlanAt C H q Ss' Es') (b : But q H H') (n : p ≠ q) : PlanAt C H' p Ss Es := P.keep (Q.tps b) fun C dx fs e => b _ _ n e

theorem cutFrom1 (xs : List V) : cutV xs (some 1) none = xs.drop 1 := by
  unfold cutV
  rw [show HT.sIx xs.length 0 (some 1) = min 1 xs.length from HT.sIx_nat xs.length 0 1, HT.sIx_none]
  cases xs with
  | nil => rfl
  | cons x r =>
    rw [List.length_cons, show min 1 (r.length + 1) = 1 by omega]
    show List.take (r.length + 1 - 1) r = r
    rw [Nat.add_sub_cancel]
    exact List.take_length
theorem Ivs.tl {H : Hp} : ∀ {us : List V} {ps : List (Int × Int)}, Ivs H us ps → Ivs H (us.drop 1) (ps.drop 1)
  | _, _, .nil => .nil
  | _, _, .cons _ h => h
theorem StC.sub {cs : List (Int × Int)} {S U : St2} (h : StC cs S) (s1 : U.1.Sublist S.1) (s2 : U.2.Sublist S.2) : StC cs U :=
  ⟨⟨⟨h.so.t.asc.sublist s1, fun q hq => h.so.t.ok q (s1.subset hq), Nat.le_trans s1.length_le h.so.t.few⟩, ⟨h.so.p.asc.sublist s2, fun q hq => h.so.p.ok q (s2.subset hq), Nat.le_trans s2.length_le h.so.p.few⟩⟩, fun pc q hq => by
    cases pc
    · exact h.oc false q (s1.subset hq)
    · exact h.oc true q (s2.subset hq)⟩
/-- two plans and the law's states of them -/
structure Two (C : Addr) (H : Hp) (d c l : Addr) (us : List V) (cs : List (Int × Int)) (p0 p1 s0 s1 : Addr) (L0 : List St2) (S0 : St2) (E0 : List Ed) (L1 : List St2) (S1 : St2) (E1 : List Ed) : Prop where
  el : H l = some (.lst us)
  iv : Ivs H us cs
  offl : Off d c l
  ne : p0 ≠ p1
  P0 : PlanAt C H p0 (L0 ++ [S0]) E0
  P1 : PlanAt C H p1 (L1 ++ [S1]) E1
  t0 : LawS H s0 S0
  t1 : LawS H s1 S1
  o0 : Off d c s0
  o1 : Off d c s1
  c0 : StC cs S0
  c1 : StC cs S1
section
variable {C : Addr} {H H' : Hp} {d c l : Addr} {n : Int} {us : List V} {cs : List (Int × Int)} {p0 p1 s0 s1 : Addr} {L0 : List St2} {S0 : St2} {E0 : List Ed} {L1 : List St2} {S1 : St2} {E1 : List Ed}
theorem Two.same (h : Two C H d c l us cs p0 p1 s0 s1 L0 S0 E0 L1 S1 E1) (s : Same H H') : Two C H' d c l us cs p0 p1 s0 s1 L0 S0 E0 L1 S1 E1 :=
  ⟨s _ _ h.el, h.iv.same s, h.offl, h.ne, h.P0.same s, h.P1.same s, h.t0.same s, h.t1.same s, h.o0, h.o1, h.c0, h.c1⟩
theorem LawS.kp {S : St2} {a : Addr} (h : LawS H a S) (k : Kp d c H H') (dk : Dk H d c n) (o : Off d c a) : LawS H' a S := h.keep (k.tps dk) fun us e => k.keep o e
theorem Two.kp (h : Two C H d c l us cs p0 p1 s0 s1 L0 S0 E0 L1 S1 E1) (k : Kp d c H H') (dk : Dk H d c n) : Two C H' d c l us cs p0 p1 s0 s1 L0 S0 E0 L1 S1 E1 :=
  ⟨k.keep h.offl h.el, h.iv.tps (k.tps dk), h.offl, h.ne, h.P0.kp k dk, h.P1.kp k dk, h.t0.kp k dk h.o0, h.t1.kp k dk h.o1, h.o0, h.o1, h.c0, h.c1⟩
end
def toldL (S : St2) : PyData := .list [.tuple (S.1.map pairD), .tuple (S.2.map pairD)]
theorem sm_toldL {S : St2} (so : StOk S) : Sm 12200 3 (toldL S) := by
  refine (Sm.lst (n := 6090) (dp := 2) fun x hx => ?_).mono (by show 2 * 6091 ≤ 12200; decide) (Nat.le_refl _)
  rcases List.mem_cons.mp hx with rfl | hx
  · exact sm_prs so.t (by decide)
  · rw [List.mem_singleton.mp hx]
    exact sm_prs so.p (by decide)
theorem ivsDv {K : PySem.W.Frag} {H : Hp} : ∀ {us : List V} {ps : List (Int × Int)}, Ivs H us ps → DvAll K H us (ps.map pairD)
  | _, _, .nil => .nil
  | _, _, .cons e h => .cons (.tup e (.cons (.int _) (.cons (.int _) .nil))) (ivsDv h)
theorem LawS.dp {K : PySem.W.Frag} {H : Hp} {l : Addr} {S : St2} (h : LawS H l S) : Dp K H (.ref l) (toldL S) := by
  obtain ⟨x, y, xs, ys, e, ex, ix, ey, iy⟩ := h.ex
  exact .lst (SqL.of e) (.cons (.tup (SqT.of ex) ix.dp) (.cons (.tup (SqT.of ey) iy.dp) .nil))
theorem LawS.dv {K : PySem.W.Frag} {H : Hp} {l : Addr} {S : St2} (h : LawS H l S) : Dv K H (.ref l) (toldL S) := by
  obtain ⟨x, y, xs, ys, e, ex, ix, ey, iy⟩ := h.ex
  exact .lst e (.cons (.tup ex (ivsDv ix)) (.cons (.tup ey (ivsDv iy)) .nil))
theorem depth_prs (ps : List (Int × Int)) : PyData.depthAll (ps.map pairD) ≤ 1 := by
  induction ps with
  | nil => exact Nat.zero_le _
  | cons n r ih =>
    show max 1 (PyData.depthAll (r.map pairD)) ≤ 1
    omega
theorem lay_toldL (S : St2) : PyData.canLay0 (toldL S) = true ∧ PyData.depth (toldL S) ≤ 3 := by
  have h1 := SeqAt.canLay_of_shaped (shaped_pairs S.1)
  have h2 := SeqAt.canLay_of_shaped (shaped_pairs S.2)
  have d1 := depth_prs S.1
  have d2 := depth_prs S.2
  constructor
  · show (PyData.canLay0 (.tuple (S.1.map pairD)) && (PyData.canLay0 (.tuple (S.2.map pairD)) && true)) = true
    rw [h1, h2]
    rfl
  · show max (PyData.depthAll (S.1.map pairD) + 1) (max (PyData.depthAll (S.2.map pairD) + 1) 0) + 1 ≤ 3
    omega
theorem shaped_toldL (S : St2) : SeqAt.shaped (toldL S) = true := by
  obtain ⟨h, e⟩ := lay_toldL S
  unfold SeqAt.shaped
  rw [h]
  exact decide_eq_true (Nat.le_trans e (by decide))
theorem shaped_told2 (S U : St2) : SeqAt.shaped (.tuple [toldL S, toldL U]) = true := by
  obtain ⟨h, e⟩ := lay_toldL S
  obtain ⟨h2, e2⟩ := lay_toldL U
  unfold SeqAt.shaped
  rw [show PyData.canLay0 (.tuple [toldL S, toldL U]) = (PyData.canLay0 (toldL S) && (PyData.canLay0 (toldL U) && true)) from rfl, h, h2]
  refine decide_eq_true ?_
  show max (PyData.depth (toldL S)) (max (PyData.depth (toldL U)) 0) + 1 ≤ 64
  omega
theorem sm_two (k : Bool) : Sm 100 2 (.list [.bool k, .bool (!k)]) := by
  cases k <;> exact ⟨by decide +kernel, by decide +kernel, by decide +kernel, by decide +kernel⟩
def vals77 : List PyData := [.none, .int 5, .bool true, .str "a", .tuple [.int 1, .str "b"], .list [], .dict [], .int (-1)]
def fine77 (d : PyData) : Bool := d.showable && (d.leavesShort 40 && (decide (d.weight ≤ 1000) && (decide (d.depth ≤ 3) && PyData.canLay0 (.str d.shown))))
theorem vals77_fine : vals77.all fine77 = true := by decide +kernel
theorem vals77_ok {d : PyData} (h : d ∈ vals77) : Sm 1000 3 d ∧ PyData.canLay0 (.str d.shown) = true := by
  have h1 := Bool.and_eq_true_iff.mp (List.all_eq_true.mp vals77_fine d h)
  have h2 := Bool.and_eq_true_iff.mp h1.2
  have h3 := Bool.and_eq_true_iff.mp h2.2
  have h4 := Bool.and_eq_true_iff.mp h3.2
  exact ⟨⟨h1.1, h2.1, of_decide_eq_true h3.1, of_decide_eq_true h4.1⟩, h4.2⟩
def sp_law (K : PySem.W.Frag) : Sp := fun vs H Q _ => ∃ (a : Addr) (ns : List Int), vs = [.ref a] ∧ SqL K H a (ns.map V.int) ∧ ns.length ≤ 63 ∧ ∀ H', Q (.bl true) H'
theorem ok_law (T : Tx K mg f_is_number f_is_position f_is_tuple_of f_is_interval f_ascending_error f_targets_error f_is_pieces f_without_item f_with_interval f_without_interval f_edited_state f_law_deck f_law_draw f_law_line f_law_interval f_law_intervals f_law_edit f_law_after f_law_do f_law_begun f_law_flags f_law_errors_right f_law_edited f_law f_Plan_init f_Plan_add_target f_Plan_add_piece f_Plan_remove_target f_Plan_remove_piece f_Plan_undo f_Plan_targets f_Plan_pieces f_Plan_edits f_Plan_edit f_Plan_record f_Plan_require_idle f_Plan_state_at f_Plan_len f_Plan_eq f_TooWide_init f_NotGenerated_init f_TooMany_init f_BadTargets_init f_BadInterval_init f_Duplicate_init f_BadEdit_init f_Rejected_init f_BadText_init f_Unknown_init f_NoVersion_init C_Plan X_TooWide X_NotGenerated X_TooMany X_BadTargets X_BadInterval X_Duplicate X_BadEdit X_Rejected X_BadText X_Unknown X_NoVersion X_OutOfRange X_SpanError X_BadPieces X_TooManyEdits X_NothingToUndo X_BadEdits X_Busy d_is_number d_is_position d_is_tuple_of d_is_interval d_ascending_error d_targets_error d_is_pieces d_without_item d_with_interval d_without_interval d_edited_state d_law_deck d_law_draw d_law_line d_law_interval d_law_intervals d_law_edit d_law_after d_law_do d_law_begun d_law_flags d_law_errors_right d_law_edited d_law d_Plan_init d_Plan_add_target d_Plan_add_piece d_Plan_remove_target d_Plan_remove_piece d_Plan_undo d_Plan_targets d_Plan_pieces d_Plan_edits d_Plan_edit d_Plan_record d_Plan_require_idle d_Plan_state_at d_Plan_len d_Plan_eq d_TooWide_init d_NotGenerated_init d_TooMany_init d_BadTargets_init d_BadInterval_init d_Duplicate_init d_BadEdit_init d_Rejected_init d_BadText_init d_Unknown_init d_NoVersion_init t_LAST_POSITION t_MAX_TARGETS t_MAX_PIECES t_MAX_EDITS) (hM : ∃ mm, base.Ns sysModules mm) : FnG P w K mg base 13 f_law d_law ["_law_script"] (sp_law K) := by
  refine FnG.of T.F_law sc_law (fun {vs H Q} h => ?_) (fun cdv A outer s H vs Q hr hq h => ?_)
  · obtain ⟨a, ns, rfl, _⟩ := h
    rfl
  · obtain ⟨a, ns, rfl, hS, hlen, q⟩ := h
    refine ⟨_, (pss_cons (ps_set (i := 1) sc_law.nd rfl (Or.inl rfl) (pe_call (ok_law_deck T) (hr.mono (by decide)) (by rfl) T.g_law_deck T.F_law_deck.kp T.b_law_deck .nil pass0 (pa_cons (pv 0) pa_nil)))
      (pss_cons (ps_asg (pe_call (ok_law_begun T) (hr.mono (by decide)) (by rfl) T.g_law_begun T.F_law_begun.kp T.b_law_begun .nil pass0 (pa_cons (pv 1) (pa_cons pe_int pa_nil))) (pg_unl rfl (pgs_cons (pg_name (i := 2) sc_law.nd rfl (Or.inl rfl)) (pgs_cons (pg_name (i := 3) sc_law.nd rfl (Or.inl rfl)) pgs_nil))))
      (pss_cons (ps_set (i := 4) sc_law.nd rfl (Or.inl rfl) (pe_ix ix_list (pe_lst (pa_cons (pv 3) (pa_cons (pe_lst (pa_cons (pe_slice sl_tupA (pe_ix ix_list (pv 3) pe_int (fun _ _ => rfl)) (po_some pe_int) po_none) (pa_cons (pe_ix ix_list (pv 3) pe_int (fun _ _ => rfl)) pa_nil))) (pa_cons (pe_lst (pa_cons (pe_ix ix_list (pv 3) pe_int (fun _ _ => rfl)) (pa_cons (pe_slice sl_tupA (pe_ix ix_list (pv 3) pe_int (fun _ _ => rfl)) (po_some pe_int) po_none) pa_nil))) pa_nil)))) (pe_call (ok_law_draw T) (hr.mono (by decide)) (by rfl) T.g_law_draw T.F_law_draw.kp T.b_law_draw .nil pass0 (pa_cons (pv 1) (pa_cons pe_int pa_nil))) (fun _ _ => rfl)))
      (C8.pss_cut (ps_set (i := 5) sc_law.nd rfl (Or.inl rfl) (pe_lst (pa_cons (pe_make T.mk_Plan (ok_Plan_init T) (hr.mono (by decide)) (by rfl) T.g_Plan T.b_Plan_init .nil pass0 (pa_cons (pe_ix ix_list (pv 3) pe_int (fun _ _ => rfl)) (pa_cons (pe_ix ix_list (pv 3) pe_int (fun _ _ => rfl)) pa_nil))) (pa_cons (pe_make T.mk_Plan (ok_Plan_init T) (hr.mono (by decide)) (by rfl) T.g_Plan T.b_Plan_init .nil pass0 (pa_cons (pe_ix ix_list (pv 4) pe_int (fun _ _ => rfl)) (pa_cons (pe_ix ix_list (pv 4) pe_int (fun _ _ => rfl)) pa_nil))) pa_nil))))
      (C8.pss_cut (ps_if (pt_not (pt_val (pe_callG (ok_law_errors_right T hM) (hr.mono (by decide)) hq (by rfl) T.g_law_errors_right T.F_law_errors_right.kp T.b_law_errors_right (pa_cons (pe_ix ix_list (pe_lst (pa_cons pe_non (pa_cons pe_int (pa_cons pe_bl (pa_cons pe_str (pa_cons (pe_tup (pa_cons pe_int (pa_cons pe_str pa_nil))) (pa_cons (pe_lst pa_nil) (pa_cons pe_dnewK (pa_cons (pe_un un_neg pe_int) pa_nil))))))))) (pe_call (ok_law_draw T) (hr.mono (by decide)) (by rfl) T.g_law_draw T.F_law_draw.kp T.b_law_draw .nil pass0 (pa_cons (pv 1) (pa_cons pe_int pa_nil))) (fun _ _ => rfl)) pa_nil))))
      (pss_one (ps_ret pe_bl))
      pss_nil)
      (C8.pss_cut (ps_set (i := 6) sc_law.nd rfl (Or.inl rfl) (pe_lst (pa_cons (pe_call (ok_law_edited T) (hr.mono (by decide)) (by rfl) T.g_law_edited T.F_law_edited.kp T.b_law_edited .nil pass0 (pa_cons (pv 1) (pa_cons (pv 2) (pa_cons (pe_ix ix_list (pv 5) pe_int (fun _ _ => rfl)) (pa_cons (pv 3) pa_nil))))) (pa_cons (pe_call (ok_law_edited T) (hr.mono (by decide)) (by rfl) T.g_law_edited T.F_law_edited.kp T.b_law_edited .nil pass0 (pa_cons (pv 1) (pa_cons (pv 2) (pa_cons (pe_ix ix_list (pv 5) pe_int (fun _ _ => rfl)) (pa_cons (pv 4) pa_nil))))) pa_nil))))
      (C8.pss_cut (ps_if (pt_cmpR (op_inLd (units65 hr)) pe_non (pv 6) (by rfl))
      (pss_one (ps_ret pe_bl))
      pss_nil)
      (pss_cons (ps_for PassesOwn.never rfl (pi_range1 (by rfl) T.z_range (pa_cons pe_int pa_nil)) (pg_name (i := 7) sc_law.nd rfl (Or.inl rfl))
      (pss_one (ps_if (PW.pt (pw_or (pt_cmpR op_ne (pe_callB (call_reprV hM hq hr.units) (by rfl) T.z_repr (by decide +kernel) (pa_cons (pe_lst (pa_cons (pe_meth0 (pe_ix ix_list (pv 5) (pv 7) (fun _ _ => rfl)) T.cl_Plan T.m_Plan_targets (ok_Plan_targets T) (hr.mono (by decide)) T.b_Plan_targets.choose_spec.2 T.b_Plan_targets.choose_spec.1 pass0) (pa_cons (pe_meth0 (pe_ix ix_list (pv 5) (pv 7) (fun _ _ => rfl)) T.cl_Plan T.m_Plan_pieces (ok_Plan_pieces T) (hr.mono (by decide)) T.b_Plan_pieces.choose_spec.2 T.b_Plan_pieces.choose_spec.1 pass0) pa_nil))) pa_nil)) (pe_callB (call_reprV hM hq hr.units) (by rfl) T.z_repr (by decide +kernel) (pa_cons (pe_ix ix_list (pv 6) (pv 7) (fun _ _ => rfl)) pa_nil)) (nomark _)) (pw_or1 (pt_cmpR op_ne (pe_callB call_len_seq (by rfl) T.z_len PySem.boot_len (pa_cons (pe_meth0 (pe_ix ix_list (pv 5) (pv 7) (fun _ _ => rfl)) T.cl_Plan T.m_Plan_edits (ok_Plan_edits T) (hr.mono (by decide)) T.b_Plan_edits .nil pass0) pa_nil)) (pe_callB (cr_lenOwn (ok_Plan_len T) T.m_Plan_len.at_ T.m_Plan_len.fn T.b_Plan_len pass0 (hr.mono (by decide))) (by rfl) T.z_len PySem.boot_len (pa_cons (pe_ix ix_list (pv 5) (pv 7) (fun _ _ => rfl)) pa_nil)) (nomark _)))))
      (pss_one (ps_ret pe_bl))
      pss_nil)))
      (C8.pss_cut (ps_set (i := 8) sc_law.nd rfl (Or.inl rfl) (pe_cmpR (op_eqD hr.units) (pe_ix ix_list (pv 6) pe_int (fun _ _ => rfl)) (pe_ix ix_list (pv 6) pe_int (fun _ _ => rfl)) (nomark _)))
      (pss_cons (ps_if (pt_cmpR op_ne (pe_callB (call_reprV hM hq hr.units) (by rfl) T.z_repr (by decide +kernel) (pa_cons (pe_lst (pa_cons (pe_cmpR (op_eqOwnV (ok_Plan_eq T) T.m_Plan_eq.at_ T.m_Plan_eq.fn T.b_Plan_eq pass0 (hr.mono (by decide))) (pe_ix ix_list (pv 5) pe_int (fun _ _ => rfl)) (pe_ix ix_list (pv 5) pe_int (fun _ _ => rfl)) (nomark _)) (pa_cons (pe_cmpR (op_neOwnV (ok_Plan_eq T) T.m_Plan_eq.at_ T.m_Plan_eq.fn T.is_Plan.2.2.2 T.ne_Plan.1 T.b_Plan_eq pass0 (hr.mono (by decide))) (pe_ix ix_list (pv 5) pe_int (fun _ _ => rfl)) (pe_ix ix_list (pv 5) pe_int (fun _ _ => rfl)) (nomark _)) pa_nil))) pa_nil)) (pe_callB (call_reprV hM hq hr.units) (by rfl) T.z_repr (by decide +kernel) (pa_cons (pe_lst (pa_cons (pv 8) (pa_cons (pe_not (pv 8)) pa_nil))) pa_nil)) (nomark _))
      (pss_one (ps_ret pe_bl))
      pss_nil)
      (C8.pss_cut (ps_set (i := 9) sc_law.nd rfl (Or.inl rfl) (pe_make T.mk_Plan (ok_Plan_init T) (hr.mono (by decide)) (by rfl) T.g_Plan T.b_Plan_init .nil pass0 (pa_cons (pe_ix ix_list (pe_ix ix_list (pv 6) pe_int (fun _ _ => rfl)) pe_int (fun _ _ => rfl)) (pa_cons (pe_ix ix_list (pe_ix ix_list (pv 6) pe_int (fun _ _ => rfl)) pe_int (fun _ _ => rfl)) pa_nil))))
      (pss_cons (ps_set (i := 10) sc_law.nd rfl (Or.inl rfl) (pe_ix ix_list (pe_lst (pa_cons pe_non (pa_cons pe_int (pa_cons pe_str (pa_cons (pe_callTy call_tuple_of (by rfl) T.z_tuple (by decide +kernel) (pa_cons (pe_ix ix_list (pv 6) pe_int (fun _ _ => rfl)) pa_nil)) (pa_cons (pe_ix ix_list (pv 6) pe_int (fun _ _ => rfl)) (pa_cons (pe_tup pa_nil) (pa_cons pe_dnewK pa_nil)))))))) (pe_call (ok_law_draw T) (hr.mono (by decide)) (by rfl) T.g_law_draw T.F_law_draw.kp T.b_law_draw .nil pass0 (pa_cons (pv 1) (pa_cons pe_int pa_nil))) (fun _ _ => rfl)))
      (pss_one (ps_ret (pe_and (pe_cmpR (op_eqOwnV (ok_Plan_eq T) T.m_Plan_eq.at_ T.m_Plan_eq.fn T.b_Plan_eq pass0 (hr.mono (by decide))) (pv 9) (pe_ix ix_list (pv 5) pe_int (fun _ _ => rfl)) (nomark _)) (pe_and (pe_cmpR (op_neOwnV (ok_Plan_eq T) T.m_Plan_eq.at_ T.m_Plan_eq.fn T.is_Plan.2.2.2 T.ne_Plan.1 T.b_Plan_eq pass0 (hr.mono (by decide))) (pe_ix ix_list (pv 5) pe_int (fun _ _ => rfl)) (pv 10) (nomark _)) (pe_one (pe_not (pe_cmpR (op_eqOwnV (ok_Plan_eq T) T.m_Plan_eq.at_ T.m_Plan_eq.fn T.b_Plan_eq pass0 (hr.mono (by decide))) (pe_ix ix_list (pv 5) pe_int (fun _ _ => rfl)) (pv 10) (nomark _)))))))))))))))))))), ?_⟩
    refine ⟨.ref a, rfl, a, ns, rfl, hS, hlen, fun H1 d c s1 nd0 nc dk1 => ?_⟩
    refine ⟨.ref d, rfl, d, c, 0, 6, rfl, dk1, by decide, by decide, by decide, by decide, fun H2 g l ls lus cs S m kp2 dk2 m0 m1 eg el iv cells l0 l1 top offl st offs nls asc1 asc2 oc1 oc2 f1 f2 => ?_⟩
    have tc : ∀ q ∈ cs, q.2 < 1000000000000 := fun q hq => by
      have := top q hq
      omega
    have l9 : cs.length ≤ 9 := by omega
    refine ⟨g, _, rfl, SqL.of eg, rfl, .ref l, [.ref ls], rfl, .ref ls, [], rfl, rfl, ?_⟩
    obtain ⟨x, y, xs, ys, els, ex, ix, ey, iy⟩ := st.ex
    have so : StOk S := ⟨cells_side cells tc asc1 oc1 (by omega), cells_side cells tc asc2 oc2 (by omega)⟩
    have sc : StC cs S := ⟨so, fun pc q hq => by
      cases pc
      · exact oc1 q hq
      · exact oc2 q hq⟩
    clear so asc1 asc2 oc1 oc2 f1 f2 top eg s1 kp2 dk1
    refine ⟨.ref ls, rfl, .ref ls, rfl, ls, _, 0, .ref x, rfl, rfl, SqL.of els, rfl, 1, rfl, ?_⟩
    dsimp only [tNoPart]
    refine slA_any ex (fun H3 x' s3 ex' => ?_)
    rw [cutFrom1] at ex'
    refine ⟨.ref ls, rfl, ls, _, 1, .ref y, rfl, rfl, SqL.of (s3 _ _ els), rfl, by show 2 ≤ sizeLine; decide, fun w1 nw1 => ?_⟩
    have s4 := same_new (o := .lst [.ref x', .ref y]) nw1
    have ew1 := upd_same (H := H3) (a := w1) (o := .lst [.ref x', .ref y])
    generalize upd H3 w1 (.lst [.ref x', .ref y]) = H4 at *
    have s24 := s3.trans s4
    refine ⟨.ref ls, rfl, ls, _, 0, .ref x, rfl, rfl, SqL.of (s24 _ _ els), rfl, .ref ls, rfl, ls, _, 1, .ref y, rfl, rfl, SqL.of (s24 _ _ els), rfl, 1, rfl, ?_⟩
    dsimp only [tNoPart]
    refine slA_any (s24 _ _ ey) (fun H5 y' s5 ey' => ?_)
    rw [cutFrom1] at ey'
    refine ⟨by show 2 ≤ sizeLine; decide, fun w2 nw2 => ?_⟩
    have s6 := same_new (o := .lst [.ref x, .ref y']) nw2
    have ew2 := upd_same (H := H5) (a := w2) (o := .lst [.ref x, .ref y'])
    generalize upd H5 w2 (.lst [.ref x, .ref y']) = H6 at *
    have s46 := s5.trans s6
    have s26 := s24.trans s46
    refine ⟨by show 3 ≤ sizeLine; decide, fun w3 nw3 => ?_⟩
    have s7 := same_new (o := .lst [.ref ls, .ref w1, .ref w2]) nw3
    have ew3 := upd_same (H := H6) (a := w3) (o := .lst [.ref ls, .ref w1, .ref w2])
    generalize upd H6 w3 (.lst [.ref ls, .ref w1, .ref w2]) = H7 at *
    have s27 := s26.trans s7
    have dk7 := dk2.kept s27
    have ow1 := (dk2.kept s3).off nw1
    have ow2 := (dk2.kept (s24.trans s5)).off nw2
    have ow3 := (dk2.kept s26).off nw3
    have tw1 : LawS H7 w1 (S.1.drop 1, S.2) := ⟨x', y, _, ys, (s46.trans s7) _ _ ew1, (s4.trans (s46.trans s7)) _ _ ex', (ix.same s27).tl, s27 _ _ ey, iy.same s27⟩
    have tw2 : LawS H7 w2 (S.1, S.2.drop 1) := ⟨x, y', xs, _, s7 _ _ ew2, s27 _ _ ex, ix.same s27, (s6.trans s7) _ _ ey', (iy.same s27).tl⟩
    have stw := st.same s27
    replace el := s27 _ _ el
    replace iv := iv.same s27
    refine ⟨.ref d, rfl, d, c, m, 3, rfl, dk7, by omega, by omega, by decide, by decide, fun H8 r kp8 dk8 r0 r1 => ?_⟩
    obtain ⟨W, S', aW, tW, oW, cW⟩ : ∃ W S', atI [V.ref ls, .ref w1, .ref w2] r = some (.ref W) ∧ LawS H8 W S' ∧ Off d c W ∧ StC cs S' := by
      have : r = 0 ∨ r = 1 ∨ r = 2 := by omega
      rcases this with rfl | rfl | rfl
      · exact ⟨ls, S, rfl, stw.kp kp8 dk7 offs, offs, sc⟩
      · exact ⟨w1, _, rfl, tw1.kp kp8 dk7 ow1, ow1, sc.sub (List.drop_sublist 1 _) (List.Sublist.refl _)⟩
      · exact ⟨w2, _, rfl, tw2.kp kp8 dk7 ow2, ow2, sc.sub (List.Sublist.refl _) (List.drop_sublist 1 _)⟩
    refine ⟨w3, _, r, .ref W, rfl, rfl, SqL.of (kp8.keep ow3 ew3), aW, ?_⟩
    replace el := kp8.keep offl el
    replace iv := iv.tps (kp8.tps dk7)
    replace st := stw.kp kp8 dk7 offs
    clear stw tw1 tw2 aW ew1 ew2 ew3 ow1 ow2 ow3 s27 s26 s46 s24 s3 s4 s5 s6 s7 ex' ey' kp8 dk7 dk2 nw1 nw2 nw3 ix iy ex ey els
    obtain ⟨x, y, xs, ys, els, ex, ix, ey, iy⟩ := id st.ex
    obtain ⟨xo, yo, xos, yos, eo, exo, ixo, eyo, iyo⟩ := id tW.ex
    refine ⟨fun σ H' => ∃ (mm : Int) (L p0 p1 : Addr), Two C_Plan H' d c l lus cs p0 p1 ls W [] S [] [] S' [] ∧ Dk H' d c mm ∧ 0 ≤ mm ∧ mm ≤ 100 ∧ Off d c L ∧ H' L = some (.lst [.ref p0, .ref p1]) ∧ σ = [some (.ref a), some (.ref d), some (.ref l), some (.ref ls), some (.ref W), some (.ref L), none, none, none, none, none], ?_, ?_⟩
    · refine ⟨.ref ls, rfl, ls, _, 0, .ref x, rfl, rfl, SqL.of els, rfl, .ref ls, rfl, ls, _, 1, .ref y, rfl, rfl, SqL.of els, rfl, fun p0 dx np ndx nn => ?_⟩
      have sA : Same H8 (upd (upd H8 dx (.own p0)) p0 (.ins C_Plan dx [])) := fun b o e => by
        rw [upd_ne (ne_of_none e np), upd_ne (ne_of_none e ndx)]
        exact e
      refine ⟨p0, dx, x, y, xs, ys, S, rfl, upd_same, sA _ _ ex, ix.same sA, sA _ _ ey, iy.same sA, sc.so, fun H9 b9 P0 => ⟨rfl, ?_⟩⟩
      have s9 : Same H8 H9 := fun b o e => b9 b o (ne_of_none e np) (sA _ _ e)
      refine ⟨.ref W, rfl, W, _, 0, .ref xo, rfl, rfl, SqL.of (s9 _ _ eo), rfl, .ref W, rfl, W, _, 1, .ref yo, rfl, rfl, SqL.of (s9 _ _ eo), rfl, fun p1 dx1 np1 ndx1 nn1 => ?_⟩
      have sB : Same H9 (upd (upd H9 dx1 (.own p1)) p1 (.ins C_Plan dx1 [])) := fun b o e => by
        rw [upd_ne (ne_of_none e np1), upd_ne (ne_of_none e ndx1)]
        exact e
      refine ⟨p1, dx1, xo, yo, xos, yos, S', rfl, upd_same, sB _ _ (s9 _ _ exo), (ixo.same s9).same sB, sB _ _ (s9 _ _ eyo), (iyo.same s9).same sB, cW.so, fun Ha ba P1 => ⟨rfl, ?_⟩⟩
      have sa : Same H9 Ha := fun b o e => ba b o (ne_of_none e np1) (sB _ _ e)
      obtain ⟨dx0, _, _, _, _, hp0, _⟩ := id P0.ex
      have n01 : p0 ≠ p1 := ne_of_none hp0 np1
      refine ⟨by show 2 ≤ sizeLine; decide, fun L nL => ?_⟩
      have sb := same_new (o := .lst [.ref p0, .ref p1]) nL
      have eL := upd_same (H := Ha) (a := L) (o := .lst [.ref p0, .ref p1])
      generalize upd Ha L (.lst [.ref p0, .ref p1]) = Hb at *
      have s9b := s9.trans (sa.trans sb)
      exact ⟨_, L, p0, p1, ⟨s9b _ _ el, iv.same s9b, offl, n01, P0.same (sa.trans sb), P1.same sb, st.same s9b, tW.same s9b, offs, oW, sc, cW⟩, dk8.kept s9b, by omega, by omega, (dk8.kept (s9.trans sa)).off nL, eL, rfl⟩
    clear els ex ix ey iy eo exo ixo eyo iyo st tW el iv dk8 sc cW offs oW offl
    rintro σ H9 ⟨m, L, p0, p1, tw, dk, m0, m1, oL, eL, rfl⟩
    refine ⟨fun σ H' => ∃ mm : Int, Two C_Plan H' d c l lus cs p0 p1 ls W [] S [] [] S' [] ∧ Dk H' d c mm ∧ 0 ≤ mm ∧ mm ≤ 200 ∧ H' L = some (.lst [.ref p0, .ref p1]) ∧ σ = [some (.ref a), some (.ref d), some (.ref l), some (.ref ls), some (.ref W), some (.ref L), none, none, none, none, none], ?_, ?_⟩
    · refine ⟨by show 2 ≤ sizeLine; decide, fun v1 nv1 => ?_⟩
      have s1 := same_new (o := .tup [.int 1, .str "b"]) nv1
      have ev1 := upd_same (H := H9) (a := v1) (o := .tup [.int 1, .str "b"])
      generalize upd H9 v1 (.tup [.int 1, .str "b"]) = Ha at *
      have ov1 := dk.off nv1
      refine ⟨by show 0 ≤ sizeLine; decide, fun v2 nv2 => ?_⟩
      have ov2 := (dk.kept s1).off nv2
      have s2 := same_new (o := .lst []) nv2
      have ev2 := upd_same (H := Ha) (a := v2) (o := .lst [])
      generalize upd Ha v2 (.lst []) = Hb at *
      refine fun v3 nv3 => ?_
      have ov3 := (dk.kept (s1.trans s2)).off nv3
      have s3 := same_new (o := .dK []) nv3
      have ev3 := upd_same (H := Hb) (a := v3) (o := .dK [])
      generalize upd Hb v3 (.dK []) = Hc at *
      have s13 := s1.trans (s2.trans s3)
      refine ⟨1, rfl, by show 8 ≤ sizeLine; decide, fun B nB => ?_⟩
      have oB := (dk.kept s13).off nB
      have s4 := same_new (o := .lst [.non, .int 5, .bl true, .str "a", .ref v1, .ref v2, .ref v3, .int (-1)]) nB
      have eB := upd_same (H := Hc) (a := B) (o := .lst [.non, .int 5, .bl true, .str "a", .ref v1, .ref v2, .ref v3, .int (-1)])
      generalize upd Hc B (.lst [.non, .int 5, .bl true, .str "a", .ref v1, .ref v2, .ref v3, .int (-1)]) = Hd at *
      have s14 := s13.trans s4
      have dk4 := dk.kept s14
      refine ⟨.ref d, rfl, d, c, m, 8, rfl, dk4, by omega, by omega, by decide, by decide, fun He r kp5 dk5 r0 r1 => ?_⟩
      have all : DvAll K He [.non, .int 5, .bl true, .str "a", .ref v1, .ref v2, .ref v3, .int (-1)] vals77 :=
        .cons .non (.cons (.int 5) (.cons (.bl true) (.cons (.str "a") (.cons (.tup (kp5.keep ov1 ((s2.trans (s3.trans s4)) _ _ ev1)) (.cons (.int 1) (.cons (.str "b") .nil)))
          (.cons (.lst (kp5.keep ov2 ((s3.trans s4) _ _ ev2)) .nil) (.cons (.dic (kp5.keep ov3 (s4 _ _ ev3)) .nil) (.cons (.int (-1)) .nil)))))))
      have el := List.getElem?_eq_getElem (l := [V.non, .int 5, .bl true, .str "a", .ref v1, .ref v2, .ref v3, .int (-1)]) (i := r.toNat) (by show r.toNat < 8; omega)
      generalize [V.non, .int 5, .bl true, .str "a", .ref v1, .ref v2, .ref v3, .int (-1)][r.toNat]'_ = v at el
      obtain ⟨dd, ed, dv⟩ := all.get el
      obtain ⟨sm, ok⟩ := vals77_ok (List.mem_of_getElem? ed)
      refine ⟨B, _, r, v, rfl, rfl, SqL.of (kp5.keep oB eB), (by rw [show r = (r.toNat : Int) by omega]; exact atI_nat el), v, dd, rfl, dv, sm, ok, fun Hf s6 => ?_⟩
      exact ⟨true, rfl, iteF ⟨m + 1, ((tw.same s14).kp kp5 dk4).same s6, dk5.kept s6, by omega, by omega, s6 _ _ (kp5.keep oL (s14 _ _ eL)), rfl⟩⟩
    clear tw dk m0 m1 eL m
    rintro σ H9 ⟨m, tw, dk, m0, m1, eL, rfl⟩
    refine ⟨fun σ H' => ∃ (mm : Int) (Z z0 z1 : Addr) (L0 : List St2) (S0 : St2) (E0 : List Ed) (L1 : List St2) (S1 : St2) (E1 : List Ed), Two C_Plan H' d c l lus cs p0 p1 z0 z1 L0 S0 E0 L1 S1 E1 ∧ Dk H' d c mm ∧ 0 ≤ mm ∧ mm ≤ 400 ∧ E0.length ≤ 8 ∧ E1.length ≤ 8 ∧ H' L = some (.lst [.ref p0, .ref p1]) ∧ H' Z = some (.lst [.ref z0, .ref z1]) ∧
      σ = [some (.ref a), some (.ref d), some (.ref l), some (.ref ls), some (.ref W), some (.ref L), some (.ref Z), none, none, none, none], ?_, ?_⟩
    · refine ⟨.ref d, rfl, .ref l, rfl, .ref L, rfl, L, _, 0, .ref p0, rfl, rfl, SqL.of eL, rfl, .ref ls, rfl, d, c, m, l, lus, cs, p0, ls, S, [], [], rfl, dk, by omega, by omega, tw.offl, tw.el, tw.iv, cells, l0, l9, tc, tw.o0, tw.t0, tw.c0, tw.P0, Nat.zero_le _, fun Ha z0 S0 L0 E0 m2 kb dk2 a2 b2 oz0 tz0 cz0 Q0 len0 => ?_⟩
      have eL2 := kb.lst tw.P0 oL eL
      have Q1 := kb.plan dk tw.P0 tw.ne.symm tw.P1
      have tz1 := kb.lawS dk tw.P0 tw.o1 tw.t1
      have el2 := kb.lst tw.P0 tw.offl tw.el
      have iv2 := tw.iv.tps (kb.tps dk tw.P0)
      refine ⟨.ref d, rfl, .ref l, rfl, .ref L, rfl, L, _, 1, .ref p1, rfl, rfl, SqL.of eL2, rfl, .ref W, rfl, d, c, m2, l, lus, cs, p1, W, S', [], [], rfl, dk2, by omega, by omega, tw.offl, el2, iv2, cells, l0, l9, tc, tw.o1, tz1, tw.c1, Q1, Nat.zero_le _, fun Hb z1 S1 L1 E1 m3 kb3 dk3 a3 b3 oz1 tz1 cz1 R1 len1 => ?_⟩
      refine ⟨by show 2 ≤ sizeLine; decide, fun Z nZ => ?_⟩
      have R0 := kb3.plan dk2 Q1 tw.ne Q0
      have uz0 := kb3.lawS dk2 Q1 oz0 tz0
      have el3 := kb3.lst Q1 tw.offl el2
      have iv3 := iv2.tps (kb3.tps dk2 Q1)
      have eL3 := kb3.lst Q1 oL eL2
      have s4 := same_new (o := .lst [.ref z0, .ref z1]) nZ
      have eZ := upd_same (H := Hb) (a := Z) (o := .lst [.ref z0, .ref z1])
      generalize upd Hb Z (.lst [.ref z0, .ref z1]) = Hc at *
      exact ⟨m3, Z, z0, z1, L0, S0, E0, L1, S1, E1, (Two.mk el3 iv3 tw.offl tw.ne R0 R1 uz0 tz1 oz0 oz1 cz0 cz1).same s4, dk3.kept s4, by omega, by omega, by simpa using len0, by simpa using len1, s4 _ _ eL3, eZ, rfl⟩
    clear tw dk m0 m1 eL m
    rintro σ H9 ⟨m, Z, z0, z1, L0, S0, E0, L1, S1, E1, tw, dk, m0, m1, le0, le1, eL, eZ, rfl⟩
    refine ⟨fun σ H' => H' = H9 ∧ σ = [some (.ref a), some (.ref d), some (.ref l), some (.ref ls), some (.ref W), some (.ref L), some (.ref Z), none, none, none, none], ?_, ?_⟩
    · exact ⟨.ref Z, rfl, .none, [toldL S0, toldL S1], .non, .lst (SqL.of eZ) (.cons tw.t0.dp (.cons tw.t1.dp .nil)), rfl, shaped_told2 S0 S1, _, rfl, iteF ⟨rfl, rfl⟩⟩
    rintro σ H9' ⟨rfl, rfl⟩
    refine ⟨2, rfl, by decide, by decide, for_range (D := ⟨_, _, fun _ _ => True, fun _ _ => True⟩) (n := 2) (fun i σ H' => Same H9' H' ∧ ∃ y7, σ = [some (.ref a), some (.ref d), some (.ref l), some (.ref ls), some (.ref W), some (.ref L), some (.ref Z), y7, none, none, none]) ⟨Same.refl _, _, rfl⟩ ?_ ?_⟩
    · rintro i σ Ha hi ⟨s1, y7, rfl⟩
      obtain ⟨p, z, Ls, S2, Es, ap, az, P, tz, so, le8⟩ : ∃ p z Ls S2 Es, atI [V.ref p0, .ref p1] (0 + (i : Nat)) = some (.ref p) ∧ atI [V.ref z0, .ref z1] (0 + (i : Nat)) = some (.ref z) ∧ PlanAt C_Plan Ha p (Ls ++ [S2]) Es ∧ LawS Ha z S2 ∧ StOk S2 ∧ Es.length ≤ 8 := by
        match i, hi with
        | 0, _ => exact ⟨p0, z0, L0, S0, E0, rfl, rfl, tw.P0.same s1, tw.t0.same s1, tw.c0.so, le0⟩
        | 1, _ => exact ⟨p1, z1, L1, S1, E1, rfl, rfl, tw.P1.same s1, tw.t1.same s1, tw.c1.so, le1⟩
        | i + 2, h => omega
      have eLa := s1 _ _ eL
      have eZa := s1 _ _ eZ
      obtain ⟨dx, _, _, _, _, hp, _⟩ := id P.ex
      refine ⟨.ref L, rfl, .int (0 + (i : Nat)), rfl, L, _, 0 + (i : Nat), .ref p, rfl, rfl, SqL.of eLa, ap, p, dx, _, rfl, hp, lk_no _ _ _ (by decide +kernel), p, .non, _, Es, S2, Es.length, rfl, P, .inl ⟨rfl, rfl⟩, last_at P.lens, fun x xs hx ix => ?_⟩
      refine ⟨.ref L, rfl, .int (0 + (i : Nat)), rfl, L, _, 0 + (i : Nat), .ref p, rfl, rfl, SqL.of eLa, ap, p, dx, _, rfl, hp, lk_no _ _ _ (by decide +kernel), p, .non, _, Es, S2, Es.length, rfl, P, .inl ⟨rfl, rfl⟩, last_at P.lens, fun y ys hy iy => ?_⟩
      refine ⟨by show 2 ≤ sizeLine; decide, fun g ng => ?_⟩
      have s2 := same_new (o := .lst [.ref x, .ref y]) ng
      have eg := upd_same (H := Ha) (a := g) (o := .lst [.ref x, .ref y])
      generalize upd Ha g (.lst [.ref x, .ref y]) = Hb at *
      have d1 : Dv K Hb (.ref g) (toldL S2) := .lst eg (.cons (.tup (s2 _ _ hx) (ivsDv (ix.same s2))) (.cons (.tup (s2 _ _ hy) (ivsDv (iy.same s2))) .nil))
      have d2 : Dv K Hb (.ref z) (toldL S2) := (tz.same s2).dv
      have sm := sm_toldL so
      generalize toldL S2 = dd at *
      refine ⟨.ref g, dd, 12200, 3, rfl, d1, sm, by decide, by decide, ?_⟩
      refine ⟨.ref Z, rfl, .int (0 + (i : Nat)), rfl, Z, _, 0 + (i : Nat), .ref z, rfl, rfl, SqL.of (s2 _ _ eZa), az, .ref z, dd, 12200, 3, rfl, d2, sm, by decide, by decide, ?_⟩
      refine ⟨rfl, _, rfl, iteNS rfl ?_⟩
      refine ⟨.ref L, rfl, .int (0 + (i : Nat)), rfl, L, _, 0 + (i : Nat), .ref p, rfl, rfl, SqL.of (s2 _ _ eLa), ap, p, dx, _, rfl, s2 _ _ hp, lk_no _ _ _ (by decide +kernel), p, _, Es, rfl, P.same s2, fun b vs hb eds => ⟨b, vs, rfl, .inr (SqT.of hb), ?_⟩⟩
      refine ⟨.ref L, rfl, .int (0 + (i : Nat)), rfl, L, _, 0 + (i : Nat), .ref p, rfl, rfl, SqL.of (s2 _ _ eLa), ap, ?_⟩
      have ev := eds.length
      refine ⟨p, dx, _, rfl, s2 _ _ hp, p, _, Es, rfl, P.same s2, _, rfl, ⟨by omega, by omega⟩, rfl, _, rfl, ite2 (fun zz => ?_) (fun _ => ⟨s1.trans s2, _, rfl⟩)⟩
      exfalso
      have zz : (!decide (V.int ((vs.length : Nat) : Int) = V.int ((Es.length : Nat) : Int))) = true := zz
      rw [ev, decide_eq_true rfl] at zz
      cases zz
    · rintro σ Ha ⟨s1, y7, rfl⟩
      have twa := tw.same s1
      refine ⟨fun σ H' => H' = Ha ∧ σ = [some (.ref a), some (.ref d), some (.ref l), some (.ref ls), some (.ref W), some (.ref L), some (.ref Z), y7, some (.bl (decide (S0 = S1))), none, none], ?_, ?_⟩
      · refine ⟨.ref Z, rfl, Z, _, 0, .ref z0, rfl, rfl, SqL.of (s1 _ _ eZ), rfl, .ref Z, rfl, Z, _, 1, .ref z1, rfl, rfl, SqL.of (s1 _ _ eZ), rfl, toldL S0, toldL S1, twa.t0.dp, twa.t1.dp, shaped_toldL S0, shaped_toldL S1, ?_⟩
        rw [show PyData.eqv (toldL S0) (toldL S1) = decide (S0 = S1) from eqv_st S0 S1]
        exact ⟨rfl, rfl⟩
      rintro σ Ha' ⟨rfl, rfl⟩
      have eLa := s1 _ _ eL
      obtain ⟨dx0, _, _, _, _, hp0, _⟩ := id twa.P0.ex
      obtain ⟨dx1, _, _, _, _, hp1, _⟩ := id twa.P1.ex
      have ty1 : TyX K Ha' (.ref p1) (.ref C_Plan) := .base (.ins hp1 T.cl_Plan T.is_Plan.1 T.is_Plan.2.1 T.is_Plan.2.2.1 T.is_Plan.2.2.2)
      refine ⟨.ref L, rfl, L, _, 0, .ref p0, rfl, rfl, SqL.of eLa, rfl, .ref L, rfl, L, _, 1, .ref p1, rfl, rfl, SqL.of eLa, rfl, p0, dx0, _, .ref C_Plan, rfl, hp0, ty1, first_own, .inl ⟨p0, p1, L0, S0, E0, L1, S1, E1, rfl, twa.P0, twa.P1, _, rfl, ?_⟩⟩
      refine ⟨.ref L, rfl, L, _, 0, .ref p0, rfl, rfl, SqL.of eLa, rfl, .ref L, rfl, L, _, 1, .ref p1, rfl, rfl, SqL.of eLa, rfl, p0, dx0, _, .ref C_Plan, rfl, hp0, ty1, first_own, .inl ⟨p0, p1, L0, S0, E0, L1, S1, E1, rfl, twa.P0, twa.P1, _, rfl, ?_⟩⟩
      refine ⟨by show 2 ≤ sizeLine; decide, fun g ng => ?_⟩
      have s2 := same_new (o := .lst [.bl (id (decide (S0 = S1))), .bl (!decide (S0 = S1))]) ng
      have eg := upd_same (H := Ha') (a := g) (o := .lst [.bl (id (decide (S0 = S1))), .bl (!decide (S0 = S1))])
      generalize upd Ha' g (.lst [.bl (id (decide (S0 = S1))), .bl (!decide (S0 = S1))]) = Hb at *
      refine ⟨.ref g, .list [.bool (decide (S0 = S1)), .bool (!decide (S0 = S1))], 100, 2, rfl, .lst eg (.cons (.bl _) (.cons (.bl _) .nil)), sm_two _, by decide, by decide, ?_⟩
      refine ⟨.bl _, rfl, .bl _, rfl, _, rfl, by show 2 ≤ sizeLine; decide, fun g2 ng2 => ?_⟩
      have s3 := same_new (o := .lst [.bl (decide (S0 = S1)), .bl (!decide (S0 = S1))]) ng2
      have eg2 := upd_same (H := Hb) (a := g2) (o := .lst [.bl (decide (S0 = S1)), .bl (!decide (S0 = S1))])
      generalize upd Hb g2 (.lst [.bl (decide (S0 = S1)), .bl (!decide (S0 = S1))]) = Hc at *
      refine ⟨.ref g2, .list [.bool (decide (S0 = S1)), .bool (!decide (S0 = S1))], 100, 2, rfl, .lst eg2 (.cons (.bl _) (.cons (.bl _) .nil)), sm_two _, by decide, by decide, rfl, _, rfl, iteNS rfl ?_⟩
      have s13 := s1.trans (s2.trans s3)
      have two := tw.same s13
      have dkc := dk.kept s13
      have eLc := s13 _ _ eL
      have eZc := s13 _ _ eZ
      clear s1 s2 s3 twa eg eg2 ng ng2 ty1 hp0 hp1 eLa
      obtain ⟨x, y, xs, ys, els, ex, ix, ey, iy⟩ := id two.t0.ex
      refine ⟨fun σ H' => ∃ pf, Two C_Plan H' d c l lus cs p0 p1 z0 z1 L0 S0 E0 L1 S1 E1 ∧ Dk H' d c m ∧ PlanAt C_Plan H' pf ([] ++ [S0]) [] ∧ H' L = some (.lst [.ref p0, .ref p1]) ∧ H' Z = some (.lst [.ref z0, .ref z1]) ∧ σ = [some (.ref a), some (.ref d), some (.ref l), some (.ref ls), some (.ref W), some (.ref L), some (.ref Z), y7, some (.bl (decide (S0 = S1))), some (.ref pf), none], ?_, ?_⟩
      · refine ⟨.ref Z, rfl, Z, _, 0, .ref z0, rfl, rfl, SqL.of eZc, rfl, z0, _, 0, .ref x, rfl, rfl, SqL.of els, rfl, .ref Z, rfl, Z, _, 0, .ref z0, rfl, rfl, SqL.of eZc, rfl, z0, _, 1, .ref y, rfl, rfl, SqL.of els, rfl, fun pf dx np ndx nn => ?_⟩
        have sA : Same Hc (upd (upd Hc dx (.own pf)) pf (.ins C_Plan dx [])) := fun b o e => by
          rw [upd_ne (ne_of_none e np), upd_ne (ne_of_none e ndx)]
          exact e
        refine ⟨pf, dx, x, y, xs, ys, S0, rfl, upd_same, sA _ _ ex, ix.same sA, sA _ _ ey, iy.same sA, tw.c0.so, fun Hd b9 Pf => ⟨rfl, ?_⟩⟩
        have s9 : Same Hc Hd := fun b o e => b9 b o (ne_of_none e np) (sA _ _ e)
        exact ⟨pf, two.same s9, dkc.kept s9, Pf, s9 _ _ eLc, s9 _ _ eZc, rfl⟩
      clear els ex ix ey iy two dkc eLc eZc s13 tw dk eL eZ
      rintro σ H1 ⟨pf, tw, dk, Pf, eL, eZ, rfl⟩
      obtain ⟨x, y, xs, ys, els, ex, ix, ey, iy⟩ := id tw.t0.ex
      refine ⟨.ref Z, rfl, Z, _, 0, .ref z0, rfl, rfl, SqL.of eZ, rfl, z0, _, rfl, .inl ⟨SqL.of els, fun v1 nv1 => ?_⟩⟩
      have ov1 := dk.off nv1
      have s1 := same_new (o := .tup [.ref x, .ref y]) nv1
      have ev1 := upd_same (H := H1) (a := v1) (o := .tup [.ref x, .ref y])
      generalize upd H1 v1 (.tup [.ref x, .ref y]) = H2 at *
      refine ⟨.ref Z, rfl, Z, _, 0, .ref z0, rfl, rfl, SqL.of (s1 _ _ eZ), rfl, by show 0 ≤ sizeLine; decide, fun v2 nv2 => ?_⟩
      have ov2 := (dk.kept s1).off nv2
      have s2 := same_new (o := .tup []) nv2
      have ev2 := upd_same (H := H2) (a := v2) (o := .tup [])
      generalize upd H2 v2 (.tup []) = H3 at *
      refine fun v3 nv3 => ?_
      have ov3 := (dk.kept (s1.trans s2)).off nv3
      have s3 := same_new (o := .dK []) nv3
      have ev3 := upd_same (H := H3) (a := v3) (o := .dK [])
      generalize upd H3 v3 (.dK []) = H4 at *
      have s13 := s1.trans (s2.trans s3)
      refine ⟨by show 7 ≤ sizeLine; decide, fun B nB => ?_⟩
      have oB := (dk.kept s13).off nB
      have s4 := same_new (o := .lst [.non, .int 5, .str "plan", .ref v1, .ref z0, .ref v2, .ref v3]) nB
      have eB := upd_same (H := H4) (a := B) (o := .lst [.non, .int 5, .str "plan", .ref v1, .ref z0, .ref v2, .ref v3])
      generalize upd H4 B (.lst [.non, .int 5, .str "plan", .ref v1, .ref z0, .ref v2, .ref v3]) = H5 at *
      have s14 := s13.trans s4
      have dk5 := dk.kept s14
      refine ⟨.ref d, rfl, d, c, m, 7, rfl, dk5, by omega, by omega, by decide, by decide, fun H6 r kp6 dk6 r0 r1 => ?_⟩
      have tw6 := (tw.same s14).kp kp6 dk5
      have Pf6 := (Pf.same s14).kp kp6 dk5
      have eL6 := kp6.keep oL (s14 _ _ eL)
      have t6 := kp6.tps dk5
      have all : DvAll K H6 [.non, .int 5, .str "plan", .ref v1, .ref z0, .ref v2, .ref v3] [.none, .int 5, .str "plan", .tuple [.tuple (S0.1.map pairD), .tuple (S0.2.map pairD)], toldL S0, .tuple [], .dict []] :=
        .cons .non (.cons (.int 5) (.cons (.str "plan") (.cons (.tup (kp6.keep ov1 ((s2.trans (s3.trans s4)) _ _ ev1)) (.cons (.tup (t6 _ _ (s14 _ _ ex)) (ivsDv ((ix.same s14).tps t6))) (.cons (.tup (t6 _ _ (s14 _ _ ey)) (ivsDv ((iy.same s14).tps t6))) .nil)))
          (.cons tw6.t0.dv (.cons (.tup (kp6.keep ov2 ((s3.trans s4) _ _ ev2)) .nil) (.cons (.dic (kp6.keep ov3 (s4 _ _ ev3)) .nil) .nil))))))
      have el := List.getElem?_eq_getElem (l := [V.non, .int 5, .str "plan", .ref v1, .ref z0, .ref v2, .ref v3]) (i := r.toNat) (by show r.toNat < 7; omega)
      generalize [V.non, .int 5, .str "plan", .ref v1, .ref z0, .ref v2, .ref v3][r.toNat]'_ = v at el
      obtain ⟨dd, ed, dv⟩ := all.get el
      refine ⟨B, _, r, v, rfl, rfl, SqL.of (kp6.keep oB eB), (by rw [show r = (r.toNat : Int) by omega]; exact atI_nat el), ?_⟩
      obtain ⟨dx0, _, _, _, _, hp0, _⟩ := id tw6.P0.ex
      obtain ⟨dxf, _, _, _, _, hpf, _⟩ := id Pf6.ex
      have ty0 : TyX K H6 (.ref p0) (.ref C_Plan) := .base (.ins hp0 T.cl_Plan T.is_Plan.1 T.is_Plan.2.1 T.is_Plan.2.2.1 T.is_Plan.2.2.2)
      refine ⟨.ref pf, rfl, .ref L, rfl, L, _, 0, .ref p0, rfl, rfl, SqL.of eL6, rfl, pf, dxf, _, .ref C_Plan, rfl, hpf, ty0, first_own, .inl ⟨pf, p0, [], S0, [], L0, S0, E0, rfl, Pf6, tw6.P0, _, rfl, ?_⟩⟩
      rw [decide_eq_true (rfl : S0 = S0)]
      refine ⟨true, rfl, iteT ?_⟩
      refine ⟨.ref L, rfl, L, _, 0, .ref p0, rfl, rfl, SqL.of eL6, rfl, v, rfl, p0, dx0, _, _, rfl, hp0, dv.ty, first_ty dd, .inr ⟨p0, v, dd, rfl, dv, _, rfl, true, rfl, iteT ?_⟩⟩
      exact ⟨.ref L, rfl, L, _, 0, .ref p0, rfl, rfl, SqL.of eL6, rfl, v, rfl, p0, dx0, _, _, rfl, hp0, dv.ty, first_ty dd, .inr ⟨p0, v, dd, rfl, dv, _, rfl, false, rfl, q H6⟩⟩

end
theorem all_mk {l : PySem.W.OpenLaw} {w : World} {K : PySem.W.Frag} {h : Heap} {mg : Str → Option Value} {fa f1 f2 f3 f4 f5 f6 f7 f8 f9 f10 f11 f12 f13 f14 f15 f16 f17 f18 f19 f20 f21 f22 f23 f24 f25 f26 f27 f28 f29 f30 f31 f32 f33 f34 f35 f36 f37 f38 f39 f40 f41 f42 f43 f44 f45 f46 f47 f48 f49 f50 C_Plan X_TooWide X_NotGenerated X_TooMany X_BadTargets X_BadInterval X_Duplicate X_BadEdit X_Rejected X_BadText X_Unknown X_NoVersion X_OutOfRange X_SpanError X_BadPieces X_TooManyEdits X_NothingToUndo X_BadEdits X_Busy kD31 kD32 : Addr} (X : K.In h) (G : h.Ns mainGlobals mg) (hfa : mg "law" = some (.ref fa))
    {od1 an1 od2 an2 od3 an3 od4 an4 od5 an5 od6 an6 od7 an7 od8 an8 od9 an9 od10 an10 od11 an11 od12 an12 od13 an13 od14 an14 od15 an15 od16 an16 od17 an17 od18 an18 od19 an19 od20 an20 od21 an21 od22 an22 od23 an23 od24 an24 od25 an25 od26 an26 od27 an27 od28 an28 od29 an29 od30 an30 od31 an31 od32 an32 od33 an33 od34 an34 od35 an35 od36 an36 od37 an37 od38 an38 od39 an39 od40 an40 od41 an41 od42 an42 od43 an43 od44 an44 od45 an45 od46 an46 od47 an47 od48 an48 od49 an49 od50 an50 : Option Addr} {sl1 sl2 sl3 sl4 sl5 sl6 sl7 sl8 sl9 sl10 sl11 sl12 sl13 sl14 sl15 sl16 sl17 sl18 sl19 sl20 sl21 sl22 sl23 sl24 sl25 sl26 sl27 sl28 sl29 sl30 sl31 sl32 sl33 sl34 sl35 sl36 sl37 sl38 sl39 sl40 sl41 sl42 sl43 sl44 sl45 sl46 sl47 sl48 sl49 sl50 : Array (Option Value)} {oc1 kV1 dc1 pm1 cd1 ct1 oc2 kV2 dc2 pm2 cd2 ct2 oc3 kV3 dc3 pm3 cd3 ct3 oc4 kV4 dc4 pm4 cd4 ct4 oc5 kV5 dc5 pm5 cd5 ct5 oc6 kV6 dc6 pm6 cd6 ct6 oc7 kV7 dc7 pm7 cd7 ct7 oc8 kV8 dc8 pm8 cd8 ct8 oc9 kV9 dc9 pm9 cd9 ct9 oc10 kV10 dc10 pm10 cd10 ct10 oc11 kV11 dc11 pm11 cd11 ct11 oc12 kV12 dc12 pm12 cd12 ct12 oc13 kV13 dc13 pm13 cd13 ct13 oc14 kV14 dc14 pm14 cd14 ct14 oc15 kV15 dc15 pm15 cd15 ct15 oc16 kV16 dc16 pm16 cd16 ct16 oc17 kV17 dc17 pm17 cd17 ct17 oc18 kV18 dc18 pm18 cd18 ct18 oc19 kV19 dc19 pm19 cd19 ct19 oc20 kV20 dc20 pm20 cd20 ct20 oc21 kV21 dc21 pm21 cd21 ct21 oc22 kV22 dc22 pm22 cd22 ct22 oc23 kV23 dc23 pm23 cd23 ct23 oc24 kV24 dc24 pm24 cd24 ct24 oc25 kV25 dc25 pm25 cd25 ct25 oc26 kV26 dc26 pm26 cd26 ct26 oc27 kV27 dc27 pm27 cd27 ct27 oc28 kV28 dc28 pm28 cd28 ct28 oc29 kV29 dc29 pm29 cd29 ct29 oc30 kV30 dc30 pm30 cd30 ct30 oc31 dc31 pm31 cd31 ct31 oc32 dc32 pm32 cd32 ct32 oc33 kV33 dc33 pm33 cd33 ct33 oc34 kV34 dc34 pm34 cd34 ct34 oc35 kV35 dc35 pm35 cd35 ct35 oc36 kV36 dc36 pm36 cd36 ct36 oc37 kV37 dc37 pm37 cd37 ct37 oc38 kV38 dc38 pm38 cd38 ct38 oc39 kV39 dc39 pm39 cd39 ct39 oc40 kV40 dc40 pm40 cd40 ct40 oc41 kV41 dc41 pm41 cd41 ct41 oc42 kV42 dc42 pm42 cd42 ct42 oc43 kV43 dc43 pm43 cd43 ct43 oc44 kV44 dc44 pm44 cd44 ct44 oc45 kV45 dc45 pm45 cd45 ct45 oc46 kV46 dc46 pm46 cd46 ct46 oc47 kV47 dc47 pm47 cd47 ct47 oc48 kV48 dc48 pm48 cd48 ct48 oc49 kV49 dc49 pm49 cd49 ct49 oc50 kV50 dc50 pm50 cd50 ct50 : Value} {tk0 tk1 tk2 tk3 : Tok}
    (a1 : PySem.W.nsIn K mainGlobals "is_number" = some (some (.ref f1))) (l1 : K.lookup f1 = some ⟨oc1, od1, .func (PySem.W.fnOf "is_number" "is_number" (defArgs s_is_number) (defBody s_is_number) (defScope s_is_number) .none kV1 dc1 pm1 an1 cd1 ct1), sl1⟩) (c1 : PySem.W.codeIn K cd1 "is_number" = true) (k1 : PySem.W.keepIn K (.ref f1) = true)
    (a2 : PySem.W.nsIn K mainGlobals "is_position" = some (some (.ref f2))) (l2 : K.lookup f2 = some ⟨oc2, od2, .func (PySem.W.fnOf "is_position" "is_position" (defArgs s_is_position) (defBody s_is_position) (defScope s_is_position) .none kV2 dc2 pm2 an2 cd2 ct2), sl2⟩) (c2 : PySem.W.codeIn K cd2 "is_position" = true) (k2 : PySem.W.keepIn K (.ref f2) = true)
    (a3 : PySem.W.nsIn K mainGlobals "is_tuple_of" = some (some (.ref f3))) (l3 : K.lookup f3 = some ⟨oc3, od3, .func (PySem.W.fnOf "is_tuple_of" "is_tuple_of" (defArgs s_is_tuple_of) (defBody s_is_tuple_of) (defScope s_is_tuple_of) .none kV3 dc3 pm3 an3 cd3 ct3), sl3⟩) (c3 : PySem.W.codeIn K cd3 "is_tuple_of" = true) (k3 : PySem.W.keepIn K (.ref f3) = true)
    (a4 : PySem.W.nsIn K mainGlobals "is_interval" = some (some (.ref f4))) (l4 : K.lookup f4 = some ⟨oc4, od4, .func (PySem.W.fnOf "is_interval" "is_interval" (defArgs s_is_interval) (defBody s_is_interval) (defScope s_is_interval) .none kV4 dc4 pm4 an4 cd4 ct4), sl4⟩) (c4 : PySem.W.codeIn K cd4 "is_interval" = true) (k4 : PySem.W.keepIn K (.ref f4) = true)
    (a5 : PySem.W.nsIn K mainGlobals "ascending_error" = some (some (.ref f5))) (l5 : K.lookup f5 = some ⟨oc5, od5, .func (PySem.W.fnOf "ascending_error" "ascending_error" (defArgs s_ascending_error) (defBody s_ascending_error) (defScope s_ascending_error) .none kV5 dc5 pm5 an5 cd5 ct5), sl5⟩) (c5 : PySem.W.codeIn K cd5 "ascending_error" = true) (k5 : PySem.W.keepIn K (.ref f5) = true)
    (a6 : PySem.W.nsIn K mainGlobals "targets_error" = some (some (.ref f6))) (l6 : K.lookup f6 = some ⟨oc6, od6, .func (PySem.W.fnOf "targets_error" "targets_error" (defArgs s_targets_error) (defBody s_targets_error) (defScope s_targets_error) .none kV6 dc6 pm6 an6 cd6 ct6), sl6⟩) (c6 : PySem.W.codeIn K cd6 "targets_error" = true) (k6 : PySem.W.keepIn K (.ref f6) = true)
    (a7 : PySem.W.nsIn K mainGlobals "is_pieces" = some (some (.ref f7))) (l7 : K.lookup f7 = some ⟨oc7, od7, .func (PySem.W.fnOf "is_pieces" "is_pieces" (defArgs s_is_pieces) (defBody s_is_pieces) (defScope s_is_pieces) .none kV7 dc7 pm7 an7 cd7 ct7), sl7⟩) (c7 : PySem.W.codeIn K cd7 "is_pieces" = true) (k7 : PySem.W.keepIn K (.ref f7) = true)
    (a8 : PySem.W.nsIn K mainGlobals "without_item" = some (some (.ref f8))) (l8 : K.lookup f8 = some ⟨oc8, od8, .func (PySem.W.fnOf "without_item" "without_item" (defArgs s_without_item) (defBody s_without_item) (defScope s_without_item) .none kV8 dc8 pm8 an8 cd8 ct8), sl8⟩) (c8 : PySem.W.codeIn K cd8 "without_item" = true) (k8 : PySem.W.keepIn K (.ref f8) = true)
    (a9 : PySem.W.nsIn K mainGlobals "with_interval" = some (some (.ref f9))) (l9 : K.lookup f9 = some ⟨oc9, od9, .func (PySem.W.fnOf "with_interval" "with_interval" (defArgs s_with_interval) (defBody s_with_interval) (defScope s_with_interval) .none kV9 dc9 pm9 an9 cd9 ct9), sl9⟩) (c9 : PySem.W.codeIn K cd9 "with_interval" = true) (k9 : PySem.W.keepIn K (.ref f9) = true)
    (a10 : PySem.W.nsIn K mainGlobals "without_interval" = some (some (.ref f10))) (l10 : K.lookup f10 = some ⟨oc10, od10, .func (PySem.W.fnOf "without_interval" "without_interval" (defArgs s_without_interval) (defBody s_without_interval) (defScope s_without_interval) .none kV10 dc10 pm10 an10 cd10 ct10), sl10⟩) (c10 : PySem.W.codeIn K cd10 "without_interval" = true) (k10 : PySem.W.keepIn K (.ref f10) = true)
    (a11 : PySem.W.nsIn K mainGlobals "edited_state" = some (some (.ref f11))) (l11 : K.lookup f11 = some ⟨oc11, od11, .func (PySem.W.fnOf "edited_state" "edited_state" (defArgs s_edited_state) (defBody s_edited_state) (defScope s_edited_state) .none kV11 dc11 pm11 an11 cd11 ct11), sl11⟩) (c11 : PySem.W.codeIn K cd11 "edited_state" = true) (k11 : PySem.W.keepIn K (.ref f11) = true)
    (a12 : PySem.W.nsIn K mainGlobals "_law_deck" = some (some (.ref f12))) (l12 : K.lookup f12 = some ⟨oc12, od12, .func (PySem.W.fnOf "_law_deck" "_law_deck" (defArgs s_law_deck) (defBody s_law_deck) (defScope s_law_deck) .none kV12 dc12 pm12 an12 cd12 ct12), sl12⟩) (c12 : PySem.W.codeIn K cd12 "_law_deck" = true) (k12 : PySem.W.keepIn K (.ref f12) = true)
    (a13 : PySem.W.nsIn K mainGlobals "_law_draw" = some (some (.ref f13))) (l13 : K.lookup f13 = some ⟨oc13, od13, .func (PySem.W.fnOf "_law_draw" "_law_draw" (defArgs s_law_draw) (defBody s_law_draw) (defScope s_law_draw) .none kV13 dc13 pm13 an13 cd13 ct13), sl13⟩) (c13 : PySem.W.codeIn K cd13 "_law_draw" = true) (k13 : PySem.W.keepIn K (.ref f13) = true)
    (a14 : PySem.W.nsIn K mainGlobals "_law_line" = some (some (.ref f14))) (l14 : K.lookup f14 = some ⟨oc14, od14, .func (PySem.W.fnOf "_law_line" "_law_line" (defArgs s_law_line) (defBody s_law_line) (defScope s_law_line) .none kV14 dc14 pm14 an14 cd14 ct14), sl14⟩) (c14 : PySem.W.codeIn K cd14 "_law_line" = true) (k14 : PySem.W.keepIn K (.ref f14) = true)
    (a15 : PySem.W.nsIn K mainGlobals "_law_interval" = some (some (.ref f15))) (l15 : K.lookup f15 = some ⟨oc15, od15, .func (PySem.W.fnOf "_law_interval" "_law_interval" (defArgs s_law_interval) (defBody s_law_interval) (defScope s_law_interval) .none kV15 dc15 pm15 an15 cd15 ct15), sl15⟩) (c15 : PySem.W.codeIn K cd15 "_law_interval" = true) (k15 : PySem.W.keepIn K (.ref f15) = true)
    (a16 : PySem.W.nsIn K mainGlobals "_law_intervals" = some (some (.ref f16))) (l16 : K.lookup f16 = some ⟨oc16, od16, .func (PySem.W.fnOf "_law_intervals" "_law_intervals" (defArgs s_law_intervals) (defBody s_law_intervals) (defScope s_law_intervals) .none kV16 dc16 pm16 an16 cd16 ct16), sl16⟩) (c16 : PySem.W.codeIn K cd16 "_law_intervals" = true) (k16 : PySem.W.keepIn K (.ref f16) = true)
    (a17 : PySem.W.nsIn K mainGlobals "_law_edit" = some (some (.ref f17))) (l17 : K.lookup f17 = some ⟨oc17, od17, .func (PySem.W.fnOf "_law_edit" "_law_edit" (defArgs s_law_edit) (defBody s_law_edit) (defScope s_law_edit) .none kV17 dc17 pm17 an17 cd17 ct17), sl17⟩) (c17 : PySem.W.codeIn K cd17 "_law_edit" = true) (k17 : PySem.W.keepIn K (.ref f17) = true)
    (a18 : PySem.W.nsIn K mainGlobals "_law_after" = some (some (.ref f18))) (l18 : K.lookup f18 = some ⟨oc18, od18, .func (PySem.W.fnOf "_law_after" "_law_after" (defArgs s_law_after) (defBody s_law_after) (defScope s_law_after) .none kV18 dc18 pm18 an18 cd18 ct18), sl18⟩) (c18 : PySem.W.codeIn K cd18 "_law_after" = true) (k18 : PySem.W.keepIn K (.ref f18) = true)
    (a19 : PySem.W.nsIn K mainGlobals "_law_do" = some (some (.ref f19))) (l19 : K.lookup f19 = some ⟨oc19, od19, .func (PySem.W.fnOf "_law_do" "_law_do" (defArgs s_law_do) (defBody s_law_do) (defScope s_law_do) .none kV19 dc19 pm19 an19 cd19 ct19), sl19⟩) (c19 : PySem.W.codeIn K cd19 "_law_do" = true) (k19 : PySem.W.keepIn K (.ref f19) = true)
    (a20 : PySem.W.nsIn K mainGlobals "_law_begun" = some (some (.ref f20))) (l20 : K.lookup f20 = some ⟨oc20, od20, .func (PySem.W.fnOf "_law_begun" "_law_begun" (defArgs s_law_begun) (defBody s_law_begun) (defScope s_law_begun) .none kV20 dc20 pm20 an20 cd20 ct20), sl20⟩) (c20 : PySem.W.codeIn K cd20 "_law_begun" = true) (k20 : PySem.W.keepIn K (.ref f20) = true)
    (a21 : PySem.W.nsIn K mainGlobals "_law_flags" = some (some (.ref f21))) (l21 : K.lookup f21 = some ⟨oc21, od21, .func (PySem.W.fnOf "_law_flags" "_law_flags" (defArgs s_law_flags) (defBody s_law_flags) (defScope s_law_flags) .none kV21 dc21 pm21 an21 cd21 ct21), sl21⟩) (c21 : PySem.W.codeIn K cd21 "_law_flags" = true) (k21 : PySem.W.keepIn K (.ref f21) = true)
    (a22 : PySem.W.nsIn K mainGlobals "_law_errors_right" = some (some (.ref f22))) (l22 : K.lookup f22 = some ⟨oc22, od22, .func (PySem.W.fnOf "_law_errors_right" "_law_errors_right" (defArgs s_law_errors_right) (defBody s_law_errors_right) (defScope s_law_errors_right) .none kV22 dc22 pm22 an22 cd22 ct22), sl22⟩) (c22 : PySem.W.codeIn K cd22 "_law_errors_right" = true) (k22 : PySem.W.keepIn K (.ref f22) = true)
    (a23 : PySem.W.nsIn K mainGlobals "_law_edited" = some (some (.ref f23))) (l23 : K.lookup f23 = some ⟨oc23, od23, .func (PySem.W.fnOf "_law_edited" "_law_edited" (defArgs s_law_edited) (defBody s_law_edited) (defScope s_law_edited) .none kV23 dc23 pm23 an23 cd23 ct23), sl23⟩) (c23 : PySem.W.codeIn K cd23 "_law_edited" = true) (k23 : PySem.W.keepIn K (.ref f23) = true)
    (a24 : PySem.W.nsIn K mainGlobals "law" = some (some (.ref f24))) (l24 : K.lookup f24 = some ⟨oc24, od24, .func (PySem.W.fnOf "law" "law" (defArgs s_law) (defBody s_law) (defScope s_law) .none kV24 dc24 pm24 an24 cd24 ct24), sl24⟩) (c24 : PySem.W.codeIn K cd24 "law" = true) (k24 : PySem.W.keepIn K (.ref f24) = true)
    (a25 : PySem.W.findIn K (.ref C_Plan) "__init__" = some (some (.ref f25))) (i25 : PySem.W.isFn K (.ref f25) = true) (l25 : K.lookup f25 = some ⟨oc25, od25, .func (PySem.W.fnOf "__init__" "Plan.__init__" (defArgs s_Plan_init) (defBody s_Plan_init) (defScope s_Plan_init) .none kV25 dc25 pm25 an25 cd25 ct25), sl25⟩) (c25 : PySem.W.codeIn K cd25 "Plan.__init__" = true) (k25 : PySem.W.keepIn K (.ref f25) = true)
    (a26 : PySem.W.findIn K (.ref C_Plan) "add_target" = some (some (.ref f26))) (i26 : PySem.W.isFn K (.ref f26) = true) (l26 : K.lookup f26 = some ⟨oc26, od26, .func (PySem.W.fnOf "add_target" "Plan.add_target" (defArgs s_Plan_add_target) (defBody s_Plan_add_target) (defScope s_Plan_add_target) .none kV26 dc26 pm26 an26 cd26 ct26), sl26⟩) (c26 : PySem.W.codeIn K cd26 "Plan.add_target" = true) (k26 : PySem.W.keepIn K (.ref f26) = true)
    (a27 : PySem.W.findIn K (.ref C_Plan) "add_piece" = some (some (.ref f27))) (i27 : PySem.W.isFn K (.ref f27) = true) (l27 : K.lookup f27 = some ⟨oc27, od27, .func (PySem.W.fnOf "add_piece" "Plan.add_piece" (defArgs s_Plan_add_piece) (defBody s_Plan_add_piece) (defScope s_Plan_add_piece) .none kV27 dc27 pm27 an27 cd27 ct27), sl27⟩) (c27 : PySem.W.codeIn K cd27 "Plan.add_piece" = true) (k27 : PySem.W.keepIn K (.ref f27) = true)
    (a28 : PySem.W.findIn K (.ref C_Plan) "remove_target" = some (some (.ref f28))) (i28 : PySem.W.isFn K (.ref f28) = true) (l28 : K.lookup f28 = some ⟨oc28, od28, .func (PySem.W.fnOf "remove_target" "Plan.remove_target" (defArgs s_Plan_remove_target) (defBody s_Plan_remove_target) (defScope s_Plan_remove_target) .none kV28 dc28 pm28 an28 cd28 ct28), sl28⟩) (c28 : PySem.W.codeIn K cd28 "Plan.remove_target" = true) (k28 : PySem.W.keepIn K (.ref f28) = true)
    (a29 : PySem.W.findIn K (.ref C_Plan) "remove_piece" = some (some (.ref f29))) (i29 : PySem.W.isFn K (.ref f29) = true) (l29 : K.lookup f29 = some ⟨oc29, od29, .func (PySem.W.fnOf "remove_piece" "Plan.remove_piece" (defArgs s_Plan_remove_piece) (defBody s_Plan_remove_piece) (defScope s_Plan_remove_piece) .none kV29 dc29 pm29 an29 cd29 ct29), sl29⟩) (c29 : PySem.W.codeIn K cd29 "Plan.remove_piece" = true) (k29 : PySem.W.keepIn K (.ref f29) = true)
    (a30 : PySem.W.findIn K (.ref C_Plan) "undo" = some (some (.ref f30))) (i30 : PySem.W.isFn K (.ref f30) = true) (l30 : K.lookup f30 = some ⟨oc30, od30, .func (PySem.W.fnOf "undo" "Plan.undo" (defArgs s_Plan_undo) (defBody s_Plan_undo) (defScope s_Plan_undo) .none kV30 dc30 pm30 an30 cd30 ct30), sl30⟩) (c30 : PySem.W.codeIn K cd30 "Plan.undo" = true) (k30 : PySem.W.keepIn K (.ref f30) = true)
    (a31 : PySem.W.findIn K (.ref C_Plan) "targets" = some (some (.ref f31))) (i31 : PySem.W.isFn K (.ref f31) = true) (l31 : K.lookup f31 = some ⟨oc31, od31, .func (PySem.W.fnOf "targets" "Plan.targets" (defArgs s_Plan_targets) (defBody s_Plan_targets) (defScope s_Plan_targets) .none (.ref kD31) dc31 pm31 an31 cd31 ct31), sl31⟩) (c31 : PySem.W.codeIn K cd31 "Plan.targets" = true) (k31 : PySem.W.keepIn K (.ref f31) = true)
    (q31 : PySem.W.nsIn K kD31 "version" = some (some .none))
    (a32 : PySem.W.findIn K (.ref C_Plan) "pieces" = some (some (.ref f32))) (i32 : PySem.W.isFn K (.ref f32) = true) (l32 : K.lookup f32 = some ⟨oc32, od32, .func (PySem.W.fnOf "pieces" "Plan.pieces" (defArgs s_Plan_pieces) (defBody s_Plan_pieces) (defScope s_Plan_pieces) .none (.ref kD32) dc32 pm32 an32 cd32 ct32), sl32⟩) (c32 : PySem.W.codeIn K cd32 "Plan.pieces" = true) (k32 : PySem.W.keepIn K (.ref f32) = true)
    (q32 : PySem.W.nsIn K kD32 "version" = some (some .none))
    (a33 : PySem.W.findIn K (.ref C_Plan) "edits" = some (some (.ref f33))) (i33 : PySem.W.isFn K (.ref f33) = true) (l33 : K.lookup f33 = some ⟨oc33, od33, .func (PySem.W.fnOf "edits" "Plan.edits" (defArgs s_Plan_edits) (defBody s_Plan_edits) (defScope s_Plan_edits) .none kV33 dc33 pm33 an33 cd33 ct33), sl33⟩) (c33 : PySem.W.codeIn K cd33 "Plan.edits" = true) (k33 : PySem.W.keepIn K (.ref f33) = true)
    (a34 : PySem.W.findIn K (.ref C_Plan) "edit" = some (some (.ref f34))) (i34 : PySem.W.isFn K (.ref f34) = true) (l34 : K.lookup f34 = some ⟨oc34, od34, .func (PySem.W.fnOf "edit" "Plan.edit" (defArgs s_Plan_edit) (defBody s_Plan_edit) (defScope s_Plan_edit) .none kV34 dc34 pm34 an34 cd34 ct34), sl34⟩) (c34 : PySem.W.codeIn K cd34 "Plan.edit" = true) (k34 : PySem.W.keepIn K (.ref f34) = true)
    (a35 : PySem.W.findIn K (.ref C_Plan) "record" = some (some (.ref f35))) (i35 : PySem.W.isFn K (.ref f35) = true) (l35 : K.lookup f35 = some ⟨oc35, od35, .func (PySem.W.fnOf "record" "Plan.record" (defArgs s_Plan_record) (defBody s_Plan_record) (defScope s_Plan_record) .none kV35 dc35 pm35 an35 cd35 ct35), sl35⟩) (c35 : PySem.W.codeIn K cd35 "Plan.record" = true) (k35 : PySem.W.keepIn K (.ref f35) = true)
    (a36 : PySem.W.findIn K (.ref C_Plan) "require_idle" = some (some (.ref f36))) (i36 : PySem.W.isFn K (.ref f36) = true) (l36 : K.lookup f36 = some ⟨oc36, od36, .func (PySem.W.fnOf "require_idle" "Plan.require_idle" (defArgs s_Plan_require_idle) (defBody s_Plan_require_idle) (defScope s_Plan_require_idle) .none kV36 dc36 pm36 an36 cd36 ct36), sl36⟩) (c36 : PySem.W.codeIn K cd36 "Plan.require_idle" = true) (k36 : PySem.W.keepIn K (.ref f36) = true)
    (a37 : PySem.W.findIn K (.ref C_Plan) "state_at" = some (some (.ref f37))) (i37 : PySem.W.isFn K (.ref f37) = true) (l37 : K.lookup f37 = some ⟨oc37, od37, .func (PySem.W.fnOf "state_at" "Plan.state_at" (defArgs s_Plan_state_at) (defBody s_Plan_state_at) (defScope s_Plan_state_at) .none kV37 dc37 pm37 an37 cd37 ct37), sl37⟩) (c37 : PySem.W.codeIn K cd37 "Plan.state_at" = true) (k37 : PySem.W.keepIn K (.ref f37) = true)
    (a38 : PySem.W.findIn K (.ref C_Plan) "__len__" = some (some (.ref f38))) (i38 : PySem.W.isFn K (.ref f38) = true) (l38 : K.lookup f38 = some ⟨oc38, od38, .func (PySem.W.fnOf "__len__" "Plan.__len__" (defArgs s_Plan_len) (defBody s_Plan_len) (defScope s_Plan_len) .none kV38 dc38 pm38 an38 cd38 ct38), sl38⟩) (c38 : PySem.W.codeIn K cd38 "Plan.__len__" = true) (k38 : PySem.W.keepIn K (.ref f38) = true)
    (a39 : PySem.W.findIn K (.ref C_Plan) "__eq__" = some (some (.ref f39))) (i39 : PySem.W.isFn K (.ref f39) = true) (l39 : K.lookup f39 = some ⟨oc39, od39, .func (PySem.W.fnOf "__eq__" "Plan.__eq__" (defArgs s_Plan_eq) (defBody s_Plan_eq) (defScope s_Plan_eq) .none kV39 dc39 pm39 an39 cd39 ct39), sl39⟩) (c39 : PySem.W.codeIn K cd39 "Plan.__eq__" = true) (k39 : PySem.W.keepIn K (.ref f39) = true)
    (a40 : PySem.W.findIn K (.ref X_TooWide) "__init__" = some (some (.ref f40))) (i40 : PySem.W.isFn K (.ref f40) = true) (l40 : K.lookup f40 = some ⟨oc40, od40, .func (PySem.W.fnOf "__init__" "TooWide.__init__" (defArgs s_TooWide_init) (defBody s_TooWide_init) (defScope s_TooWide_init) .none kV40 dc40 pm40 an40 cd40 ct40), sl40⟩) (c40 : PySem.W.codeIn K cd40 "TooWide.__init__" = true) (k40 : PySem.W.keepIn K (.ref f40) = true)
    (a41 : PySem.W.findIn K (.ref X_NotGenerated) "__init__" = some (some (.ref f41))) (i41 : PySem.W.isFn K (.ref f41) = true) (l41 : K.lookup f41 = some ⟨oc41, od41, .func (PySem.W.fnOf "__init__" "NotGenerated.__init__" (defArgs s_NotGenerated_init) (defBody s_NotGenerated_init) (defScope s_NotGenerated_init) .none kV41 dc41 pm41 an41 cd41 ct41), sl41⟩) (c41 : PySem.W.codeIn K cd41 "NotGenerated.__init__" = true) (k41 : PySem.W.keepIn K (.ref f41) = true)
    (a42 : PySem.W.findIn K (.ref X_TooMany) "__init__" = some (some (.ref f42))) (i42 : PySem.W.isFn K (.ref f42) = true) (l42 : K.lookup f42 = some ⟨oc42, od42, .func (PySem.W.fnOf "__init__" "TooMany.__init__" (defArgs s_TooMany_init) (defBody s_TooMany_init) (defScope s_TooMany_init) .none kV42 dc42 pm42 an42 cd42 ct42), sl42⟩) (c42 : PySem.W.codeIn K cd42 "TooMany.__init__" = true) (k42 : PySem.W.keepIn K (.ref f42) = true)
    (a43 : PySem.W.findIn K (.ref X_BadTargets) "__init__" = some (some (.ref f43))) (i43 : PySem.W.isFn K (.ref f43) = true) (l43 : K.lookup f43 = some ⟨oc43, od43, .func (PySem.W.fnOf "__init__" "BadTargets.__init__" (defArgs s_BadTargets_init) (defBody s_BadTargets_init) (defScope s_BadTargets_init) .none kV43 dc43 pm43 an43 cd43 ct43), sl43⟩) (c43 : PySem.W.codeIn K cd43 "BadTargets.__init__" = true) (k43 : PySem.W.keepIn K (.ref f43) = true)
    (a44 : PySem.W.findIn K (.ref X_BadInterval) "__init__" = some (some (.ref f44))) (i44 : PySem.W.isFn K (.ref f44) = true) (l44 : K.lookup f44 = some ⟨oc44, od44, .func (PySem.W.fnOf "__init__" "BadInterval.__init__" (defArgs s_BadInterval_init) (defBody s_BadInterval_init) (defScope s_BadInterval_init) .none kV44 dc44 pm44 an44 cd44 ct44), sl44⟩) (c44 : PySem.W.codeIn K cd44 "BadInterval.__init__" = true) (k44 : PySem.W.keepIn K (.ref f44) = true)
    (a45 : PySem.W.findIn K (.ref X_Duplicate) "__init__" = some (some (.ref f45))) (i45 : PySem.W.isFn K (.ref f45) = true) (l45 : K.lookup f45 = some ⟨oc45, od45, .func (PySem.W.fnOf "__init__" "Duplicate.__init__" (defArgs s_Duplicate_init) (defBody s_Duplicate_init) (defScope s_Duplicate_init) .none kV45 dc45 pm45 an45 cd45 ct45), sl45⟩) (c45 : PySem.W.codeIn K cd45 "Duplicate.__init__" = true) (k45 : PySem.W.keepIn K (.ref f45) = true)
    (a46 : PySem.W.findIn K (.ref X_BadEdit) "__init__" = some (some (.ref f46))) (i46 : PySem.W.isFn K (.ref f46) = true) (l46 : K.lookup f46 = some ⟨oc46, od46, .func (PySem.W.fnOf "__init__" "BadEdit.__init__" (defArgs s_BadEdit_init) (defBody s_BadEdit_init) (defScope s_BadEdit_init) .none kV46 dc46 pm46 an46 cd46 ct46), sl46⟩) (c46 : PySem.W.codeIn K cd46 "BadEdit.__init__" = true) (k46 : PySem.W.keepIn K (.ref f46) = true)
    (a47 : PySem.W.findIn K (.ref X_Rejected) "__init__" = some (some (.ref f47))) (i47 : PySem.W.isFn K (.ref f47) = true) (l47 : K.lookup f47 = some ⟨oc47, od47, .func (PySem.W.fnOf "__init__" "Rejected.__init__" (defArgs s_Rejected_init) (defBody s_Rejected_init) (defScope s_Rejected_init) .none kV47 dc47 pm47 an47 cd47 ct47), sl47⟩) (c47 : PySem.W.codeIn K cd47 "Rejected.__init__" = true) (k47 : PySem.W.keepIn K (.ref f47) = true)
    (a48 : PySem.W.findIn K (.ref X_BadText) "__init__" = some (some (.ref f48))) (i48 : PySem.W.isFn K (.ref f48) = true) (l48 : K.lookup f48 = some ⟨oc48, od48, .func (PySem.W.fnOf "__init__" "BadText.__init__" (defArgs s_BadText_init) (defBody s_BadText_init) (defScope s_BadText_init) .none kV48 dc48 pm48 an48 cd48 ct48), sl48⟩) (c48 : PySem.W.codeIn K cd48 "BadText.__init__" = true) (k48 : PySem.W.keepIn K (.ref f48) = true)
    (a49 : PySem.W.findIn K (.ref X_Unknown) "__init__" = some (some (.ref f49))) (i49 : PySem.W.isFn K (.ref f49) = true) (l49 : K.lookup f49 = some ⟨oc49, od49, .func (PySem.W.fnOf "__init__" "Unknown.__init__" (defArgs s_Unknown_init) (defBody s_Unknown_init) (defScope s_Unknown_init) .none kV49 dc49 pm49 an49 cd49 ct49), sl49⟩) (c49 : PySem.W.codeIn K cd49 "Unknown.__init__" = true) (k49 : PySem.W.keepIn K (.ref f49) = true)
    (a50 : PySem.W.findIn K (.ref X_NoVersion) "__init__" = some (some (.ref f50))) (i50 : PySem.W.isFn K (.ref f50) = true) (l50 : K.lookup f50 = some ⟨oc50, od50, .func (PySem.W.fnOf "__init__" "NoVersion.__init__" (defArgs s_NoVersion_init) (defBody s_NoVersion_init) (defScope s_NoVersion_init) .none kV50 dc50 pm50 an50 cd50 ct50), sl50⟩) (c50 : PySem.W.codeIn K cd50 "NoVersion.__init__" = true) (k50 : PySem.W.keepIn K (.ref f50) = true)
    (aC_Plan : PySem.W.nsIn K mainGlobals "Plan" = some (some (.ref C_Plan))) (pg_Plan : PySem.W.plainGet K C_Plan Str.empty = true) (hd_Plan : PySem.W.hasDictIn K C_Plan = true) (po_Plan : PySem.W.plainOver K C_Plan = true) (sa_Plan : PySem.W.findIn K (.ref C_Plan) "__setattr__" = some (some (.builtin "object.__setattr__"))) (mk_Plan : PySem.W.makesIn K C_Plan = true) (kc_Plan : PySem.W.keepIn K (.ref C_Plan) = true) (n_states_Plan : PySem.W.findIn K (.ref C_Plan) "states" = some none) (n_done_Plan : PySem.W.findIn K (.ref C_Plan) "done" = some none) (n_busy_Plan : PySem.W.findIn K (.ref C_Plan) "busy" = some none) (ia_Plan : PySem.W.findIn K (.ref C_Plan) "__class__" = some (some (.builtin "object.__class__"))) (ib_Plan : PySem.W.specialIn K (.builtin "object.__class__") "__get__" = some (some (.builtin "getset_descriptor.__get__"))) (it_Plan : PySem.W.takesIn K (.builtin "object.__class__") = some true) (im_Plan : PySem.W.mroIn K C_Plan (.type "object") = some true) (ne_Plan : PySem.W.findIn K (.ref C_Plan) "__ne__" = some (some (.builtin "object.__ne__"))) (nf_Plan : PySem.W.isClsIn K C_Plan = true) (nt_Plan : PySem.W.typeIn K (.ref C_Plan) = some (.type "type"))
    (aX_TooWide : PySem.W.nsIn K mainGlobals "TooWide" = some (some (.ref X_TooWide))) (iX_TooWide : PySem.W.isClsIn K X_TooWide = true) (tX_TooWide : PySem.W.typeIn K (.ref X_TooWide) = some (.type "type")) (bX_TooWide : PySem.W.subIn K (.ref X_TooWide) (.type "BaseException") = some true) (xG_TooWide : PySem.W.excInitIn K X_TooWide bmVE "ValueError.__new__" = true) (oG_TooWide : PySem.W.excOver K X_TooWide bmVE = true) (sX_TooWide : PySem.W.findIn K (.ref X_TooWide) "__setattr__" = some (some (.builtin "object.__setattr__"))) (kX_TooWide : PySem.W.keepIn K (.ref X_TooWide) = true) (nX_TooWide : PySem.W.findIn K (.ref X_TooWide) "bound" = some none) (fX_TooWide : PySem.W.typeIn K (.ref f40) = some (.type "function")) (gX_TooWide : PySem.W.findIn K (.ref X_TooWide) "__getattribute__" = some (some (.builtin "BaseException.__getattribute__"))) (hX_TooWide : PySem.W.findIn K (.ref X_TooWide) "__getattr__" = some none) (dX_TooWide : PySem.W.hasDictIn K X_TooWide = true) (cX_TooWide : PySem.W.findIn K (.ref X_TooWide) "__class__" = some (some (.builtin "object.__class__"))) (eX_TooWide : PySem.W.specialIn K (.builtin "object.__class__") "__get__" = some (some (.builtin "getset_descriptor.__get__"))) (uX_TooWide : PySem.W.takesIn K (.builtin "object.__class__") = some true) (mX_TooWide : PySem.W.mroIn K X_TooWide (.type "object") = some true) (vX_TooWide : PySem.W.subIn K (.ref X_TooWide) (.type "ValueError") = some true) (wX_TooWide : PySem.W.subIn K (.ref X_TooWide) (.type "LookupError") = some false)
    (aX_NotGenerated : PySem.W.nsIn K mainGlobals "NotGenerated" = some (some (.ref X_NotGenerated))) (iX_NotGenerated : PySem.W.isClsIn K X_NotGenerated = true) (tX_NotGenerated : PySem.W.typeIn K (.ref X_NotGenerated) = some (.type "type")) (bX_NotGenerated : PySem.W.subIn K (.ref X_NotGenerated) (.type "BaseException") = some true) (xG_NotGenerated : PySem.W.excInitIn K X_NotGenerated bmVE "ValueError.__new__" = true) (oG_NotGenerated : PySem.W.excOver K X_NotGenerated bmVE = true) (sX_NotGenerated : PySem.W.findIn K (.ref X_NotGenerated) "__setattr__" = some (some (.builtin "object.__setattr__"))) (kX_NotGenerated : PySem.W.keepIn K (.ref X_NotGenerated) = true) (nX_NotGenerated : PySem.W.findIn K (.ref X_NotGenerated) "demand" = some none) (fX_NotGenerated : PySem.W.typeIn K (.ref f41) = some (.type "function")) (gX_NotGenerated : PySem.W.findIn K (.ref X_NotGenerated) "__getattribute__" = some (some (.builtin "BaseException.__getattribute__"))) (hX_NotGenerated : PySem.W.findIn K (.ref X_NotGenerated) "__getattr__" = some none) (dX_NotGenerated : PySem.W.hasDictIn K X_NotGenerated = true) (cX_NotGenerated : PySem.W.findIn K (.ref X_NotGenerated) "__class__" = some (some (.builtin "object.__class__"))) (eX_NotGenerated : PySem.W.specialIn K (.builtin "object.__class__") "__get__" = some (some (.builtin "getset_descriptor.__get__"))) (uX_NotGenerated : PySem.W.takesIn K (.builtin "object.__class__") = some true) (mX_NotGenerated : PySem.W.mroIn K X_NotGenerated (.type "object") = some true) (vX_NotGenerated : PySem.W.subIn K (.ref X_NotGenerated) (.type "ValueError") = some true) (wX_NotGenerated : PySem.W.subIn K (.ref X_NotGenerated) (.type "LookupError") = some false)
    (aX_TooMany : PySem.W.nsIn K mainGlobals "TooMany" = some (some (.ref X_TooMany))) (iX_TooMany : PySem.W.isClsIn K X_TooMany = true) (tX_TooMany : PySem.W.typeIn K (.ref X_TooMany) = some (.type "type")) (bX_TooMany : PySem.W.subIn K (.ref X_TooMany) (.type "BaseException") = some true) (xG_TooMany : PySem.W.excInitIn K X_TooMany bmVE "ValueError.__new__" = true) (oG_TooMany : PySem.W.excOver K X_TooMany bmVE = true) (sX_TooMany : PySem.W.findIn K (.ref X_TooMany) "__setattr__" = some (some (.builtin "object.__setattr__"))) (kX_TooMany : PySem.W.keepIn K (.ref X_TooMany) = true) (nX_TooMany : PySem.W.findIn K (.ref X_TooMany) "bound" = some none) (fX_TooMany : PySem.W.typeIn K (.ref f42) = some (.type "function")) (gX_TooMany : PySem.W.findIn K (.ref X_TooMany) "__getattribute__" = some (some (.builtin "BaseException.__getattribute__"))) (hX_TooMany : PySem.W.findIn K (.ref X_TooMany) "__getattr__" = some none) (dX_TooMany : PySem.W.hasDictIn K X_TooMany = true) (cX_TooMany : PySem.W.findIn K (.ref X_TooMany) "__class__" = some (some (.builtin "object.__class__"))) (eX_TooMany : PySem.W.specialIn K (.builtin "object.__class__") "__get__" = some (some (.builtin "getset_descriptor.__get__"))) (uX_TooMany : PySem.W.takesIn K (.builtin "object.__class__") = some true) (mX_TooMany : PySem.W.mroIn K X_TooMany (.type "object") = some true) (vX_TooMany : PySem.W.subIn K (.ref X_TooMany) (.type "ValueError") = some true) (wX_TooMany : PySem.W.subIn K (.ref X_TooMany) (.type "LookupError") = some false)
    (aX_BadTargets : PySem.W.nsIn K mainGlobals "BadTargets" = some (some (.ref X_BadTargets))) (iX_BadTargets : PySem.W.isClsIn K X_BadTargets = true) (tX_BadTargets : PySem.W.typeIn K (.ref X_BadTargets) = some (.type "type")) (bX_BadTargets : PySem.W.subIn K (.ref X_BadTargets) (.type "BaseException") = some true) (xG_BadTargets : PySem.W.excInitIn K X_BadTargets bmVE "ValueError.__new__" = true) (oG_BadTargets : PySem.W.excOver K X_BadTargets bmVE = true) (sX_BadTargets : PySem.W.findIn K (.ref X_BadTargets) "__setattr__" = some (some (.builtin "object.__setattr__"))) (kX_BadTargets : PySem.W.keepIn K (.ref X_BadTargets) = true) (nX_BadTargets : PySem.W.findIn K (.ref X_BadTargets) "error" = some none) (fX_BadTargets : PySem.W.typeIn K (.ref f43) = some (.type "function")) (gX_BadTargets : PySem.W.findIn K (.ref X_BadTargets) "__getattribute__" = some (some (.builtin "BaseException.__getattribute__"))) (hX_BadTargets : PySem.W.findIn K (.ref X_BadTargets) "__getattr__" = some none) (dX_BadTargets : PySem.W.hasDictIn K X_BadTargets = true) (cX_BadTargets : PySem.W.findIn K (.ref X_BadTargets) "__class__" = some (some (.builtin "object.__class__"))) (eX_BadTargets : PySem.W.specialIn K (.builtin "object.__class__") "__get__" = some (some (.builtin "getset_descriptor.__get__"))) (uX_BadTargets : PySem.W.takesIn K (.builtin "object.__class__") = some true) (mX_BadTargets : PySem.W.mroIn K X_BadTargets (.type "object") = some true) (vX_BadTargets : PySem.W.subIn K (.ref X_BadTargets) (.type "ValueError") = some true) (wX_BadTargets : PySem.W.subIn K (.ref X_BadTargets) (.type "LookupError") = some false)
    (aX_BadInterval : PySem.W.nsIn K mainGlobals "BadInterval" = some (some (.ref X_BadInterval))) (iX_BadInterval : PySem.W.isClsIn K X_BadInterval = true) (tX_BadInterval : PySem.W.typeIn K (.ref X_BadInterval) = some (.type "type")) (bX_BadInterval : PySem.W.subIn K (.ref X_BadInterval) (.type "BaseException") = some true) (xG_BadInterval : PySem.W.excInitIn K X_BadInterval bmVE "ValueError.__new__" = true) (oG_BadInterval : PySem.W.excOver K X_BadInterval bmVE = true) (sX_BadInterval : PySem.W.findIn K (.ref X_BadInterval) "__setattr__" = some (some (.builtin "object.__setattr__"))) (kX_BadInterval : PySem.W.keepIn K (.ref X_BadInterval) = true) (nX_BadInterval : PySem.W.findIn K (.ref X_BadInterval) "value" = some none) (fX_BadInterval : PySem.W.typeIn K (.ref f44) = some (.type "function")) (gX_BadInterval : PySem.W.findIn K (.ref X_BadInterval) "__getattribute__" = some (some (.builtin "BaseException.__getattribute__"))) (hX_BadInterval : PySem.W.findIn K (.ref X_BadInterval) "__getattr__" = some none) (dX_BadInterval : PySem.W.hasDictIn K X_BadInterval = true) (cX_BadInterval : PySem.W.findIn K (.ref X_BadInterval) "__class__" = some (some (.builtin "object.__class__"))) (eX_BadInterval : PySem.W.specialIn K (.builtin "object.__class__") "__get__" = some (some (.builtin "getset_descriptor.__get__"))) (uX_BadInterval : PySem.W.takesIn K (.builtin "object.__class__") = some true) (mX_BadInterval : PySem.W.mroIn K X_BadInterval (.type "object") = some true) (vX_BadInterval : PySem.W.subIn K (.ref X_BadInterval) (.type "ValueError") = some true) (wX_BadInterval : PySem.W.subIn K (.ref X_BadInterval) (.type "LookupError") = some false)
    (aX_Duplicate : PySem.W.nsIn K mainGlobals "Duplicate" = some (some (.ref X_Duplicate))) (iX_Duplicate : PySem.W.isClsIn K X_Duplicate = true) (tX_Duplicate : PySem.W.typeIn K (.ref X_Duplicate) = some (.type "type")) (bX_Duplicate : PySem.W.subIn K (.ref X_Duplicate) (.type "BaseException") = some true) (xG_Duplicate : PySem.W.excInitIn K X_Duplicate bmVE "ValueError.__new__" = true) (oG_Duplicate : PySem.W.excOver K X_Duplicate bmVE = true) (sX_Duplicate : PySem.W.findIn K (.ref X_Duplicate) "__setattr__" = some (some (.builtin "object.__setattr__"))) (kX_Duplicate : PySem.W.keepIn K (.ref X_Duplicate) = true) (nX_Duplicate : PySem.W.findIn K (.ref X_Duplicate) "value" = some none) (fX_Duplicate : PySem.W.typeIn K (.ref f45) = some (.type "function")) (gX_Duplicate : PySem.W.findIn K (.ref X_Duplicate) "__getattribute__" = some (some (.builtin "BaseException.__getattribute__"))) (hX_Duplicate : PySem.W.findIn K (.ref X_Duplicate) "__getattr__" = some none) (dX_Duplicate : PySem.W.hasDictIn K X_Duplicate = true) (cX_Duplicate : PySem.W.findIn K (.ref X_Duplicate) "__class__" = some (some (.builtin "object.__class__"))) (eX_Duplicate : PySem.W.specialIn K (.builtin "object.__class__") "__get__" = some (some (.builtin "getset_descriptor.__get__"))) (uX_Duplicate : PySem.W.takesIn K (.builtin "object.__class__") = some true) (mX_Duplicate : PySem.W.mroIn K X_Duplicate (.type "object") = some true) (vX_Duplicate : PySem.W.subIn K (.ref X_Duplicate) (.type "ValueError") = some true) (wX_Duplicate : PySem.W.subIn K (.ref X_Duplicate) (.type "LookupError") = some false)
    (aX_BadEdit : PySem.W.nsIn K mainGlobals "BadEdit" = some (some (.ref X_BadEdit))) (iX_BadEdit : PySem.W.isClsIn K X_BadEdit = true) (tX_BadEdit : PySem.W.typeIn K (.ref X_BadEdit) = some (.type "type")) (bX_BadEdit : PySem.W.subIn K (.ref X_BadEdit) (.type "BaseException") = some true) (xG_BadEdit : PySem.W.excInitIn K X_BadEdit bmVE "ValueError.__new__" = true) (oG_BadEdit : PySem.W.excOver K X_BadEdit bmVE = true) (sX_BadEdit : PySem.W.findIn K (.ref X_BadEdit) "__setattr__" = some (some (.builtin "object.__setattr__"))) (kX_BadEdit : PySem.W.keepIn K (.ref X_BadEdit) = true) (nX_BadEdit : PySem.W.findIn K (.ref X_BadEdit) "index" = some none) (fX_BadEdit : PySem.W.typeIn K (.ref f46) = some (.type "function")) (gX_BadEdit : PySem.W.findIn K (.ref X_BadEdit) "__getattribute__" = some (some (.builtin "BaseException.__getattribute__"))) (hX_BadEdit : PySem.W.findIn K (.ref X_BadEdit) "__getattr__" = some none) (dX_BadEdit : PySem.W.hasDictIn K X_BadEdit = true) (cX_BadEdit : PySem.W.findIn K (.ref X_BadEdit) "__class__" = some (some (.builtin "object.__class__"))) (eX_BadEdit : PySem.W.specialIn K (.builtin "object.__class__") "__get__" = some (some (.builtin "getset_descriptor.__get__"))) (uX_BadEdit : PySem.W.takesIn K (.builtin "object.__class__") = some true) (mX_BadEdit : PySem.W.mroIn K X_BadEdit (.type "object") = some true) (vX_BadEdit : PySem.W.subIn K (.ref X_BadEdit) (.type "ValueError") = some true) (wX_BadEdit : PySem.W.subIn K (.ref X_BadEdit) (.type "LookupError") = some false)
    (aX_Rejected : PySem.W.nsIn K mainGlobals "Rejected" = some (some (.ref X_Rejected))) (iX_Rejected : PySem.W.isClsIn K X_Rejected = true) (tX_Rejected : PySem.W.typeIn K (.ref X_Rejected) = some (.type "type")) (bX_Rejected : PySem.W.subIn K (.ref X_Rejected) (.type "BaseException") = some true) (xG_Rejected : PySem.W.excInitIn K X_Rejected bmVE "ValueError.__new__" = true) (oG_Rejected : PySem.W.excOver K X_Rejected bmVE = true) (sX_Rejected : PySem.W.findIn K (.ref X_Rejected) "__setattr__" = some (some (.builtin "object.__setattr__"))) (kX_Rejected : PySem.W.keepIn K (.ref X_Rejected) = true) (nX_Rejected : PySem.W.findIn K (.ref X_Rejected) "index" = some none) (fX_Rejected : PySem.W.typeIn K (.ref f47) = some (.type "function")) (gX_Rejected : PySem.W.findIn K (.ref X_Rejected) "__getattribute__" = some (some (.builtin "BaseException.__getattribute__"))) (hX_Rejected : PySem.W.findIn K (.ref X_Rejected) "__getattr__" = some none) (dX_Rejected : PySem.W.hasDictIn K X_Rejected = true) (cX_Rejected : PySem.W.findIn K (.ref X_Rejected) "__class__" = some (some (.builtin "object.__class__"))) (eX_Rejected : PySem.W.specialIn K (.builtin "object.__class__") "__get__" = some (some (.builtin "getset_descriptor.__get__"))) (uX_Rejected : PySem.W.takesIn K (.builtin "object.__class__") = some true) (mX_Rejected : PySem.W.mroIn K X_Rejected (.type "object") = some true) (vX_Rejected : PySem.W.subIn K (.ref X_Rejected) (.type "ValueError") = some true) (wX_Rejected : PySem.W.subIn K (.ref X_Rejected) (.type "LookupError") = some false)
    (aX_BadText : PySem.W.nsIn K mainGlobals "BadText" = some (some (.ref X_BadText))) (iX_BadText : PySem.W.isClsIn K X_BadText = true) (tX_BadText : PySem.W.typeIn K (.ref X_BadText) = some (.type "type")) (bX_BadText : PySem.W.subIn K (.ref X_BadText) (.type "BaseException") = some true) (xG_BadText : PySem.W.excInitIn K X_BadText bmVE "ValueError.__new__" = true) (oG_BadText : PySem.W.excOver K X_BadText bmVE = true) (sX_BadText : PySem.W.findIn K (.ref X_BadText) "__setattr__" = some (some (.builtin "object.__setattr__"))) (kX_BadText : PySem.W.keepIn K (.ref X_BadText) = true) (nX_BadText : PySem.W.findIn K (.ref X_BadText) "index" = some none) (fX_BadText : PySem.W.typeIn K (.ref f48) = some (.type "function")) (gX_BadText : PySem.W.findIn K (.ref X_BadText) "__getattribute__" = some (some (.builtin "BaseException.__getattribute__"))) (hX_BadText : PySem.W.findIn K (.ref X_BadText) "__getattr__" = some none) (dX_BadText : PySem.W.hasDictIn K X_BadText = true) (cX_BadText : PySem.W.findIn K (.ref X_BadText) "__class__" = some (some (.builtin "object.__class__"))) (eX_BadText : PySem.W.specialIn K (.builtin "object.__class__") "__get__" = some (some (.builtin "getset_descriptor.__get__"))) (uX_BadText : PySem.W.takesIn K (.builtin "object.__class__") = some true) (mX_BadText : PySem.W.mroIn K X_BadText (.type "object") = some true) (vX_BadText : PySem.W.subIn K (.ref X_BadText) (.type "ValueError") = some true) (wX_BadText : PySem.W.subIn K (.ref X_BadText) (.type "LookupError") = some false)
    (aX_Unknown : PySem.W.nsIn K mainGlobals "Unknown" = some (some (.ref X_Unknown))) (iX_Unknown : PySem.W.isClsIn K X_Unknown = true) (tX_Unknown : PySem.W.typeIn K (.ref X_Unknown) = some (.type "type")) (bX_Unknown : PySem.W.subIn K (.ref X_Unknown) (.type "BaseException") = some true) (xG_Unknown : PySem.W.excInitIn K X_Unknown bmLE "LookupError.__new__" = true) (oG_Unknown : PySem.W.excOver K X_Unknown bmLE = true) (sX_Unknown : PySem.W.findIn K (.ref X_Unknown) "__setattr__" = some (some (.builtin "object.__setattr__"))) (kX_Unknown : PySem.W.keepIn K (.ref X_Unknown) = true) (nX_Unknown : PySem.W.findIn K (.ref X_Unknown) "value" = some none) (fX_Unknown : PySem.W.typeIn K (.ref f49) = some (.type "function")) (gX_Unknown : PySem.W.findIn K (.ref X_Unknown) "__getattribute__" = some (some (.builtin "BaseException.__getattribute__"))) (hX_Unknown : PySem.W.findIn K (.ref X_Unknown) "__getattr__" = some none) (dX_Unknown : PySem.W.hasDictIn K X_Unknown = true) (cX_Unknown : PySem.W.findIn K (.ref X_Unknown) "__class__" = some (some (.builtin "object.__class__"))) (eX_Unknown : PySem.W.specialIn K (.builtin "object.__class__") "__get__" = some (some (.builtin "getset_descriptor.__get__"))) (uX_Unknown : PySem.W.takesIn K (.builtin "object.__class__") = some true) (mX_Unknown : PySem.W.mroIn K X_Unknown (.type "object") = some true) (vX_Unknown : PySem.W.subIn K (.ref X_Unknown) (.type "ValueError") = some false) (wX_Unknown : PySem.W.subIn K (.ref X_Unknown) (.type "LookupError") = some true)
    (aX_NoVersion : PySem.W.nsIn K mainGlobals "NoVersion" = some (some (.ref X_NoVersion))) (iX_NoVersion : PySem.W.isClsIn K X_NoVersion = true) (tX_NoVersion : PySem.W.typeIn K (.ref X_NoVersion) = some (.type "type")) (bX_NoVersion : PySem.W.subIn K (.ref X_NoVersion) (.type "BaseException") = some true) (xG_NoVersion : PySem.W.excInitIn K X_NoVersion bmLE "LookupError.__new__" = true) (oG_NoVersion : PySem.W.excOver K X_NoVersion bmLE = true) (sX_NoVersion : PySem.W.findIn K (.ref X_NoVersion) "__setattr__" = some (some (.builtin "object.__setattr__"))) (kX_NoVersion : PySem.W.keepIn K (.ref X_NoVersion) = true) (nX_NoVersion : PySem.W.findIn K (.ref X_NoVersion) "value" = some none) (fX_NoVersion : PySem.W.typeIn K (.ref f50) = some (.type "function")) (gX_NoVersion : PySem.W.findIn K (.ref X_NoVersion) "__getattribute__" = some (some (.builtin "BaseException.__getattribute__"))) (hX_NoVersion : PySem.W.findIn K (.ref X_NoVersion) "__getattr__" = some none) (dX_NoVersion : PySem.W.hasDictIn K X_NoVersion = true) (cX_NoVersion : PySem.W.findIn K (.ref X_NoVersion) "__class__" = some (some (.builtin "object.__class__"))) (eX_NoVersion : PySem.W.specialIn K (.builtin "object.__class__") "__get__" = some (some (.builtin "getset_descriptor.__get__"))) (uX_NoVersion : PySem.W.takesIn K (.builtin "object.__class__") = some true) (mX_NoVersion : PySem.W.mroIn K X_NoVersion (.type "object") = some true) (vX_NoVersion : PySem.W.subIn K (.ref X_NoVersion) (.type "ValueError") = some false) (wX_NoVersion : PySem.W.subIn K (.ref X_NoVersion) (.type "LookupError") = some true)
    (aX_OutOfRange : PySem.W.nsIn K mainGlobals "OutOfRange" = some (some (.ref X_OutOfRange))) (iX_OutOfRange : PySem.W.isClsIn K X_OutOfRange = true) (tX_OutOfRange : PySem.W.typeIn K (.ref X_OutOfRange) = some (.type "type")) (bX_OutOfRange : PySem.W.subIn K (.ref X_OutOfRange) (.type "BaseException") = some true) (xX_OutOfRange : PySem.W.excIn K X_OutOfRange bmVE "ValueError.__new__" = true) (kX_OutOfRange : PySem.W.keepIn K (.ref X_OutOfRange) = true) (gX_OutOfRange : PySem.W.findIn K (.ref X_OutOfRange) "__getattribute__" = some (some (.builtin "BaseException.__getattribute__"))) (hX_OutOfRange : PySem.W.findIn K (.ref X_OutOfRange) "__getattr__" = some none) (dX_OutOfRange : PySem.W.hasDictIn K X_OutOfRange = true) (cX_OutOfRange : PySem.W.findIn K (.ref X_OutOfRange) "__class__" = some (some (.builtin "object.__class__"))) (eX_OutOfRange : PySem.W.specialIn K (.builtin "object.__class__") "__get__" = some (some (.builtin "getset_descriptor.__get__"))) (uX_OutOfRange : PySem.W.takesIn K (.builtin "object.__class__") = some true) (mX_OutOfRange : PySem.W.mroIn K X_OutOfRange (.type "object") = some true) (vX_OutOfRange : PySem.W.subIn K (.ref X_OutOfRange) (.type "ValueError") = some true)
    (aX_SpanError : PySem.W.nsIn K mainGlobals "SpanError" = some (some (.ref X_SpanError))) (iX_SpanError : PySem.W.isClsIn K X_SpanError = true) (tX_SpanError : PySem.W.typeIn K (.ref X_SpanError) = some (.type "type")) (bX_SpanError : PySem.W.subIn K (.ref X_SpanError) (.type "BaseException") = some true)
    (aX_BadPieces : PySem.W.nsIn K mainGlobals "BadPieces" = some (some (.ref X_BadPieces))) (iX_BadPieces : PySem.W.isClsIn K X_BadPieces = true) (tX_BadPieces : PySem.W.typeIn K (.ref X_BadPieces) = some (.type "type")) (bX_BadPieces : PySem.W.subIn K (.ref X_BadPieces) (.type "BaseException") = some true) (xX_BadPieces : PySem.W.excIn K X_BadPieces bmVE "ValueError.__new__" = true) (kX_BadPieces : PySem.W.keepIn K (.ref X_BadPieces) = true) (gX_BadPieces : PySem.W.findIn K (.ref X_BadPieces) "__getattribute__" = some (some (.builtin "BaseException.__getattribute__"))) (hX_BadPieces : PySem.W.findIn K (.ref X_BadPieces) "__getattr__" = some none) (dX_BadPieces : PySem.W.hasDictIn K X_BadPieces = true) (cX_BadPieces : PySem.W.findIn K (.ref X_BadPieces) "__class__" = some (some (.builtin "object.__class__"))) (eX_BadPieces : PySem.W.specialIn K (.builtin "object.__class__") "__get__" = some (some (.builtin "getset_descriptor.__get__"))) (uX_BadPieces : PySem.W.takesIn K (.builtin "object.__class__") = some true) (mX_BadPieces : PySem.W.mroIn K X_BadPieces (.type "object") = some true) (vX_BadPieces : PySem.W.subIn K (.ref X_BadPieces) (.type "ValueError") = some true)
    (aX_TooManyEdits : PySem.W.nsIn K mainGlobals "TooManyEdits" = some (some (.ref X_TooManyEdits))) (iX_TooManyEdits : PySem.W.isClsIn K X_TooManyEdits = true) (tX_TooManyEdits : PySem.W.typeIn K (.ref X_TooManyEdits) = some (.type "type")) (bX_TooManyEdits : PySem.W.subIn K (.ref X_TooManyEdits) (.type "BaseException") = some true) (xX_TooManyEdits : PySem.W.excIn K X_TooManyEdits bmVE "ValueError.__new__" = true) (kX_TooManyEdits : PySem.W.keepIn K (.ref X_TooManyEdits) = true) (gX_TooManyEdits : PySem.W.findIn K (.ref X_TooManyEdits) "__getattribute__" = some (some (.builtin "BaseException.__getattribute__"))) (hX_TooManyEdits : PySem.W.findIn K (.ref X_TooManyEdits) "__getattr__" = some none) (dX_TooManyEdits : PySem.W.hasDictIn K X_TooManyEdits = true) (cX_TooManyEdits : PySem.W.findIn K (.ref X_TooManyEdits) "__class__" = some (some (.builtin "object.__class__"))) (eX_TooManyEdits : PySem.W.specialIn K (.builtin "object.__class__") "__get__" = some (some (.builtin "getset_descriptor.__get__"))) (uX_TooManyEdits : PySem.W.takesIn K (.builtin "object.__class__") = some true) (mX_TooManyEdits : PySem.W.mroIn K X_TooManyEdits (.type "object") = some true) (vX_TooManyEdits : PySem.W.subIn K (.ref X_TooManyEdits) (.type "ValueError") = some true)
    (aX_NothingToUndo : PySem.W.nsIn K mainGlobals "NothingToUndo" = some (some (.ref X_NothingToUndo))) (iX_NothingToUndo : PySem.W.isClsIn K X_NothingToUndo = true) (tX_NothingToUndo : PySem.W.typeIn K (.ref X_NothingToUndo) = some (.type "type")) (bX_NothingToUndo : PySem.W.subIn K (.ref X_NothingToUndo) (.type "BaseException") = some true) (xX_NothingToUndo : PySem.W.excIn K X_NothingToUndo bmVE "ValueError.__new__" = true) (kX_NothingToUndo : PySem.W.keepIn K (.ref X_NothingToUndo) = true) (gX_NothingToUndo : PySem.W.findIn K (.ref X_NothingToUndo) "__getattribute__" = some (some (.builtin "BaseException.__getattribute__"))) (hX_NothingToUndo : PySem.W.findIn K (.ref X_NothingToUndo) "__getattr__" = some none) (dX_NothingToUndo : PySem.W.hasDictIn K X_NothingToUndo = true) (cX_NothingToUndo : PySem.W.findIn K (.ref X_NothingToUndo) "__class__" = some (some (.builtin "object.__class__"))) (eX_NothingToUndo : PySem.W.specialIn K (.builtin "object.__class__") "__get__" = some (some (.builtin "getset_descriptor.__get__"))) (uX_NothingToUndo : PySem.W.takesIn K (.builtin "object.__class__") = some true) (mX_NothingToUndo : PySem.W.mroIn K X_NothingToUndo (.type "object") = some true) (vX_NothingToUndo : PySem.W.subIn K (.ref X_NothingToUndo) (.type "ValueError") = some true)
    (aX_BadEdits : PySem.W.nsIn K mainGlobals "BadEdits" = some (some (.ref X_BadEdits))) (iX_BadEdits : PySem.W.isClsIn K X_BadEdits = true) (tX_BadEdits : PySem.W.typeIn K (.ref X_BadEdits) = some (.type "type")) (bX_BadEdits : PySem.W.subIn K (.ref X_BadEdits) (.type "BaseException") = some true) (xX_BadEdits : PySem.W.excIn K X_BadEdits bmVE "ValueError.__new__" = true) (kX_BadEdits : PySem.W.keepIn K (.ref X_BadEdits) = true) (gX_BadEdits : PySem.W.findIn K (.ref X_BadEdits) "__getattribute__" = some (some (.builtin "BaseException.__getattribute__"))) (hX_BadEdits : PySem.W.findIn K (.ref X_BadEdits) "__getattr__" = some none) (dX_BadEdits : PySem.W.hasDictIn K X_BadEdits = true) (cX_BadEdits : PySem.W.findIn K (.ref X_BadEdits) "__class__" = some (some (.builtin "object.__class__"))) (eX_BadEdits : PySem.W.specialIn K (.builtin "object.__class__") "__get__" = some (some (.builtin "getset_descriptor.__get__"))) (uX_BadEdits : PySem.W.takesIn K (.builtin "object.__class__") = some true) (mX_BadEdits : PySem.W.mroIn K X_BadEdits (.type "object") = some true) (vX_BadEdits : PySem.W.subIn K (.ref X_BadEdits) (.type "ValueError") = some true)
    (aX_Busy : PySem.W.nsIn K mainGlobals "Busy" = some (some (.ref X_Busy))) (iX_Busy : PySem.W.isClsIn K X_Busy = true) (tX_Busy : PySem.W.typeIn K (.ref X_Busy) = some (.type "type")) (bX_Busy : PySem.W.subIn K (.ref X_Busy) (.type "BaseException") = some true) (xX_Busy : PySem.W.excIn K X_Busy bmVE "ValueError.__new__" = true) (kX_Busy : PySem.W.keepIn K (.ref X_Busy) = true) (gX_Busy : PySem.W.findIn K (.ref X_Busy) "__getattribute__" = some (some (.builtin "BaseException.__getattribute__"))) (hX_Busy : PySem.W.findIn K (.ref X_Busy) "__getattr__" = some none) (dX_Busy : PySem.W.hasDictIn K X_Busy = true) (cX_Busy : PySem.W.findIn K (.ref X_Busy) "__class__" = some (some (.builtin "object.__class__"))) (eX_Busy : PySem.W.specialIn K (.builtin "object.__class__") "__get__" = some (some (.builtin "getset_descriptor.__get__"))) (uX_Busy : PySem.W.takesIn K (.builtin "object.__class__") = some true) (mX_Busy : PySem.W.mroIn K X_Busy (.type "object") = some true) (vX_Busy : PySem.W.subIn K (.ref X_Busy) (.type "ValueError") = some true)
    (eTab : errTab K [X_OutOfRange, X_BadPieces, X_TooManyEdits, X_NothingToUndo, X_BadEdits, X_Busy, X_TooWide, X_NotGenerated, X_TooMany, X_BadTargets, X_BadInterval, X_Duplicate, X_BadEdit, X_Rejected, X_BadText, X_Unknown, X_NoVersion] X_SpanError = true)
    (sX_OutOfRange_SpanError : PySem.W.subIn K (.ref X_OutOfRange) (.ref X_SpanError) = some true)
    (y0 : PySem.W.nsIn K mainGlobals "LAST_POSITION" = some (some (.int 1000000000000 tk0))) (y1 : PySem.W.nsIn K mainGlobals "MAX_TARGETS" = some (some (.int 24 tk1))) (y2 : PySem.W.nsIn K mainGlobals "MAX_PIECES" = some (some (.int 30 tk2))) (y3 : PySem.W.nsIn K mainGlobals "MAX_EDITS" = some (some (.int 60 tk3))) (z0 : PySem.W.nsIn K mainGlobals "LookupError" = some none) (z1 : PySem.W.nsIn K mainGlobals "ValueError" = some none) (z2 : PySem.W.nsIn K mainGlobals "abs" = some none) (z3 : PySem.W.nsIn K mainGlobals "bool" = some none) (z4 : PySem.W.nsIn K mainGlobals "enumerate" = some none) (z5 : PySem.W.nsIn K mainGlobals "int" = some none) (z6 : PySem.W.nsIn K mainGlobals "isinstance" = some none) (z7 : PySem.W.nsIn K mainGlobals "len" = some none) (z8 : PySem.W.nsIn K mainGlobals "list" = some none) (z9 : PySem.W.nsIn K mainGlobals "range" = some none) (z10 : PySem.W.nsIn K mainGlobals "repr" = some none) (z11 : PySem.W.nsIn K mainGlobals "set" = some none) (z12 : PySem.W.nsIn K mainGlobals "sorted" = some none) (z13 : PySem.W.nsIn K mainGlobals "tuple" = some none) :
    ∃ fd : FuncData, (∀ (s : Shared) (v : Value), BindsTo s fd ⟨[v], []⟩ [("_law_script", v)]) ∧ ∀ base : Heap, K.In base → base.Ns mainGlobals mg → (∃ mm, base.Ns sysModules mm) → FnG l.prog w K mg base 13 fa fd ["_law_script"] (sp_law K) := by
  have e := hfa.symm.trans (PySem.W.mg_of X G a24)
  cases e
  have F1 := fun_mk (st := s_is_number) l1 c1 k1
  have b1 := F1.binds (ps := ["value"]) fun _ _ _ _ _ _ us hl => match us, hl with | [_], _ => rfl
  have F2 := fun_mk (st := s_is_position) l2 c2 k2
  have b2 := F2.binds (ps := ["value"]) fun _ _ _ _ _ _ us hl => match us, hl with | [_], _ => rfl
  have F3 := fun_mk (st := s_is_tuple_of) l3 c3 k3
  have b3 := F3.binds (ps := ["value", "length"]) fun _ _ _ _ _ _ us hl => match us, hl with | [_, _], _ => rfl
  have F4 := fun_mk (st := s_is_interval) l4 c4 k4
  have b4 := F4.binds (ps := ["value"]) fun _ _ _ _ _ _ us hl => match us, hl with | [_], _ => rfl
  have F5 := fun_mk (st := s_ascending_error) l5 c5 k5
  have b5 := F5.binds (ps := ["value", "most"]) fun _ _ _ _ _ _ us hl => match us, hl with | [_, _], _ => rfl
  have F6 := fun_mk (st := s_targets_error) l6 c6 k6
  have b6 := F6.binds (ps := ["value"]) fun _ _ _ _ _ _ us hl => match us, hl with | [_], _ => rfl
  have F7 := fun_mk (st := s_is_pieces) l7 c7 k7
  have b7 := F7.binds (ps := ["value"]) fun _ _ _ _ _ _ us hl => match us, hl with | [_], _ => rfl
  have F8 := fun_mk (st := s_without_item) l8 c8 k8
  have b8 := F8.binds (ps := ["items", "item"]) fun _ _ _ _ _ _ us hl => match us, hl with | [_, _], _ => rfl
  have F9 := fun_mk (st := s_with_interval) l9 c9 k9
  have b9 := F9.binds (ps := ["intervals", "value", "bound"]) fun _ _ _ _ _ _ us hl => match us, hl with | [_, _, _], _ => rfl
  have F10 := fun_mk (st := s_without_interval) l10 c10 k10
  have b10 := F10.binds (ps := ["intervals", "value"]) fun _ _ _ _ _ _ us hl => match us, hl with | [_, _], _ => rfl
  have F11 := fun_mk (st := s_edited_state) l11 c11 k11
  have b11 := F11.binds (ps := ["state", "word", "value"]) fun _ _ _ _ _ _ us hl => match us, hl with | [_, _, _], _ => rfl
  have F12 := fun_mk (st := s_law_deck) l12 c12 k12
  have b12 := F12.binds (ps := ["_law_script"]) fun _ _ _ _ _ _ us hl => match us, hl with | [_], _ => rfl
  have F13 := fun_mk (st := s_law_draw) l13 c13 k13
  have b13 := F13.binds (ps := ["_law_deck_here", "_law_many"]) fun _ _ _ _ _ _ us hl => match us, hl with | [_, _], _ => rfl
  have F14 := fun_mk (st := s_law_line) l14 c14 k14
  have b14 := F14.binds (ps := ["_law_deck_here", "_law_most"]) fun _ _ _ _ _ _ us hl => match us, hl with | [_, _], _ => rfl
  have F15 := fun_mk (st := s_law_interval) l15 c15 k15
  have b15 := F15.binds (ps := ["_law_deck_here", "_law_line_here"]) fun _ _ _ _ _ _ us hl => match us, hl with | [_, _], _ => rfl
  have F16 := fun_mk (st := s_law_intervals) l16 c16 k16
  have b16 := F16.binds (ps := ["_law_deck_here", "_law_line_here", "_law_most"]) fun _ _ _ _ _ _ us hl => match us, hl with | [_, _, _], _ => rfl
  have F17 := fun_mk (st := s_law_edit) l17 c17 k17
  have b17 := F17.binds (ps := ["_law_deck_here", "_law_line_here", "_law_state"]) fun _ _ _ _ _ _ us hl => match us, hl with | [_, _, _], _ => rfl
  have F18 := fun_mk (st := s_law_after) l18 c18 k18
  have b18 := F18.binds (ps := ["_law_state", "_law_edit_here"]) fun _ _ _ _ _ _ us hl => match us, hl with | [_, _], _ => rfl
  have F19 := fun_mk (st := s_law_do) l19 c19 k19
  have b19 := F19.binds (ps := ["_law_plan", "_law_edit_here"]) fun _ _ _ _ _ _ us hl => match us, hl with | [_, _], _ => rfl
  have F20 := fun_mk (st := s_law_begun) l20 c20 k20
  have b20 := F20.binds (ps := ["_law_deck_here", "_law_most"]) fun _ _ _ _ _ _ us hl => match us, hl with | [_, _], _ => rfl
  have F21 := fun_mk (st := s_law_flags) l21 c21 k21
  have b21 := F21.binds (ps := ["_law_e"]) fun _ _ _ _ _ _ us hl => match us, hl with | [_], _ => rfl
  have F22 := fun_mk (st := s_law_errors_right) l22 c22 k22
  have b22 := F22.binds (ps := ["_law_value"]) fun _ _ _ _ _ _ us hl => match us, hl with | [_], _ => rfl
  have F23 := fun_mk (st := s_law_edited) l23 c23 k23
  have b23 := F23.binds (ps := ["_law_deck_here", "_law_line_here", "_law_plan", "_law_state"]) fun _ _ _ _ _ _ us hl => match us, hl with | [_, _, _, _], _ => rfl
  have F24 := fun_mk (st := s_law) l24 c24 k24
  have b24 := F24.binds (ps := ["_law_script"]) fun _ _ _ _ _ _ us hl => match us, hl with | [_], _ => rfl
  have F25 := fun_mk (st := s_Plan_init) l25 c25 k25
  have b25 := F25.binds (ps := ["self", "targets", "pieces"]) fun _ _ _ _ _ _ us hl => match us, hl with | [_, _, _], _ => rfl
  have F26 := fun_mk (st := s_Plan_add_target) l26 c26 k26
  have b26 := F26.binds (ps := ["self", "interval"]) fun _ _ _ _ _ _ us hl => match us, hl with | [_, _], _ => rfl
  have F27 := fun_mk (st := s_Plan_add_piece) l27 c27 k27
  have b27 := F27.binds (ps := ["self", "interval"]) fun _ _ _ _ _ _ us hl => match us, hl with | [_, _], _ => rfl
  have F28 := fun_mk (st := s_Plan_remove_target) l28 c28 k28
  have b28 := F28.binds (ps := ["self", "interval"]) fun _ _ _ _ _ _ us hl => match us, hl with | [_, _], _ => rfl
  have F29 := fun_mk (st := s_Plan_remove_piece) l29 c29 k29
  have b29 := F29.binds (ps := ["self", "interval"]) fun _ _ _ _ _ _ us hl => match us, hl with | [_, _], _ => rfl
  have F30 := fun_mk (st := s_Plan_undo) l30 c30 k30
  have b30 := F30.binds (ps := ["self"]) fun _ _ _ _ _ _ us hl => match us, hl with | [_], _ => rfl
  have F31 : FunD K "targets" "Plan.targets" (defArgs s_Plan_targets) (defBody s_Plan_targets) (defScope s_Plan_targets) [] [("version", V.non)] f31 _ := ⟨⟨oc31, od31, .none, .ref kD31, dc31, pm31, an31, cd31, ct31, sl31, rfl, l31, c31, .inl ⟨rfl, rfl⟩, .inr ⟨kD31, rfl, fun q hq => by rw [List.mem_singleton.mp hq]; exact ⟨.none, q31, rfl⟩⟩⟩, k31⟩
  have b31 := F31.binds0 (ps := ["self", "version"]) 1 (fun z => nomatch z) rfl fun D _ _ _ _ _ us ks h1 h2 => match us, ks, h1, h2 with | [_], [_], _, _ => ⟨_, _, _, _, _, _, rfl, rfl, rfl⟩
  have kb31 := F31.kbinds0 (ps := ["self", "version"]) 1 ["version"] [] (fun us _ ws => us ++ ws) (fun z => nomatch z) (fun q hq => nomatch hq) (fun r1 _ r3 => r1.append r3) fun D _ _ _ _ _ us mv ws h1 h2 h3 => match us, mv, ws, h1, h2, h3 with | [_], [], [_], _, _, _ => rfl
  have F32 : FunD K "pieces" "Plan.pieces" (defArgs s_Plan_pieces) (defBody s_Plan_pieces) (defScope s_Plan_pieces) [] [("version", V.non)] f32 _ := ⟨⟨oc32, od32, .none, .ref kD32, dc32, pm32, an32, cd32, ct32, sl32, rfl, l32, c32, .inl ⟨rfl, rfl⟩, .inr ⟨kD32, rfl, fun q hq => by rw [List.mem_singleton.mp hq]; exact ⟨.none, q32, rfl⟩⟩⟩, k32⟩
  have b32 := F32.binds0 (ps := ["self", "version"]) 1 (fun z => nomatch z) rfl fun D _ _ _ _ _ us ks h1 h2 => match us, ks, h1, h2 with | [_], [_], _, _ => ⟨_, _, _, _, _, _, rfl, rfl, rfl⟩
  have kb32 := F32.kbinds0 (ps := ["self", "version"]) 1 ["version"] [] (fun us _ ws => us ++ ws) (fun z => nomatch z) (fun q hq => nomatch hq) (fun r1 _ r3 => r1.append r3) fun D _ _ _ _ _ us mv ws h1 h2 h3 => match us, mv, ws, h1, h2, h3 with | [_], [], [_], _, _, _ => rfl
  have F33 := fun_mk (st := s_Plan_edits) l33 c33 k33
  have b33 := F33.binds (ps := ["self"]) fun _ _ _ _ _ _ us hl => match us, hl with | [_], _ => rfl
  have F34 := fun_mk (st := s_Plan_edit) l34 c34 k34
  have b34 := F34.binds (ps := ["self", "word", "value"]) fun _ _ _ _ _ _ us hl => match us, hl with | [_, _, _], _ => rfl
  have F35 := fun_mk (st := s_Plan_record) l35 c35 k35
  have b35 := F35.binds (ps := ["self", "word", "value"]) fun _ _ _ _ _ _ us hl => match us, hl with | [_, _, _], _ => rfl
  have F36 := fun_mk (st := s_Plan_require_idle) l36 c36 k36
  have b36 := F36.binds (ps := ["self"]) fun _ _ _ _ _ _ us hl => match us, hl with | [_], _ => rfl
  have F37 := fun_mk (st := s_Plan_state_at) l37 c37 k37
  have b37 := F37.binds (ps := ["self", "version"]) fun _ _ _ _ _ _ us hl => match us, hl with | [_, _], _ => rfl
  have F38 := fun_mk (st := s_Plan_len) l38 c38 k38
  have b38 := F38.binds (ps := ["self"]) fun _ _ _ _ _ _ us hl => match us, hl with | [_], _ => rfl
  have F39 := fun_mk (st := s_Plan_eq) l39 c39 k39
  have b39 := F39.binds (ps := ["self", "other"]) fun _ _ _ _ _ _ us hl => match us, hl with | [_, _], _ => rfl
  have F40 := fun_mk (st := s_TooWide_init) l40 c40 k40
  have b40 := F40.binds (ps := ["self", "bound"]) fun _ _ _ _ _ _ us hl => match us, hl with | [_, _], _ => rfl
  have F41 := fun_mk (st := s_NotGenerated_init) l41 c41 k41
  have b41 := F41.binds (ps := ["self", "demand"]) fun _ _ _ _ _ _ us hl => match us, hl with | [_, _], _ => rfl
  have F42 := fun_mk (st := s_TooMany_init) l42 c42 k42
  have b42 := F42.binds (ps := ["self", "bound"]) fun _ _ _ _ _ _ us hl => match us, hl with | [_, _], _ => rfl
  have F43 := fun_mk (st := s_BadTargets_init) l43 c43 k43
  have b43 := F43.binds (ps := ["self", "error"]) fun _ _ _ _ _ _ us hl => match us, hl with | [_, _], _ => rfl
  have F44 := fun_mk (st := s_BadInterval_init) l44 c44 k44
  have b44 := F44.binds (ps := ["self", "value"]) fun _ _ _ _ _ _ us hl => match us, hl with | [_, _], _ => rfl
  have F45 := fun_mk (st := s_Duplicate_init) l45 c45 k45
  have b45 := F45.binds (ps := ["self", "value"]) fun _ _ _ _ _ _ us hl => match us, hl with | [_, _], _ => rfl
  have F46 := fun_mk (st := s_BadEdit_init) l46 c46 k46
  have b46 := F46.binds (ps := ["self", "index"]) fun _ _ _ _ _ _ us hl => match us, hl with | [_, _], _ => rfl
  have F47 := fun_mk (st := s_Rejected_init) l47 c47 k47
  have b47 := F47.binds (ps := ["self", "index"]) fun _ _ _ _ _ _ us hl => match us, hl with | [_, _], _ => rfl
  have F48 := fun_mk (st := s_BadText_init) l48 c48 k48
  have b48 := F48.binds (ps := ["self", "index"]) fun _ _ _ _ _ _ us hl => match us, hl with | [_, _], _ => rfl
  have F49 := fun_mk (st := s_Unknown_init) l49 c49 k49
  have b49 := F49.binds (ps := ["self", "value"]) fun _ _ _ _ _ _ us hl => match us, hl with | [_, _], _ => rfl
  have F50 := fun_mk (st := s_NoVersion_init) l50 c50 k50
  have b50 := F50.binds (ps := ["self", "value"]) fun _ _ _ _ _ _ us hl => match us, hl with | [_, _], _ => rfl
  have T : Tx K mg _ _ _ _ _ _ _ _ _ _ _ _ _ _ _ _ _ _ _ _ _ _ _ _ _ _ _ _ _ _ _ _ _ _ _ _ _ _ _ _ _ _ _ _ _ _ _ _ _ _ _ _ _ _ _ _ _ _ _ _ _ _ _ _ _ _ _ _ _ _ _ _ _ _ _ _ _ _ _ _ _ _ _ _ _ _ _ _ _ _ _ _ _ _ _ _ _ _ _ _ _ _ _ _ _ _ _ _ _ _ _ _ _ _ _ _ _ _ _ tk0 tk1 tk2 tk3 := ⟨F1, b1, PySem.W.mg_of X G a1, F2, b2, PySem.W.mg_of X G a2, F3, b3, PySem.W.mg_of X G a3, F4, b4, PySem.W.mg_of X G a4, F5, b5, PySem.W.mg_of X G a5, F6, b6, PySem.W.mg_of X G a6, F7, b7, PySem.W.mg_of X G a7, F8, b8, PySem.W.mg_of X G a8, F9, b9, PySem.W.mg_of X G a9, F10, b10, PySem.W.mg_of X G a10, F11, b11, PySem.W.mg_of X G a11, F12, b12, PySem.W.mg_of X G a12, F13, b13, PySem.W.mg_of X G a13, F14, b14, PySem.W.mg_of X G a14, F15, b15, PySem.W.mg_of X G a15, F16, b16, PySem.W.mg_of X G a16, F17, b17, PySem.W.mg_of X G a17, F18, b18, PySem.W.mg_of X G a18, F19, b19, PySem.W.mg_of X G a19, F20, b20, PySem.W.mg_of X G a20, F21, b21, PySem.W.mg_of X G a21, F22, b22, PySem.W.mg_of X G a22, F23, b23, PySem.W.mg_of X G a23, F24, b24, PySem.W.mg_of X G a24, F25, b25, ⟨a25, i25, k25⟩, F26, b26, ⟨a26, i26, k26⟩, F27, b27, ⟨a27, i27, k27⟩, F28, b28, ⟨a28, i28, k28⟩, F29, b29, ⟨a29, i29, k29⟩, F30, b30, ⟨a30, i30, k30⟩, F31, b31, kb31.choose_spec, ⟨a31, i31, k31⟩, F32, b32, kb32.choose_spec, ⟨a32, i32, k32⟩, F33, b33, ⟨a33, i33, k33⟩, F34, b34, ⟨a34, i34, k34⟩, F35, b35, ⟨a35, i35, k35⟩, F36, b36, ⟨a36, i36, k36⟩, F37, b37, ⟨a37, i37, k37⟩, F38, b38, ⟨a38, i38, k38⟩, F39, b39, ⟨a39, i39, k39⟩, F40, b40, F41, b41, F42, b42, F43, b43, F44, b44, F45, b45, F46, b46, F47, b47, F48, b48, F49, b49, F50, b50, PySem.W.mg_of X G y0, PySem.W.mg_of X G y1, PySem.W.mg_of X G y2, PySem.W.mg_of X G y3, PySem.W.mg_none_of X G z0, PySem.W.mg_none_of X G z1, PySem.W.mg_none_of X G z2, PySem.W.mg_none_of X G z3, PySem.W.mg_none_of X G z4, PySem.W.mg_none_of X G z5, PySem.W.mg_none_of X G z6, PySem.W.mg_none_of X G z7, PySem.W.mg_none_of X G z8, PySem.W.mg_none_of X G z9, PySem.W.mg_none_of X G z10, PySem.W.mg_none_of X G z11, PySem.W.mg_none_of X G z12, PySem.W.mg_none_of X G z13, ⟨pg_Plan, hd_Plan, po_Plan, sa_Plan⟩, PySem.W.mg_of X G aC_Plan, ⟨mk_Plan, a25, i25, kc_Plan⟩, n_states_Plan, n_done_Plan, n_busy_Plan, ⟨ia_Plan, ib_Plan, it_Plan, im_Plan⟩, ⟨ne_Plan, nf_Plan, nt_Plan⟩, eTab, ⟨PySem.W.mg_of X G aX_TooWide, iX_TooWide, tX_TooWide, bX_TooWide⟩, ⟨PySem.W.mg_of X G aX_NotGenerated, iX_NotGenerated, tX_NotGenerated, bX_NotGenerated⟩, ⟨PySem.W.mg_of X G aX_TooMany, iX_TooMany, tX_TooMany, bX_TooMany⟩, ⟨PySem.W.mg_of X G aX_BadTargets, iX_BadTargets, tX_BadTargets, bX_BadTargets⟩, ⟨PySem.W.mg_of X G aX_BadInterval, iX_BadInterval, tX_BadInterval, bX_BadInterval⟩, ⟨PySem.W.mg_of X G aX_Duplicate, iX_Duplicate, tX_Duplicate, bX_Duplicate⟩, ⟨PySem.W.mg_of X G aX_BadEdit, iX_BadEdit, tX_BadEdit, bX_BadEdit⟩, ⟨PySem.W.mg_of X G aX_Rejected, iX_Rejected, tX_Rejected, bX_Rejected⟩, ⟨PySem.W.mg_of X G aX_BadText, iX_BadText, tX_BadText, bX_BadText⟩, ⟨PySem.W.mg_of X G aX_Unknown, iX_Unknown, tX_Unknown, bX_Unknown⟩, ⟨PySem.W.mg_of X G aX_NoVersion, iX_NoVersion, tX_NoVersion, bX_NoVersion⟩, ⟨PySem.W.mg_of X G aX_OutOfRange, iX_OutOfRange, tX_OutOfRange, bX_OutOfRange⟩, ⟨PySem.W.mg_of X G aX_SpanError, iX_SpanError, tX_SpanError, bX_SpanError⟩, ⟨PySem.W.mg_of X G aX_BadPieces, iX_BadPieces, tX_BadPieces, bX_BadPieces⟩, ⟨PySem.W.mg_of X G aX_TooManyEdits, iX_TooManyEdits, tX_TooManyEdits, bX_TooManyEdits⟩, ⟨PySem.W.mg_of X G aX_NothingToUndo, iX_NothingToUndo, tX_NothingToUndo, bX_NothingToUndo⟩, ⟨PySem.W.mg_of X G aX_BadEdits, iX_BadEdits, tX_BadEdits, bX_BadEdits⟩, ⟨PySem.W.mg_of X G aX_Busy, iX_Busy, tX_Busy, bX_Busy⟩, ⟨xG_TooWide, oG_TooWide, sX_TooWide, kX_TooWide, tX_TooWide, a40, fX_TooWide, nX_TooWide, ⟨gX_TooWide, hX_TooWide, bX_TooWide, dX_TooWide, cX_TooWide, eX_TooWide, uX_TooWide, mX_TooWide⟩⟩, vX_TooWide, wX_TooWide, ⟨xG_NotGenerated, oG_NotGenerated, sX_NotGenerated, kX_NotGenerated, tX_NotGenerated, a41, fX_NotGenerated, nX_NotGenerated, ⟨gX_NotGenerated, hX_NotGenerated, bX_NotGenerated, dX_NotGenerated, cX_NotGenerated, eX_NotGenerated, uX_NotGenerated, mX_NotGenerated⟩⟩, vX_NotGenerated, wX_NotGenerated, ⟨xG_TooMany, oG_TooMany, sX_TooMany, kX_TooMany, tX_TooMany, a42, fX_TooMany, nX_TooMany, ⟨gX_TooMany, hX_TooMany, bX_TooMany, dX_TooMany, cX_TooMany, eX_TooMany, uX_TooMany, mX_TooMany⟩⟩, vX_TooMany, wX_TooMany, ⟨xG_BadTargets, oG_BadTargets, sX_BadTargets, kX_BadTargets, tX_BadTargets, a43, fX_BadTargets, nX_BadTargets, ⟨gX_BadTargets, hX_BadTargets, bX_BadTargets, dX_BadTargets, cX_BadTargets, eX_BadTargets, uX_BadTargets, mX_BadTargets⟩⟩, vX_BadTargets, wX_BadTargets, ⟨xG_BadInterval, oG_BadInterval, sX_BadInterval, kX_BadInterval, tX_BadInterval, a44, fX_BadInterval, nX_BadInterval, ⟨gX_BadInterval, hX_BadInterval, bX_BadInterval, dX_BadInterval, cX_BadInterval, eX_BadInterval, uX_BadInterval, mX_BadInterval⟩⟩, vX_BadInterval, wX_BadInterval, ⟨xG_Duplicate, oG_Duplicate, sX_Duplicate, kX_Duplicate, tX_Duplicate, a45, fX_Duplicate, nX_Duplicate, ⟨gX_Duplicate, hX_Duplicate, bX_Duplicate, dX_Duplicate, cX_Duplicate, eX_Duplicate, uX_Duplicate, mX_Duplicate⟩⟩, vX_Duplicate, wX_Duplicate, ⟨xG_BadEdit, oG_BadEdit, sX_BadEdit, kX_BadEdit, tX_BadEdit, a46, fX_BadEdit, nX_BadEdit, ⟨gX_BadEdit, hX_BadEdit, bX_BadEdit, dX_BadEdit, cX_BadEdit, eX_BadEdit, uX_BadEdit, mX_BadEdit⟩⟩, vX_BadEdit, wX_BadEdit, ⟨xG_Rejected, oG_Rejected, sX_Rejected, kX_Rejected, tX_Rejected, a47, fX_Rejected, nX_Rejected, ⟨gX_Rejected, hX_Rejected, bX_Rejected, dX_Rejected, cX_Rejected, eX_Rejected, uX_Rejected, mX_Rejected⟩⟩, vX_Rejected, wX_Rejected, ⟨xG_BadText, oG_BadText, sX_BadText, kX_BadText, tX_BadText, a48, fX_BadText, nX_BadText, ⟨gX_BadText, hX_BadText, bX_BadText, dX_BadText, cX_BadText, eX_BadText, uX_BadText, mX_BadText⟩⟩, vX_BadText, wX_BadText, ⟨xG_Unknown, oG_Unknown, sX_Unknown, kX_Unknown, tX_Unknown, a49, fX_Unknown, nX_Unknown, ⟨gX_Unknown, hX_Unknown, bX_Unknown, dX_Unknown, cX_Unknown, eX_Unknown, uX_Unknown, mX_Unknown⟩⟩, vX_Unknown, wX_Unknown, ⟨xG_NoVersion, oG_NoVersion, sX_NoVersion, kX_NoVersion, tX_NoVersion, a50, fX_NoVersion, nX_NoVersion, ⟨gX_NoVersion, hX_NoVersion, bX_NoVersion, dX_NoVersion, cX_NoVersion, eX_NoVersion, uX_NoVersion, mX_NoVersion⟩⟩, vX_NoVersion, wX_NoVersion, ⟨xX_OutOfRange, kX_OutOfRange, ⟨gX_OutOfRange, hX_OutOfRange, bX_OutOfRange, dX_OutOfRange, cX_OutOfRange, eX_OutOfRange, uX_OutOfRange, mX_OutOfRange⟩⟩, vX_OutOfRange, sX_OutOfRange_SpanError, ⟨xX_BadPieces, kX_BadPieces, ⟨gX_BadPieces, hX_BadPieces, bX_BadPieces, dX_BadPieces, cX_BadPieces, eX_BadPieces, uX_BadPieces, mX_BadPieces⟩⟩, vX_BadPieces, ⟨xX_TooManyEdits, kX_TooManyEdits, ⟨gX_TooManyEdits, hX_TooManyEdits, bX_TooManyEdits, dX_TooManyEdits, cX_TooManyEdits, eX_TooManyEdits, uX_TooManyEdits, mX_TooManyEdits⟩⟩, vX_TooManyEdits, ⟨xX_NothingToUndo, kX_NothingToUndo, ⟨gX_NothingToUndo, hX_NothingToUndo, bX_NothingToUndo, dX_NothingToUndo, cX_NothingToUndo, eX_NothingToUndo, uX_NothingToUndo, mX_NothingToUndo⟩⟩, vX_NothingToUndo, ⟨xX_BadEdits, kX_BadEdits, ⟨gX_BadEdits, hX_BadEdits, bX_BadEdits, dX_BadEdits, cX_BadEdits, eX_BadEdits, uX_BadEdits, mX_BadEdits⟩⟩, vX_BadEdits, ⟨xX_Busy, kX_Busy, ⟨gX_Busy, hX_Busy, bX_Busy, dX_Busy, cX_Busy, eX_Busy, uX_Busy, mX_Busy⟩⟩, vX_Busy⟩
  exact ⟨_, fun s v => .of_eq rfl, fun base _ _ hM => ok_law T hM⟩
end L9
open PySem PySem.W PyProof.Rows
set_option maxHeartbeats 0 in
theorem PySem.Challenge.cw_fewspans_k77_plan_equality_and_errors_holds : PySem.Challenge.rw_fewspans_k77_plan_equality_and_errors.Holds := by
  w_on; o_law; k_head; (case hw => w_witness2)
  k_fill
  refine L9.quiet_walk (l := PySem.Challenge.rw_fewspans_k77_plan_equality_and_errors) (n := 63) (k := 13) (x := "_law_script") (sp := fun w => L9.sp_law _) (by decide +kernel) rfl (by decide) rfl ⟨rfl, by decide, by decide⟩ (fun w h Y => PySem.W.kIn_of Y) ?F (fun _ _ a ns hl _ hS => ⟨a, ns, rfl, hS, hl, fun _ => rfl⟩)
  case F =>
    intro w mg fa h KX G hmg
    refine' L9.all_mk KX G hmg ?a1 ?l1 ?c1 ?k1 ?a2 ?l2 ?c2 ?k2 ?a3 ?l3 ?c3 ?k3 ?a4 ?l4 ?c4 ?k4 ?a5 ?l5 ?c5 ?k5 ?a6 ?l6 ?c6 ?k6 ?a7 ?l7 ?c7 ?k7 ?a8 ?l8 ?c8 ?k8 ?a9 ?l9 ?c9 ?k9 ?a10 ?l10 ?c10 ?k10 ?a11 ?l11 ?c11 ?k11 ?a12 ?l12 ?c12 ?k12 ?a13 ?l13 ?c13 ?k13 ?a14 ?l14 ?c14 ?k14 ?a15 ?l15 ?c15 ?k15 ?a16 ?l16 ?c16 ?k16 ?a17 ?l17 ?c17 ?k17 ?a18 ?l18 ?c18 ?k18 ?a19 ?l19 ?c19 ?k19 ?a20 ?l20 ?c20 ?k20 ?a21 ?l21 ?c21 ?k21 ?a22 ?l22 ?c22 ?k22 ?a23 ?l23 ?c23 ?k23 ?a24 ?l24 ?c24 ?k24 ?a25 ?i25 ?l25 ?c25 ?k25 ?a26 ?i26 ?l26 ?c26 ?k26 ?a27 ?i27 ?l27 ?c27 ?k27 ?a28 ?i28 ?l28 ?c28 ?k28 ?a29 ?i29 ?l29 ?c29 ?k29 ?a30 ?i30 ?l30 ?c30 ?k30 ?a31 ?i31 ?l31 ?c31 ?k31 ?q31 ?a32 ?i32 ?l32 ?c32 ?k32 ?q32 ?a33 ?i33 ?l33 ?c33 ?k33 ?a34 ?i34 ?l34 ?c34 ?k34 ?a35 ?i35 ?l35 ?c35 ?k35 ?a36 ?i36 ?l36 ?c36 ?k36 ?a37 ?i37 ?l37 ?c37 ?k37 ?a38 ?i38 ?l38 ?c38 ?k38 ?a39 ?i39 ?l39 ?c39 ?k39 ?a40 ?i40 ?l40 ?c40 ?k40 ?a41 ?i41 ?l41 ?c41 ?k41 ?a42 ?i42 ?l42 ?c42 ?k42 ?a43 ?i43 ?l43 ?c43 ?k43 ?a44 ?i44 ?l44 ?c44 ?k44 ?a45 ?i45 ?l45 ?c45 ?k45 ?a46 ?i46 ?l46 ?c46 ?k46 ?a47 ?i47 ?l47 ?c47 ?k47 ?a48 ?i48 ?l48 ?c48 ?k48 ?a49 ?i49 ?l49 ?c49 ?k49 ?a50 ?i50 ?l50 ?c50 ?k50 ?aC_Plan ?pg_Plan ?hd_Plan ?po_Plan ?sa_Plan ?mk_Plan ?kc_Plan ?n_states_Plan ?n_done_Plan ?n_busy_Plan ?ia_Plan ?ib_Plan ?it_Plan ?im_Plan ?ne_Plan ?nf_Plan ?nt_Plan ?aX_TooWide ?iX_TooWide ?tX_TooWide ?bX_TooWide ?xG_TooWide ?oG_TooWide ?sX_TooWide ?kX_TooWide ?nX_TooWide ?fX_TooWide ?gX_TooWide ?hX_TooWide ?dX_TooWide ?cX_TooWide ?eX_TooWide ?uX_TooWide ?mX_TooWide ?vX_TooWide ?wX_TooWide ?aX_NotGenerated ?iX_NotGenerated ?tX_NotGenerated ?bX_NotGenerated ?xG_NotGenerated ?oG_NotGenerated ?sX_NotGenerated ?kX_NotGenerated ?nX_NotGenerated ?fX_NotGenerated ?gX_NotGenerated ?hX_NotGenerated ?dX_NotGenerated ?cX_NotGenerated ?eX_NotGenerated ?uX_NotGenerated ?mX_NotGenerated ?vX_NotGenerated ?wX_NotGenerated ?aX_TooMany ?iX_TooMany ?tX_TooMany ?bX_TooMany ?xG_TooMany ?oG_TooMany ?sX_TooMany ?kX_TooMany ?nX_TooMany ?fX_TooMany ?gX_TooMany ?hX_TooMany ?dX_TooMany ?cX_TooMany ?eX_TooMany ?uX_TooMany ?mX_TooMany ?vX_TooMany ?wX_TooMany ?aX_BadTargets ?iX_BadTargets ?tX_BadTargets ?bX_BadTargets ?xG_BadTargets ?oG_BadTargets ?sX_BadTargets ?kX_BadTargets ?nX_BadTargets ?fX_BadTargets ?gX_BadTargets ?hX_BadTargets ?dX_BadTargets ?cX_BadTargets ?eX_BadTargets ?uX_BadTargets ?mX_BadTargets ?vX_BadTargets ?wX_BadTargets ?aX_BadInterval ?iX_BadInterval ?tX_BadInterval ?bX_BadInterval ?xG_BadInterval ?oG_BadInterval ?sX_BadInterval ?kX_BadInterval ?nX_BadInterval ?fX_BadInterval ?gX_BadInterval ?hX_BadInterval ?dX_BadInterval ?cX_BadInterval ?eX_BadInterval ?uX_BadInterval ?mX_BadInterval ?vX_BadInterval ?wX_BadInterval ?aX_Duplicate ?iX_Duplicate ?tX_Duplicate ?bX_Duplicate ?xG_Duplicate ?oG_Duplicate ?sX_Duplicate ?kX_Duplicate ?nX_Duplicate ?fX_Duplicate ?gX_Duplicate ?hX_Duplicate ?dX_Duplicate ?cX_Duplicate ?eX_Duplicate ?uX_Duplicate ?mX_Duplicate ?vX_Duplicate ?wX_Duplicate ?aX_BadEdit ?iX_BadEdit ?tX_BadEdit ?bX_BadEdit ?xG_BadEdit ?oG_BadEdit ?sX_BadEdit ?kX_BadEdit ?nX_BadEdit ?fX_BadEdit ?gX_BadEdit ?hX_BadEdit ?dX_BadEdit ?cX_BadEdit ?eX_BadEdit ?uX_BadEdit ?mX_BadEdit ?vX_BadEdit ?wX_BadEdit ?aX_Rejected ?iX_Rejected ?tX_Rejected ?bX_Rejected ?xG_Rejected ?oG_Rejected ?sX_Rejected ?kX_Rejected ?nX_Rejected ?fX_Rejected ?gX_Rejected ?hX_Rejected ?dX_Rejected ?cX_Rejected ?eX_Rejected ?uX_Rejected ?mX_Rejected ?vX_Rejected ?wX_Rejected ?aX_BadText ?iX_BadText ?tX_BadText ?bX_BadText ?xG_BadText ?oG_BadText ?sX_BadText ?kX_BadText ?nX_BadText ?fX_BadText ?gX_BadText ?hX_BadText ?dX_BadText ?cX_BadText ?eX_BadText ?uX_BadText ?mX_BadText ?vX_BadText ?wX_BadText ?aX_Unknown ?iX_Unknown ?tX_Unknown ?bX_Unknown ?xG_Unknown ?oG_Unknown ?sX_Unknown ?kX_Unknown ?nX_Unknown ?fX_Unknown ?gX_Unknown ?hX_Unknown ?dX_Unknown ?cX_Unknown ?eX_Unknown ?uX_Unknown ?mX_Unknown ?vX_Unknown ?wX_Unknown ?aX_NoVersion ?iX_NoVersion ?tX_NoVersion ?bX_NoVersion ?xG_NoVersion ?oG_NoVersion ?sX_NoVersion ?kX_NoVersion ?nX_NoVersion ?fX_NoVersion ?gX_NoVersion ?hX_NoVersion ?dX_NoVersion ?cX_NoVersion ?eX_NoVersion ?uX_NoVersion ?mX_NoVersion ?vX_NoVersion ?wX_NoVersion ?aX_OutOfRange ?iX_OutOfRange ?tX_OutOfRange ?bX_OutOfRange ?xX_OutOfRange ?kX_OutOfRange ?gX_OutOfRange ?hX_OutOfRange ?dX_OutOfRange ?cX_OutOfRange ?eX_OutOfRange ?uX_OutOfRange ?mX_OutOfRange ?vX_OutOfRange ?aX_SpanError ?iX_SpanError ?tX_SpanError ?bX_SpanError ?aX_BadPieces ?iX_BadPieces ?tX_BadPieces ?bX_BadPieces ?xX_BadPieces ?kX_BadPieces ?gX_BadPieces ?hX_BadPieces ?dX_BadPieces ?cX_BadPieces ?eX_BadPieces ?uX_BadPieces ?mX_BadPieces ?vX_BadPieces ?aX_TooManyEdits ?iX_TooManyEdits ?tX_TooManyEdits ?bX_TooManyEdits ?xX_TooManyEdits ?kX_TooManyEdits ?gX_TooManyEdits ?hX_TooManyEdits ?dX_TooManyEdits ?cX_TooManyEdits ?eX_TooManyEdits ?uX_TooManyEdits ?mX_TooManyEdits ?vX_TooManyEdits ?aX_NothingToUndo ?iX_NothingToUndo ?tX_NothingToUndo ?bX_NothingToUndo ?xX_NothingToUndo ?kX_NothingToUndo ?gX_NothingToUndo ?hX_NothingToUndo ?dX_NothingToUndo ?cX_NothingToUndo ?eX_NothingToUndo ?uX_NothingToUndo ?mX_NothingToUndo ?vX_NothingToUndo ?aX_BadEdits ?iX_BadEdits ?tX_BadEdits ?bX_BadEdits ?xX_BadEdits ?kX_BadEdits ?gX_BadEdits ?hX_BadEdits ?dX_BadEdits ?cX_BadEdits ?eX_BadEdits ?uX_BadEdits ?mX_BadEdits ?vX_BadEdits ?aX_Busy ?iX_Busy ?tX_Busy ?bX_Busy ?xX_Busy ?kX_Busy ?gX_Busy ?hX_Busy ?dX_Busy ?cX_Busy ?eX_Busy ?uX_Busy ?mX_Busy ?vX_Busy ?eTab ?sX_OutOfRange_SpanError ?y0 ?y1 ?y2 ?y3 ?z0 ?z1 ?z2 ?z3 ?z4 ?z5 ?z6 ?z7 ?z8 ?z9 ?z10 ?z11 ?z12 ?z13
    (case aC_Plan => k_is)
    (case aX_TooWide => k_is)
    (case aX_NotGenerated => k_is)
    (case aX_TooMany => k_is)
    (case aX_BadTargets => k_is)
    (case aX_BadInterval => k_is)
    (case aX_Duplicate => k_is)
    (case aX_BadEdit => k_is)
    (case aX_Rejected => k_is)
    (case aX_BadText => k_is)
    (case aX_Unknown => k_is)
    (case aX_NoVersion => k_is)
    (case aX_OutOfRange => k_is)
    (case aX_SpanError => k_is)
    (case aX_BadPieces => k_is)
    (case aX_TooManyEdits => k_is)
    (case aX_NothingToUndo => k_is)
    (case aX_BadEdits => k_is)
    (case aX_Busy => k_is)
    (case a1 => k_is)
    (case l1 => k_is)
    (case c1 => k_is)
    (case k1 => k_is)
    (case a2 => k_is)
    (case l2 => k_is)
    (case c2 => k_is)
    (case k2 => k_is)
    (case a3 => k_is)
    (case l3 => k_is)
    (case c3 => k_is)
    (case k3 => k_is)
    (case a4 => k_is)
    (case l4 => k_is)
    (case c4 => k_is)
    (case k4 => k_is)
    (case a5 => k_is)
    (case l5 => k_is)
    (case c5 => k_is)
    (case k5 => k_is)
    (case a6 => k_is)
    (case l6 => k_is)
    (case c6 => k_is)
    (case k6 => k_is)
    (case a7 => k_is)
    (case l7 => k_is)
    (case c7 => k_is)
    (case k7 => k_is)
    (case a8 => k_is)
    (case l8 => k_is)
    (case c8 => k_is)
    (case k8 => k_is)
    (case a9 => k_is)
    (case l9 => k_is)
    (case c9 => k_is)
    (case k9 => k_is)
    (case a10 => k_is)
    (case l10 => k_is)
    (case c10 => k_is)
    (case k10 => k_is)
    (case a11 => k_is)
    (case l11 => k_is)
    (case c11 => k_is)
    (case k11 => k_is)
    (case a12 => k_is)
    (case l12 => k_is)
    (case c12 => k_is)
    (case k12 => k_is)
    (case a13 => k_is)
    (case l13 => k_is)
    (case c13 => k_is)
    (case k13 => k_is)
    (case a14 => k_is)
    (case l14 => k_is)
    (case c14 => k_is)
    (case k14 => k_is)
    (case a15 => k_is)
    (case l15 => k_is)
    (case c15 => k_is)
    (case k15 => k_is)
    (case a16 => k_is)
    (case l16 => k_is)
    (case c16 => k_is)
    (case k16 => k_is)
    (case a17 => k_is)
    (case l17 => k_is)
    (case c17 => k_is)
    (case k17 => k_is)
    (case a18 => k_is)
    (case l18 => k_is)
    (case c18 => k_is)
    (case k18 => k_is)
    (case a19 => k_is)
    (case l19 => k_is)
    (case c19 => k_is)
    (case k19 => k_is)
    (case a20 => k_is)
    (case l20 => k_is)
    (case c20 => k_is)
    (case k20 => k_is)
    (case a21 => k_is)
    (case l21 => k_is)
    (case c21 => k_is)
    (case k21 => k_is)
    (case a22 => k_is)
    (case l22 => k_is)
    (case c22 => k_is)
    (case k22 => k_is)
    (case a23 => k_is)
    (case l23 => k_is)
    (case c23 => k_is)
    (case k23 => k_is)
    (case a24 => k_is)
    (case l24 => k_is)
    (case c24 => k_is)
    (case k24 => k_is)
    (case a25 => k_is)
    (case i25 => k_is)
    (case l25 => k_is)
    (case c25 => k_is)
    (case k25 => k_is)
    (case a26 => k_is)
    (case i26 => k_is)
    (case l26 => k_is)
    (case c26 => k_is)
    (case k26 => k_is)
    (case a27 => k_is)
    (case i27 => k_is)
    (case l27 => k_is)
    (case c27 => k_is)
    (case k27 => k_is)
    (case a28 => k_is)
    (case i28 => k_is)
    (case l28 => k_is)
    (case c28 => k_is)
    (case k28 => k_is)
    (case a29 => k_is)
    (case i29 => k_is)
    (case l29 => k_is)
    (case c29 => k_is)
    (case k29 => k_is)
    (case a30 => k_is)
    (case i30 => k_is)
    (case l30 => k_is)
    (case c30 => k_is)
    (case k30 => k_is)
    (case a31 => k_is)
    (case i31 => k_is)
    (case l31 => k_is)
    (case c31 => k_is)
    (case k31 => k_is)
    (case q31 => k_is)
    (case a32 => k_is)
    (case i32 => k_is)
    (case l32 => k_is)
    (case c32 => k_is)
    (case k32 => k_is)
    (case q32 => k_is)
    (case a33 => k_is)
    (case i33 => k_is)
    (case l33 => k_is)
    (case c33 => k_is)
    (case k33 => k_is)
    (case a34 => k_is)
    (case i34 => k_is)
    (case l34 => k_is)
    (case c34 => k_is)
    (case k34 => k_is)
    (case a35 => k_is)
    (case i35 => k_is)
    (case l35 => k_is)
    (case c35 => k_is)
    (case k35 => k_is)
    (case a36 => k_is)
    (case i36 => k_is)
    (case l36 => k_is)
    (case c36 => k_is)
    (case k36 => k_is)
    (case a37 => k_is)
    (case i37 => k_is)
    (case l37 => k_is)
    (case c37 => k_is)
    (case k37 => k_is)
    (case a38 => k_is)
    (case i38 => k_is)
    (case l38 => k_is)
    (case c38 => k_is)
    (case k38 => k_is)
    (case a39 => k_is)
    (case i39 => k_is)
    (case l39 => k_is)
    (case c39 => k_is)
    (case k39 => k_is)
    (case a40 => k_is)
    (case i40 => k_is)
    (case l40 => k_is)
    (case c40 => k_is)
    (case k40 => k_is)
    (case a41 => k_is)
    (case i41 => k_is)
    (case l41 => k_is)
    (case c41 => k_is)
    (case k41 => k_is)
    (case a42 => k_is)
    (case i42 => k_is)
    (case l42 => k_is)
    (case c42 => k_is)
    (case k42 => k_is)
    (case a43 => k_is)
    (case i43 => k_is)
    (case l43 => k_is)
    (case c43 => k_is)
    (case k43 => k_is)
    (case a44 => k_is)
    (case i44 => k_is)
    (case l44 => k_is)
    (case c44 => k_is)
    (case k44 => k_is)
    (case a45 => k_is)
    (case i45 => k_is)
    (case l45 => k_is)
    (case c45 => k_is)
    (case k45 => k_is)
    (case a46 => k_is)
    (case i46 => k_is)
    (case l46 => k_is)
    (case c46 => k_is)
    (case k46 => k_is)
    (case a47 => k_is)
    (case i47 => k_is)
    (case l47 => k_is)
    (case c47 => k_is)
    (case k47 => k_is)
    (case a48 => k_is)
    (case i48 => k_is)
    (case l48 => k_is)
    (case c48 => k_is)
    (case k48 => k_is)
    (case a49 => k_is)
    (case i49 => k_is)
    (case l49 => k_is)
    (case c49 => k_is)
    (case k49 => k_is)
    (case a50 => k_is)
    (case i50 => k_is)
    (case l50 => k_is)
    (case c50 => k_is)
    (case k50 => k_is)
    (case pg_Plan => k_is)
    (case hd_Plan => k_is)
    (case po_Plan => k_is)
    (case sa_Plan => k_is)
    (case mk_Plan => k_is)
    (case kc_Plan => k_is)
    (case n_states_Plan => k_is)
    (case n_done_Plan => k_is)
    (case n_busy_Plan => k_is)
    (case ia_Plan => k_is)
    (case ib_Plan => k_is)
    (case it_Plan => k_is)
    (case im_Plan => k_is)
    (case ne_Plan => k_is)
    (case nf_Plan => k_is)
    (case nt_Plan => k_is)
    (case iX_TooWide => k_is)
    (case tX_TooWide => k_is)
    (case bX_TooWide => k_is)
    (case xG_TooWide => kx_is)
    (case oG_TooWide => kx_is)
    (case sX_TooWide => k_is)
    (case kX_TooWide => k_is)
    (case nX_TooWide => k_is)
    (case fX_TooWide => k_is)
    (case gX_TooWide => k_is)
    (case hX_TooWide => k_is)
    (case dX_TooWide => k_is)
    (case cX_TooWide => k_is)
    (case eX_TooWide => k_is)
    (case uX_TooWide => k_is)
    (case mX_TooWide => k_is)
    (case vX_TooWide => k_is)
    (case wX_TooWide => k_is)
    (case iX_NotGenerated => k_is)
    (case tX_NotGenerated => k_is)
    (case bX_NotGenerated => k_is)
    (case xG_NotGenerated => kx_is)
    (case oG_NotGenerated => kx_is)
    (case sX_NotGenerated => k_is)
    (case kX_NotGenerated => k_is)
    (case nX_NotGenerated => k_is)
    (case fX_NotGenerated => k_is)
    (case gX_NotGenerated => k_is)
    (case hX_NotGenerated => k_is)
    (case dX_NotGenerated => k_is)
    (case cX_NotGenerated => k_is)
    (case eX_NotGenerated => k_is)
    (case uX_NotGenerated => k_is)
    (case mX_NotGenerated => k_is)
    (case vX_NotGenerated => k_is)
    (case wX_NotGenerated => k_is)
    (case iX_TooMany => k_is)
    (case tX_TooMany => k_is)
    (case bX_TooMany => k_is)
    (case xG_TooMany => kx_is)
    (case oG_TooMany => kx_is)
    (case sX_TooMany => k_is)
    (case kX_TooMany => k_is)
    (case nX_TooMany => k_is)
    (case fX_TooMany => k_is)
    (case gX_TooMany => k_is)
    (case hX_TooMany => k_is)
    (case dX_TooMany => k_is)
    (case cX_TooMany => k_is)
    (case eX_TooMany => k_is)
    (case uX_TooMany => k_is)
    (case mX_TooMany => k_is)
    (case vX_TooMany => k_is)
    (case wX_TooMany => k_is)
    (case iX_BadTargets => k_is)
    (case tX_BadTargets => k_is)
    (case bX_BadTargets => k_is)
    (case xG_BadTargets => kx_is)
    (case oG_BadTargets => kx_is)
    (case sX_BadTargets => k_is)
    (case kX_BadTargets => k_is)
    (case nX_BadTargets => k_is)
    (case fX_BadTargets => k_is)
    (case gX_BadTargets => k_is)
    (case hX_BadTargets => k_is)
    (case dX_BadTargets => k_is)
    (case cX_BadTargets => k_is)
    (case eX_BadTargets => k_is)
    (case uX_BadTargets => k_is)
    (case mX_BadTargets => k_is)
    (case vX_BadTargets => k_is)
    (case wX_BadTargets => k_is)
    (case iX_BadInterval => k_is)
    (case tX_BadInterval => k_is)
    (case bX_BadInterval => k_is)
    (case xG_BadInterval => kx_is)
    (case oG_BadInterval => kx_is)
    (case sX_BadInterval => k_is)
    (case kX_BadInterval => k_is)
    (case nX_BadInterval => k_is)
    (case fX_BadInterval => k_is)
    (case gX_BadInterval => k_is)
    (case hX_BadInterval => k_is)
    (case dX_BadInterval => k_is)
    (case cX_BadInterval => k_is)
    (case eX_BadInterval => k_is)
    (case uX_BadInterval => k_is)
    (case mX_BadInterval => k_is)
    (case vX_BadInterval => k_is)
    (case wX_BadInterval => k_is)
    (case iX_Duplicate => k_is)
    (case tX_Duplicate => k_is)
    (case bX_Duplicate => k_is)
    (case xG_Duplicate => kx_is)
    (case oG_Duplicate => kx_is)
    (case sX_Duplicate => k_is)
    (case kX_Duplicate => k_is)
    (case nX_Duplicate => k_is)
    (case fX_Duplicate => k_is)
    (case gX_Duplicate => k_is)
    (case hX_Duplicate => k_is)
    (case dX_Duplicate => k_is)
    (case cX_Duplicate => k_is)
    (case eX_Duplicate => k_is)
    (case uX_Duplicate => k_is)
    (case mX_Duplicate => k_is)
    (case vX_Duplicate => k_is)
    (case wX_Duplicate => k_is)
    (case iX_BadEdit => k_is)
    (case tX_BadEdit => k_is)
    (case bX_BadEdit => k_is)
    (case xG_BadEdit => kx_is)
    (case oG_BadEdit => kx_is)
    (case sX_BadEdit => k_is)
    (case kX_BadEdit => k_is)
    (case nX_BadEdit => k_is)
    (case fX_BadEdit => k_is)
    (case gX_BadEdit => k_is)
    (case hX_BadEdit => k_is)
    (case dX_BadEdit => k_is)
    (case cX_BadEdit => k_is)
    (case eX_BadEdit => k_is)
    (case uX_BadEdit => k_is)
    (case mX_BadEdit => k_is)
    (case vX_BadEdit => k_is)
    (case wX_BadEdit => k_is)
    (case iX_Rejected => k_is)
    (case tX_Rejected => k_is)
    (case bX_Rejected => k_is)
    (case xG_Rejected => kx_is)
    (case oG_Rejected => kx_is)
    (case sX_Rejected => k_is)
    (case kX_Rejected => k_is)
    (case nX_Rejected => k_is)
    (case fX_Rejected => k_is)
    (case gX_Rejected => k_is)
    (case hX_Rejected => k_is)
    (case dX_Rejected => k_is)
    (case cX_Rejected => k_is)
    (case eX_Rejected => k_is)
    (case uX_Rejected => k_is)
    (case mX_Rejected => k_is)
    (case vX_Rejected => k_is)
    (case wX_Rejected => k_is)
    (case iX_BadText => k_is)
    (case tX_BadText => k_is)
    (case bX_BadText => k_is)
    (case xG_BadText => kx_is)
    (case oG_BadText => kx_is)
    (case sX_BadText => k_is)
    (case kX_BadText => k_is)
    (case nX_BadText => k_is)
    (case fX_BadText => k_is)
    (case gX_BadText => k_is)
    (case hX_BadText => k_is)
    (case dX_BadText => k_is)
    (case cX_BadText => k_is)
    (case eX_BadText => k_is)
    (case uX_BadText => k_is)
    (case mX_BadText => k_is)
    (case vX_BadText => k_is)
    (case wX_BadText => k_is)
    (case iX_Unknown => k_is)
    (case tX_Unknown => k_is)
    (case bX_Unknown => k_is)
    (case xG_Unknown => kx_is)
    (case oG_Unknown => kx_is)
    (case sX_Unknown => k_is)
    (case kX_Unknown => k_is)
    (case nX_Unknown => k_is)
    (case fX_Unknown => k_is)
    (case gX_Unknown => k_is)
    (case hX_Unknown => k_is)
    (case dX_Unknown => k_is)
    (case cX_Unknown => k_is)
    (case eX_Unknown => k_is)
    (case uX_Unknown => k_is)
    (case mX_Unknown => k_is)
    (case vX_Unknown => k_is)
    (case wX_Unknown => k_is)
    (case iX_NoVersion => k_is)
    (case tX_NoVersion => k_is)
    (case bX_NoVersion => k_is)
    (case xG_NoVersion => kx_is)
    (case oG_NoVersion => kx_is)
    (case sX_NoVersion => k_is)
    (case kX_NoVersion => k_is)
    (case nX_NoVersion => k_is)
    (case fX_NoVersion => k_is)
    (case gX_NoVersion => k_is)
    (case hX_NoVersion => k_is)
    (case dX_NoVersion => k_is)
    (case cX_NoVersion => k_is)
    (case eX_NoVersion => k_is)
    (case uX_NoVersion => k_is)
    (case mX_NoVersion => k_is)
    (case vX_NoVersion => k_is)
    (case wX_NoVersion => k_is)
    (case iX_OutOfRange => k_is)
    (case tX_OutOfRange => k_is)
    (case bX_OutOfRange => k_is)
    (case xX_OutOfRange => k_exc)
    (case kX_OutOfRange => k_is)
    (case gX_OutOfRange => k_is)
    (case hX_OutOfRange => k_is)
    (case dX_OutOfRange => k_is)
    (case cX_OutOfRange => k_is)
    (case eX_OutOfRange => k_is)
    (case uX_OutOfRange => k_is)
    (case mX_OutOfRange => k_is)
    (case vX_OutOfRange => k_is)
    (case iX_SpanError => k_is)
    (case tX_SpanError => k_is)
    (case bX_SpanError => k_is)
    (case iX_BadPieces => k_is)
    (case tX_BadPieces => k_is)
    (case bX_BadPieces => k_is)
    (case xX_BadPieces => k_exc)
    (case kX_BadPieces => k_is)
    (case gX_BadPieces => k_is)
    (case hX_BadPieces => k_is)
    (case dX_BadPieces => k_is)
    (case cX_BadPieces => k_is)
    (case eX_BadPieces => k_is)
    (case uX_BadPieces => k_is)
    (case mX_BadPieces => k_is)
    (case vX_BadPieces => k_is)
    (case iX_TooManyEdits => k_is)
    (case tX_TooManyEdits => k_is)
    (case bX_TooManyEdits => k_is)
    (case xX_TooManyEdits => k_exc)
    (case kX_TooManyEdits => k_is)
    (case gX_TooManyEdits => k_is)
    (case hX_TooManyEdits => k_is)
    (case dX_TooManyEdits => k_is)
    (case cX_TooManyEdits => k_is)
    (case eX_TooManyEdits => k_is)
    (case uX_TooManyEdits => k_is)
    (case mX_TooManyEdits => k_is)
    (case vX_TooManyEdits => k_is)
    (case iX_NothingToUndo => k_is)
    (case tX_NothingToUndo => k_is)
    (case bX_NothingToUndo => k_is)
    (case xX_NothingToUndo => k_exc)
    (case kX_NothingToUndo => k_is)
    (case gX_NothingToUndo => k_is)
    (case hX_NothingToUndo => k_is)
    (case dX_NothingToUndo => k_is)
    (case cX_NothingToUndo => k_is)
    (case eX_NothingToUndo => k_is)
    (case uX_NothingToUndo => k_is)
    (case mX_NothingToUndo => k_is)
    (case vX_NothingToUndo => k_is)
    (case iX_BadEdits => k_is)
    (case tX_BadEdits => k_is)
    (case bX_BadEdits => k_is)
    (case xX_BadEdits => k_exc)
    (case kX_BadEdits => k_is)
    (case gX_BadEdits => k_is)
    (case hX_BadEdits => k_is)
    (case dX_BadEdits => k_is)
    (case cX_BadEdits => k_is)
    (case eX_BadEdits => k_is)
    (case uX_BadEdits => k_is)
    (case mX_BadEdits => k_is)
    (case vX_BadEdits => k_is)
    (case iX_Busy => k_is)
    (case tX_Busy => k_is)
    (case bX_Busy => k_is)
    (case xX_Busy => k_exc)
    (case kX_Busy => k_is)
    (case gX_Busy => k_is)
    (case hX_Busy => k_is)
    (case dX_Busy => k_is)
    (case cX_Busy => k_is)
    (case eX_Busy => k_is)
    (case uX_Busy => k_is)
    (case mX_Busy => k_is)
    (case vX_Busy => k_is)
    (case eTab => kernel_rfl)
    (case sX_OutOfRange_SpanError => k_is)
    (case y0 => k_is)
    (case y1 => k_is)
    (case y2 => k_is)
    (case y3 => k_is)
    (case z0 => k_is)
    (case z1 => k_is)
    (case z2 => k_is)
    (case z3 => k_is)
    (case z4 => k_is)
    (case z5 => k_is)
    (case z6 => k_is)
    (case z7 => k_is)
    (case z8 => k_is)
    (case z9 => k_is)
    (case z10 => k_is)
    (case z11 => k_is)
    (case z12 => k_is)
    (case z13 => k_is)
