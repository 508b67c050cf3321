import PyProof.Rows.All
import Wide.All
import OpenK.AllK
import Wide.FinOn
import PySem.Challenge.RW_fewspans_k55_unknown_commands
import HandS.ForMost
import HandS.Wide
import HandS.IsInst
import HandS.Conv
import HandS.TupLe
import HandS.Strs
import HandS.SetFor
import HandS.Style
import HandS.TupSets
import HandS.Keys
import HandS.Sort
import HandS.SortOrd
import HandS.SortRule
import HandS.SortKw
import HandS.SetBool
import HandS.TupAny
import HandS.Zip
import HandS.NoneIn
import HandS.Deep
import KE.GoesEnum
import KE.GoesMore
import HandS.Lambda
import HandS.CallLocal
import KE.DataCmp
import HandS.EndTab
import KE.KMinBuiltin
import HandS.TupMul
import PyProof.NeKinds
import HandS.Defaults
import HandS.MakeKwOnly
import HandS.OwnEq
import HandS.FStr
import KE.KCallOwn
import HandS.ExcIs
import HandS.ExcOwn
import HandS.CallSlots
import HandS.WordsExc
import HandS.TryMany
import HandS.Codes
import HandS.ExcInit
import KE.KExcIs
import KE.KExcInit
import KE.KExcLine
import HandS.ExcField
import HandS.Text
import PyProof.StrOps2
import HandS.StrMore
import HandS.Flow
import HandS.ReplaceLit
set_option Elab.async false
set_option linter.all false
set_option maxRecDepth 100000
set_option maxHeartbeats 4000000
namespace L9
open PySem PySem.Spec PyProof.Rows L2

/-! ### set(xs), xs a list of ints: the library has it of tuples; the walk is a list's here -/
section
variable {P : Program} {w : World} {A : Around} {E : Value → Shared → Prop} {s : Shared}
abbrev noSet (w : World) : Obj := { cls := .type "set", dict := none, data := .set #[] 0 (.fresh 0 0 (!w.params.followText "set-order")) }
theorem setL_ints {l : Addr} {its : Array Value} (ns : List Int) {Q : Value → Shared → Prop} (quiet : A.handled = none) (isL : s.heap.IsList l its) (allI : IntsAre its.toList ns) (few : ns.length + 1 < scanBound)
    (fin : ∀ (h2 : Heap) (tk n : Nat), SetR w h2 s.heap.objs.size (fun j => decide (j ∈ ns)) n → n ≤ ns.length → (∀ b o, s.heap.get? b = some o → h2.get? b = some o) → Q (.ref s.heap.objs.size) { s with heap := h2, toks := tk }) :
    wpAny (model P w) A (call (.type "set") [.ref l]) Q E s := by
  have size : its.size = ns.length := by
    rw [← Array.length_toList]
    exact allI.length
  obtain ⟨cA, tA, mA⟩ := F.called_set.mro
  have f1 := F.called_set.made
  have f2 := F.called_set.sub
  refine wpAny_call (codeAny_of_tree (?_ : wpAny _ _ (callAny (.type "set") _) _ _ _))
  refine wpAny_pure (And.intro (Code.quiet_builtin _ (by decide +kernel)) (codeAny_builtin F.entry_type_call ?_))
  rw [Around.under_plain (weight_type_call_type "set" [Value.ref l] []) rfl]
  have f3 := F.called_set.notType
  have f4 := F.called_set.canCreate
  have f5 := F.typeCall_set_1 (Value.ref l)
  repeat any_goals first | assumption | wp_step
  refine codeAny_mono (code_set_led1 (.ref l) (E := E) (Q₁ := fun v s1 => v = .ref s.heap.objs.size ∧ s1 = { s with heap := s.heap.push (noSet w) }) (And.intro rfl rfl)) fun r s1 h1 => ?_
  match r, h1 with
  | .error e, h1 => exact h1
  | .ok (.ret v), h1 =>
    obtain ⟨rfl, rfl⟩ := h1
    have at0 : (s.heap.push (noSet w)).get? s.heap.objs.size = some (noSet w) := Heap.get?_push_size _ rfl
    have ty0 : Shared.TypeIs { s with heap := s.heap.push (noSet w) } (.ref s.heap.objs.size) "set" := Exists.intro _ (And.intro at0 rfl)
    have f6 := F.called_set.init.lookup
    have f7 := F.called_set.init.bind (Value.ref s.heap.objs.size)
    repeat any_goals first | assumption | wp_step
    let Z : Value → Shared → Prop := fun v s2 => v = .none ∧ ∃ h2 tk n, s2 = { s with heap := h2, toks := tk } ∧ SetR w h2 s.heap.objs.size (fun j => decide (j ∈ ns)) n ∧ n ≤ ns.length ∧ ∀ b o, s.heap.get? b = some o → h2.get? b = some o
    refine codeAny_mono (codeAny_call_builtin (R := wants Z E) F.called_set.init.plain F.entry_set_init (check_set_init_1 ty0 ?_)) fun r2 s2 h2 => ?_
    · obtain ⟨o, eo, ec, k, ed⟩ := isL
      obtain ⟨oc, od, oD, oS⟩ := o
      simp only at ec ed
      subst ec ed
      have lt : l < s.heap.objs.size := Heap.lt_size eo
      have eo1 : (s.heap.push (noSet w)).get? l = some { cls := .type "list", dict := od, data := .seq its k, slots := oS } := Heap.get?_push_of_some _ eo
      have g1 := F.sub_list_set
      have g2 := F.sub_list_frozenset
      have g3 : (Value.type "list" == Value.type "dict") = false := by decide
      have isL1 : (s.heap.push (noSet w)).IsList l its := Exists.intro _ (And.intro eo1 (And.intro rfl (Exists.intro k rfl)))
      unfold Builtin.«set.__init__» Builtin.Frozenset.updateFrom noKeywords
      generalize keep : pyIter = itr
      wp_walk
      subst keep
      refine wpAny_pyIter_list isL1 (wpAny_bind (wpAny_runValue ?_))
      have quiet3 : A.in1.in1.in1.handled = none := by simp [quiet]
      have sz : (s.heap.push (noSet w)).objs.size = s.heap.objs.size + 1 := Heap.size_push ..
      have lI : l ≠ (s.heap.push (noSet w)).objs.size := by
        rw [sz]
        exact Nat.ne_of_lt (Nat.lt_succ_of_lt lt)
      have out : s.heap.objs.size ∉ [(s.heap.push (noSet w)).objs.size, l] := by
        rw [sz]
        intro z
        rcases List.mem_cons.mp z with z | z
        · exact absurd z (Nat.ne_of_lt (Nat.lt_succ_self _))
        · exact absurd (List.mem_singleton.mp z) (Nat.ne_of_gt lt)
      have vals : ∀ (i : Nat) (v : Value), its[i]? = some v → ∃ j t, ns[i]? = some j ∧ v = .int j t := fun i v hv => by
        have lti : i < ns.length := by
          rw [← size]
          exact (Array.getElem?_eq_some_iff.mp hv).1
        obtain ⟨t, e⟩ := allI.int_at i v (by rw [Array.getElem?_toList]; exact hv)
        have en := List.getElem?_eq_getElem lti
        refine ⟨_, t, en, e.trans ?_⟩
        rw [List.getD_eq_getElem?_getD, en]
        rfl
      refine set_update_ints (Walks.list quiet3 _ l lI its).toS s.heap.objs.size out ns size few vals (its.size - 0) 0 _ rfl (Nat.zero_le _) (And.intro (Exists.intro _ (And.intro (Heap.get?_push_size _ rfl) (And.intro rfl rfl))) (isL1.push _)) ?start ?last
      case start =>
        exact ⟨0, Nat.le_refl _, setR_new_at (Heap.get?_push_of_some _ at0)⟩
      case last =>
        intro s3 n mv le R
        obtain ⟨h3, g3', d3, tk3, o3⟩ := s3
        have m1 : g3' = s.gens := mv.gens
        have m2 : d3 = s.drawn := mv.drawn
        have m3 : o3 = s.os := mv.os
        subst m1 m2 m3
        refine wpAny_pure (?_ : wpAny _ _ (ret Value.none) _ _ _)
        rw [size] at le
        refine wpAny_pure (And.intro rfl ⟨h3, tk3, n, rfl, R, le, fun b o e => ?_⟩)
        have lb := Heap.lt_size e
        refine mv.heap b o (fun z => ?_) (Heap.get?_push_of_some _ (Heap.get?_push_of_some _ e))
        rcases List.mem_cons.mp z with z | z
        · exact absurd z (Nat.ne_of_lt lb)
        · have z1 := List.mem_singleton.mp z
          rw [sz] at z1
          exact absurd z1 (Nat.ne_of_lt (Nat.lt_succ_of_lt lb))
    · match r2, h2 with
      | .error e, h2 => exact h2
      | .ok (.ret v), h2 =>
        obtain ⟨rfl, h', tk, n, rfl, R, le, kp⟩ := h2
        repeat any_goals first | assumption | wp_step
        exact fin h' tk n R le kp
      | .ok .next, h2 => exact h2
      | .ok .brk, h2 => exact h2
      | .ok .cont, h2 => exact h2
  | .ok .next, h1 => exact h1
  | .ok .brk, h1 => exact h1
  | .ok .cont, h1 => exact h1
end
section
variable {X : Cx}
def rSetOfI (K : PySem.W.Frag) (w : World) : List V → Hp → VK → Prop := fun xs H Q => ∃ (l : Addr) (ns : List Int), xs = [V.ref l] ∧ SqL K H l (ns.map V.int) ∧ ns.length < 60 ∧
  ∀ (H' : Hp) a n, Same H H' → H a = none → H' a = some (SetO w a (fun j => decide (j ∈ ns)) n) → n ≤ ns.length → Q (.ref a) H'
theorem cr_setOfI (calm : X.calm = true) : CallR X (.type "set") (rSetOfI X.K X.w) := by
  intro pins s σ H xs us Q I r h
  obtain ⟨l, ns, rfl, hl, few, q⟩ := h
  rw [Vals.ref1 r]
  obtain ⟨its, rv, pl, _⟩ := I.list hl
  refine setL_ints (P := X.prog) (w := X.w) ns (I.ok.hd calm) pl.isList (ints_of_vals rv) (by unfold scanBound; omega) fun h2 tk n R le kp => ?_
  exact ⟨.ref s.heap.objs.size, _, I.laid (t' := tk) kp (Nat.le_refl _) (setO_new R), rfl, q _ _ n (fun b x e => by rw [upd_ne (ne_of_none e (I.hok.fresh (Nat.le_refl _)))]; exact e) (I.hok.fresh (Nat.le_refl _)) upd_same le⟩
end

/-! ### set(t), t a tuple of tuples of ints: the library has it of lists; the walk is a tuple's here -/
section
variable {P : Program} {w : World} {A : Around} {E : Value → Shared → Prop} {s : Shared}
abbrev noSetT (w : World) : Obj := { cls := .type "set", dict := none, data := .set #[] 0 (.fresh 0 0 (!w.params.followText "set-order")) }
theorem setT_tups {l : Addr} {its : Array Value} (ks : List (Addr × List Int)) {Q : Value → Shared → Prop} (quiet : A.handled = none) (isT : s.heap.IsTuple l its) (refs : its.toList = ks.map fun p => Value.ref p.1)
    (tk : ∀ p ∈ ks, IsT P w s.heap p.2 p.1) (few : ks.length < 64) (un : A.units + 3 < cLine)
    (fin : ∀ (h2 : Heap) (tk : Nat) L es ep t, SetTR P w h2 s.heap.objs.size L es ep t → Got ks ks.length L → (∀ b o, s.heap.get? b = some o → h2.get? b = some o) → Q (.ref s.heap.objs.size) { s with heap := h2, toks := tk }) :
    wpAny (model P w) A (call (.type "set") [.ref l]) Q E s := by
  have size : its.size = ks.length := by
    rw [← Array.length_toList, refs, List.length_map]
  obtain ⟨cA, tA, mA⟩ := F.called_set.mro
  have f1 := F.called_set.made
  have f2 := F.called_set.sub
  refine wpAny_call (codeAny_of_tree (?_ : wpAny _ _ (callAny (.type "set") _) _ _ _))
  refine wpAny_pure (And.intro (Code.quiet_builtin _ (by decide +kernel)) (codeAny_builtin F.entry_type_call ?_))
  rw [Around.under_plain (weight_type_call_type "set" [Value.ref l] []) rfl]
  have f3 := F.called_set.notType
  have f4 := F.called_set.canCreate
  have f5 := F.typeCall_set_1 (Value.ref l)
  repeat any_goals first | assumption | wp_step
  refine codeAny_mono (code_set_led1 (.ref l) (E := E) (Q₁ := fun v s1 => v = .ref s.heap.objs.size ∧ s1 = { s with heap := s.heap.push (noSetT w) }) (And.intro rfl rfl)) fun r s1 h1 => ?_
  match r, h1 with
  | .error e, h1 => exact h1
  | .ok (.ret v), h1 =>
    obtain ⟨rfl, rfl⟩ := h1
    have at0 : (s.heap.push (noSetT w)).get? s.heap.objs.size = some (noSetT w) := Heap.get?_push_size _ rfl
    have ty0 : Shared.TypeIs { s with heap := s.heap.push (noSetT w) } (.ref s.heap.objs.size) "set" := Exists.intro _ (And.intro at0 rfl)
    have f6 := F.called_set.init.lookup
    have f7 := F.called_set.init.bind (Value.ref s.heap.objs.size)
    repeat any_goals first | assumption | wp_step
    let Z : Value → Shared → Prop := fun v s2 => v = .none ∧ ∃ h2 tk L es ep t, s2 = { s with heap := h2, toks := tk } ∧ SetTR P w h2 s.heap.objs.size L es ep t ∧ Got ks ks.length L ∧ ∀ b o, s.heap.get? b = some o → h2.get? b = some o
    refine codeAny_mono (codeAny_call_builtin (R := wants Z E) F.called_set.init.plain F.entry_set_init (check_set_init_1 ty0 ?_)) fun r2 s2 h2 => ?_
    · obtain ⟨o, eo, ec, k, ed⟩ := isT
      obtain ⟨oc, od, oD, oS⟩ := o
      simp only at ec ed
      subst ec ed
      have lt : l < s.heap.objs.size := Heap.lt_size eo
      have eo1 : (s.heap.push (noSetT w)).get? l = some { cls := .type "tuple", dict := od, data := .seq its k, slots := oS } := Heap.get?_push_of_some _ eo
      have g1 := F.sub_tuple_set
      have g2 := F.sub_tuple_frozenset
      have g3 : (Value.type "tuple" == Value.type "dict") = false := by decide
      have isT1 : (s.heap.push (noSetT w)).IsTuple l its := Exists.intro _ (And.intro eo1 (And.intro rfl (Exists.intro k rfl)))
      unfold Builtin.«set.__init__» Builtin.Frozenset.updateFrom noKeywords
      generalize keep : pyIter = itr
      wp_walk
      subst keep
      refine wpAny_pyIter_tuple isT1 (wpAny_bind (wpAny_runValue ?_))
      have quiet3 : A.in1.in1.in1.handled = none := by simp [quiet]
      have sz : (s.heap.push (noSetT w)).objs.size = s.heap.objs.size + 1 := Heap.size_push ..
      have lI : l ≠ (s.heap.push (noSetT w)).objs.size := by
        rw [sz]
        exact Nat.ne_of_lt (Nat.lt_succ_of_lt lt)
      have out : s.heap.objs.size ∉ [(s.heap.push (noSetT w)).objs.size, l] := by
        rw [sz]
        intro z
        rcases List.mem_cons.mp z with z | z
        · exact absurd z (Nat.ne_of_lt (Nat.lt_succ_self _))
        · exact absurd (List.mem_singleton.mp z) (Nat.ne_of_gt lt)
      have vals : ∀ (i : Nat) (v : Value), its[i]? = some v → ∃ p, ks[i]? = some p ∧ v = .ref p.1 := fun i v hv => by
        have z : its.toList[i]? = some v := by
          rw [Array.getElem?_toList]
          exact hv
        rw [refs, List.getElem?_map] at z
        obtain ⟨p, e1, e2⟩ := Option.map_eq_some_iff.mp z
        exact Exists.intro p (And.intro e1 e2.symm)
      have beyond : ∀ b, s.heap.objs.size ≤ b → s.heap.get? b = none := fun b hb => by
        cases z : s.heap.get? b with
        | none => rfl
        | some o => exact (Nat.lt_irrefl _ (Nat.lt_of_lt_of_le (Heap.lt_size z) hb)).elim
      refine set_update_tups (Walks.tuple quiet3 _ l lI its).toS s.heap.objs.size out ks size few vals s.heap tk (beyond _ (Nat.le_refl _)) (fun b hb => beyond b ?_) un (its.size - 0) 0 _ rfl (Nat.zero_le _) (And.intro (Exists.intro _ (And.intro (Heap.get?_push_size _ rfl) (And.intro rfl rfl))) (isT1.push _)) (fun b o e => Heap.get?_push_of_some _ (Heap.get?_push_of_some _ e)) ?start ?last
      · rw [List.mem_singleton.mp hb, sz]
        exact Nat.le_succ _
      case start =>
        exact ⟨[], #[], 0, _, setTR_fresh (Heap.get?_push_of_some _ at0), Got.zero ks⟩
      case last =>
        intro s3 L es ep t mv R got kp
        obtain ⟨h3, g3', d3, tk3, o3⟩ := s3
        have m1 : g3' = s.gens := mv.gens
        have m2 : d3 = s.drawn := mv.drawn
        have m3 : o3 = s.os := mv.os
        subst m1 m2 m3
        refine wpAny_pure (?_ : wpAny _ _ (ret Value.none) _ _ _)
        rw [size] at got
        exact wpAny_pure (And.intro rfl ⟨h3, tk3, L, es, ep, t, rfl, R, got, kp⟩)
    · match r2, h2 with
      | .error e, h2 => exact h2
      | .ok (.ret v), h2 =>
        obtain ⟨rfl, h', tk, L, es, ep, t, rfl, R, got, kp⟩ := h2
        repeat any_goals first | assumption | wp_step
        exact fin h' tk L es ep t R got kp
      | .ok .next, h2 => exact h2
      | .ok .brk, h2 => exact h2
      | .ok .cont, h2 => exact h2
  | .ok .next, h1 => exact h1
  | .ok .brk, h1 => exact h1
  | .ok .cont, h1 => exact h1
end
section
variable {X : Cx}
def rSetOfTT (K : PySem.W.Frag) (P : Program) (w : World) : List V → Hp → VK → Prop := fun xs H Q => ∃ (l : Addr) (ks : List (Addr × List Int)), xs = [V.ref l] ∧ SqT K H l (ks.map fun p => V.ref p.1) ∧ (∀ p ∈ ks, SqT K H p.1 (p.2.map V.int)) ∧ ks.length < 64 ∧
  ∀ a L, H a = none → (∀ p ∈ L, p ∈ ks) → (∀ p ∈ ks, p.2 ∈ L.map (·.2)) → Q (.ref a) (upd H a (SetTO P w a L))
theorem cr_setOfTT (calm : X.calm = true) (units : X.A.units + 64 < cLine) : CallR X (.type "set") (rSetOfTT X.K X.prog X.w) := by
  intro pins s σ H xs us Q I r h
  obtain ⟨l, ks, rfl, hl, hk, few, q⟩ := h
  rw [Vals.ref1 r]
  obtain ⟨its, rv, pl, _⟩ := I.tuple hl
  have nn : H s.heap.objs.size = none := I.hok.fresh (Nat.le_refl _)
  refine setT_tups (P := X.prog) (w := X.w) (its := its.toArray) ks (I.ok.hd calm) pl (by simpa using refs_of_vals rv) (fun p hp => I.isT (hk p hp)) few (by omega) fun h2 tk L es ep t R got kp => ?_
  exact ⟨.ref s.heap.objs.size, _, I.laid (t' := tk) kp (Nat.le_refl _) (setTO_new R.t0), rfl, q _ L nn (fun p hp => List.mem_of_mem_take (got.sub p hp)) (fun p hp => got.all p (by rw [List.take_length]; exact hp))⟩
end

/-! ### defs that are run where no text-making of the machine is under way (repr, str of nested data ask for it) -/
abbrev Quiet (A : Around) : Prop := A.guards = some []
structure FnG (P : Program) (w : World) (K : PySem.W.Frag) (mg : Str → Option Value) (base : Heap) (k : Nat) (f : Addr) (fd : FuncData) (ps : List Str) (sp : Sp) : Prop where
  size : ∀ {vs H Q}, sp vs H Q E0 → vs.length = ps.length
  go : ∀ {A outer s H us vs Q}, Room k A → Quiet A → Env0 P w K mg base A outer s H → BindsTo s fd ⟨us, []⟩ (ps.zip us) → Vals vs us → sp vs H Q E0 →
    codeAny (model P w) A (.call (.ref f) ⟨us, []⟩) (CR CX0 outer P w H s Q E0) s
section
variable {P : Program} {w : World} {K : PySem.W.Frag} {mg : Str → Option Value} {base : Heap}
theorem FnG.of {x qual : Str} {st : Stmt} {f : Addr} {fd : FuncData} {N ps : List Str} {k : Nat} {sp : Sp} (F : Fun K x qual st f fd) (S : FnScope N ps (defScope st))
    (size : ∀ {vs H Q}, sp vs H Q E0 → vs.length = ps.length)
    (body : ∀ cdv A outer s H vs Q, Room k (A.deeper (envOfC qual (defScope st) s.heap.objs.size f cdv)) → Quiet (A.deeper (envOfC qual (defScope st) s.heap.objs.size f cdv)) → sp vs H Q E0 →
      ∃ t, PSs (cxOf CX0 P w K mg base N qual (defScope st) f cdv A outer s H E0).nox (defBody st) t ∧ t { nx := fun _ H' => Q .non H', rt := Q } (start N vs) H) :
    FnG P w K mg base (k + 1) f fd ps sp := by
  obtain ⟨oc, od, kV, doc, pm, an, cdv, ct, osl, rfl, look, code⟩ := F.ex
  constructor
  · exact size
  intro A outer s H us vs Q room quiet e0 bind rel want
  have inH : K.In s.heap := e0.mod.kin.keeps fun b o q => (e0.bs b o q).1
  have lim := e0.mod.nolimit.keeps (fun b o q => (e0.bs b o q).1)
  have kinds : ∀ y ∈ ps.zip us, (defScope st).names.lookup y.1 = some .local ∨ ((defScope st).names.lookup y.1 = some .cell ∧ ((cellsFrom (s.heap.objs.size + 1) (defScope st).names []).lookup y.1).isSome = true) := by
    rintro ⟨n, v⟩ hy
    have hn := (List.of_mem_zip hy).1
    cases S.par n hn with
    | inl q => exact Or.inl q
    | inr q => exact Or.inr ⟨q, PySem.W.cellsFrom_some _ _ _ (Or.inl q)⟩
  apply codeAny_call_function room.depth (inH _ _ look) rfl S.co S.gen rfl (PySem.W.codeRec_of inH code)
  apply bind
  apply wpAny_newFunctionEnv_cells S.kind kinds
  intro env he s1 x
  subst he
  refine And.intro (lim.keeps x.toInCall.keep) (codeAny_func ?_)
  obtain ⟨t, ht, hq⟩ := body cdv A outer s H vs Q (room.deeper _) quiet want
  have I := inv_start (CX := CX0) (E := E0) S room.hd e0 (size want) rel x
  apply wpAny_mono (ht.nox.run [] s1 (start N vs) H _ I hq)
  · intro fl s' hs
    cases fl with
    | ret u =>
      obtain ⟨v, σ', H', J, rv, q⟩ := hs
      exact Exists.intro v ⟨H', J.os, J.bare, J.base, J.hok, rv, q⟩
    | next =>
      obtain ⟨σ', H', J, q⟩ := hs
      exact Exists.intro V.non ⟨H', J.os, J.bare, J.base, J.hok, rfl, q⟩
    | brk => exact hs.elim fun _ h => h.elim fun _ h => h.2.elim
    | cont => exact hs.elim fun _ h => h.elim fun _ h => h.2.elim
  · intro e s' hs
    exact hs
end
section
variable {X : Cx} {k : Nat} {f : Addr} {fd : FuncData} {ps : List Str} {sp : Sp} {x : Str} {p pos : Pos} {e : Expr} {es : List Expr} {t : TA}
theorem pe_callG (F : FnG X.prog X.w X.K X.mg X.base k f fd ps sp) (room : Room k X.A) (quiet : Quiet X.A) (hg : Gl X x) (hm : X.mg x = some (.ref f)) (keep : PySem.W.keepIn X.K (.ref f) = true) (bind : Binds X.K fd ps [])
    (args : PA X (e :: es) t) (hdb : (x == ("__debug__" : Str)) = false := by decide) (star : starEach (e :: es) X.env = (false, eval e X.env) :: starEach es X.env := by rfl) (plain : (backTo pos (starEach es X.env)).any (·.1) = false := by rfl) :
    PE X (.Call (.Name x p) (e :: es) [] pos) (tCall sp [] E0 t) := by
  constructor
  intro pins s σ H Q I h
  apply wpAny_Call_Name_kw
  apply ld_glob I hg hm _ hdb
  apply PySem.W.callWith_K (h₀ := X.base) I.ok.mod.kin keep _ star plain
  apply thn (args.run pos pins s σ H _ I h)
  rintro us s1 ⟨vs, H1, I1, rel, q⟩
  refine And.intro I1.kIn ?_
  have q' : sp vs H1 Q E0 := by
    have z := q
    rw [List.append_nil] at z
    exact z
  have same : us.length = ps.length := rel.length.symm.trans (F.size q')
  have b := bind s1 us I1.kIn (by rw [List.append_nil]; exact same)
  rw [List.append_nil] at b
  apply wpAny_call
  apply codeAny_mono (F.go room quiet I1.env0 b rel q')
  intro r s' hr
  match r, hr with
  | .error _, hr => exact hr.elim
  | .ok (.ret u), hr => exact I1.after hr
  | .ok .next, hr => exact False.elim hr
  | .ok .brk, hr => exact False.elim hr
  | .ok .cont, hr => exact False.elim hr
end
/-! ### repr of data at any depth -/
structure Sm (n dp : Nat) (d : PyData) : Prop where
  shows : d.showable = true
  short : d.leavesShort 40 = true
  small : d.weight ≤ n
  flat : d.depth ≤ dp
theorem Sm.mono {n m dp dq : Nat} {d : PyData} (h : Sm n dp d) (h1 : n ≤ m) (h2 : dp ≤ dq) : Sm m dq d := ⟨h.shows, h.short, Nat.le_trans h.small h1, Nat.le_trans h.flat h2⟩
theorem Sm.none : Sm 0 0 .none := ⟨rfl, rfl, Nat.le_refl _, Nat.le_refl _⟩
theorem Sm.bool (b : Bool) : Sm 0 0 (.bool b) := ⟨rfl, rfl, Nat.le_refl _, Nat.le_refl _⟩
theorem log2_small {i : Int} (h : i.natAbs < 10 ^ 30) : i.natAbs.log2 < 100 := PySem.Flt.log2_lt_of (by decide) (Nat.lt_trans h (by decide))
theorem Sm.int {i : Int} (h : i.natAbs < 10 ^ 30) : Sm 100 0 (.int i) := by
  have l := log2_small h
  refine ⟨decide_eq_true (Nat.lt_trans l (by decide)), decide_eq_true ?_, ?_, Nat.le_refl _⟩
  · have q := int_text_length_le10 (a := i) (k := 30) (by decide) h
    show (Str.ofString (toString i)).length ≤ 40
    rw [PySem.ofString_length]
    exact Nat.le_trans q (by decide)
  · show (if i == 0 then 0 else i.natAbs.log2 + 1) ≤ 100
    split <;> omega
theorem smAll {n dp : Nat} : ∀ {ds : List PyData}, (∀ d ∈ ds, Sm n dp d) → PyData.showableAll ds = true ∧ PyData.leavesShortAll 40 ds = true ∧ PyData.weightAll ds ≤ ds.length * (n + 1) ∧ PyData.depthAll ds ≤ dp
  | [], _ => ⟨rfl, rfl, Nat.zero_le _, Nat.zero_le _⟩
  | d :: ds, h => by
    obtain ⟨a, b, c, e⟩ := smAll (ds := ds) fun x hx => h x (List.mem_cons_of_mem _ hx)
    have z := h d List.mem_cons_self
    refine ⟨?_, ?_, ?_, ?_⟩
    · show (d.showable && PyData.showableAll ds) = true
      rw [z.shows, a]
      rfl
    · show (d.leavesShort 40 && PyData.leavesShortAll 40 ds) = true
      rw [z.short, b]
      rfl
    · show d.weight + 1 + PyData.weightAll ds ≤ (ds.length + 1) * (n + 1)
      have := z.small
      rw [Nat.add_mul]
      omega
    · show max d.depth (PyData.depthAll ds) ≤ dp
      exact Nat.max_le.mpr ⟨z.flat, e⟩
theorem Sm.tup {n dp : Nat} {ds : List PyData} (h : ∀ d ∈ ds, Sm n dp d) : Sm (ds.length * (n + 1)) (dp + 1) (.tuple ds) :=
  let ⟨a, b, c, e⟩ := smAll h
  ⟨a, b, c, Nat.succ_le_succ e⟩
theorem Sm.lst {n dp : Nat} {ds : List PyData} (h : ∀ d ∈ ds, Sm n dp d) : Sm (ds.length * (n + 1)) (dp + 1) (.list ds) :=
  let ⟨a, b, c, e⟩ := smAll h
  ⟨a, b, c, Nat.succ_le_succ e⟩
theorem Sm.fits {n dp : Nat} {d : PyData} (h : Sm n dp d) (hn : n ≤ 300000) : d.shown.length ≤ sizeLine := by
  have q := PyData.shown_le 40 (by decide) d h.short
  have := h.small
  have e : sizeLine = 16777216 := by decide
  rw [e]
  omega
/-- data with dicts in it; its lists stand in the heap by themselves -/
def keyD : Key → PyData
  | .inl i => .int i
  | .inr x => .str x
mutual
inductive Dv (K : PySem.W.Frag) (H : Hp) : V → PyData → Prop
  | non : Dv K H .non .none
  | bl (b : Bool) : Dv K H (.bl b) (.bool b)
  | int (i : Int) : Dv K H (.int i) (.int i)
  | str (x : Str) : Dv K H (.str x) (.str x)
  | lst {a : Addr} {xs : List V} {ds : List PyData} : H a = some (.lst xs) → DvAll K H xs ds → Dv K H (.ref a) (.list ds)
  | tup {a : Addr} {xs : List V} {ds : List PyData} : H a = some (.tup xs) → DvAll K H xs ds → Dv K H (.ref a) (.tuple ds)
  | dic {a : Addr} {kvs : List (Key × V)} {ds : List PyData} : H a = some (.dK kvs) → DvAll K H (kvs.map (·.2)) ds → Dv K H (.ref a) (.dict ((kvs.map fun p => keyD p.1).zip ds))
inductive DvAll (K : PySem.W.Frag) (H : Hp) : List V → List PyData → Prop
  | nil : DvAll K H [] []
  | cons {v : V} {vs : List V} {d : PyData} {ds : List PyData} : Dv K H v d → DvAll K H vs ds → DvAll K H (v :: vs) (d :: ds)
end
theorem DvAll.length {K : PySem.W.Frag} {H : Hp} : ∀ {vs : List V} {ds : List PyData}, DvAll K H vs ds → vs.length = ds.length
  | _, _, .nil => rfl
  | _, _, .cons _ h => by rw [List.length_cons, List.length_cons, h.length]
theorem keys_read {P : Program} {w : World} {h : Heap} : ∀ {es : List DictEntry} {vs : List (Key × Value)}, Pairs (mixKind P w) es vs → ReadsAll h (es.map (·.key)) (vs.map fun p => keyD p.1) []
  | _, _, .nil => .nil
  | _, _, .cons (e := e) (kv := kv) hk _ r => by
    have one : Reads h e.key (keyD kv.1) [] := by
      rcases keyIs_shape hk with ⟨i, t, e1, e2⟩ | ⟨x, t, e1, e2⟩
      · rw [e1, e2]
        exact .int i t
      · rw [e1, e2]
        exact .str x t
    exact ReadsAll.cons one (keys_read r)
theorem vals_read {P : Program} {w : World} : ∀ {es : List DictEntry} {vs : List (Key × Value)}, Pairs (mixKind P w) es vs → es.map (·.val) = vs.map (·.2)
  | _, _, .nil => rfl
  | _, _, .cons _ hv r => by rw [List.map_cons, List.map_cons, hv, vals_read r]
theorem kv_vals : ∀ {kvs : List (Key × V)} {vs : List (Key × Value)}, KV kvs vs → Vals (kvs.map (·.2)) (vs.map (·.2)) ∧ (vs.map fun p => keyD p.1) = kvs.map fun p => keyD p.1
  | _, _, .nil => ⟨.nil, rfl⟩
  | _, _, .cons h r => by
    obtain ⟨a, b⟩ := kv_vals r
    refine ⟨.cons h.2 a, ?_⟩
    rw [List.map_cons, List.map_cons, b, h.1]
section
variable {X : Cx} {pins : List (Addr × Obj)} {σ : L2.St} {H : Hp} {s : Shared}
theorem Dv.reads (I : Inv X pins σ H s) (mods : ∃ mm, X.base.Ns sysModules mm) {v : V} {d : PyData} (h : Dv X.K H v d) : ∀ u : Value, RelV v u → ∃ as, Reads s.heap u d as ∧ sysModules ∉ as := by
  have free : H sysModules = none := by
    obtain ⟨mm, o, es, ep, e, _⟩ := mods
    exact (I.bs _ o e).2
  refine Dv.rec (K := X.K) (H := H) (motive_1 := fun v d _ => ∀ u : Value, RelV v u → ∃ as, Reads s.heap u d as ∧ sysModules ∉ as) (motive_2 := fun vs ds _ => ∀ us : List Value, Vals vs us → ∃ as, ReadsAll s.heap us ds as ∧ sysModules ∉ as) ?_ ?_ ?_ ?_ ?_ ?_ ?_ ?_ ?_ h
  · intro u r
    cases r
    exact ⟨_, .none, fun z => nomatch z⟩
  · intro b u r
    cases r
    exact ⟨_, .bool b, fun z => nomatch z⟩
  · intro i u r
    obtain ⟨t, rfl⟩ := r
    exact ⟨_, .int i t, fun z => nomatch z⟩
  · intro x u r
    obtain ⟨t, rfl⟩ := r
    exact ⟨_, .str x t, fun z => nomatch z⟩
  · intro a xs ds e _ ih u r
    cases r
    obtain ⟨_, its, n, rv, q⟩ := I.hok a _ e
    obtain ⟨as, ra, na⟩ := ih _ rv
    refine ⟨a :: as, .list q rfl rfl (by simpa using ra), fun z => ?_⟩
    rcases List.mem_cons.mp z with z | z
    · rw [← z, free] at e
      cases e
    · exact na z
  · intro a xs ds e _ ih u r
    cases r
    obtain ⟨_, its, rv, o, ho, hc, n, hd⟩ := I.hok a _ e
    obtain ⟨as, ra, na⟩ := ih _ rv
    exact ⟨as, .tuple ho hc hd (by simpa using ra), na⟩
  · intro a kvs ds e hall ih u r
    cases r
    obtain ⟨_, hne, vs, kv, o, es, ep, ho, ex, hd, _, prs, _⟩ := I.hok a _ e
    obtain ⟨rv, ek⟩ := kv_vals kv
    obtain ⟨as, ra, na⟩ := ih _ rv
    have len : (kvs.map fun p => keyD p.1).length = ds.length := by
      have z := hall.length
      rw [List.length_map] at z
      rw [List.length_map, z]
    refine ⟨_, .dict ho ex.1 hd (as := []) (bs := as) ?_ ?_, fun z => ?_⟩
    · rw [List.map_fst_zip (by omega), ← ek]
      exact keys_read prs
    · rw [List.map_snd_zip (by omega), vals_read prs]
      exact ra
    · rcases List.mem_cons.mp z with z | z
      · rw [← z] at hne
        exact absurd hne (by decide)
      · exact na z
  · intro us r
    cases r
    exact ⟨_, .nil, fun z => nomatch z⟩
  · intro v vs d ds _ _ ih1 ih2 us r
    cases r with
    | cons r1 r2 =>
      obtain ⟨as, ra, na⟩ := ih1 _ r1
      obtain ⟨bs, rb, nb⟩ := ih2 _ r2
      refine ⟨_, .cons ra rb, fun z => ?_⟩
      rcases List.mem_append.mp z with z | z
      · exact na z
      · exact nb z
theorem call_reprV (mods : ∃ mm, X.base.Ns sysModules mm) (quiet : Quiet X.A) (units : X.A.units + 64 < cLine) : CallR X (.builtin "repr")
    (fun xs H Q => ∃ v d n dp, xs = [v] ∧ Dv X.K H v d ∧ Sm n dp d ∧ n ≤ 300000 ∧ dp ≤ 60 ∧ Q (.str d.shown) H) := by
  intro pins s σ H xs us Q I r h
  obtain ⟨v, d, n, dp, rfl, hd, sm, hn, hdp, q⟩ := h
  obtain ⟨u, rfl, ru⟩ := vals1 r
  have fits := sm.fits hn
  have flat := sm.flat
  obtain ⟨as, rd, off⟩ := Dv.reads I mods hd _ ru
  cases hd with
  | non =>
    cases ru
    exact PySem.P.repr_of_none ⟨.str _, H, I.tok _, ⟨_, rfl⟩, q⟩
  | bl b =>
    cases ru
    exact PySem.P.repr_of_bool ⟨.str _, H, I.tok _, ⟨_, rfl⟩, q⟩
  | int i =>
    obtain ⟨t, rfl⟩ := ru
    exact PySem.P.repr_of_int (of_decide_eq_true sm.shows) ⟨.str _, H, I.tok _, ⟨_, rfl⟩, q⟩
  | str x =>
    obtain ⟨t, rfl⟩ := ru
    exact PySem.P.repr_of_str ⟨.str _, H, I.tok _, ⟨_, rfl⟩, q⟩ fits
  | _ =>
    cases ru
    exact repr_of_reads' rd sm.shows (fun _ => off) quiet (by omega) (fun _ _ e => e) (fun h' t tk more => ⟨.str _, H, I.kept more, ⟨_, rfl⟩, q⟩) fits
end
theorem Dp.noDict {K : PySem.W.Frag} {H : Hp} {v : V} {d : PyData} (h : Dp K H v d) : d.hasDict = false := by
  refine Dp.rec (K := K) (H := H) (motive_1 := fun v d _ => d.hasDict = false) (motive_2 := fun vs ds _ => PyData.hasDictAll ds = false) ?_ ?_ ?_ ?_ ?_ ?_ ?_ ?_ h
  all_goals intros
  all_goals simp_all [PyData.hasDict, PyData.hasDictAll]
section
variable {X : Cx}
theorem call_reprD (quiet : Quiet X.A) (units : X.A.units + 64 < cLine) : CallR X (.builtin "repr")
    (fun xs H Q => ∃ v d n dp, xs = [v] ∧ Dp X.K H v d ∧ Sm n dp d ∧ n ≤ 300000 ∧ dp ≤ 60 ∧ Q (.str d.shown) H) := by
  intro pins s σ H xs us Q I r h
  obtain ⟨v, d, n, dp, rfl, hd, sm, hn, hdp, q⟩ := h
  obtain ⟨u, rfl, ru⟩ := vals1 r
  have fits := sm.fits hn
  have flat := sm.flat
  obtain ⟨as, rd⟩ := Dp.reads I d v u hd ru
  cases hd with
  | non =>
    cases ru
    exact PySem.P.repr_of_none ⟨.str _, H, I.tok _, ⟨_, rfl⟩, q⟩
  | bl b =>
    cases ru
    exact PySem.P.repr_of_bool ⟨.str _, H, I.tok _, ⟨_, rfl⟩, q⟩
  | int i =>
    obtain ⟨t, rfl⟩ := ru
    exact PySem.P.repr_of_int (of_decide_eq_true sm.shows) ⟨.str _, H, I.tok _, ⟨_, rfl⟩, q⟩
  | str x =>
    obtain ⟨t, rfl⟩ := ru
    exact PySem.P.repr_of_str ⟨.str _, H, I.tok _, ⟨_, rfl⟩, q⟩ fits
  | lst h1 h2 =>
    cases ru
    exact repr_of_reads' rd sm.shows (PyData.noDict_hsm (Dp.noDict (Dp.lst h1 h2))) quiet (by omega) (fun _ _ e => e) (fun h' t tk more => ⟨.str _, H, I.kept more, ⟨_, rfl⟩, q⟩) fits
  | tup h1 h2 =>
    cases ru
    exact repr_of_reads' rd sm.shows (PyData.noDict_hsm (Dp.noDict (Dp.tup h1 h2))) quiet (by omega) (fun _ _ e => e) (fun h' t tk more => ⟨.str _, H, I.kept more, ⟨_, rfl⟩, q⟩) fits
end
/-! ### the end of a law row whose def is of the quiet kind -/
theorem quiet_law {P : Program} {w : World} {K : PySem.W.Frag} {mg mb : Str → Option Value} {k : Nat} {fa a : Addr} {fd : FuncData} {x : Str} {sp : Sp} {s₁ : Shared} {vs : List Value} {ns : List Int}
    (inK : K.In s₁.heap) (glob : s₁.heap.Ns mainGlobals mg) (blt : s₁.heap.Ns builtinsNs mb) (bltIs : ∀ y : Str, y ≠ "__name__" → mb y = bootBuiltins y) (lim : s₁.heap.NoLimit) (gens : s₁.gens = #[]) (mods : ∃ mm, s₁.heap.Ns sysModules mm)
    (here : s₁.heap.get? a = some { cls := .type "list", data := .seq vs.toArray }) (whole : IntsAre vs ns) (few : ns.length ≤ sizeLine) (room : Room k callerA)
    (F : ∀ base : Heap, K.In base → base.Ns mainGlobals mg → (∃ mm, base.Ns sysModules mm) → FnG P w K mg base k fa fd [x] sp) (bind : ∀ (s : Shared) (u : Value), BindsTo s fd ⟨[u], []⟩ [(x, u)])
    (want : ∀ H : Hp, Only H → SqL K H a (ns.map V.int) → sp [.ref a] H (fun v _ => v = .bl true) E0) :
    codeAny (model P w) callerA (.call (.ref fa) ⟨[.ref a], []⟩) (fun r s' => r = .ok (.ret (.bool true)) ∧ OldK s₁.heap s'.heap ∧ s'.os = s₁.os ∧ AllBare s'.gens) s₁ := by
  have rel := vals_ints whole
  -- H: the script alone, or nothing
  have main : ∀ H : Hp, Only H → SqL K H a (ns.map V.int) → HOk P w H s₁.heap → (∀ b u, H b = some u → b = a ∧ K.lookup b = none) →
      codeAny (model P w) callerA (.call (.ref fa) ⟨[.ref a], []⟩) (fun r s' => r = .ok (.ret (.bool true)) ∧ OldK s₁.heap s'.heap ∧ s'.os = s₁.os ∧ AllBare s'.gens) s₁ := by
    intro H only sq ok apart
    have untold : ∀ {b o}, s₁.heap.get? b = some o → (b = a → False) → H b = none := by
      intro b o e ne
      cases q : H b with
      | none => rfl
      | some u => exact (ne (apart b u q).1).elim
    have ns1 : ∀ {b m}, s₁.heap.Ns b m → (hidT s₁.heap H).Ns b m := by
      rintro b m ⟨o, es, ep, e, d, r⟩
      refine ⟨o, es, ep, hidT_get e (untold e fun z => ?_), d, r⟩
      subst z
      rw [here] at e
      cases e
      cases d
    have kIn : K.In (hidT s₁.heap H) := by
      intro b o e
      apply hidT_get (inK b o e)
      cases q : H b with
      | none => rfl
      | some u =>
        have z := (apart b u q).2
        rw [e] at z
        cases z
    have lim1 : (hidT s₁.heap H).NoLimit := by
      obtain ⟨mc, h1, h2⟩ := lim
      exact ⟨mc, ns1 h1, h2⟩
    have e0 : Env0 P w K mg (hidT s₁.heap H) callerA [] s₁ H := {
      frames := rfl, mod := ⟨kIn, ns1 glob, ⟨mb, ns1 blt, bltIs⟩, lim1⟩, bs := fun _ _ e => of_hidT e, bsz := Nat.le_of_eq (hidT_size _ _), funs := True.intro, frf := (fun _ hb => nomatch hb), hok := ok, bare := .of_eq gens }
    apply codeAny_mono ((F _ kIn (ns1 glob) (mods.elim fun mm h => ⟨mm, ns1 h⟩)).go (us := [.ref a]) (vs := [.ref a]) room rfl e0 (bind s₁ _) (.cons rfl .nil) (want H only sq))
    intro r s' hr
    match r, hr with
    | .error _, hr => exact hr.elim
    | .ok .next, hr => exact False.elim hr
    | .ok .brk, hr => exact False.elim hr
    | .ok .cont, hr => exact False.elim hr
    | .ok (.ret u), hr =>
      obtain ⟨v, H', os, bare, un, ok', rv, q⟩ := hr
      cases (show v = V.bl true from q)
      cases (show u = Value.bool true from rv)
      refine ⟨rfl, OldK.of_keep ?_, os, bare⟩
      intro b o e
      cases only b with
      | inl n => exact un.keep b o e n (fun z => nomatch z) (fun z => nomatch z)
      | inr n =>
        obtain ⟨ob, xs, z⟩ := n
        have e1 := (ok b _ z).1
        have e2 := (ok' b _ (un.frzs b ob _ z)).1
        rw [e] at e1
        cases e1
        exact e2
  have small : (ns.map V.int).length ≤ sizeLine := by rw [List.length_map]; exact few
  cases known : K.lookup a with
  | some o =>
    have e := inK a o known
    rw [here] at e
    cases e
    have sz : vs.length ≤ sizeLine := by rw [← rel.length]; exact small
    exact main (fun _ => none) (fun _ => .inl rfl) (.inr ⟨_, vs.toArray, _, known, rfl, rfl, rfl, by simpa using sz, by simpa using rel⟩) (fun _ _ z => nomatch z) (fun _ _ z => nomatch z)
  | none =>
    have at1 : ∀ {b u}, (if b = a then some (HO.frz { cls := .type "list", data := .seq vs.toArray } (.lst (ns.map V.int))) else none) = some u → b = a := by
      intro b u z
      by_cases hb : b = a
      · exact hb
      · rw [if_neg hb] at z
        cases z
    refine main (fun b => if b = a then some (.frz { cls := .type "list", data := .seq vs.toArray } (.lst (ns.map V.int))) else none) (fun b => ?_) (.inl (.inr ⟨{ cls := .type "list", data := .seq vs.toArray }, if_pos rfl⟩)) (fun b u z => ?_) (fun b u z => ?_)
    · by_cases hb : b = a
      · exact .inr ⟨_, _, if_pos hb⟩
      · exact .inl (if_neg hb)
    · have hb := at1 z
      subst hb
      have z2 := (if_pos rfl).symm.trans z
      cases z2
      exact ⟨here, small, vs, _, rel, here⟩
    · have hb := at1 z
      subst hb
      exact ⟨rfl, known⟩
theorem quiet_walk {l : PySem.W.OpenLaw} {n k : Nat} {q : Program} {loose : List Str} {XP : (Str → Option Value) → Heap → Prop} {YP : World → Heap → Prop} {d : DefRec} {K : Params → PySem.W.Frag} {sp : World → Sp} {x : Str}
    (noImport : importsNone q = true) (most : l.most = some n) (n2 : n ≤ sizeLine) (defaults : d.params.defaults = []) (room : Room k callerA) (hY : ∀ (w : World) (h : Heap), YP w h → (K w.params).In h)
    (F : ∀ (w : World) (mg : Str → Option Value) (fa : Addr) (h : Heap), (K w.params).In h → h.Ns mainGlobals mg → mg d.name = some (.ref fa) →
      ∃ fd : FuncData, (∀ (s : Shared) (u : Value), BindsTo s fd ⟨[u], []⟩ [(x, u)]) ∧ ∀ base : Heap, (K w.params).In base → base.Ns mainGlobals mg → (∃ mm, base.Ns sysModules mm) → FnG l.prog w (K w.params) mg base k fa fd [x] (sp w))
    (want : ∀ (w : World) (H : Hp) (a : Addr) (ns : List Int), ns.length ≤ n → Only H → SqL (K w.params) H a (ns.map V.int) → sp w [.ref a] H (fun v _ => v = .bl true) E0) :
    PySem.W.WalkO q loose XP YP l.row.toRowW d [] (fun f vs => PySem.call f vs) := by
  apply Att.attach_call most defaults
  intro w s₀ s₁ mg mb fa o pm cd doc a vs ns G Y ho hd hcd hmg hobj hints hlen hg
  obtain ⟨fd, hb, hF⟩ := F w mg fa _ (hY w _ Y) G.T.g hmg
  exact quiet_law (hY w _ Y) G.T.g G.T.b G.T.builtins G.T.nolimit hg ((G.T.seer noImport).mods.elim fun mm h => ⟨mm, h.1⟩) hobj hints (Nat.le_trans hlen n2) room hF hb fun H o1 s1 => want w H a ns hlen o1 s1

/-! ### a op1 b op2 c op3 .. : chains of any length -/
section
variable {X : Cx}
structure PCh (X : Cx) (ops : List CmpOp) (es : List Expr) (t : V → TE) : Prop where
  run : ∀ (pos : Pos) (pins : List (Addr × Obj)) (s : Shared) (σ : L2.St) (H : Hp) (Q : VK) (x : V) (v : Value), Inv X pins σ H s → RelV x v → t x σ H Q → wpAny (model X.prog X.w) X.A (compareChain pos v ops (evalEach es X.env)) (EP X pins σ Q) X.xe s
structure PChT (X : Cx) (ops : List CmpOp) (es : List Expr) (t : V → TE) : Prop where
  run : ∀ (pos : Pos) (pins : List (Addr × Obj)) (s : Shared) (σ : L2.St) (H : Hp) (Q : Bool → Hp → Prop) (x : V) (v : Value), Inv X pins σ H s → RelV x v → (t x σ H fun y H' => ∃ k, y = .bl k ∧ Q k H') → wpAny (model X.prog X.w) X.A (testChain pos v ops (evalEach es X.env)) (TP X pins σ Q) X.xe s
def tLast (r : R2) (tb : TE) : V → TE := fun x σ H Q => tb σ H fun y H2 => r x y H2 Q
def tLink (r : R2) (tb : TE) (rest : V → TE) : V → TE := fun x σ H Q => tb σ H fun y H2 => r x y H2 fun z H3 => ∃ k, z = .bl k ∧ (if k = true then rest y σ H3 Q else Q (.bl false) H3)
def tCh (ta : TE) (rest : V → TE) : TE := fun σ H Q => ta σ H fun x H1 => rest x σ H1 Q
theorem pch_last {op : CmpOp} {r : R2} {b : Expr} {tb : TE} (ho : OpR X (compareOp op) r) (hb : PE X b tb) : PCh X [op] [b] (tLast r tb) :=
  ⟨fun pos pins s σ H Q x v I rx h => chain_last (thn (hb.run pins s σ H _ I h) fun u s2 ⟨y, H2, I2, r2, q2⟩ => ho pins s2 σ H2 x y v u Q I2 rx r2 q2)⟩
theorem pch_link {op op' : CmpOp} {ops : List CmpOp} {r : R2} {b b' : Expr} {bs : List Expr} {tb : TE} {rest : V → TE} (ho : OpR X (compareOp op) r) (hb : PE X b tb) (hr : PCh X (op' :: ops) (b' :: bs) rest) : PCh X (op :: op' :: ops) (b :: b' :: bs) (tLink r tb rest) := by
  refine ⟨fun pos pins s σ H Q x v I rx h => ?_⟩
  refine chain_link (thn (hb.run pins s σ H _ I h) fun u s2 ⟨y, H2, I2, r2, q2⟩ => thn (ho pins s2 σ H2 x y v u _ I2 rx r2 q2) fun d s3 ⟨z, H3, I3, r3, k, e, q3⟩ => ?_)
  subst e
  cases r3
  refine wpAny_truthy_bool ?_
  cases k with
  | false => exact ite_ff ⟨.bl false, H3, I3, rfl, q3⟩
  | true => exact ite_tt (hr.run pos pins s3 σ H3 Q y u I3 r2 q3)
theorem pe_chN {op op' : CmpOp} {ops : List CmpOp} {a b b' : Expr} {bs : List Expr} {pos : Pos} {ta : TE} {rest : V → TE} (ha : PE X a ta) (hr : PCh X (op :: op' :: ops) (b :: b' :: bs) rest)
    (hm : lastMarks (op :: op' :: ops) (b :: b' :: bs) = false := by with_unfolding_all rfl) : PE X (.Compare a (op :: op' :: ops) (b :: b' :: bs) pos) (tCh ta rest) :=
  ⟨fun pins s σ H Q I h => Compare_chain (thn (ha.run pins s σ H _ I h) fun v s1 ⟨x, H1, I1, r1, q1⟩ => hr.run pos pins s1 σ H1 Q x v I1 r1 q1) hm⟩
theorem pchT_last {op : CmpOp} {r : R2} {b : Expr} {tb : TE} (ho : OpR X (compareOp op) r) (hb : PE X b tb) : PChT X [op] [b] (tLast r tb) := by
  refine ⟨fun pos pins s σ H Q x v I rx h => ?_⟩
  refine test_last (thn (hb.run pins s σ H _ I h) fun u s2 ⟨y, H2, I2, r2, q2⟩ => thn (ho pins s2 σ H2 x y v u _ I2 rx r2 q2) fun d s3 ⟨z, H3, I3, r3, k, e, q3⟩ => ?_)
  subst e
  cases r3
  exact wpAny_truthy_bool ⟨H3, I3, q3⟩
theorem pchT_link {op op' : CmpOp} {ops : List CmpOp} {r : R2} {b b' : Expr} {bs : List Expr} {tb : TE} {rest : V → TE} (ho : OpR X (compareOp op) r) (hb : PE X b tb) (hr : PChT X (op' :: ops) (b' :: bs) rest) : PChT X (op :: op' :: ops) (b :: b' :: bs) (tLink r tb rest) := by
  refine ⟨fun pos pins s σ H Q x v I rx h => ?_⟩
  refine test_link (thn (hb.run pins s σ H _ I h) fun u s2 ⟨y, H2, I2, r2, q2⟩ => thn (ho pins s2 σ H2 x y v u _ I2 rx r2 q2) fun d s3 ⟨z, H3, I3, r3, k, e, q3⟩ => ?_)
  subst e
  cases r3
  refine wpAny_truthy_bool ?_
  cases k with
  | false =>
    obtain ⟨k', e', q'⟩ := q3
    cases e'
    exact ite_ff ⟨H3, I3, q'⟩
  | true => exact ite_tt (hr.run pos pins s3 σ H3 Q y u I3 r2 q3)
theorem pt_chN {op op' : CmpOp} {ops : List CmpOp} {a b b' : Expr} {bs : List Expr} {pos : Pos} {ta : TE} {rest : V → TE} (ha : PE X a ta) (hr : PChT X (op :: op' :: ops) (b :: b' :: bs) rest)
    (hm : lastMarks (op :: op' :: ops) (b :: b' :: bs) = false := by with_unfolding_all rfl) : PT X (.Compare a (op :: op' :: ops) (b :: b' :: bs) pos) (tTest (tCh ta rest)) :=
  ⟨fun pins s σ H Q I h => isTrue_chain (thn (ha.run pins s σ H _ I h) fun v s1 ⟨x, H1, I1, r1, q1⟩ => hr.run pos pins s1 σ H1 Q x v I1 r1 q1) hm⟩
end

theorem pi_listK {X : Cx} {K : PySem.W.Frag} {tg l : Expr} {tl : TE} (hK : X.K = K) (hl : PE X l tl) : PI X tg l (iList K tl) := hK ▸ pi_list hl
theorem pi_tupK {X : Cx} {K : PySem.W.Frag} {tg l : Expr} {tl : TE} (hK : X.K = K) (hl : PE X l tl) : PI X tg l (iTup K tl) := hK ▸ pi_tup hl

/-! ### enumerate of a tuple -/
section
open Sem (wp)
set_option maxHeartbeats 4000000 in
theorem enum_of_tuple (t : Addr) (items : Array Value) : Meets (Builtin.«enumerate.__new__» ⟨[.type "enumerate", .ref t], []⟩) (fun _ R s => s.heap.IsTuple t items ∧
    R (.ok (.ret (.ref (s.heap.push { cls := .type "tuple_iterator", data := .fields #[.ref t, .int 0 0] }).objs.size)))
      { s with heap := (s.heap.push { cls := .type "tuple_iterator", data := .fields #[.ref t, .int 0 0] }).push { cls := .type "enumerate", data := .fields #[.none, .bool false, .ref s.heap.objs.size, rawInt 0, .none, .none] } }) := by
  refine .of_wp fun prog w A R s h => ?_
  obtain ⟨hp, g, d, tk, os⟩ := s
  obtain ⟨isT, h⟩ := h
  have sub := sub_enumerate
  have start : ∀ {A' : Around} {E : Value → Shared → Prop} {Q : Value → Shared → Prop}, Q (.ref hp.objs.size) ⟨hp.push { cls := .type "tuple_iterator", data := .fields #[.ref t, .int 0 0] }, g, d, tk, os⟩ → wpAny (model prog w) A' (pyIter (.ref t)) Q E ⟨hp, g, d, tk, os⟩ := by
    intro A' E Q q
    exact (begins_tuple t items).iter prog w A' E ⟨hp, g, d, tk, os⟩ Q isT q
  wp_walk using start
  refine wpAny_stack_any fun st => wpAny_pure ?_
  split
  · rename_i cc _ _ _ _ _
    cases (cc == Value.type "enumerate") <;> (wp_walk using start; exact Exists.intro _ ⟨rfl, h⟩)
  · wp_walk using start
    exact Exists.intro _ ⟨rfl, h⟩
end
theorem call_enumT {prog : Program} {w : World} {A : Around} {E : Value → Shared → Prop} {s : Shared} {t : Addr} {items : Array Value} {Q : Value → Shared → Prop} (isT : s.heap.IsTuple t items)
    (h : ∀ h', IsEnum h' (s.heap.objs.size + 1) s.heap.objs.size 0 .none → h'.IsTupleIter s.heap.objs.size t 0 → (∀ b o, s.heap.get? b = some o → h'.get? b = some o) → Q (.ref (s.heap.objs.size + 1)) { s with heap := h' }) :
    wpAny (model prog w) A (call (.type "enumerate") [.ref t]) Q E s := by
  refine callType_new F.called_enumerate (by decide) (F.typeCall_enumerate_1 _) (F.newCall_enumerate_1 _) (fun obj => F.args_object_init_2 obj _) F.entry_enumerate_new (enum_of_tuple t items) (And.intro isT ?_)
  have size : (s.heap.push { cls := .type "tuple_iterator", data := .fields #[.ref t, .int 0 0] }).objs.size = s.heap.objs.size + 1 := Heap.size_push ..
  show _ ∧ _
  rw [size]
  have made := Heap.get?_push_size (s.heap.push { cls := .type "tuple_iterator", data := .fields #[.ref t, .int 0 0] }) (o := { cls := .type "enumerate", data := .fields #[.none, .bool false, .ref s.heap.objs.size, rawInt 0, .none, .none] }) rfl
  rw [size] at made
  refine ⟨⟨_, made, rfl⟩, h _ made ⟨_, Heap.get?_push_of_some _ (Heap.get?_push_size _ rfl), rfl, rfl⟩ ?_⟩
  intro b o e
  exact Heap.get?_push_of_some _ (Heap.get?_push_of_some _ e)
/-- the tuple at a, each item in a new pair with its place -/
def IteT (K : PySem.W.Frag) (a : Addr) (N : Nat) : It where
  go := fun i H => ∃ (xs : List V) (x : V), SqT K H a xs ∧ xs[i]? = some x ∧ xs.length = N
  yld := fun i H v H' => ∃ t x, v = .ref t ∧ H t = none ∧ H' = upd H t (.tup [.int (i : Nat), x]) ∧ ∀ xs, SqT K H a xs → xs[i]? = some x
  stop := fun i H => ∃ xs : List V, SqT K H a xs ∧ xs.length = N ∧ N ≤ i
theorem turn_enumT {P : Program} {w : World} {K : PySem.W.Frag} {elts : List Expr} {kk : Nat} {tpos : Pos} (a e it : Addr) (N : Nat) :
    Turn P w K (.Tuple elts kk tpos) (IteT K a N) [e, it] e (fun i h => (∃ old, IsEnum h e it ((i : Nat) : Int) old) ∧ h.IsTupleIter it a i ∧ e ≠ it ∧ i ≤ N) := by
  have two : ∀ {b : Addr}, b ∈ [e, it] → b = e ∨ b = it := fun hb => by simpa using hb
  constructor
  · simp
  · rintro i h ⟨⟨old, he⟩, ⟨o, ho, hc, hd⟩, _, _⟩ b hb
    rcases two hb with rfl | rfl
    · exact ⟨_, he, fun v q => nomatch q⟩
    · refine ⟨o, ho, fun v q => ?_⟩
      rw [hd] at q
      cases q
  · rintro i h h' ⟨⟨old, he⟩, hi, hne, hN⟩ k
    exact ⟨⟨old, k e (by simp) _ he⟩, hi.at fun o q => k it (by simp) o q, hne, hN⟩
  · intro X hP hw hK hc i pins s σ H E I hf st hg
    subst hP hw hK
    obtain ⟨⟨old, he⟩, hit, hne, hN⟩ := st
    obtain ⟨xs, x, hq, hx, hxN⟩ := hg
    have inside := (List.getElem?_eq_some_iff.mp hx).1
    obtain ⟨its, rv, p, _⟩ := I.tuple hq
    obtain ⟨u, hu, ru⟩ := rv.get hx
    have isT : s.heap.IsTuple a its.toArray := p
    have apart : a ≠ it := by
      rintro rfl
      obtain ⟨o1, q1, c1, _⟩ := hit
      obtain ⟨o2, q2, c2, _⟩ := isT
      rw [q1] at q2
      cases q2
      rw [c1] at c2
      exact absurd (Value.type.inj c2) (by decide)
    have hea : e ≠ a := by
      rintro rfl
      obtain ⟨o2, q2, c2, _⟩ := isT
      rw [he] at q2
      cases q2
      exact absurd (Value.type.inj c2) (by decide)
    have lte : e < s.heap.objs.size := Heap.lt_size he
    have lti : it < s.heap.objs.size := hit.elim fun _ q => Heap.lt_size q.1
    have less : i < its.toArray.size := by
      have z := (List.getElem?_eq_some_iff.mp hu).1
      rw [List.size_toArray]
      exact z
    apply wpAny_pyNext_enum_itemD (Draws.tuple (A := X.A.in1) (I.ok.hd hc) it a apart its.toArray) he ⟨hit, isT⟩ less hne (by simp [hne, hea])
    intro y h' tk hy ho st' hT hsz hk
    have ey : y = u := by
      have z : its[i]? = some y := by simpa using hy
      rw [hu] at z
      exact (Option.some.inj z).symm
    subst ey
    refine ⟨_, rfl, wpAny_letOwnedTupleGo_enum (s := { s with heap := h', toks := tk + 1 }) ho fun h2 he2 sb => ?_⟩
    have kept : ∀ b o, b ∉ [e, it] → s.heap.get? b = some o → h2.get? b = some o := by
      intro b o nb q
      have n1 : b ≠ e := fun z => nb (by simp [z])
      have n2 : b ≠ it := fun z => nb (by simp [z])
      exact (sb.2 b n1).trans (hk b o n1 n2 q)
    have hT2 : h2.get? s.heap.objs.size = some { cls := .type "tuple", data := .seq #[.int i tk, y] } := (sb.2 _ (Nat.ne_of_gt lte)).trans hT
    have I1 : Inv X pins σ (upd H s.heap.objs.size (.tup [.int (i : Nat), x])) { s with heap := h2, toks := tk + 1 } := by
      refine I.turnedNew (ch := [e, it]) kept hf (Nat.le_refl _) ⟨by show 2 ≤ sizeLine; decide, [.int i tk, y], .cons ⟨_, rfl⟩ (.cons ru .nil), ?_⟩
      exact ⟨_, hT2, rfl, _, rfl⟩
    refine ⟨.ref s.heap.objs.size, _, I1, rfl, ⟨_, x, rfl, I.hok.fresh (Nat.le_refl _), rfl, fun ys hys => ?_⟩, ⟨⟨y, ?_⟩, ?_, hne, by omega⟩, fun b hb => ?_⟩
    · rw [I.tuple_inj hys hq]
      exact hx
    · have cast : ((i + 1 : Nat) : Int) = (i : Int) + 1 := by omega
      rw [cast]
      exact he2
    · exact st'.1.at fun o q => (sb.2 it hne.symm).trans q
    · have lt : b < s.heap.objs.size := by
        rcases two hb with rfl | rfl
        · exact lte
        · exact lti
      rw [upd_ne (Nat.ne_of_lt lt)]
      exact (hf b hb).1
  · intro X hP hw hK hc i pins s σ H E I hf st hg
    subst hP hw hK
    obtain ⟨⟨old, he⟩, hit, hne, hN⟩ := st
    obtain ⟨xs, hq, hxN, hx⟩ := hg
    obtain ⟨its, rv, p, _⟩ := I.tuple hq
    have isT : s.heap.IsTuple a its.toArray := p
    have apart : a ≠ it := by
      rintro rfl
      obtain ⟨o1, q1, c1, _⟩ := hit
      obtain ⟨o2, q2, c2, _⟩ := isT
      rw [q1] at q2
      cases q2
      rw [c1] at c2
      exact absurd (Value.type.inj c2) (by decide)
    obtain ⟨f0, f1, f2, f3, f4, f5⟩ := hf it (by simp)
    have len := rv.length
    have at1 : i = its.toArray.size := by
      rw [List.size_toArray]
      omega
    subst at1
    apply wpAny_pyNext_enum_endD (Draws.tuple (A := X.A.in1) (I.ok.hd hc) it a apart its.toArray) he ⟨hit, isT⟩
    intro h' eb
    exact And.intro rfl (I.turned (t' := s.toks) (fun b o hb q => eb b o hb q) f0 f1 f3 f4 f5)
  · rintro A i s Q E ⟨⟨_, he⟩, _⟩ h
    exact wpAny_pyIter_enum he h
def iEnumT (K : PySem.W.Frag) (ta : TA) : TI := fun σ H R => ta σ H fun vs H1 => ∃ a xs, vs = [.ref a] ∧ SqT K H1 a xs ∧ R (IteT K a xs.length) H1
theorem pi_enumT {X : Cx} {e : Expr} {ta : TA} {p pos tpos : Pos} {elts : List Expr} {kk : Nat} (hg : Gl X "enumerate") (hm : X.mg "enumerate" = none) (args : PA X [e] ta) (star : starEach [e] X.env = [(false, eval e X.env)] := by rfl) :
    PI X (.Tuple elts kk tpos) (.Call (.Name "enumerate" p) [e] [] pos) (iEnumT X.K ta) := by
  constructor
  intro pins s σ H R I h
  refine Call_ (ld_blt I hg hm boot_enumerate ?_)
  refine PyProof.Rows.callWith_type1 (thn (args.run pos pins s σ H _ I h) ?_) star rfl
  rintro us s1 ⟨vs, H1, I1, rel, a, xs, rfl, sq, q⟩
  obtain ⟨u, rfl, ru⟩ := vals1 rel
  cases ru
  obtain ⟨its, rv, isT, _⟩ := I1.tuple sq
  refine call_enumT (items := its.toArray) isT fun h' he hit hk => wpAny_pyIter_enum he ?_
  have fresh : ∀ b ∈ [s1.heap.objs.size + 1, s1.heap.objs.size], s1.heap.objs.size ≤ b := by
    intro b hb
    have z : b = s1.heap.objs.size + 1 ∨ b = s1.heap.objs.size := by simpa using hb
    rcases z with rfl | rfl
    · exact Nat.le_add_right _ _
    · exact Nat.le_refl _
  exact ⟨_, _, _, _, H1, rfl, I1.kept hk, turn_enumT a (s1.heap.objs.size + 1) s1.heap.objs.size xs.length, ⟨⟨.none, he⟩, hit, Nat.succ_ne_self _, Nat.zero_le _⟩, fun b hb => I1.fpOk (fresh b hb) (I1.hok.fresh (fresh b hb)), q⟩

/-! ### t[::-1] of a tuple; xs == [], xs != [] of a list that may hold anything -/
section
open HT
variable {prog : Program} {w : World} {A : Around} {E : Value → Shared → Prop} {s : Shared}
theorem adjust_rev (n : Nat) : Builtin.Slice.sliceAdjust none none (-1) (n : Int) = ((n : Int) - 1, -1) := by
  unfold Builtin.Slice.sliceAdjust
  have h1 : (-1 : Int) < 0 := by decide
  simp only [h1, if_true]
theorem places_rev (n : Nat) : Builtin.Slice.slicePlaces ((n : Int) - 1) (-1) (-1) = n := by
  unfold Builtin.Slice.slicePlaces
  have h1 : ¬ ((-1 : Int) > 0) := by decide
  simp only [h1, if_false]
  have h2 : (-(-1) : Int) = 1 := by decide
  rw [h2, Int.ediv_one]
  split <;> omega
theorem sliceApplied_rev {sl : Addr} {vl vu vs : Value} {n : Nat} {Q : Int × Int × Nat → Shared → Prop} (hs : s.heap.IsSliceOf sl vl vu vs) (pl : IsPart vl none) (pu : IsPart vu none) (pt : IsPart vs (some (-1)))
    (h : Q ((n : Int) - 1, -1, n) s) : wpAny (model prog w) A (Builtin.Slice.sliceApplied (.ref sl) (pure (n : Int))) Q E s := by
  obtain ⟨os, hos, hcs, hds⟩ := id hs
  unfold Builtin.Slice.sliceApplied Builtin.Slice.sliceFields
  refine wpAny_bind (wpAny_bind (wpAny_field hos hds (x := vl) rfl (wpAny_bind (wpAny_field hos hds (x := vu) rfl (wpAny_bind (wpAny_field hos hds (x := vs) rfl (wpAny_pure ?_)))))))
  refine wpAny_bind (slicePart_ pt ?_)
  show wpAny _ _ (if ((-1 : Int) == 0) = true then _ else _) _ _ s
  rw [if_neg (by decide)]
  refine wpAny_bind (slicePart_ pl (wpAny_bind (slicePart_ pu (wpAny_bind (wpAny_pure ?_)))))
  show wpAny _ _ (match Builtin.Slice.sliceAdjust none none (-1) (n : Int) with | (lo, hi) => pure (lo, (-1 : Int), Builtin.Slice.slicePlaces lo hi (-1))) _ _ s
  rw [adjust_rev]
  show wpAny _ _ (pure ((n : Int) - 1, (-1 : Int), Builtin.Slice.slicePlaces ((n : Int) - 1) (-1) (-1))) _ _ s
  rw [places_rev]
  exact wpAny_pure h
theorem pick_rev (xs : Array Value) : ((List.range xs.size).filterMap fun (k : Nat) => xs[((xs.size : Int) - 1 + (k : Int) * (-1)).toNat]?) = xs.toList.reverse := by
  have e : ∀ m : Nat, m ≤ xs.size → ((List.range m).filterMap fun (k : Nat) => xs[((xs.size : Int) - 1 + (k : Int) * (-1)).toNat]?) = xs.toList.reverse.take m := by
    intro m
    induction m with
    | zero => intro _; rfl
    | succ m ih =>
      intro hm
      rw [List.range_succ, List.filterMap_append, ih (by omega), List.take_add_one]
      congr 1
      have e1 : ((xs.size : Int) - 1 + (m : Int) * (-1)).toNat = xs.size - 1 - m := by omega
      have e2 : xs.toList.reverse[m]? = xs[xs.size - 1 - m]? := by
        rw [List.getElem?_reverse (by rw [Array.length_toList]; omega), Array.length_toList, Array.getElem?_toList]
      rw [e2]
      have lt : xs.size - 1 - m < xs.size := by omega
      simp only [List.filterMap_cons, List.filterMap_nil, e1]
      rw [Array.getElem?_eq_getElem lt]
      rfl
  rw [e _ (Nat.le_refl _), List.take_of_length_le (by rw [List.length_reverse, Array.length_toList]; exact Nat.le_refl _)]
theorem getItem_tuple_rev {t sl : Addr} {items : Array Value} {vl vu vs : Value} {Q : Value → Shared → Prop} (ht : IsTup s.heap t items) (hs : s.heap.IsSliceOf sl vl vu vs) (pl : IsPart vl none) (pu : IsPart vu none) (pt : IsPart vs (some (-1)))
    (h : Q (.ref s.heap.objs.size) { s with heap := s.heap.push { cls := .type "tuple", data := .seq items.toList.reverse.toArray } })
    (hsz : items.size ≤ sizeLine) : wpAny (model prog w) A (getItem (.ref t) (.ref sl)) Q E s := by
  have htake : sizeOk (.seq items.toList.reverse.toArray) := by
    show items.toList.reverse.toArray.size ≤ sizeLine
    rw [List.size_toArray, List.length_reverse, Array.length_toList]
    omega
  obtain ⟨os, hos, hcs, hds⟩ := id hs
  have hTs : s.TypeIs (.ref sl) "slice" := ⟨os, hos, hcs⟩
  unfold getItem
  try with_reducible refine wpAny_holding ?_
  first | refine wpAny_bind (wpAny_pure ?_) | skip
  refine wpAny_bind (wpAny_sequenceKey ht.typeIs (by decide) ?_)
  refine wpAny_bind (wpAny_callSpecial?_slot (name := Str.ofString "__getitem__") ht.typeIs PyProof.Rows.slot_tuple_getitem
    (wpAny_call_entry PyProof.Rows.slot_tuple_getitem ht.typeIs entry_tuple_getitem ?_ (args_tuple_getitem _ _)))
  show wpAny _ _ (Builtin.Tuple.tupleItemsOf (.ref t) >>= _) _ _ s
  refine wpAny_bind (tupleItemsOf_ ht ?_)
  refine wpAny_bind (wpAny_typeOf hTs ?_)
  rw [if_pos (by decide)]
  refine wpAny_bind (sliceApplied_rev hs pl pu pt ?_)
  have hno : ¬ ((((items.size : Int) - 1) == 0 && (-1 : Int) == 1 && items.size == items.size) = true) := by
    intro q
    rw [Bool.and_eq_true, Bool.and_eq_true] at q
    exact absurd q.1.2 (by decide)
  show wpAny _ _ (if (((items.size : Int) - 1) == 0 && (-1 : Int) == 1 && items.size == items.size) = true then _ else _) _ _ s
  rw [if_neg hno, pick_rev]
  first
    | exact wpAny_bind (m := Builtin.Tuple.tupleExact _) (wpAny_newObj_type (wpAny_pure ⟨_, rfl, wpAny_pure h⟩) htake)
    | exact wpAny_bind (m := Builtin.Tuple.tupleExact _) (wpAny_newObj_type (wpAny_bind (wpAny_pure (wpAny_pure ⟨_, rfl, wpAny_pure h⟩))) htake)
    | exact wpAny_bind (wpAny_bind (m := Builtin.Tuple.tupleExact _) (wpAny_newObj_type (wpAny_pure (wpAny_pure ⟨_, rfl, wpAny_pure h⟩)) htake))
    | exact wpAny_bind (wpAny_bind (m := Builtin.Tuple.tupleExact _) (wpAny_newObj_type (wpAny_pure ⟨_, rfl, wpAny_pure h⟩) htake))
end
section
variable {X : Cx}
def tRevT (K : PySem.W.Frag) (te : TE) : TE := fun σ H Q => te σ H fun x H1 => ∃ a xs, x = .ref a ∧ SqT K H1 a xs ∧ ∀ p, H1 p = none → Q (.ref p) (upd H1 p (.tup xs.reverse))
theorem pe_revT {e : Expr} {te : TE} {k : Nat} {p1 p2 p3 pos : Pos} (he : PE X e te) : PE X (.Subscript e (.Slice none none (some (.UnaryOp .USub (.Constant (.int 1) k p1) p2)) p3) pos) (tRevT X.K te) := by
  refine ⟨fun pins s σ H Q I h => ?_⟩
  refine Subscript_ (thn (he.run pins s σ H _ I h) fun v s1 ⟨x, H1, I1, r1, q1⟩ => ?_)
  obtain ⟨a, xs, ex, hx, q⟩ := q1
  subst ex
  cases r1
  have hst : PO X (some (.UnaryOp .USub (.Constant (.int 1) k p1) p2)) (tPart (tUn (rU fun i => .int (-i)) (tC (.int 1)))) := po_some (pe_un un_neg pe_int)
  refine wpAny_Slice (thn (po_none.run pins s1 σ H1 (fun o H2 => o = none ∧ H2 = H1) I1 ⟨rfl, rfl⟩) fun vl s2 ⟨l, H2, I2, pl, el, e2⟩ => ?_)
  subst el e2
  refine thn (po_none.run pins s2 σ H2 (fun o H3 => o = none ∧ H3 = H2) I2 ⟨rfl, rfl⟩) fun vu s3 ⟨u, H3, I3, pu, eu, e3⟩ => ?_
  subst eu e3
  refine thn (hst.run pins s3 σ H3 (fun o H4 => o = some (-1) ∧ H4 = H3) I3 ⟨1, rfl, -1, rfl, rfl, rfl⟩) fun vs s4 ⟨o, H4, I4, ps, eo, e4⟩ => ?_
  subst eo e4
  have I5 : Inv X pins σ H4 { s4 with heap := s4.heap.push { cls := .type "slice", data := .fields #[vl, vu, vs] } } := I4.kept (t' := s4.toks) fun b ob q => Heap.get?_push_of_some _ q
  obtain ⟨its, r, ht, hz⟩ := I5.tuple hx
  have hlen := r.length
  show wpAny (model X.prog X.w) X.A (subscriptTail e (.Slice none none (some (.UnaryOp .USub (.Constant (.int 1) k p1) p2)) p3) (.ref a) (.ref s4.heap.objs.size)) (EP X pins σ Q) X.xe { s4 with heap := s4.heap.push { cls := .type "slice", data := .fields #[vl, vu, vs] } }
  refine tail_any (ops := [.ref a, .ref s4.heap.objs.size]) ht.typeIs (PyProof.Rows.slot_tuple_getitem.lookup) ?_ (by with_unfolding_all rfl)
  refine getItem_tuple_rev ht (Heap.IsSliceOf.new _ vl vu vs) pl pu ps ?_ (by rw [List.size_toArray]; omega)
  refine ⟨.ref _, _, I5.laid (t' := s4.toks) (o := .tup xs.reverse) (fun b ob q => Heap.get?_push_of_some _ q) (Nat.le_refl _) ?_, rfl, q _ (I5.hok.fresh (Nat.le_refl _))⟩
  exact ⟨by rw [List.length_reverse]; exact hz, _, r.reverse, IsTup.new _ _⟩
def rEqL (K : PySem.W.Frag) : R2 := fun x y H Q => ∃ (a b : Addr) (xs : List V), x = .ref a ∧ y = .ref b ∧ SqL K H a xs ∧ SqL K H b [] ∧ Q (.bl xs.isEmpty) H
def rNeL (K : PySem.W.Frag) : R2 := fun x y H Q => ∃ (a b : Addr) (xs : List V), x = .ref a ∧ y = .ref b ∧ SqL K H a xs ∧ SqL K H b [] ∧ Q (.bl (!xs.isEmpty)) H
theorem op_eqL (units : X.A.units < cLine) : OpR X (compareOp .Eq) (rEqL X.K) := by
  intro pins s σ H x y v u Q I rx ry h
  obtain ⟨a, b, xs, rfl, rfl, ha, hb, q⟩ := h
  cases rx
  cases ry
  obtain ⟨its, r1, p1, _⟩ := I.list ha
  obtain ⟨its2, r2, p2, _⟩ := I.list hb
  cases r2
  cases r1 with
  | nil =>
    exact SeqAt.eq_listAt (e := fun _ => true) p1.isList p2.isList rfl units (fun j h1 h2 => absurd h2 (Nat.not_lt_zero j)) ⟨.bl true, H, I, rfl, q⟩
  | cons r t =>
    exact SeqAt.eq_list_lengthsAt p1.isList p2.isList (by simp) units ⟨.bl false, H, I, rfl, q⟩
theorem op_neL (units : X.A.units < cLine) : OpR X (compareOp .NotEq) (rNeL X.K) := by
  intro pins s σ H x y v u Q I rx ry h
  obtain ⟨a, b, xs, rfl, rfl, ha, hb, q⟩ := h
  cases rx
  cases ry
  obtain ⟨its, r1, p1, _⟩ := I.list ha
  obtain ⟨its2, r2, p2, _⟩ := I.list hb
  cases r2
  cases r1 with
  | nil =>
    exact SeqAt.RcNeAt.lists (e := fun _ => true) p1.isList p2.isList rfl units (fun j h1 h2 => absurd h2 (Nat.not_lt_zero j)) X.prog X.w X.xe (EP X pins σ Q) ⟨.bl false, H, I, rfl, q⟩
  | cons r t =>
    exact SeqAt.RcNeAt.lists_lengths p1.isList p2.isList (by simp) units X.prog X.w X.xe (EP X pins σ Q) ⟨.bl true, H, I, rfl, q⟩
end

/-! ### x in t, x not in t, for a tuple of data -/
theorem units65 {k : Nat} {A : Around} (r : Room k A) : A.units + 65 < cLine := by
  have := r.un
  omega
section
variable {X : Cx}
def rInT (K : PySem.W.Frag) : R2 := fun x y H Q => ∃ d ds, Dp K H x d ∧ Dp K H y (.tuple ds) ∧ SeqAt.shaped d = true ∧ SeqAt.shaped (.tuple ds) = true ∧ Q (.bl (ds.any fun z => PyData.eqv z d)) H
def rNotInT (K : PySem.W.Frag) : R2 := fun x y H Q => ∃ d ds, Dp K H x d ∧ Dp K H y (.tuple ds) ∧ SeqAt.shaped d = true ∧ SeqAt.shaped (.tuple ds) = true ∧ Q (.bl (!ds.any fun z => PyData.eqv z d)) H
theorem op_inT (units : X.A.units + 65 < cLine) : OpR X (compareOp .In) (rInT X.K) := by
  intro pins s σ H x y v u Q I rx ry ⟨d, ds, dx, dy, sx, sy, q⟩
  obtain ⟨_, r1⟩ := Dp.reads I d x v dx rx
  obtain ⟨_, r2⟩ := Dp.reads I (.tuple ds) y u dy ry
  have l2 : PyData.canLayAll0 ds = true := SeqAt.canLay_of_shaped sy
  exact SeqAt.in_tuple_reads r2 r1 l2 (SeqAt.canLay_of_shaped sx) (room_in_shaped sx units) (Exists.intro (V.bl _) ⟨H, I, rfl, q⟩)
theorem op_notInT (units : X.A.units + 65 < cLine) : OpR X (compareOp .NotIn) (rNotInT X.K) := by
  intro pins s σ H x y v u Q I rx ry ⟨d, ds, dx, dy, sx, sy, q⟩
  obtain ⟨_, r1⟩ := Dp.reads I d x v dx rx
  obtain ⟨_, r2⟩ := Dp.reads I (.tuple ds) y u dy ry
  have l2 : PyData.canLayAll0 ds = true := SeqAt.canLay_of_shaped sy
  exact SeqAt.notIn_tuple_reads r2 r1 l2 (SeqAt.canLay_of_shaped sx) (room_in_shaped sx units) (Exists.intro (V.bl _) ⟨H, I, rfl, q⟩)
end
theorem for_zipU {K : PySem.W.Frag} {a b : Addr} {xs ys : List V} {g : TG} {tb : TS} {D : Ends} {σ : L2.St} {H : Hp} (Pv : Nat → L2.St → Hp → Prop) (h0 : Pv 0 σ H) (hq : ∀ i σ H, Pv i σ H → SqT K H a xs ∧ SqT K H b ys)
    (hs : ∀ (i : Nat) (x y : V) (T : Addr) (σ : L2.St) (H : Hp), xs[i]? = some x → ys[i]? = some y → Pv i σ H → H T = none → g (.ref T) σ (upd H T (.tup [x, y])) fun σ2 H2 => tb { D with nx := Pv (i + 1), ct := Pv (i + 1), bk := D.nx } σ2 H2) (hd : ∀ i σ H, i ≤ xs.length → Pv i σ H → D.nx σ H) :
    ∃ W : Nat → Nat → L2.St → Hp → Prop, (∃ m, W 0 m σ H) ∧ ∀ i m σ H, W i m σ H →
      ((RZ.ItzT K a b).stop i H ∧ D.nx σ H) ∨ ((RZ.ItzT K a b).go i H ∧ ∃ N : L2.St → Hp → Prop, (∀ σ' H', N σ' H' → ∃ m', m' < m ∧ W (i + 1) m' σ' H') ∧ ∀ v H', (RZ.ItzT K a b).yld i H v H' → g v σ H' fun σ2 H2 => tb { D with nx := N, ct := N, bk := D.nx } σ2 H2) := by
  refine ⟨fun i m σ H => m = xs.length - i ∧ i ≤ xs.length ∧ Pv i σ H, ⟨_, rfl, Nat.zero_le _, h0⟩, ?_⟩
  rintro i m σ H ⟨rfl, hi, p⟩
  obtain ⟨q1, q2⟩ := hq i σ H p
  by_cases c : i < xs.length ∧ i < ys.length
  · refine .inr ⟨⟨xs, ys, xs[i]'c.1, ys[i]'c.2, q1, q2, List.getElem?_eq_getElem c.1, List.getElem?_eq_getElem c.2⟩, Pv (i + 1), fun σ' H' p' => ⟨xs.length - (i + 1), by omega, rfl, by omega, p'⟩, fun v H' hy => ?_⟩
    obtain ⟨T, x, y, rfl, nT, rfl, f1, f2⟩ := hy
    exact hs i x y T σ H (f1 xs q1) (f2 ys q2) p nT
  · exact .inl ⟨⟨xs, ys, q1, q2, by omega⟩, hd i σ H hi p⟩

/-- a statement that is never come to -/
theorem ps_never {X : Cx} {st : Stmt} : PS X st (fun _ _ _ => False) := ⟨fun _ _ _ _ _ _ h => h.elim⟩

/-! ### a walk over a tuple, whatever its body is (comprehensions with two for) -/
theorem walkT {K : PySem.W.Frag} {a : Addr} {xs : List V} {B : V → Hp → (Hp → Prop) → Prop} {H0 : Hp} {Qd : Hp → Prop} (Pv : Nat → Hp → Prop) (h0 : Pv 0 H0) (hl : ∀ i H, i ≤ xs.length → Pv i H → SqT K H a xs)
    (hs : ∀ i x H, xs[i]? = some x → Pv i H → B x H (Pv (i + 1))) (hd : ∀ H, Pv xs.length H → Qd H) :
    ∃ W : Nat → Nat → Hp → Prop, (∃ m, W 0 m H0) ∧ ∀ i m H, W i m H →
      ((Itt K a).stop i H ∧ Qd H) ∨ ((Itt K a).go i H ∧ ∃ Nx : Hp → Prop, (∀ H', Nx H' → ∃ m', m' < m ∧ W (i + 1) m' H') ∧ ∀ x H', (Itt K a).yld i H x H' → B x H' Nx) := by
  refine ⟨fun i m H => m = xs.length - i ∧ i ≤ xs.length ∧ Pv i H, ⟨xs.length, by simp, Nat.zero_le _, h0⟩, ?_⟩
  rintro i m H ⟨rfl, hi, p⟩
  have q := hl i H hi p
  by_cases hlt : i < xs.length
  · refine .inr ⟨⟨xs, xs[i], q, by simp [hlt]⟩, Pv (i + 1), fun H' p' => ⟨xs.length - (i + 1), by omega, rfl, hlt, p'⟩, fun x H' y => ?_⟩
    obtain ⟨e, y⟩ := y
    subst e
    exact hs i x _ (y xs q) p
  · have e : i = xs.length := by omega
    subst e
    exact .inl ⟨⟨xs, q, by omega⟩, hd H p⟩

/-! ### max(xs, key=f), f a built-in that makes an int of an item and changes nothing -/
section
variable {prog : Program} {w : World} {A : Around} {E : Value → Shared → Prop} {s : Shared} {l : Addr} {kid : String} {vs : List Value} {Q : Value → Shared → Prop}
/-- all objects stay -/
abbrev Stay (h h' : Heap) : Prop := ∀ b o, h.get? b = some o → h'.get? b = some o
theorem isL_stay {h h' : Heap} {a : Addr} {xs : Array Value} (k : Stay h h') (x : h.IsList a xs) : h'.IsList a xs := let ⟨o, e, r⟩ := x; ⟨o, k _ _ e, r⟩
theorem isT_stay {h h' : Heap} {a : Addr} {xs : Array Value} (k : Stay h h') (x : IsTup h a xs) : IsTup h' a xs := let ⟨o, e, r⟩ := x; ⟨o, k _ _ e, r⟩
def KeyAt (prog : Program) (w : World) (A : Around) (s : Shared) (f : Value) (vs : List Value) (kf : Nat → Int) : Prop :=
  ∀ (i : Nat) (v : Value), vs[i]? = some v → ∀ (h : Heap) (tk : Nat), Stay s.heap h →
    wpAny (model prog w) A (call f [v]) (fun x s' => ∃ h' tk' t, s' = { s with heap := h', toks := tk' } ∧ x = .int (kf i) t ∧ Stay h h') (fun _ _ => False) { s with heap := h, toks := tk }
/-- the first of the greatest keys -/
def Topmost (kf : Nat → Int) (n i : Nat) : Prop := ∀ j, j < n → kf j ≤ kf i ∧ (j < i → kf j < kf i)
theorem maxKey_loop {I S : Addr} {R : Result → Shared → Prop} (kf : Nat → Int) (hh : A.handled = none) (isL : s.heap.IsList l vs.toArray) (lI : l ≠ I) (SI : S ≠ I) (nI : s.heap.get? I = none) (nS : s.heap.get? S = none) (key : KeyAt prog w A.in1 s (.builtin kid) vs kf)
    (fin : ∀ i v h' tk', vs[i]? = some v → Topmost kf vs.length i → Stay s.heap h' → R (.ok (.ret v)) { s with heap := h', toks := tk' }) :
    ∀ (r j i : Nat) (h : Heap) (tk : Nat) (vb : Value) (tb : Tok) (c : Nat), vs.length - (j + 1) = r → j + 1 ≤ vs.length → Stay s.heap h →
      h.get? S = some (seqObj "list" #[vb, .int (kf i) tb] c) → h.IsListIter I l (j + 1) → vs[i]? = some vb → i ≤ j → Topmost kf (j + 1) i →
      codeAny (model prog w) A (.builtin "max.loop" ⟨[.ref I, .builtin kid, .ref S], []⟩) R { s with heap := h, toks := tk } := by
  have nm : (toString "max" ++ toString ".loop" : String) = "max.loop" := by decide
  have wk := Walks.list (prog := prog) (w := w) (A := A.in1) hh I l lI vs.toArray
  have sz : vs.toArray.size = vs.length := List.size_toArray ..
  have off : ∀ {h h' : Heap} {x : Addr}, s.heap.get? x = none → Stay s.heap h → (∀ b o, b ≠ x → h.get? b = some o → h'.get? b = some o) → Stay s.heap h' := fun nx st k b o e => k b o (fun z => by rw [z, nx] at e; cases e) (st b o e)
  intro r
  induction r with
  | zero =>
    intro j i h tk vb tb c er jl st gS it ev ij top
    have last : j + 1 = vs.length := by omega
    refine codeAny_builtin (b := _) PySem.F.entry_max_loop ?_
    rw [Around.under_plainId (PySem.F.plain_max_loop) _]
    show wpAny _ A.in1 (seqItems? (Value.ref S) >>= _) _ _ _
    refine wpAny_bind (wpAny_seqItems (gS) rfl ?_)
    show wpAny _ A.in1 (tryCatch (pyNext (Value.ref I)) _ >>= _) _ _ _
    refine wpAny_bind (wpAny_tryCatch (wk.done _ _ _ ⟨by rw [sz, ← last]; exact it, isL_stay st isL⟩ fun h1 tk1 k1 => ?_))
    have st1 := off nI st (fun b o nb e => k1 b o (fun z => nb (List.mem_singleton.mp z)) e)
    have gS1 := k1 S _ (fun z => SI (List.mem_singleton.mp z)) gS
    have u1 := Heap.SameBut.update h1 S (Obj.mapSeq (fun _ => (#[] : Array Value)))
    show wpAny _ A.in1 (updateSeq S (fun _ => #[]) >>= fun _ => _) _ _ _
    refine wpAny_bind (wpAny_updateSeq gS1 rfl (wpAny_bind (wpAny_letGo (wpAny_pure ?_))))
    exact fin i vb _ _ ev (by rw [← last]; exact top) (off nS st1 fun b o nb e => (u1.2 b nb).trans e)
  | succ r ih =>
    intro j i h tk vb tb c er jl st gS it ev ij top
    have more : j + 1 < vs.length := by omega
    refine codeAny_builtin (b := _) PySem.F.entry_max_loop ?_
    rw [Around.under_plainId (PySem.F.plain_max_loop) _]
    show wpAny _ A.in1 (seqItems? (Value.ref S) >>= _) _ _ _
    refine wpAny_bind (wpAny_seqItems (gS) rfl ?_)
    show wpAny _ A.in1 (tryCatch (pyNext (Value.ref I)) _ >>= _) _ _ _
    refine wpAny_bind (wpAny_tryCatch (wk.item (j + 1) _ _ _ (by rw [sz]; exact more) ⟨it, isL_stay st isL⟩ fun v h1 tk1 pv it1 k1 => ?_))
    have ev1 : vs[j + 1]? = some v := by simpa using pv
    obtain ⟨oI, gI, cI, dI⟩ := it1.1
    have st1 := off nI st (fun b o nb e => k1 b o (fun z => nb (List.mem_singleton.mp z)) e)
    have gS1 := k1 S _ (fun z => SI (List.mem_singleton.mp z)) gS
    show wpAny _ A.in1 (tryCatch (holding [v] (call (Value.builtin kid) [v])) _ >>= _) _ _ _
    refine wpAny_bind (wpAny_tryCatch (wpAny_holding (wpAny_mono (key (j + 1) v ev1 h1 tk1 st1) (fun x s2 hx => ?_) (fun _ _ no => no.elim))))
    obtain ⟨h2, tk2, t2, rfl, rfl, k2⟩ := hx
    have st2 : Stay s.heap h2 := fun b o e => k2 b o (st1 b o e)
    have gS2 := k2 _ _ gS1
    have gI2 := k2 _ _ gI
    show wpAny _ A.in1 (tryCatch (holding [v, Value.int (kf (j + 1)) t2] (richCompare .Gt (.int (kf (j + 1)) t2) (.int (kf i) tb) >>= _)) _ >>= _) _ _ _
    refine wpAny_bind (wpAny_tryCatch (wpAny_holding (wpAny_bind (CmpOf.ints_gt (prog := prog) (w := w) (A := A.in1) (P := fun n u => ∃ t, u = .int (kf n) t) kf (fun n u z => z) (j + 1) i _ _ _ _ _ ⟨t2, rfl⟩ ⟨tb, rfl⟩ ?_))))
    refine wpAny_bind (wpAny_holding (wpAny_truthy_bool (wpAny_bind (wpAny_letGo (wpAny_pure ?_)))))
    by_cases up : kf (j + 1) > kf i
    · have u1 := Heap.SameBut.update h2 S (Obj.mapSeq (fun _ => #[v, .int (kf (j + 1)) t2]))
      obtain ⟨c2, gS3⟩ : ∃ c2, (h2.update S (Obj.mapSeq fun _ => #[v, .int (kf (j + 1)) t2])).get? S = some (seqObj "list" #[v, .int (kf (j + 1)) t2] c2) := ⟨_, get?_update_seq gS2 fun _ => _⟩
      simp only [up, decide_true, if_true]
      refine wpAny_bind (wpAny_updateSeq gS2 rfl (wpAny_bind (wpAny_letGo ?_)))
      rw [nm]
      refine wpAny_pure ⟨plainId_quiet (PySem.F.plain_max_loop) _, ih (j + 1) (j + 1) _ _ v t2 c2 (by omega) more (off nS st2 fun b o nb e => (u1.2 b nb).trans e) gS3 ⟨oI, (u1.2 I SI.symm).trans gI2, cI, dI⟩ ev1 (Nat.le_refl _) fun n hn => ?_⟩
      by_cases e : n = j + 1
      · subst e
        exact ⟨Int.le_refl _, fun z => absurd z (Nat.lt_irrefl _)⟩
      · have := (top n (by omega)).1
        exact ⟨by omega, fun _ => by omega⟩
    · simp only [up, decide_false, Bool.false_eq_true, if_false]
      refine wpAny_bind (wpAny_letGo ?_)
      rw [nm]
      refine wpAny_pure ⟨plainId_quiet (PySem.F.plain_max_loop) _, ih (j + 1) i _ _ vb tb c (by omega) more st2 gS2 ⟨oI, gI2, cI, dI⟩ ev (by omega) fun n hn => ?_⟩
      by_cases e : n = j + 1
      · subst e
        exact ⟨by omega, fun z => absurd z (by omega)⟩
      · exact top n (by omega)
theorem maxKey (kf : Nat → Int) (hh : A.handled = none) (isL : s.heap.IsList l vs.toArray) (some1 : 0 < vs.length) (key : KeyAt prog w A.in1 s (.builtin kid) vs kf)
    (fin : ∀ i v h' tk', vs[i]? = some v → Topmost kf vs.length i → Stay s.heap h' → Q v { s with heap := h', toks := tk' }) :
    wpAny (model prog w) A (call (.builtin "max") [.ref l] [(Str.ofString "key", .builtin kid)]) Q E s := by
  have nm : (toString "max" ++ toString ".loop" : String) = "max.loop" := by decide
  have isL0 := isL
  obtain ⟨ol, gl, _⟩ := isL0
  have ll : l < s.heap.objs.size := Heap.lt_size gl
  refine kmb_tree PySem.F.kind_max PySem.F.plain_max PySem.F.entry_max (kmb_max_key _ _) ?_
  show wpAny _ A.in1 (Builtin.Builtins.bindParams "max" ["key", "default"] 0 ⟨[], [(Str.ofString "key", Value.builtin kid)]⟩ >>= _) _ _ s
  refine wpAny_bind (wpAny_of_eq (show Builtin.Builtins.bindParams "max" ["key", "default"] 0 ⟨[], [(Str.ofString "key", Value.builtin kid)]⟩ = pure [some (.builtin kid), none] from rfl) ?_)
  refine wpAny_bind (wpAny_pure (wpAny_bind (wpAny_pyIter_list isL (wpAny_bind (wpAny_newList ?_ (Nat.zero_le _))))))
  rw [nm]
  have it0 := Heap.get?_push_size s.heap (o := { cls := .type "list_iterator", data := .fields #[.ref l, .int 0 0] }) rfl
  have z1 : (s.heap.push { cls := .type "list_iterator", data := .fields #[.ref l, .int 0 0] }).objs.size = s.heap.objs.size + 1 := Heap.size_push ..
  have k1 : Stay s.heap (s.heap.push { cls := .type "list_iterator", data := .fields #[.ref l, .int 0 0] }) := fun b o e => Heap.get?_push_of_some _ e
  generalize s.heap.push { cls := .type "list_iterator", data := .fields #[.ref l, .int 0 0] } = g1 at *
  have gS := Heap.get?_push_size g1 (o := seqObj "list" #[] 0) rfl
  have k2 : Stay g1 (g1.push (seqObj "list" #[] 0)) := fun b o e => Heap.get?_push_of_some _ e
  have gI := k2 _ _ it0
  generalize g1.push (seqObj "list" #[] 0) = g2 at *
  rw [z1] at gS ⊢
  have st2 : Stay s.heap g2 := fun b o e => k2 b o (k1 b o e)
  have nI : s.heap.get? s.heap.objs.size = none := Heap.get?_none_of_le (Nat.le_refl _)
  have nS : s.heap.get? (s.heap.objs.size + 1) = none := Heap.get?_none_of_le (Nat.le_succ _)
  have SI : s.heap.objs.size + 1 ≠ s.heap.objs.size := Nat.succ_ne_self _
  have lI : l ≠ s.heap.objs.size := Nat.ne_of_lt ll
  have wk := Walks.list (prog := prog) (w := w) (A := A.in1) hh s.heap.objs.size l lI vs.toArray
  have sz : vs.toArray.size = vs.length := List.size_toArray ..
  have off : ∀ {h h' : Heap} {x : Addr}, s.heap.get? x = none → Stay s.heap h → (∀ b o, b ≠ x → h.get? b = some o → h'.get? b = some o) → Stay s.heap h' := fun nx st k b o e => k b o (fun z => by rw [z, nx] at e; cases e) (st b o e)
  refine wpAny_pure ⟨plainId_quiet (PySem.F.plain_max_loop) _, codeAny_builtin (b := _) PySem.F.entry_max_loop ?_⟩
  rw [Around.under_plainId (PySem.F.plain_max_loop) _]
  show wpAny _ A.in1 (seqItems? (Value.ref _) >>= _) _ _ _
  refine wpAny_bind (wpAny_seqItems (gS) rfl ?_)
  show wpAny _ A.in1 (tryCatch (pyNext (Value.ref s.heap.objs.size)) _ >>= _) _ _ _
  refine wpAny_bind (wpAny_tryCatch (wk.item 0 _ _ _ (by rw [sz]; exact some1) ⟨⟨_, gI, rfl, rfl⟩, isL_stay st2 isL⟩ fun v h1 tk1 pv it1 kk => ?_))
  have ev1 : vs[0]? = some v := by simpa using pv
  obtain ⟨oI, gI1, cI, dI⟩ := it1.1
  have st1 := off nI st2 (fun b o nb e => kk b o (fun z => nb (List.mem_singleton.mp z)) e)
  have gS1 := kk _ _ (fun z => SI (List.mem_singleton.mp z)) gS
  show wpAny _ A.in1 (tryCatch (holding [v] (call (Value.builtin kid) [v])) _ >>= _) _ _ _
  refine wpAny_bind (wpAny_tryCatch (wpAny_holding (wpAny_mono (key 0 v ev1 h1 tk1 st1) (fun x s2 hx => ?_) (fun _ _ no => no.elim))))
  obtain ⟨h2, tk2, t2, rfl, rfl, k3⟩ := hx
  have gS2 := k3 _ _ gS1
  have u1 := Heap.SameBut.update h2 (s.heap.objs.size + 1) (Obj.mapSeq (fun _ => #[v, .int (kf 0) t2]))
  obtain ⟨c2, gS3⟩ : ∃ c2, (h2.update (s.heap.objs.size + 1) (Obj.mapSeq fun _ => #[v, .int (kf 0) t2])).get? (s.heap.objs.size + 1) = some (seqObj "list" #[v, .int (kf 0) t2] c2) := ⟨_, get?_update_seq gS2 fun _ => _⟩
  show wpAny _ A.in1 (updateSeq (s.heap.objs.size + 1) (fun _ => #[v, .int (kf 0) t2]) >>= _) _ _ _
  refine wpAny_bind (wpAny_updateSeq gS2 rfl ?_)
  rw [nm]
  refine wpAny_pure ⟨plainId_quiet (PySem.F.plain_max_loop) _, maxKey_loop kf hh isL lI SI nI nS key fin _ 0 0 _ _ v t2 c2 rfl some1 (off nS (fun b o e => k3 b o (st1 b o e)) fun b o nb e => (u1.2 b nb).trans e) gS3 ⟨oI, (u1.2 _ SI.symm).trans (k3 _ _ gI1), cI, dI⟩ ev1 (Nat.le_refl _) fun n hn => ?_⟩
  have e : n = 0 := by omega
  subst e
  exact ⟨Int.le_refl _, fun z => absurd z (Nat.lt_irrefl _)⟩
end
/-- max([x, y], key=len), x and y tuples -/
def rMaxLen (K : PySem.W.Frag) : List V → Hp → VK → Prop := fun vs H Q => ∃ (a b c : Addr) (xs ys : List V), vs = [.ref a] ∧ SqL K H a [.ref b, .ref c] ∧ SqT K H b xs ∧ SqT K H c ys ∧ Q (.ref (if xs.length < ys.length then c else b)) H
theorem pe_maxLen {X : Cx} {e : Expr} {p q kp pos : Pos} {t : TA} (hc : X.calm = true) (hg : Gl X "max") (hm : X.mg "max" = none) (hg2 : Gl X "len") (hm2 : X.mg "len" = none) (ha : PA X [e] t)
    (he : backTo pos (starEach [e] X.env) = (false, eval e X.env) :: backTo pos (starEach [] X.env) := by rfl) (hpl : (backTo pos (starEach [e] X.env)).any (·.1) = false := by rfl) :
    PE X (.Call (.Name "max" p) [e] [⟨some "key", .Name "len" q, kp⟩] pos) (tCB (rMaxLen X.K) t) := by
  refine ⟨fun pins s σ H Q I h => ?_⟩
  refine wpAny_Call_Name_kw (ld_blt (u := .builtin "max") I hg hm (by decide +kernel) ?_)
  refine PyProof.Rows.callWith_kw (thn (ha.run pos pins s σ H _ I h) fun us s1 ⟨vs, H1, I1, r1, q1⟩ => ?_) he hpl (by rfl) (by rfl)
  show wpAny _ _ (evalAll [(do let v ← eval (.Name "len" q) X.env; standAt pos; pure v)]) _ _ s1
  refine wpAny_evalAll_cons (wpAny_bind (ld_blt (u := .builtin "len") I1 hg2 hm2 (by decide +kernel) (wpAny_bind (wpAny_standAt (wpAny_pure (wpAny_evalAll_nil ?_))))))
  obtain ⟨a, b, c, xs, ys, rfl, hl, hb, hc2, qq⟩ := q1
  rw [Vals.ref1 r1]
  obtain ⟨its, rv, isL, _⟩ := I1.list hl
  obtain ⟨u, u', rfl, ru, ru'⟩ := vals2 rv
  obtain rfl : u = Value.ref b := ru
  obtain rfl : u' = Value.ref c := ru'
  obtain ⟨i1, v1, t1, z1⟩ := I1.tuple hb
  obtain ⟨i2, v2, t2, z2⟩ := I1.tuple hc2
  have l1 := v1.length
  have l2 := v2.length
  have fit : ∀ {n : Nat}, n ≤ sizeLine → ((n : Nat) : Int) < 2 ^ 63 := fun {n} z => by
    rw [show sizeLine = 16777216 by decide] at z
    omega
  refine maxKey (vs := [Value.ref b, Value.ref c]) (fun i => if i = 0 then (i1.length : Int) else i2.length) (I1.ok.hd hc) isL.isList (Nat.zero_lt_succ _) (fun i v hv h' tk st => ?_) (fun i v h' tk' hv top st => ?_)
  · match i, hv with
    | 0, hv =>
      cases hv
      refine PyProof.Rows.len_tuple (isT_stay st t1) (fit (by rw [List.size_toArray, ← l1]; exact z1)) ⟨_, _, _, rfl, by rw [List.size_toArray]; rfl, fun _ _ e => e⟩
    | 1, hv =>
      cases hv
      refine PyProof.Rows.len_tuple (isT_stay st t2) (fit (by rw [List.size_toArray, ← l2]; exact z2)) ⟨_, _, _, rfl, by rw [List.size_toArray]; rfl, fun _ _ e => e⟩
  · match i, hv with
    | 0, hv =>
      cases hv
      have := (top 1 (Nat.lt_succ_self 1)).1
      replace this : (i2.length : Int) ≤ i1.length := this
      rw [if_neg (by omega)] at qq
      exact ⟨V.ref _, H1, I1.kept st, rfl, qq⟩
    | 1, hv =>
      cases hv
      have := (top 0 (Nat.zero_lt_succ _)).2 (by decide)
      replace this : (i1.length : Int) < i2.length := this
      rw [if_pos (by omega)] at qq
      exact ⟨V.ref _, H1, I1.kept st, rfl, qq⟩

/-! ### a min-max theorem: demands are rectangles, intervals are points -/
abbrev Dem := Int × Int × Int
def sv (z : Int × Int) (d : Dem) : Bool := decide (d.2.1 ≤ z.1 ∧ z.1 ≤ d.1 ∧ d.1 ≤ z.2 ∧ z.2 ≤ d.2.2)
def cf (d e : Dem) : Bool := decide ((e.2.1 ≤ d.1 ∧ d.1 ≤ e.2.2) ∧ d.2.1 ≤ e.1 ∧ e.1 ≤ d.2.2)
def Vd (d : Dem) : Prop := d.2.1 ≤ d.1 ∧ d.1 ≤ d.2.2
theorem sv_iff' {z : Int × Int} {d : Dem} : sv z d = true ↔ d.2.1 ≤ z.1 ∧ z.1 ≤ d.1 ∧ d.1 ≤ z.2 ∧ z.2 ≤ d.2.2 := decide_eq_true_iff
theorem cf_iff {d e : Dem} : cf d e = true ↔ (e.2.1 ≤ d.1 ∧ d.1 ≤ e.2.2) ∧ d.2.1 ≤ e.1 ∧ e.1 ≤ d.2.2 := decide_eq_true_iff
theorem cf_comm (d e : Dem) : cf d e = cf e d := by
  rw [Bool.eq_iff_iff, cf_iff, cf_iff]
  exact ⟨fun h => ⟨h.2, h.1⟩, fun h => ⟨h.2, h.1⟩⟩
theorem cf_of_sv {z : Int × Int} {d e : Dem} (h1 : sv z d = true) (h2 : sv z e = true) : cf d e = true := by
  rw [sv_iff'] at h1 h2
  rw [cf_iff]
  omega
theorem cf_self {d : Dem} (h : Vd d) : cf d d = true := by
  rw [cf_iff]
  exact ⟨h, h⟩
/-- how many of the demands the point serves -/
def cov (L : List Dem) (z : Int × Int) : Nat := L.countP (sv z)
theorem cov_nil (z : Int × Int) : cov [] z = 0 := rfl
theorem cov_cons (d : Dem) (L : List Dem) (z : Int × Int) : cov (d :: L) z = cov L z + (if sv z d = true then 1 else 0) := List.countP_cons
theorem cov_app (L M : List Dem) (z : Int × Int) : cov (L ++ M) z = cov L z + cov M z := List.countP_append
theorem cov_perm {L M : List Dem} (h : L.Perm M) (z : Int × Int) : cov L z = cov M z := h.countP_eq _
/-- no two of them conflict -/
def Ind (L : List Dem) : Prop := L.Pairwise fun d e => cf d e = false
theorem Ind.cov_le {L : List Dem} (h : Ind L) (z : Int × Int) : cov L z ≤ 1 := by
  induction L with
  | nil => exact Nat.zero_le _
  | cons d L ih =>
    have p := List.pairwise_cons.mp h
    rw [cov_cons]
    split
    · next s =>
      have e : cov L z = 0 := List.countP_eq_zero.mpr fun e he c => by
        have := p.1 e he
        rw [cf_of_sv s c] at this
        cases this
      omega
    · have := ih p.2
      omega
structure Fam (F : List Dem) : Prop where
  ok : ∀ d ∈ F, 0 ≤ d.2.1 ∧ Vd d
  ex : ∀ d ∈ F, ∀ e ∈ F, d.1 < e.1 → d.2.1 < e.2.1 → d.2.2 < e.2.2 → cf d e = true → (d.1, e.2) ∈ F ∧ (e.1, d.2) ∈ F
  cross : ∀ d ∈ F, ∀ e ∈ F, cf d e = true → d.2 = e.2 ∨ (d.2.1 < e.2.1 ∧ d.2.2 < e.2.2) ∨ (e.2.1 < d.2.1 ∧ e.2.2 < d.2.2)
theorem sv_exch {z : Int × Int} {d e : Dem} (h1 : d.1 < e.1) (h2 : d.2.1 < e.2.1) (h3 : d.2.2 < e.2.2) (c : cf d e = true) :
    (if sv z (d.1, e.2) = true then 1 else 0) + (if sv z (e.1, d.2) = true then 1 else 0) ≤ (if sv z d = true then 1 else 0) + (if sv z e = true then 1 else 0) := by
  have c := cf_iff.mp c
  simp only [sv_iff']
  split <;> split <;> split <;> split <;> omega
def pot (L : List Dem) : Int := (L.map fun d => d.1 * (d.2.1 + d.2.2)).sum
theorem pot_cons (d : Dem) (L : List Dem) : pot (d :: L) = d.1 * (d.2.1 + d.2.2) + pot L := by
  unfold pot
  rw [List.map_cons, List.sum_cons]
theorem pot_nonneg {L : List Dem} (h : ∀ d ∈ L, 0 ≤ d.2.1 ∧ Vd d) : 0 ≤ pot L := by
  induction L with
  | nil => exact Int.le_refl _
  | cons d L ih =>
    rw [pot_cons]
    have := ih fun e he => h e (List.mem_cons_of_mem _ he)
    have q := h d List.mem_cons_self
    unfold Vd at q
    have : 0 ≤ d.1 * (d.2.1 + d.2.2) := Int.mul_nonneg (by omega) (by omega)
    omega
theorem pot_perm {L M : List Dem} (h : L.Perm M) : pot L = pot M := by
  induction h with
  | nil => rfl
  | cons x _ ih => rw [pot_cons, pot_cons, ih]
  | swap x y l =>
    rw [pot_cons, pot_cons, pot_cons, pot_cons]
    omega
  | trans _ _ i1 i2 => rw [i1, i2]
def Corner (d e : Dem) : Prop := cf d e = true ∧ d.1 < e.1 ∧ d.2.1 < e.2.1 ∧ d.2.2 < e.2.2
theorem pull2 {L : List Dem} {d e : Dem} (hd : d ∈ L) (he : e ∈ L) (ne : d ≠ e) : ∃ R, L.Perm (d :: e :: R) := by
  have p1 := List.perm_cons_erase hd
  have he' : e ∈ L.erase d := (List.mem_erase_of_ne (Ne.symm ne)).mpr he
  exact ⟨(L.erase d).erase e, p1.trans ((List.perm_cons_erase he').cons d)⟩
theorem uncross {F : List Dem} (fam : Fam F) : ∀ (n : Nat) (L : List Dem), (∀ d ∈ L, d ∈ F) → (pot L).toNat < n → ∃ M : List Dem, (∀ d ∈ M, d ∈ F) ∧ M.length = L.length ∧ (∀ z, cov M z ≤ cov L z) ∧ ∀ d ∈ M, ∀ e ∈ M, ¬ Corner d e := by
  intro n
  induction n with
  | zero => exact fun _ _ h => absurd h (Nat.not_lt_zero _)
  | succ n ih =>
    intro L hL hn
    by_cases c : ∀ d ∈ L, ∀ e ∈ L, ¬ Corner d e
    · exact ⟨L, hL, rfl, fun _ => Nat.le_refl _, c⟩
    · have ⟨d, hd, e, he, k⟩ : ∃ d ∈ L, ∃ e ∈ L, Corner d e := by
        refine Classical.byContradiction fun z => c fun d hd e he k => z ⟨d, hd, e, he, k⟩
      obtain ⟨k1, k2, k3, k4⟩ := k
      have ne : d ≠ e := fun z => by
        subst z
        exact absurd k2 (Int.lt_irrefl _)
      obtain ⟨R, pm⟩ := pull2 hd he ne
      have x := fam.ex d (hL d hd) e (hL e he) k2 k3 k4 k1
      have hR : ∀ f ∈ R, f ∈ F := fun f hf => hL f (pm.mem_iff.mpr (List.mem_cons_of_mem _ (List.mem_cons_of_mem _ hf)))
      have hN : ∀ f ∈ (d.1, e.2) :: (e.1, d.2) :: R, f ∈ F := fun f hf => by
        rcases List.mem_cons.mp hf with rfl | hf
        · exact x.1
        rcases List.mem_cons.mp hf with rfl | hf
        · exact x.2
        · exact hR f hf
      have less : pot ((d.1, e.2) :: (e.1, d.2) :: R) < pot L := by
        rw [pot_perm pm, pot_cons, pot_cons, pot_cons, pot_cons]
        show d.1 * (e.2.1 + e.2.2) + (e.1 * (d.2.1 + d.2.2) + pot R) < d.1 * (d.2.1 + d.2.2) + (e.1 * (e.2.1 + e.2.2) + pot R)
        have : 0 < (e.1 - d.1) * ((e.2.1 + e.2.2) - (d.2.1 + d.2.2)) := Int.mul_pos (by omega) (by omega)
        rw [Int.sub_mul, Int.mul_sub, Int.mul_sub] at this
        omega
      have nn := pot_nonneg fun f hf => fam.ok f (hN f hf)
      obtain ⟨M, m1, m2, m3, m4⟩ := ih _ hN (by omega)
      refine ⟨M, m1, by rw [m2, pm.length_eq]; rfl, fun z => Nat.le_trans (m3 z) ?_, m4⟩
      rw [cov_perm pm, cov_cons, cov_cons, cov_cons, cov_cons]
      have := sv_exch (z := z) k2 k3 k4 k1
      omega
/-- e lies across d -/
def Und (e d : Dem) : Prop := d.2.1 ≤ e.2.1 ∧ e.1 ≤ d.1 ∧ d.2.2 ≤ e.2.2
theorem und_of {F : List Dem} (fam : Fam F) {d e : Dem} (hd : d ∈ F) (he : e ∈ F) (c : cf d e = true) (n1 : ¬ Corner d e) (n2 : ¬ Corner e d) : Und d e ∨ Und e d := by
  unfold Und
  rcases fam.cross d hd e he c with h | h | h
  · rw [h]
    omega
  · have : ¬ d.1 < e.1 := fun z => n1 ⟨c, z, h.1, h.2⟩
    omega
  · have : ¬ e.1 < d.1 := fun z => n2 ⟨by rw [cf_comm]; exact c, z, h.1, h.2⟩
    omega
def leD (d e : Dem) : Bool := decide (d.1 - d.2.1 < e.1 - e.2.1 ∨ (d.1 - d.2.1 = e.1 - e.2.1 ∧ e.2.2 ≤ d.2.2))
theorem leD_total (a b : Dem) : (leD a b || leD b a) = true := by
  unfold leD
  rw [Bool.or_eq_true, decide_eq_true_eq, decide_eq_true_eq]
  omega
theorem leD_trans (a b c : Dem) : leD a b = true → leD b c = true → leD a c = true := by
  unfold leD
  rw [decide_eq_true_eq, decide_eq_true_eq, decide_eq_true_eq]
  omega
theorem und_le {F : List Dem} (fam : Fam F) {f e : Dem} (hf : f ∈ F) (he : e ∈ F) (c : cf f e = true) (n1 : ¬ Corner f e) (n2 : ¬ Corner e f) (le : leD f e = true) : Und f e := by
  have le := of_decide_eq_true le
  rcases und_of fam hf he c n1 n2 with h | h
  · exact h
  · unfold Und at *
    omega
def gre : Nat → List Dem → List Dem
  | 0, _ => []
  | _, [] => []
  | n + 1, d :: R => d :: gre n (R.filter fun e => !cf d e)
def lef : Nat → List Dem → List Dem
  | 0, L => L
  | _, [] => []
  | n + 1, d :: R => (R.filter fun e => cf d e) ++ lef n (R.filter fun e => !cf d e)
theorem gre_lef : ∀ (n : Nat) (L : List Dem), L.Perm (gre n L ++ lef n L)
  | 0, L => List.Perm.refl _
  | n + 1, [] => List.Perm.refl _
  | n + 1, d :: R => by
    have ih := gre_lef n (R.filter fun e => !cf d e)
    show (d :: R).Perm (d :: (gre n (R.filter fun e => !cf d e) ++ ((R.filter fun e => cf d e) ++ lef n (R.filter fun e => !cf d e))))
    refine List.Perm.cons d ?_
    have p1 := (List.filter_append_perm (fun e => cf d e) R).symm
    refine p1.trans ?_
    refine ((List.Perm.refl (R.filter fun e => cf d e)).append ih).trans ?_
    rw [← List.append_assoc, ← List.append_assoc]
    exact List.perm_append_comm.append_right _
theorem gre_sub (n : Nat) (L : List Dem) : ∀ d ∈ gre n L, d ∈ L := fun d hd => (gre_lef n L).mem_iff.mpr (List.mem_append_left _ hd)
theorem lef_sub (n : Nat) (L : List Dem) : ∀ d ∈ lef n L, d ∈ L := fun d hd => (gre_lef n L).mem_iff.mpr (List.mem_append_right _ hd)
theorem gre_ind : ∀ (n : Nat) (L : List Dem), Ind (gre n L)
  | 0, _ => List.Pairwise.nil
  | n + 1, [] => List.Pairwise.nil
  | n + 1, d :: R => by
    refine List.pairwise_cons.mpr ⟨fun e he => ?_, gre_ind n _⟩
    have := (List.mem_filter.mp (gre_sub n _ e he)).2
    rw [Bool.not_eq_true'] at this
    exact this
theorem gre_in : ∀ (n : Nat) (A B : List Dem) (e : Dem), A.length < n → e ∈ gre n (A ++ e :: B) ∨ ∃ f ∈ A, cf f e = true
  | 0, _, _, _, h => absurd h (Nat.not_lt_zero _)
  | n + 1, [], B, e, _ => .inl List.mem_cons_self
  | n + 1, d :: A, B, e, h => by
    by_cases c : cf d e = true
    · exact .inr ⟨d, List.mem_cons_self, c⟩
    · have eq : (A ++ e :: B).filter (fun x => !cf d x) = A.filter (fun x => !cf d x) ++ e :: B.filter (fun x => !cf d x) := by
        rw [List.filter_append, List.filter_cons_of_pos (by rw [Bool.not_eq_true] at c; rw [c]; rfl)]
      have l : (A.filter fun x => !cf d x).length < n := Nat.lt_of_le_of_lt (List.length_filter_le _ _) (Nat.lt_of_succ_lt_succ h)
      rcases gre_in n (A.filter fun x => !cf d x) (B.filter fun x => !cf d x) e l with g | ⟨f, hf, k⟩
      · refine .inl (List.mem_cons_of_mem _ ?_)
        show e ∈ gre n ((A ++ e :: B).filter fun x => !cf d x)
        rw [eq]
        exact g
      · exact .inr ⟨f, List.mem_cons_of_mem _ (List.mem_filter.mp hf).1, k⟩
theorem cov_lt {z w : Int × Int} {f : Dem} : ∀ {L : List Dem}, f ∈ L → (∀ c ∈ L, sv z c = true → sv w c = true) → sv z f = false → sv w f = true → cov L z < cov L w
  | [], hf, _, _, _ => nomatch hf
  | d :: L, hf, h, n, y => by
    rw [cov_cons, cov_cons]
    have le : cov L z ≤ cov L w := List.countP_mono_left fun c hc => h c (List.mem_cons_of_mem _ hc)
    have h1 := h d List.mem_cons_self
    rcases List.mem_cons.mp hf with rfl | hf
    · rw [n, y]
      simp
      omega
    · have ih := cov_lt hf (fun c hc => h c (List.mem_cons_of_mem _ hc)) n y
      split
      · next s => rw [if_pos (h1 s)]; omega
      · split <;> omega
theorem first_of {p : Dem → Bool} : ∀ {L : List Dem}, (∃ d ∈ L, p d = true) → ∃ A e B, L = A ++ e :: B ∧ p e = true ∧ ∀ f ∈ A, p f = false
  | [], h => by
    obtain ⟨d, hd, _⟩ := h
    cases hd
  | d :: L, h => by
    by_cases c : p d = true
    · exact ⟨[], d, L, rfl, c, fun f hf => nomatch hf⟩
    · obtain ⟨x, hx, px⟩ := h
      rcases List.mem_cons.mp hx with rfl | hx
      · exact absurd px c
      · obtain ⟨A, e, B, r1, r2, r3⟩ := first_of ⟨x, hx, px⟩
        refine ⟨d :: A, e, B, by rw [r1]; rfl, r2, fun f hf => ?_⟩
        rcases List.mem_cons.mp hf with rfl | hf
        · exact Bool.not_eq_true _ ▸ c
        · exact r3 f hf
theorem lef_cov {F : List Dem} (fam : Fam F) {L : List Dem} (hL : ∀ d ∈ L, d ∈ F) (nc : ∀ d ∈ L, ∀ e ∈ L, ¬ Corner d e) (srt : L.Pairwise fun d e => leD d e = true) {m : Nat} (hm : ∀ z, cov L z ≤ m + 1) (z : Int × Int) : cov (lef L.length L) z ≤ m := by
  have sum := cov_perm (gre_lef L.length L) z
  rw [cov_app] at sum
  have top := hm z
  by_cases g : ∃ d ∈ gre L.length L, sv z d = true
  · have : 0 < cov (gre L.length L) z := List.countP_pos_iff.mpr g
    omega
  · by_cases s : ∃ d ∈ L, sv z d = true
    · obtain ⟨A, e, B, rfl, se, nA⟩ := first_of s
      have la : A.length < (A ++ e :: B).length := by
        rw [List.length_append, List.length_cons]
        omega
      rcases gre_in _ A B e la with q | ⟨f, hf, k⟩
      · exact absurd ⟨e, q, se⟩ g
      · have mf : f ∈ A ++ e :: B := List.mem_append_left _ hf
        have me : e ∈ A ++ e :: B := List.mem_append_right _ List.mem_cons_self
        have pw := List.pairwise_append.mp srt
        have u1 := und_le fam (hL f mf) (hL e me) k (nc f mf e me) (nc e me f mf) (pw.2.2 f hf e List.mem_cons_self)
        have w : cov (A ++ e :: B) z < cov (A ++ e :: B) (f.1, z.2) := by
          have vf := (fam.ok f (hL f mf)).2
          have ve := sv_iff'.mp se
          refine cov_lt mf (fun c hc sc => ?_) (nA f hf) ?_
          · have u2 : Und e c := by
              rcases List.mem_append.mp hc with h | h
              · rw [nA c h] at sc
                cases sc
              · rcases List.mem_cons.mp h with rfl | h
                · exact ⟨Int.le_refl _, Int.le_refl _, Int.le_refl _⟩
                · exact und_le fam (hL e me) (hL c hc) (cf_of_sv se sc) (nc e me c hc) (nc c hc e me) ((List.pairwise_cons.mp pw.2.1).1 c h)
            have sc := sv_iff'.mp sc
            rw [sv_iff']
            unfold Und Vd at *
            show c.2.1 ≤ f.1 ∧ f.1 ≤ c.1 ∧ c.1 ≤ z.2 ∧ z.2 ≤ c.2.2
            omega
          · rw [sv_iff']
            unfold Und Vd at *
            show f.2.1 ≤ f.1 ∧ f.1 ≤ f.1 ∧ f.1 ≤ z.2 ∧ z.2 ≤ f.2.2
            omega
        have := hm (f.1, z.2)
        omega
    · have : cov L z = 0 := List.countP_eq_zero.mpr fun d hd c => s ⟨d, hd, c⟩
      omega
theorem len_le {F : List Dem} (fam : Fam F) {k : Nat} (hk : ∀ I, Ind I → (∀ d ∈ I, d ∈ F) → I.length ≤ k) : ∀ (m : Nat) (L : List Dem), (∀ d ∈ L, d ∈ F) → (∀ d ∈ L, ∀ e ∈ L, ¬ Corner d e) → (∀ z, cov L z ≤ m) → L.length ≤ m * k
  | 0, L, hL, _, hm => by
    cases L with
    | nil => exact Nat.zero_le _
    | cons d L =>
      have v := (fam.ok d (hL d List.mem_cons_self)).2
      have := hm (d.1, d.1)
      rw [cov_cons, if_pos (sv_iff'.mpr (by unfold Vd at v; exact ⟨v.1, Int.le_refl _, Int.le_refl _, v.2⟩))] at this
      omega
  | m + 1, L, hL, nc, hm => by
    have pm := List.mergeSort_perm L leD
    have srt := List.pairwise_mergeSort leD_trans leD_total L
    generalize L.mergeSort leD = S at *
    have hS : ∀ d ∈ S, d ∈ L := fun d hd => pm.mem_iff.mp hd
    have hl := lef_cov fam (fun d hd => hL d (hS d hd)) (fun d hd e he => nc d (hS d hd) e (hS e he)) srt (m := m) (fun z => by rw [cov_perm pm]; exact hm z)
    have sub := lef_sub S.length S
    have ih := len_le fam hk m (lef S.length S) (fun d hd => hL d (hS d (sub d hd))) (fun d hd e he => nc d (hS d (sub d hd)) e (hS e (sub e he))) hl
    have g := hk _ (gre_ind S.length S) fun d hd => hL d (hS d (gre_sub _ _ d hd))
    have e := (gre_lef S.length S).length_eq
    have e2 := pm.length_eq
    rw [List.length_append] at e
    rw [Nat.add_mul]
    omega
theorem sum_lt {α : Type} {f : α → Nat} : ∀ {Z : List α} {w : α}, w ∈ Z → (∀ x ∈ Z, f x ≤ 1) → f w = 0 → (Z.map f).sum + 1 ≤ Z.length
  | [], _, h, _, _ => nomatch h
  | x :: Z, w, h, h1, h0 => by
    have le : ∀ Y : List α, (∀ x ∈ Y, f x ≤ 1) → (Y.map f).sum ≤ Y.length := by
      intro Y
      induction Y with
      | nil => exact fun _ => Nat.le_refl _
      | cons y Y ih =>
        intro hy
        have := ih fun x hx => hy x (List.mem_cons_of_mem _ hx)
        have := hy y List.mem_cons_self
        rw [List.map_cons, List.sum_cons, List.length_cons]
        omega
    have r := le Z fun x hx => h1 x (List.mem_cons_of_mem _ hx)
    have hx := h1 x List.mem_cons_self
    rw [List.map_cons, List.sum_cons, List.length_cons]
    rcases List.mem_cons.mp h with rfl | h
    · omega
    · have := sum_lt h (fun x hx => h1 x (List.mem_cons_of_mem _ hx)) h0
      omega
theorem cov_flat {α : Type} (I : α → List Dem) (z : Int × Int) : ∀ Z : List α, cov (Z.flatMap I) z = (Z.map fun w => cov (I w) z).sum
  | [] => rfl
  | x :: Z => by
    rw [List.flatMap_cons, cov_app, cov_flat I z Z, List.map_cons, List.sum_cons]
theorem len_flat {α β : Type} (I : α → List β) {k : Nat} : ∀ Z : List α, (∀ w ∈ Z, (I w).length = k) → (Z.flatMap I).length = Z.length * k
  | [], _ => by simp
  | x :: Z, h => by
    rw [List.flatMap_cons, List.length_append, len_flat I Z fun w hw => h w (List.mem_cons_of_mem _ hw), h x List.mem_cons_self, List.length_cons, Nat.add_mul]
    omega
theorem top_of (F : List Dem) : ∃ M : Nat, ∀ d ∈ F, d.2.2 ≤ M := by
  induction F with
  | nil => exact ⟨0, fun d hd => nomatch hd⟩
  | cons d F ih =>
    obtain ⟨M, h⟩ := ih
    refine ⟨M + d.2.2.toNat, fun e he => ?_⟩
    rcases List.mem_cons.mp he with rfl | he
    · omega
    · have := h e he
      omega
def box (M : Nat) : List (Int × Int) := (List.range (M + 1)).flatMap fun (x : Nat) => (List.range (M + 1)).map fun (y : Nat) => ((x : Int), (y : Int))
theorem mem_box {M : Nat} {z : Int × Int} (h : 0 ≤ z.1 ∧ z.1 ≤ M) (h2 : 0 ≤ z.2 ∧ z.2 ≤ M) : z ∈ box M := by
  unfold box
  refine List.mem_flatMap.mpr ⟨z.1.toNat, List.mem_range.mpr (by omega), List.mem_map.mpr ⟨z.2.toNat, List.mem_range.mpr (by omega), ?_⟩⟩
  exact Prod.ext (by show ((z.1.toNat : Nat) : Int) = z.1; omega) (by show ((z.2.toNat : Nat) : Int) = z.2; omega)
/-- a point that every largest selection has to pay for -/
theorem hits {F : List Dem} (fam : Fam F) {k : Nat} (hk : ∀ I, Ind I → (∀ d ∈ I, d ∈ F) → I.length ≤ k + 1) : ∃ z, ∀ I, Ind I → (∀ d ∈ I, d ∈ F) → I.length = k + 1 → ∃ d ∈ I, sv z d = true := by
  refine Classical.byContradiction fun no => ?_
  have miss : ∀ z, ∃ I, Ind I ∧ (∀ d ∈ I, d ∈ F) ∧ I.length = k + 1 ∧ ∀ d ∈ I, sv z d = false := fun z => by
    refine Classical.byContradiction fun h => no ⟨z, fun I i1 i2 i3 => Classical.byContradiction fun n => h ⟨I, i1, i2, i3, fun d hd => ?_⟩⟩
    rw [← Bool.not_eq_true]
    exact fun s => n ⟨d, hd, s⟩
  obtain ⟨I, hI⟩ := Classical.axiomOfChoice miss
  obtain ⟨M, hM⟩ := top_of F
  have hsub : ∀ d ∈ (box M).flatMap I, d ∈ F := fun d hd => by
    obtain ⟨w, _, h⟩ := List.mem_flatMap.mp hd
    exact (hI w).2.1 d h
  have hlen := len_flat I (k := k + 1) (box M) fun w _ => (hI w).2.2.1
  have pos : 0 < (box M).length := List.length_pos_of_mem (mem_box (M := M) (z := (0, 0)) ⟨by decide, by show (0 : Int) ≤ M; omega⟩ ⟨by decide, by show (0 : Int) ≤ M; omega⟩)
  have hc : ∀ z, cov ((box M).flatMap I) z ≤ (box M).length - 1 := fun z => by
    by_cases b : (0 ≤ z.1 ∧ z.1 ≤ M) ∧ 0 ≤ z.2 ∧ z.2 ≤ M
    · have s := sum_lt (f := fun w => cov (I w) z) (mem_box b.1 b.2) (fun x _ => (hI x).1.cov_le z) (List.countP_eq_zero.mpr fun d hd c => by
        rw [(hI z).2.2.2 d hd] at c
        cases c)
      rw [cov_flat]
      omega
    · have : cov ((box M).flatMap I) z = 0 := List.countP_eq_zero.mpr fun d hd c => b (by
        have c := sv_iff'.mp c
        have o := fam.ok d (hsub d hd)
        have t := hM d (hsub d hd)
        unfold Vd at o
        omega)
      omega
  obtain ⟨N, n1, n2, n3, n4⟩ := uncross fam _ _ hsub (Nat.lt_succ_self _)
  have := len_le fam hk ((box M).length - 1) N n1 n4 fun z => Nat.le_trans (n3 z) (hc z)
  rw [n2, hlen] at this
  obtain ⟨b, eb⟩ : ∃ b, (box M).length = b + 1 := ⟨(box M).length - 1, by omega⟩
  rw [eb, Nat.add_sub_cancel, Nat.add_mul, Nat.one_mul] at this
  omega
theorem Fam.rest {F : List Dem} (fam : Fam F) (z : Int × Int) : Fam (F.filter fun d => !sv z d) := by
  have hs : ∀ d, d ∈ F.filter (fun d => !sv z d) → d ∈ F ∧ sv z d = false := fun d hd => by
    have := List.mem_filter.mp hd
    exact ⟨this.1, by rw [← Bool.not_eq_true']; exact this.2⟩
  refine ⟨fun d hd => fam.ok d (hs d hd).1, fun d hd e he h1 h2 h3 c => ?_, fun d hd e he c => fam.cross d (hs d hd).1 e (hs e he).1 c⟩
  have x := fam.ex d (hs d hd).1 e (hs e he).1 h1 h2 h3 c
  have y := sv_exch (z := z) h1 h2 h3 c
  rw [(hs d hd).2, (hs e he).2] at y
  simp at y
  exact ⟨List.mem_filter.mpr ⟨x.1, by rw [y.1]; rfl⟩, List.mem_filter.mpr ⟨x.2, by rw [y.2]; rfl⟩⟩
/-- as many points as the largest selection has serve all -/
theorem min_max : ∀ (k : Nat) {F : List Dem}, Fam F → (∀ I, Ind I → (∀ d ∈ I, d ∈ F) → I.length ≤ k) → ∃ S : List (Int × Int), S.length ≤ k ∧ ∀ d ∈ F, ∃ z ∈ S, sv z d = true
  | 0, F, fam, hk => ⟨[], Nat.le_refl _, fun d hd => by
    have := hk [d] (List.pairwise_singleton _ _) fun e he => by
      rw [List.mem_singleton.mp he]
      exact hd
    exact absurd this (by simp)⟩
  | k + 1, F, fam, hk => by
    obtain ⟨z, hz⟩ := hits fam hk
    obtain ⟨S, s1, s2⟩ := min_max k (fam.rest z) fun I i1 i2 => by
      have sub : ∀ d ∈ I, d ∈ F ∧ sv z d = false := fun d hd => by
        have := List.mem_filter.mp (i2 d hd)
        exact ⟨this.1, by rw [← Bool.not_eq_true']; exact this.2⟩
      have le := hk I i1 fun d hd => (sub d hd).1
      by_cases e : I.length = k + 1
      · obtain ⟨d, hd, s⟩ := hz I i1 (fun d hd => (sub d hd).1) e
        rw [(sub d hd).2] at s
        cases s
      · omega
    refine ⟨z :: S, by rw [List.length_cons]; omega, fun d hd => ?_⟩
    by_cases s : sv z d = true
    · exact ⟨z, List.mem_cons_self, s⟩
    · obtain ⟨w, hw, q⟩ := s2 d (List.mem_filter.mpr ⟨hd, by rw [Bool.not_eq_true] at s; rw [s]; rfl⟩)
      exact ⟨w, List.mem_cons_of_mem _ hw, q⟩

/-! ### instances: len(o), str(o) by own defs; t += u; o.m(k = v) -/
section
variable {prog : Program} {w : World} {A : Around} {E : Value → Shared → Prop} {s : Shared}
theorem iconcat_meets {T id : String} {B : Builtin} {a b : Value} {S : PySem.Spec} {Q : Value → Shared → Prop} (ha : s.TypeIs a T) (hb : s.TypeIs b T) (hno : typeLookup (.type T) (dunderI "add") = pure none)
    (hfill : fillsNumberSlot (.type T) "add" = pure false) (hseq : seqSlot? (.type T) "__add__" = pure (some (.builtin id))) (slot : Slot T "__add__" id)
    (entry : entryFor table id = some B) (args : argsOk id ⟨[a, b], []⟩) (g : Meets (B ⟨[a, b], []⟩) S) (h : S A (wants Q E) s) : wpAny (model prog w) A (inplaceOp .Add a b) Q E s :=
  wpAny_inplaceOp_concat ha hb hno hfill hseq (call_meets slot ha entry args g h)
theorem noI_tuple_add : typeLookup (.type "tuple") (dunderI "add") = pure none := by rw [typeLookup_type, builtinLookup_eq_fast]; kernel_rfl
theorem icat_tup0 {t b : Addr} {ws : List Value} {Q : Value → Shared → Prop} (ht : IsTup s.heap t ([] : List Value).toArray) (hb : IsTup s.heap b ws.toArray) (h : Q (.ref b) s) : wpAny (model prog w) A (inplaceOp .Add (.ref t) (.ref b)) Q E s := by
  obtain ⟨⟨cls, dd, data, sl⟩, ho, hc, n, hd⟩ := id ht
  obtain ⟨⟨cls2, dd2, data2, sl2⟩, ho2, hc2, n2, hd2⟩ := id hb
  simp only at hc hd hc2 hd2
  subst hc hd hc2 hd2
  exact iconcat_meets ⟨_, ho, rfl⟩ ⟨_, ho2, rfl⟩ noI_tuple_add noFill_tuple_add seq_tuple_add PySem.F.slot_tuple_add PySem.F.entry_tuple_add (PySem.F.args_tuple_add_2 _ _)
    (tuple_addW0 t b ([] : List Value).toArray ws.toArray n n2 dd dd2 sl sl2 (by simp)) ⟨ho, ho2, h⟩
theorem icat_tup {t b : Addr} {vs ws : List Value} {Q : Value → Shared → Prop} (ht : IsTup s.heap t vs.toArray) (hb : IsTup s.heap b ws.toArray) (hv : vs ≠ [])
    (h1 : ws = [] → Q (.ref t) s) (h2 : ws ≠ [] → Q (.ref s.heap.objs.size) { s with heap := s.heap.push { cls := .type "tuple", data := .seq (vs ++ ws).toArray } })
    (hsz : vs.length + ws.length ≤ sizeLine) : wpAny (model prog w) A (inplaceOp .Add (.ref t) (.ref b)) Q E s := by
  obtain ⟨⟨cls, dd, data, sl⟩, ho, hc, n, hd⟩ := id ht
  obtain ⟨⟨cls2, dd2, data2, sl2⟩, ho2, hc2, n2, hd2⟩ := id hb
  simp only at hc hd hc2 hd2
  subst hc hd hc2 hd2
  have e : vs.toArray ++ ws.toArray = (vs ++ ws).toArray := by simp
  by_cases hw : ws = []
  · exact iconcat_meets ⟨_, ho, rfl⟩ ⟨_, ho2, rfl⟩ noI_tuple_add noFill_tuple_add seq_tuple_add PySem.F.slot_tuple_add PySem.F.entry_tuple_add (PySem.F.args_tuple_add_2 _ _)
      (tuple_addW1 t b vs.toArray ws.toArray n n2 dd dd2 sl sl2 (by simpa using hv) (by simp [hw])) ⟨ho, ho2, h1 hw⟩
  · refine iconcat_meets ⟨_, ho, rfl⟩ ⟨_, ho2, rfl⟩ noI_tuple_add noFill_tuple_add seq_tuple_add PySem.F.slot_tuple_add PySem.F.entry_tuple_add (PySem.F.args_tuple_add_2 _ _)
      (tuple_addW2 t b vs.toArray ws.toArray n n2 dd dd2 sl sl2 (by simpa using hv) (by simpa using hw) (by rw [List.size_toArray, List.size_toArray]; exact hsz)) ⟨ho, ho2, ?_⟩
    rw [e]
    exact h2 hw
end
section
variable {X : Cx}
/-- t += u (tuples) -/
theorem in_catA : InOp X .Add (rCatA X.K) := by
  intro pins s σ H x y v u Q I rx ry h
  obtain ⟨a, b, xs, ys, rfl, rfl, ha, hb, hz, q0, q1, q2⟩ := h
  by_cases hx : xs = []
  · subst hx
    cases rx
    cases ry
    obtain ⟨its, r1, p1, _⟩ := I.tuple ha
    obtain ⟨its2, r2, p2, _⟩ := I.tuple hb
    cases r1
    exact icat_tup0 p1 p2 ⟨.ref b, H, I, rfl, q0 rfl⟩
  · cases rx
    cases ry
    obtain ⟨its, r1, p1, _⟩ := I.tuple ha
    obtain ⟨its2, r2, p2, _⟩ := I.tuple hb
    refine icat_tup p1 p2 (fun z => hx (r1.nil_iff.mp z)) (fun z => ⟨.ref a, H, I, rfl, q1 hx (r2.nil_iff.mp z)⟩) (fun z => ?_) (by rw [← r1.length, ← r2.length]; exact hz)
    refine ⟨.ref s.heap.objs.size, _, I.laid (t' := s.toks) (o := .tup (xs ++ ys)) (fun b ob q => Heap.get?_push_of_some _ q) (Nat.le_refl _) ?_, rfl, q2 hx (fun w => z (r2.nil_iff.mpr w)) _ (I.hok.fresh (Nat.le_refl _))⟩
    exact ⟨by rw [List.length_append]; exact hz, _, r1.append r2, IsTup.new _ _⟩
/-- an own def called from within a builtin -/
theorem run_own {A : Around} {CX : CXT} {k : Nat} {f : Addr} {fd : FuncData} {ps : List Str} {sp : Sp} {E : XK} {pins : List (Addr × Obj)} {σ : L2.St} {H : Hp} {s : Shared} {Q : VK} {us : List Value} {vs : List V}
    (F : FnOk X.prog X.w X.K X.mg X.base CX k f fd ps sp) (hb : Binds X.K fd ps []) (hx : Passes CX X E) (hA : Room k A) (fr : A.frames = X.A.frames) (I : Inv X pins σ H s) (r : Vals vs us) (h : sp vs H Q E) :
    wpAny (model X.prog X.w) A (call (.ref f) us) (EP X pins σ Q) X.xe s := by
  have e0 : Env0 X.prog X.w X.K X.mg X.base A X.stack s H := by
    have e := I.env0
    exact ⟨by rw [fr]; exact e.frames, e.mod, e.bs, e.bsz, e.funs, e.frf, e.hok, e.bare⟩
  have hl := F.len _ _ _ _ h
  refine wpAny_call (codeAny_mono (F.run A X.stack s H ⟨us, []⟩ us vs Q E hA e0 (by
    have := hb s us I.kIn (by simpa using r.length.symm.trans hl)
    simpa using this) r h) fun r s' hq => ?_)
  cases r with
  | error e => exact hx pins σ H s e s' I hq
  | ok fl =>
    cases fl with
    | ret w => exact I.after hq
    | next => exact False.elim hq
    | brk => exact False.elim hq
    | cont => exact False.elim hq
theorem ins_inst {pins : List (Addr × Obj)} {σ : L2.St} {H : Hp} {s : Shared} {a C dx : Addr} {fs : List (Str × V)} (I : Inv X pins σ H s) (ha : H a = some (.ins C dx fs)) : ∃ ox od, PySem.W.InstAt s.heap a ox C od := by
  obtain ⟨mA, J, _⟩ := ins_get I.hok ha
  obtain ⟨od, J, _⟩ := J.look
  exact ⟨_, _, J⟩
/-- len(o), o's class with an own __len__ -/
def rLenOwn (C : Addr) (sp : Sp) (E : XK) : List V → Hp → VK → Prop := fun xs H Q => ∃ a dx fs, xs = [V.ref a] ∧ H a = some (.ins C dx fs) ∧ sp [.ref a] H (fun v H' => ∃ n : Int, v = .int n ∧ (0 ≤ n ∧ n < 2 ^ 63) ∧ Q (.int n) H') E
theorem cr_lenOwn {CX : CXT} {k : Nat} {C f : Addr} {fd : FuncData} {ps : List Str} {sp : Sp} {E : XK} (F : FnOk X.prog X.w X.K X.mg X.base CX k f fd ps sp) (hs : PySem.W.findIn X.K (.ref C) "__len__" = some (some (.ref f))) (hf : PySem.W.isFn X.K (.ref f) = true)
    (hb : Binds X.K fd ps []) (hx : Passes CX X E) (hr : Room (k + 1) X.A) : CallR X (.builtin "len") (rLenOwn C sp E) := by
  intro pins s σ H xs us Q I r h
  obtain ⟨a, dx, fs, rfl, ha, hsp⟩ := h
  rw [Vals.ref1 r]
  obtain ⟨ox, od, J⟩ := ins_inst I ha
  obtain ⟨m, hF⟩ := I.fr
  refine PySem.W.len_K hF I.ok.mod.kin J hs hf (wpAny_mono (run_own F hb hx hr.in1 rfl I (us := [.ref a]) (vs := [.ref a]) (.cons rfl .nil) hsp) (fun v s' z => ?_) fun _ _ x => x)
  obtain ⟨v', H', I', rv, n, rfl, hn, q⟩ := z
  obtain ⟨t, rfl⟩ := (show ∃ t, v = Value.int n t from rv)
  exact ⟨hn, .int n, H', I'.tok _, ⟨_, rfl⟩, q⟩
/-- str(o), o's class with an own __str__ -/
def rStrOwn (C : Addr) (sp : Sp) (E : XK) : List V → Hp → VK → Prop := fun xs H Q => ∃ a dx fs, xs = [V.ref a] ∧ H a = some (.ins C dx fs) ∧ sp [.ref a] H (fun v H' => ∃ n : Str, v = .str n ∧ Q (.str n) H') E
theorem cr_strOwn {CX : CXT} {k : Nat} {C f : Addr} {fd : FuncData} {ps : List Str} {sp : Sp} {E : XK} (F : FnOk X.prog X.w X.K X.mg X.base CX k f fd ps sp) (hs : PySem.W.findIn X.K (.ref C) "__str__" = some (some (.ref f))) (hf : PySem.W.isFn X.K (.ref f) = true)
    (hb : Binds X.K fd ps []) (hx : Passes CX X E) (hr : Room (k + 2) X.A) : CallR X (.type "str") (rStrOwn C sp E) := by
  intro pins s σ H xs us Q I r h
  obtain ⟨a, dx, fs, rfl, ha, hsp⟩ := h
  rw [Vals.ref1 r]
  obtain ⟨ox, od, J⟩ := ins_inst I ha
  have h2 : Room k X.A.in1.in1 := hr.in1.in1
  refine PySem.W.kso_call (h2.units0) I.kIn J hs hf (wpAny_mono (run_own F hb hx h2 rfl I (us := [.ref a]) (vs := [.ref a]) (.cons rfl .nil) hsp) (fun v s' z => ?_) fun _ _ x => x)
  obtain ⟨v', H', I', rv, n, rfl, q⟩ := z
  obtain ⟨t, rfl⟩ := (show ∃ t, v = Value.str n t from rv)
  exact ⟨.str n, H', I', ⟨_, rfl⟩, q⟩
/-- o.m(k = v, ..) -/
def tMethK (C : Addr) (m : Str) (n : Nat) (sp : Sp) (gV : List V → List V → List V) (E : XK) (ta : TE) (tk : TA) : TE := fun σ H Q => ta σ H fun x H1 => ∃ a dx fs, x = .ref a ∧ H1 a = some (.ins C dx fs) ∧ fs.lookup m = none ∧
  tk σ H1 fun zs H2 => zs.length = n ∧ sp (gV [.ref a] zs) H2 Q E
theorem pe_methK0 {CX : CXT} {k : Nat} {f C : Addr} {fd : FuncData} {ps ks : List Str} {sp : Sp} {E : XK} {m : Str} {pos apos : Pos} {o : Expr} {kws : List Keyword} {ta : TE} {tk : TA} {g : List Value → List Value → List Value} {gV : List V → List V → List V} {pl : Sem Bool}
    (he : PE X o ta) (c : Cls X.K C) (hm : Meth X.K C m f) (F : FnOk X.prog X.w X.K X.mg X.base CX k f fd ps sp) (hr : Room k X.A) (hb : KBn X.K fd ps 1 ks g gV) (hx : Passes CX X E) (hkw : PK X kws tk)
    (hall : (backToKw pos (keywordEach kws X.env)).all (·.1.isSome) = true := by rfl) (hks : (backToKw pos (keywordEach kws X.env)).filterMap (·.1) = ks := by rfl)
    (hpl : ((backTo pos (starEach [] X.env)).any (·.1) || (backToKw pos (keywordEach kws X.env)).any (·.1.isNone)) = false := by rfl)
    (ht : eval (.Call (.Attribute o m apos) [] kws pos) X.env = (do
      let ov ← eval o X.env
      standAt apos.atName
      let (f, first) ← holding [ov] (getMethod ov m pl)
      callWith pos f first (backTo pos (starEach [] X.env)) (backToKw pos (keywordEach kws X.env))) := by rfl) :
    PE X (.Call (.Attribute o m apos) [] kws pos) (tMethK C m ks.length sp gV E ta tk) := by
  refine ⟨fun pins s σ H Q I h => ?_⟩
  refine PySem.W.methodCall_KW (pl := pl) (thn (he.run pins s σ H _ I h) fun u s1 ⟨x, H1, I1, rx, a, dx, fs, ex, ea, l, q⟩ => ?_) ht
  subst ex
  obtain rfl : u = Value.ref a := rx
  refine getmeth_ok I1 ea c hm l ?_
  refine PySem.W.callWith_KW0 (first := [.ref a]) (h₀ := X.base) I.ok.mod.kin hm.kp hall (thn (hkw.run pos pins s1 σ H1 _ I1 q) fun ws s2 ⟨zs, H2, I2, rz, l2, q2⟩ => ⟨I2.kIn, ?_⟩) hpl
  rw [hks]
  exact run_fnN (us := [.ref a]) (vs := [.ref a]) F hr hb hx I2 (.cons rfl .nil) rz rfl l2 q2
end

/-! ### a == b by an own def -/
section
variable {X : Cx}
def rEqOwn (C : Addr) (sp : Sp) (E : XK) : R2 := fun x y H Q => ∃ a b dx dy fs gs, x = .ref a ∧ y = .ref b ∧ H a = some (.ins C dx fs) ∧ H b = some (.ins C dy gs) ∧ sp [.ref a, .ref b] H (fun v H' => ∃ k : Bool, v = .bl k ∧ Q (.bl k) H') E
theorem op_eqOwn {CX : CXT} {k : Nat} {C f : Addr} {fd : FuncData} {ps : List Str} {sp : Sp} {E : XK} (F : FnOk X.prog X.w X.K X.mg X.base CX k f fd ps sp) (hs : PySem.W.findIn X.K (.ref C) "__eq__" = some (some (.ref f))) (hf : PySem.W.isFn X.K (.ref f) = true)
    (hb : Binds X.K fd ps []) (hx : Passes CX X E) (hr : Room k X.A) : OpR X (compareOp .Eq) (rEqOwn C sp E) := by
  intro pins s σ H x y v u Q I rx ry h
  obtain ⟨a, b, dx, dy, fs, gs, rfl, rfl, ha, hb', hsp⟩ := h
  cases rx
  cases ry
  obtain ⟨ox, od, J⟩ := ins_inst I ha
  obtain ⟨ox', od', J'⟩ := ins_inst I hb'
  obtain ⟨m, hF⟩ := I.fr
  refine PySem.W.cmp_K (op := .Eq) (tb := .ref C) hr.units0 hF I.ok.mod.kin J J'.type (by simp [PySem.W.notFirst]) hs hf (wpAny_mono (run_own F hb hx hr rfl I (us := [.ref a, .ref b]) (vs := [.ref a, .ref b]) (.cons rfl (.cons rfl .nil)) hsp) (fun v s' z => ?_) fun _ _ x => x)
  obtain ⟨v', H', I', rv, k, rfl, q⟩ := z
  cases rv
  exact ⟨.bl k, H', I', rfl, q⟩
end

/-! ### own errors without own __init__: raised without arguments, out of a method; isinstance of a caught one -/
abbrev bmVE : List Value := [.type "ValueError", .type "Exception", .type "BaseException", .type "object"]
/-- a class that a clause or isinstance names -/
structure XcN (K : PySem.W.Frag) (mg : Str → Option Value) (x : Str) (C : Addr) : Prop where
  g : mg x = some (.ref C)
  ic : PySem.W.isClsIn K C = true
  ty : PySem.W.typeIn K (.ref C) = some (.type "type")
  ba : PySem.W.subIn K (.ref C) (.type "BaseException") = some true
/-- a class that is raised -/
structure XcR (K : PySem.W.Frag) (C : Addr) : Prop where
  xP : PySem.W.excIn K C bmVE "ValueError.__new__" = true
  kP : PySem.W.keepIn K (.ref C) = true
  ex : ExcC K C
section
variable {K : PySem.W.Frag} {mg : Str → Option Value}
theorem XcN.exm {x : Str} {D C : Addr} {b : Bool} (N : XcN K mg x C) (s : PySem.W.subIn K (.ref D) (.ref C) = some b) : PySem.W.exmOne K (.ref D) (.ref C) = some b := by
  have e1 : (PySem.W.subIn K (.ref C) (.type "BaseException") == some true) = true := by rw [N.ba] <;> rfl
  have e2 : ((PySem.W.clsIn K C).isSome && PySem.W.typeIn K (.ref C) == some (.type "type")) = true := by
    have h : (PySem.W.clsIn K C).isSome = true := N.ic
    rw [h, N.ty] <;> rfl
  show (if (PySem.W.subIn K (.ref C) (.type "BaseException") == some true) = true then (if ((PySem.W.clsIn K C).isSome && PySem.W.typeIn K (.ref C) == some (.type "type")) = true then PySem.W.subIn K (.ref D) (.ref C) else none) else none) = some b
  rw [if_pos e1, if_pos e2]
  exact s
theorem XcN.kit {x : Str} {D C : Addr} {b : Bool} (N : XcN K mg x C) (s : PySem.W.subIn K (.ref D) (.ref C) = some b) (ne : D ≠ C) : PySem.W.kitOne K (.ref D) (.ref C) = some b := by
  have e2 : ((PySem.W.clsIn K C).isSome && PySem.W.typeIn K (.ref C) == some (.type "type")) = true := by
    have h : (PySem.W.clsIn K C).isSome = true := N.ic
    rw [h, N.ty] <;> rfl
  have e0 : ¬ ((Value.ref D == Value.ref C) = true) := fun h => ne (Value.ref.inj (beq_iff_eq.mp h))
  show (if (Value.ref D == Value.ref C) = true then some true else (if ((PySem.W.clsIn K C).isSome && PySem.W.typeIn K (.ref C) == some (.type "type")) = true then PySem.W.subIn K (.ref D) (.ref C) else none)) = some b
  rw [if_neg e0, if_pos e2]
  exact s
theorem kit_self {D : Addr} : PySem.W.kitOne K (.ref D) (.ref D) = some true := by
  show (if (Value.ref D == Value.ref D) = true then some true else _) = some true
  rw [if_pos (beq_self_eq_true _)]
theorem kit_bltn {D : Addr} {T : String} {b : Bool} (m : PySem.W.kitMeta T = true) (s : PySem.W.subIn K (.ref D) (.type T) = some b) : PySem.W.kitOne K (.ref D) (.type T) = some b := by
  have e0 : ¬ ((Value.ref D == Value.type T) = true) := fun h => nomatch beq_iff_eq.mp h
  show (if (Value.ref D == Value.type T) = true then some true else (if PySem.W.kitMeta T = true then PySem.W.subIn K (.ref D) (.type T) else none)) = some b
  rw [if_neg e0, if_pos m]
  exact s
theorem exc_self {C : Addr} {bmB : List Value} {n : String} (q : PySem.W.excIn K C bmB n = true) : PySem.W.subIn K (.ref C) (.ref C) = some true := by
  unfold PySem.W.excIn at q
  split at q
  · rename_i dd cd sl ho
    split at q
    · rename_i C' bm k0 k1 k2 k3 n' k5 hm hs
      simp only [Bool.and_eq_true, beq_iff_eq] at q
      obtain ⟨⟨⟨⟨⟨rfl, _⟩, _⟩, _⟩, _⟩, _⟩ := q
      have hc : PySem.W.clsIn K C' = some cd := by
        unfold PySem.W.clsIn
        rw [ho] <;> rfl
      show PySem.W.mroIn K C' (.ref C') = some true
      unfold PySem.W.mroIn
      rw [hc]
      show (if cd.mro.isEmpty = true then none else some (cd.mro.contains (.ref C'))) = some true
      rw [hm, List.contains_cons, beq_self_eq_true]
      rfl
    · cases q
  · cases q
theorem XcR.ne {C D : Addr} (R : XcR K D) (h : PySem.W.subIn K (.ref D) (.ref C) = some false) : D ≠ C := fun e => by
  have z := exc_self R.xP
  rw [e] at z h
  rw [z] at h
  cases h
/-- no instance of any of these -/
theorem kit_none {D : Addr} (R : XcR K D) : ∀ {l : List (Str × Addr)}, (∀ p ∈ l, XcN K mg p.1 p.2 ∧ PySem.W.subIn K (.ref D) (.ref p.2) = some false) → PySem.W.kitAny K (.ref D) (l.map fun p => Value.ref p.2) = some false
  | [], _ => rfl
  | p :: l, h => kitAny_cons ((h p List.mem_cons_self).1.kit (h p List.mem_cons_self).2 (R.ne (h p List.mem_cons_self).2)) (fun _ => kit_none R fun q hq => h q (List.mem_cons_of_mem _ hq)) (fun z => nomatch z)
end
section
variable {X : Cx}
theorem pmk_own0 {C : Addr} {bmB : List Value} {B newId initId : String} {x : Str} {p pos : Pos} (F : ExcBaseFacts B newId initId bmB) (q : PySem.W.excIn X.K C bmB newId = true) (gC : X.mg x = some (.ref C)) (kC : PySem.W.keepIn X.K (.ref C) = true) (r : Raises X (.ref C)) (hg : Gl X x)
    (hdb : (x == ("__debug__" : Str)) = false := by decide) : PMk X (.Call (.Name x p) [] [] pos) (fun _ H Q => Q (.ref C) none H) := by
  intro pins s σ H Q I h
  refine wpAny_Call_Name_kw (ld_glob I hg gC ?_ hdb)
  refine PySem.W.callWith_K0 (first := []) I.kIn kC ?_
  show wpAny _ _ (call (.ref C) []) _ _ _
  obtain ⟨bm, N, nm, qn, bs, hdct, sn, sub, ab, col, dd, k0, k1, k2, k3, k5, mN, hC, hN, hni, T⟩ := exc_obj I.kIn q
  refine wpAny_call_exc_subT F T hC hN hni (fun h' e hm => ?_) (by show 0 ≤ sizeLine; decide)
  exact mk_of I hm r h (I.hok.gone hm.new)
/-- raise C() -/
theorem ps_raise0 {W : WX} {C : Addr} {x : Str} {p pos pos2 : Pos} (hc : X.calm = true) (tk : Takes X W) (N : XcN X.K X.mg x C) (R : XcR X.K C) (hg : Gl X x) (hdb : (x == ("__debug__" : Str)) = false := by decide) :
    PS X (.Raise (some (.Call (.Name x p) [] [] pos)) none pos2) (fun _ σ H => W (.ref C) none σ H) :=
  ps_raise hc tk (pmk_own0 PySem.F.excBase_ValueError R.xP N.g R.kP (raises_own N.ba N.ty) hg hdb)
variable {CX : CXT} {k : Nat} {f C : Addr} {fd : FuncData} {ps : List Str} {sp : Sp} {E : L2.St → XK} {x m : Str} {p pos apos : Pos} {e o : Expr} {es : List Expr} {ta : TE} {t : TA}
def tMethL (C : Addr) (m : Str) (sp : Sp) (E : L2.St → XK) (ta : TE) (t : TA) : TE := fun σ H Q => ta σ H fun x H1 => ∃ a dx fs, x = .ref a ∧ H1 a = some (.ins C dx fs) ∧ fs.lookup m = none ∧ t σ H1 fun vs H2 => sp (.ref a :: vs) H2 Q (E σ)
/-- o.m(), which may raise -/
theorem pe_methL0 {pl : Sem Bool} (he : PE X o ta) (c : Cls X.K C) (hm : Meth X.K C m f) (F : FnOk X.prog X.w X.K X.mg X.base CX k f fd ps sp) (hr : Room k X.A) (hb : Binds X.K fd ps []) (hx : ∀ σ, PassesAt CX X σ (E σ))
    (ht : eval (.Call (.Attribute o m apos) [] [] pos) X.env = (do
      let ov ← eval o X.env
      standAt apos.atName
      let (f, first) ← holding [ov] (getMethod ov m pl)
      callWith pos f first (backTo pos (starEach [] X.env)) (backToKw pos (keywordEach [] X.env))) := by rfl) :
    PE X (.Call (.Attribute o m apos) [] [] pos) (tMethL C m sp E ta tNil) := by
  refine ⟨fun pins s σ H Q I h => ?_⟩
  refine PySem.W.methodCall_KW (pl := pl) (thn (he.run pins s σ H _ I h) fun u s1 ⟨x, H1, I1, rx, a, dx, fs, ex, ea, l, q⟩ => ?_) ht
  subst ex
  obtain rfl : u = Value.ref a := rx
  refine getmeth_ok I1 ea c hm l ?_
  exact PySem.W.callWith_K0 (first := [.ref a]) I1.kIn hm.kp (run_fnS (us := [.ref a]) (vs := [.ref a]) F hr hb (hx σ) I1 (.cons rfl .nil) q)
/-- o.m(e, ..), which may raise -/
theorem pe_methL {pl : Sem Bool} (he : PE X o ta) (c : Cls X.K C) (hm : Meth X.K C m f) (F : FnOk X.prog X.w X.K X.mg X.base CX k f fd ps sp) (hr : Room k X.A) (hb : Binds X.K fd ps []) (hx : ∀ σ, PassesAt CX X σ (E σ)) (ha : PA X (e :: es) t)
    (hst : starEach (e :: es) X.env = (false, eval e X.env) :: starEach es X.env := by rfl) (hpl : (backTo pos (starEach es X.env)).any (·.1) = false := by rfl)
    (ht : eval (.Call (.Attribute o m apos) (e :: es) [] pos) X.env = (do
      let ov ← eval o X.env
      standAt apos.atName
      let (f, first) ← holding [ov] (getMethod ov m pl)
      callWith pos f first (backTo pos (starEach (e :: es) X.env)) (backToKw pos (keywordEach [] X.env))) := by rfl) :
    PE X (.Call (.Attribute o m apos) (e :: es) [] pos) (tMethL C m sp E ta t) := by
  refine ⟨fun pins s σ H Q I h => ?_⟩
  refine PySem.W.methodCall_KW (pl := pl) (thn (he.run pins s σ H _ I h) fun u s1 ⟨x, H1, I1, rx, a, dx, fs, ex, ea, l, q⟩ => ?_) ht
  subst ex
  obtain rfl : u = Value.ref a := rx
  refine getmeth_ok I1 ea c hm l ?_
  refine PySem.W.callWith_K (first := [.ref a]) (h₀ := X.base) I.ok.mod.kin hm.kp (thn (ha.run pos pins s1 σ H1 _ I1 q) fun us s2 ⟨vs, H2, I2, r, q2⟩ => ⟨I2.kIn, ?_⟩) hst hpl
  exact run_fnS (us := .ref a :: us) (vs := .ref a :: vs) F hr hb (hx σ) I2 (.cons rfl r) q2
/-- isinstance(e, c), e the exception (without a dict) that the suite holds -/
def rIsX (K : PySem.W.Frag) (a : Addr) (cls : Value) (d : Option Addr) : List V → Hp → VK → Prop := fun xs H Q => ∃ (D : Addr) (c : V) (cv : Value) (b : Bool), xs = [.ref a, c] ∧ cls = .ref D ∧ d = none ∧ ExcC K D ∧ ClsV c cv ∧ PySem.W.kitOne K (.ref D) cv = some b ∧ Q (.bl b) H
/-- isinstance(e, (c1, c2, ..)) -/
def rIsXT (K : PySem.W.Frag) (a : Addr) (cls : Value) (d : Option Addr) : List V → Hp → VK → Prop := fun xs H Q => ∃ (D tp : Addr) (cs : List V) (us : List Value) (b : Bool), xs = [.ref a, .ref tp] ∧ cls = .ref D ∧ d = none ∧ ExcC K D ∧ H tp = some (.tup cs) ∧ Paired ClsV cs us ∧ PySem.W.kitAny K (.ref D) us = some b ∧ Q (.bl b) H
theorem held_inst {a D : Addr} {oe : Obj} {pn pins : List (Addr × Obj)} {σ : L2.St} {H : Hp} {s : Shared} (I : Inv (X.suite a ((a, oe) :: pn)) pins σ H s) (hz : Zc (.ref D) none oe) (hf : ∃ vs, oe.data = .fields vs) : PySem.W.InstAt s.heap a oe D none := by
  obtain ⟨hget, _⟩ := I.pin (a, oe) (List.mem_append.mpr (.inl List.mem_cons_self))
  obtain ⟨vs, hv⟩ := hf
  obtain ⟨oc, od, oda, osl⟩ := oe
  obtain ⟨h1, h2⟩ := hz
  dsimp only at h1 h2 hv
  subst h1 h2 hv
  exact ⟨hget, rfl, rfl, trivial⟩
theorem call_isX {a : Addr} {cls : Value} {d : Option Addr} {oe : Obj} {pn : List (Addr × Obj)} (hz : Zc cls d oe) (hf : ∃ vs, oe.data = .fields vs) : CallR (X.suite a ((a, oe) :: pn)) (.builtin "isinstance") (rIsX X.K a cls d) := by
  intro pins s σ H xs us Q I r h
  obtain ⟨D, c, cv, b, rfl, rfl, rfl, C, hcv, e, q⟩ := h
  cases r with
  | cons rx rr =>
    cases rr with
    | cons rt rr =>
      cases rr
      cases rx
      have ec := hcv.eq rt
      subst ec
      exact PySem.W.kia_one (PySem.W.handS_kitx_exc C.hg C.hk C.hs C.hd C.ha C.hn C.ht C.hm) I.kIn (held_inst I hz hf) e (fun z => nomatch z) fun tk => ⟨.bl b, H, I.kept (t' := tk) fun _ _ z => z, rfl, q⟩
theorem call_isXT {a : Addr} {cls : Value} {d : Option Addr} {oe : Obj} {pn : List (Addr × Obj)} (hz : Zc cls d oe) (hf : ∃ vs, oe.data = .fields vs) : CallR (X.suite a ((a, oe) :: pn)) (.builtin "isinstance") (rIsXT X.K a cls d) := by
  intro pins s σ H xs us Q I r h
  obtain ⟨D, tp, cs, ws, b, rfl, rfl, rfl, C, hT, k, e, q⟩ := h
  cases r with
  | cons rx rr =>
    cases rr with
    | cons rt rr =>
      cases rr
      cases rx
      cases rt
      obtain ⟨_, its, rv, o, h1, h2, n, h3⟩ := (show ObjOk X.prog X.w H s.heap tp (.tup cs) from I.hok tp _ hT)
      have e3 := ClsV.all k rv
      subst e3
      obtain ⟨oc, od, dt, sl⟩ := o
      simp only at h2 h3
      subst h2 h3
      exact PySem.W.kia_tup (PySem.W.handS_kitx_exc C.hg C.hk C.hs C.hd C.ha C.hn C.ht C.hm) I.kIn (held_inst I hz hf) h1 e (fun z => nomatch z) fun tk => ⟨.bl b, H, I.tok tk, rfl, q⟩
end

/-! ### two promises of one def; a class of the program whose __init__ may raise -/
section
variable {P : Program} {w : World} {K : PySem.W.Frag} {mg : Str → Option Value} {base : Heap} {k : Nat} {f : Addr} {fd : FuncData} {ps : List Str} {sp0 sp1 : Sp}
/-- what a def does where all is well (no error leaves it), and what it raises elsewhere, shown apart -/
theorem fn_or (F0 : FnOk P w K mg base CX0 k f fd ps sp0) (F1 : FnOk P w K mg base (L2.CX P w) k f fd ps sp1) : FnOk P w K mg base (L2.CX P w) k f fd ps (fun vs H Q E => sp0 vs H Q E ∨ sp1 vs H Q E) where
  len := fun vs H Q E h => h.elim (F0.len vs H Q E) (F1.len vs H Q E)
  run := fun A outer s H args us vs Q E hr he hb hv h => by
    rcases h with h | h
    · refine codeAny_mono (F0.run A outer s H args us vs Q E hr he hb hv h) fun r s' q => ?_
      cases r with
      | error e => exact False.elim q
      | ok fl => cases fl <;> exact q
    · exact F1.run A outer s H args us vs Q E hr he hb hv h
end
section
variable {X : Cx} {CX : CXT} {k : Nat} {f C : Addr} {fd : FuncData} {ps : List Str} {sp : Sp} {E : L2.St → XK} {x : Str} {p pos : Pos} {e : Expr} {es : List Expr} {t : TA} {dvs : List V} {ds : List Value}
def tMakeL (C : Addr) (sp : Sp) (dvs : List V) (E : L2.St → XK) (t : TA) : TE := fun σ H Q => t σ H fun vs H1 => ∀ x dx, H1 x = none → H1 dx = none → dx ≠ x → sp (.ref x :: (vs ++ dvs)) (upd (upd H1 dx (.own x)) x (.ins C dx [])) (fun v H2 => v = .non ∧ Q (.ref x) H2) (E σ)
theorem run_makeL {pins : List (Addr × Obj)} {σ : L2.St} {H : Hp} {s : Shared} {Q : VK} {us : List Value} {vs : List V} (M : Mk X.K C f) (F : FnOk X.prog X.w X.K X.mg X.base CX k f fd ps sp) (hr : Room (k + 1) X.A) (hb : Binds X.K fd ps ds) (hd : Vals dvs ds) (hx : PassesAt CX X σ (E σ))
    (I : Inv X pins σ H s) (r : Vals vs us) (h : ∀ x dx, H x = none → H dx = none → dx ≠ x → sp (.ref x :: (vs ++ dvs)) (upd (upd H dx (.own x)) x (.ins C dx [])) (fun v H2 => v = .non ∧ Q (.ref x) H2) (E σ)) :
    wpAny (model X.prog X.w) X.A (call (.ref C) us) (EP X pins σ Q) X.xe s := by
  have hq := h (s.heap.objs.size + 1) s.heap.objs.size (I.hok.fresh (Nat.le_succ _)) (I.hok.fresh (Nat.le_refl _)) (Nat.ne_of_lt (Nat.lt_succ_self _))
  have I2 := Inv.made (C := C) I
  have r2 : Vals (V.ref (s.heap.objs.size + 1) :: (vs ++ dvs)) (Value.ref (s.heap.objs.size + 1) :: (us ++ ds)) := .cons rfl (r.append hd)
  have hl : (Value.ref (s.heap.objs.size + 1) :: us ++ ds).length = ps.length := by
    have e := r2.length
    rw [F.len _ _ _ _ hq] at e
    exact e.symm
  refine wpAny_call (make_map (f := f) I.kIn M.makes M.init (beq_iff_eq.mp M.fn) (codeAny_mono (F.run _ X.stack _ _ ⟨Value.ref (s.heap.objs.size + 1) :: us, []⟩ (Value.ref (s.heap.objs.size + 1) :: (us ++ ds)) _ _ (E σ) (hr.make C us [])
    (I2.env0.make C us []) (hb _ (Value.ref (s.heap.objs.size + 1) :: us) I2.kIn hl) r2 hq) fun r s' hq' => ?_))
  cases r with
  | error e => exact hx pins _ _ e s' I2 hq'
  | ok fl =>
    cases fl with
    | ret u =>
      obtain ⟨v, H', I3, rv, ev, q3⟩ := I2.after hq'
      subst ev
      exact ⟨rv, ⟨V.ref (s.heap.objs.size + 1), H', I3, rfl, q3⟩⟩
    | next => exact False.elim hq'
    | brk => exact False.elim hq'
    | cont => exact False.elim hq'
/-- C(e, ..), whose __init__ may raise -/
theorem pe_makeL (M : Mk X.K C f) (F : FnOk X.prog X.w X.K X.mg X.base CX k f fd ps sp) (hr : Room (k + 1) X.A) (hg : Gl X x) (hm : X.mg x = some (.ref C)) (hb : Binds X.K fd ps ds) (hd : Vals dvs ds) (hx : ∀ σ, PassesAt CX X σ (E σ))
    (ha : PA X (e :: es) t) (hdb : (x == ("__debug__" : Str)) = false := by decide) (he : starEach (e :: es) X.env = (false, eval e X.env) :: starEach es X.env := by rfl) (hpl : (backTo pos (starEach es X.env)).any (·.1) = false := by rfl) :
    PE X (.Call (.Name x p) (e :: es) [] pos) (tMakeL C sp dvs E t) := by
  refine ⟨fun pins s σ H Q I h => ?_⟩
  refine wpAny_Call_Name_kw (ld_glob I hg hm ?_ hdb)
  refine PySem.W.callWith_K (h₀ := X.base) I.ok.mod.kin M.kp (thn (ha.run pos pins s σ H _ I h) fun us s1 ⟨vs, H1, I1, r, q⟩ => ⟨I1.kIn, ?_⟩) he hpl
  exact run_makeL M F hr hb hd (hx σ) I1 r q
end

/-! ### a text times 0 or 1 -/
section
variable {X : Cx}
def rMulS : R2 := fun x y H Q => ∃ (z : Str) (k : Int), x = .str z ∧ y = .int k ∧ (k = 0 ∨ k = 1) ∧ Q (.str (if k = 1 then z else Str.empty)) H
theorem op_mulS : OpR X (binaryOp .Mult) rMulS := by
  intro pins s σ H x y v u Q I rx ry h
  obtain ⟨z, k, rfl, rfl, hk, q⟩ := h
  obtain ⟨t, rfl⟩ := rx
  obtain ⟨t2, rfl⟩ := ry
  rcases hk with rfl | rfl
  · refine PySem.P.mul_str_none (by decide) (by decide) ?_
    exact ⟨.str Str.empty, H, I.tok _, ⟨_, rfl⟩, q⟩
  · refine PySem.P.mul_str (by decide) (fun _ h => by simp at h) (fun _ h => by simp at h) ?_
    rw [if_neg (by decide), if_pos (by rfl)]
    exact ⟨.str z, H, I, ⟨_, rfl⟩, q⟩
end
theorem noPart_of {σ : L2.St} {H : Hp} {Q : Option Int → Hp → Prop} (h : Q none H) : tNoPart σ H Q := h
def signs10 : List Str := ["0", "1", "9", "-", " ", "+", ",", "x", "\n", "."]

/-! ### texts of numbers, of intervals -/
abbrev numS (i : Int) : Str := Str.ofString (toString i)
theorem tl_numS {i : Int} (h : 0 ≤ i) : TL.tl (numS i) = TL.numL i.toNat := by
  have e : i = ((i.toNat : Nat) : Int) := by omega
  rw [e]
  exact TL.tl_num i.toNat
theorem numS_inj {i j : Int} (hi : 0 ≤ i) (hj : 0 ≤ j) (h : TL.tl (numS i) = TL.tl (numS j)) : i = j := by
  rw [tl_numS hi, tl_numS hj] at h
  have := TL.numL_inj h
  omega
theorem numS_len {i : Int} (h0 : 0 ≤ i) (h : i ≤ 1000000000000) : (numS i).length ≤ 13 := by
  rw [TL.len_tl, tl_numS h0]
  exact TL.numL_len (by decide) (by omega)
theorem numS_pos {i : Int} (h0 : 0 ≤ i) : 0 < (numS i).length := by
  rw [TL.len_tl, tl_numS h0]
  exact List.length_pos_iff.mpr (TL.numL_ne _)
theorem log2_tr {i : Int} (h0 : 0 ≤ i) (h : i ≤ 10 ^ 30) : i.natAbs.log2 < 1920 := by
  refine PySem.Flt.log2_lt_of (by decide) (Nat.lt_of_le_of_lt (m := 10 ^ 30) (by omega) (by decide +kernel))
theorem numS_free {i : Int} {s : Nat} (h0 : 0 ≤ i) (h : s < 48 ∨ 57 < s) : s ∉ TL.tl (numS i) := by
  rw [tl_numS h0]
  exact TL.numL_free h
theorem numS_decimal {i : Int} (h0 : 0 ≤ i) : Txt.isdecimal (numS i) = true := by
  unfold Txt.isdecimal
  rw [Bool.and_eq_true]
  refine ⟨decide_eq_true (numS_pos h0), ?_⟩
  rw [← Array.all_toList, List.all_eq_true]
  intro c hc
  have hd := TL.numL_digits i.toNat c (by rw [← tl_numS h0]; exact hc)
  have key : ∀ c, c < 58 → 48 ≤ c → Unicode.isDecimal c = true := by decide +kernel
  exact key c (by omega) (by omega)
theorem numS_int {i : Int} (h0 : 0 ≤ i) (h : i ≤ 1000000000000) : intText? (numS i) = some i := by
  have e : i = ((i.toNat : Nat) : Int) := by omega
  have l := TL.numL_len (n := i.toNat) (k := 13) (by decide) (by omega)
  have z := TL.int_num (n := i.toNat) (by omega)
  rw [← e] at z
  exact z
/-- low-high -/
def ivT (q : Int × Int) : Str := numS q.1 ++ "-" ++ numS q.2
theorem tl_hy : TL.tl ("-" : Str) = [45] := by decide +kernel
theorem tl_sp : TL.tl (" " : Str) = [32] := by decide +kernel
theorem tl_ivT (q : Int × Int) : TL.tl (ivT q) = TL.tl (numS q.1) ++ ([45] ++ TL.tl (numS q.2)) := by
  unfold ivT
  rw [TL.tl_append, TL.tl_append, tl_hy, List.append_assoc]
theorem ivT_part {q : Int × Int} (h : 0 ≤ q.1) : Txt.partition (ivT q) "-" = (numS q.1, ("-" : Str), numS q.2) := TL.partition_app (y := "-") tl_hy (numS_free h (.inl (by decide)))
theorem ivT_free {q : Int × Int} (h : 0 ≤ q.1) (h2 : 0 ≤ q.2) : 32 ∉ TL.tl (ivT q) := by
  rw [tl_ivT]
  intro m
  rcases List.mem_append.mp m with m | m
  · exact numS_free h (.inl (by decide)) m
  rcases List.mem_append.mp m with m | m
  · rw [List.mem_singleton] at m
    omega
  · exact numS_free h2 (.inl (by decide)) m
theorem ivT_len {q : Int × Int} (h : (0 ≤ q.1 ∧ q.1 ≤ q.2) ∧ q.2 ≤ 1000000000000) : (ivT q).length ≤ 27 := by
  have a := numS_len h.1.1 (by omega : q.1 ≤ 1000000000000)
  have b := numS_len (i := q.2) (by omega) h.2
  have c : ("-" : Str).length = 1 := by decide +kernel
  show (numS q.1 ++ "-" ++ numS q.2).length ≤ 27
  rw [Str.length_append, Str.length_append]
  omega
theorem ivT_inj {q r : Int × Int} (h : 0 ≤ q.1) (h2 : 0 ≤ q.2) (k : 0 ≤ r.1) (k2 : 0 ≤ r.2) (e : ivT q = ivT r) : q = r := by
  have p1 := ivT_part h
  rw [e, ivT_part k] at p1
  have e1 := congrArg (fun z : Str × Str × Str => TL.tl z.1) p1
  have e2 := congrArg (fun z : Str × Str × Str => TL.tl z.2.2) p1
  exact Prod.ext (numS_inj h k e1.symm) (numS_inj h2 k2 e2.symm)
def Vld0 (ps : List (Int × Int)) : Prop := ∀ q ∈ ps, (0 ≤ q.1 ∧ q.1 ≤ q.2) ∧ q.2 ≤ 1000000000000
/-- the text of a row -/
def rowT (ps : List (Int × Int)) : Str := if ps = [] then "none" else Txt.join " " (ps.map ivT)
theorem sp_kind : (" " : Str).cps.all (· < 256) = true := by decide +kernel
theorem rowT_split {ps : List (Int × Int)} (h : Vld0 ps) (n : ps ≠ []) : Txt.split (rowT ps) " " = ps.map ivT := by
  unfold rowT
  rw [if_neg n]
  refine TL.split_join tl_sp sp_kind (fun e => n (List.map_eq_nil_iff.mp e)) fun p hp => ?_
  obtain ⟨q, hq, rfl⟩ := List.mem_map.mp hp
  have b := h q hq
  exact ivT_free b.1.1 (by omega)
theorem rowT_head {ps : List (Int × Int)} (h : Vld0 ps) (n : ps ≠ []) : rowT ps ≠ "none" := by
  intro e
  have z := rowT_split h n
  rw [e, show Txt.split ("none" : Str) " " = [("none" : Str)] by decide +kernel] at z
  match ps, n, z, h with
  | q :: r, _, z, h =>
    injection z with z1 z2
    have b := h q List.mem_cons_self
    have : (45 : Nat) ∈ TL.tl (ivT q) := by
      rw [tl_ivT]
      exact List.mem_append_right _ (List.mem_append_left _ (List.mem_singleton.mpr rfl))
    rw [← z1] at this
    exact absurd this (by decide +kernel)
theorem map_ivT_inj : ∀ {ps qs : List (Int × Int)}, Vld0 ps → Vld0 qs → ps.map ivT = qs.map ivT → ps = qs
  | [], [], _, _, _ => rfl
  | [], _ :: _, _, _, h => by simp at h
  | _ :: _, [], _, _, h => by simp at h
  | p :: ps, q :: qs, a, b, h => by
    rw [List.map_cons, List.map_cons] at h
    injection h with h1 h2
    have x := a p List.mem_cons_self
    have y := b q List.mem_cons_self
    rw [ivT_inj x.1.1 (by omega) y.1.1 (by omega) h1, map_ivT_inj (fun z hz => a z (List.mem_cons_of_mem _ hz)) (fun z hz => b z (List.mem_cons_of_mem _ hz)) h2]
theorem rowT_inj {ps qs : List (Int × Int)} (a : Vld0 ps) (b : Vld0 qs) (h : rowT ps = rowT qs) : ps = qs := by
  by_cases n : ps = []
  · by_cases m : qs = []
    · rw [n, m]
    · refine absurd ?_ (rowT_head b m)
      rw [← h, n]
      rfl
  · by_cases m : qs = []
    · refine absurd ?_ (rowT_head a n)
      rw [h, m]
      rfl
    · have z := rowT_split a n
      rw [h, rowT_split b m] at z
      exact map_ivT_inj a b z.symm
theorem sum27 : ∀ {ps : List (Int × Int)}, Vld0 ps → ((ps.map ivT).map (·.length)).sum ≤ 27 * ps.length
  | [], _ => Nat.le_refl _
  | q :: ps, h => by
    have a := ivT_len (h q List.mem_cons_self)
    have b := sum27 (ps := ps) fun z hz => h z (List.mem_cons_of_mem _ hz)
    rw [List.map_cons, List.map_cons, List.sum_cons, List.length_cons]
    omega
theorem joinL_len : ∀ (S : List Nat) (L : List (List Nat)), (TL.joinL S L).length ≤ (L.map List.length).sum + L.length * S.length
  | S, [] => Nat.zero_le _
  | S, [p] => by
    show p.length ≤ p.length + 0 + (0 + 1) * S.length
    omega
  | S, p :: q :: r => by
    have ih := joinL_len S (q :: r)
    show (p ++ (S ++ TL.joinL S (q :: r))).length ≤ (p.length + ((q :: r).map List.length).sum) + ((q :: r).length + 1) * S.length
    rw [List.length_append, List.length_append, Nat.add_mul, Nat.one_mul]
    omega
theorem rowT_len {ps : List (Int × Int)} (h : Vld0 ps) : (rowT ps).length ≤ 28 * ps.length + 4 := by
  unfold rowT
  split
  · rw [show ("none" : Str).length = 4 by decide +kernel]
    omega
  · rw [TL.join_eq, TL.len_tl, TL.tl_join, tl_sp]
    have a := joinL_len [32] ((ps.map ivT).map TL.tl)
    have b := sum27 h
    have c : ((ps.map ivT).map TL.tl).map List.length = (ps.map ivT).map (·.length) := by
      rw [List.map_map]
      exact List.map_congr_left fun z _ => (TL.len_tl z).symm
    rw [c, List.length_map, List.length_map] at a
    have d : ([32] : List Nat).length = 1 := rfl
    rw [d] at a
    omega
/-! ### enumerate(list), for, with the list as it stands -/
theorem for_enumL {K : PySem.W.Frag} {a : Addr} {xs : List V} {g : TG} {tb : TS} {D : Ends} {σ : L2.St} {H : Hp} (Pv : Nat → L2.St → Hp → Prop) (h0 : Pv 0 σ H) (hq : ∀ i σ H, Pv i σ H → SqL K H a xs)
    (hs : ∀ (i : Nat) (x : V) (t : Addr) (σ : L2.St) (H : Hp), xs[i]? = some x → Pv i σ H → H t = none → g (.ref t) σ (upd H t (.tup [.int (i : Nat), x])) fun σ2 H2 => tb { D with nx := Pv (i + 1), ct := Pv (i + 1), bk := D.nx } σ2 H2) (hd : ∀ σ H, Pv xs.length σ H → D.nx σ H) :
    ∃ W : Nat → Nat → L2.St → Hp → Prop, (∃ m, W 0 m σ H) ∧ ∀ i m σ H, W i m σ H →
      ((Ite K a).stop i H ∧ D.nx σ H) ∨ ((Ite K a).go i H ∧ ∃ N : L2.St → Hp → Prop, (∀ σ' H', N σ' H' → ∃ m', m' < m ∧ W (i + 1) m' σ' H') ∧ ∀ v H', (Ite K a).yld i H v H' → g v σ H' fun σ2 H2 => tb { D with nx := N, ct := N, bk := D.nx } σ2 H2) := by
  refine ⟨fun i m σ H => i + m = xs.length ∧ Pv i σ H, ⟨xs.length, by omega, h0⟩, ?_⟩
  rintro i m σ H ⟨im, p⟩
  have hx := hq i σ H p
  by_cases c : i < xs.length
  · refine .inr ⟨⟨xs, xs[i], hx, List.getElem?_eq_getElem c⟩, Pv (i + 1), fun σ' H' p' => ⟨m - 1, by omega, by omega, p'⟩, ?_⟩
    rintro v H' ⟨t, x, rfl, nt, rfl, at_⟩
    exact hs i x t σ H (at_ xs hx) p nt
  · refine .inl ⟨⟨xs, hx, by omega⟩, hd σ H ?_⟩
    have : i = xs.length := by omega
    rw [← this]
    exact p

/-! ### texts of any signs below 128: numbers, intervals -/
def low128 (x : Str) : Prop := ∀ c ∈ TL.tl x, c < 128
theorem eq_of_tl {x y : Str} : TL.tl x = TL.tl y ↔ x = y := ⟨TL.ext_tl, fun h => by rw [h]⟩
theorem numL_zero : TL.numL 0 = [48] := TL.numL_lt (by decide)
theorem numL_head (n : Nat) : (TL.numL n).head? = some 48 → n = 0 := by
  induction n using Nat.strongRecOn with
  | _ n ih =>
    intro h
    by_cases c : n < 10
    · rw [TL.numL_lt c] at h
      have : 48 + n = 48 := Option.some.inj h
      omega
    · rw [TL.numL_step (by omega)] at h
      have ne := TL.numL_ne (n / 10)
      have e : (TL.numL (n / 10) ++ [48 + n % 10]).head? = (TL.numL (n / 10)).head? := by
        cases q : TL.numL (n / 10) with
        | nil => exact absurd q ne
        | cons x r => rfl
      rw [e] at h
      have := ih (n / 10) (by omega) h
      omega
theorem digits_snoc (l : List Nat) (c : Nat) : NumText.digitsVal (l ++ [c]) = NumText.digitsVal l * 10 + (c - 48) := by
  unfold NumText.digitsVal
  rw [List.foldl_append]
  rfl
def Dig (l : List Nat) : Prop := ∀ c ∈ l, 48 ≤ c ∧ c ≤ 57
theorem canon_num : ∀ (n : Nat) (l : List Nat), l.length = n → l ≠ [] → Dig l → (l.head? ≠ some 48 ∨ l = [48]) → TL.numL (NumText.digitsVal l) = l := by
  intro n
  induction n with
  | zero => intro l hl ne; exact absurd (List.length_eq_zero_iff.mp hl) ne
  | succ n ih =>
    intro l hl ne dg hd
    obtain ⟨l', c, rfl⟩ : ∃ l' c, l = l' ++ [c] := ⟨l.dropLast, l.getLast ne, (List.dropLast_concat_getLast ne).symm⟩
    have hc := dg c (List.mem_append_right _ (List.mem_singleton.mpr rfl))
    rw [digits_snoc]
    by_cases e : l' = []
    · subst e
      rw [show NumText.digitsVal [] * 10 + (c - 48) = c - 48 by show 0 * 10 + (c - 48) = c - 48; omega, TL.numL_lt (by omega), show 48 + (c - 48) = c by omega]
      rfl
    · rw [List.length_append] at hl
      have h1 : (l' ++ [c]).head? = l'.head? := by
        cases l' with
        | nil => exact absurd rfl e
        | cons x r => rfl
      have hd' : l'.head? ≠ some 48 := by
        rcases hd with hd | hd
        · rw [h1] at hd
          exact hd
        · have q : l'.length + [c].length = 1 := by
            rw [← List.length_append, hd]
            rfl
          have p := List.length_pos_iff.mpr e
          have p1 : [c].length = 1 := rfl
          omega
      have ih' := ih l' (by have p1 : [c].length = 1 := rfl; omega) e (fun x hx => dg x (List.mem_append_left _ hx)) (.inl hd')
      have v1 : NumText.digitsVal l' ≠ 0 := fun z => by
        rw [z, numL_zero] at ih'
        rw [← ih'] at hd'
        exact hd' rfl
      rw [TL.numL_step (by omega), show (NumText.digitsVal l' * 10 + (c - 48)) / 10 = NumText.digitsVal l' by omega, show 48 + (NumText.digitsVal l' * 10 + (c - 48)) % 10 = c by omega, ih']
theorem canon_iff {l : List Nat} (ne : l ≠ []) (dg : Dig l) : TL.numL (NumText.digitsVal l) = l ↔ (l.head? ≠ some 48 ∨ l = [48]) := by
  constructor
  · intro h
    by_cases hd : l.head? = some 48
    · refine .inr ?_
      have z := numL_head (NumText.digitsVal l) (by rw [h]; exact hd)
      rw [z, numL_zero] at h
      exact h.symm
    · exact .inl hd
  · exact canon_num _ l rfl ne dg
/-- the number that a part is, as the program reads it -/
noncomputable def numg (l : List Nat) : Option Int := open Classical in if (l ≠ [] ∧ Dig l) ∧ l.length ≤ 13 ∧ (l.head? ≠ some 48 ∨ l = [48]) then some (NumText.digitsVal l : Nat) else none
/-- as the law reads it -/
noncomputable def numf (l : List Nat) : Option Int := open Classical in if ((l ≠ [] ∧ Dig l) ∧ l.length ≤ 13 ∧ (l.head? ≠ some 48 ∨ l = [48])) ∧ NumText.digitsVal l ≤ 1000000000000 then some (NumText.digitsVal l : Nat) else none
theorem numf_of {l : List Nat} : numf l = match numg l with | some n => (if n ≤ 1000000000000 then some n else none) | none => none := by
  unfold numf numg
  by_cases c : (l ≠ [] ∧ Dig l) ∧ l.length ≤ 13 ∧ (l.head? ≠ some 48 ∨ l = [48])
  · rw [if_pos c]
    by_cases b : NumText.digitsVal l ≤ 1000000000000
    · rw [if_pos ⟨c, b⟩]
      show _ = if ((NumText.digitsVal l : Nat) : Int) ≤ 1000000000000 then _ else _
      rw [if_pos (by omega)]
    · rw [if_neg (fun z => b z.2)]
      show _ = if ((NumText.digitsVal l : Nat) : Int) ≤ 1000000000000 then _ else _
      rw [if_neg (by omega)]
  · rw [if_neg c, if_neg (fun z => c z.1)]
theorem numg_nn {l : List Nat} {n : Int} (h : numg l = some n) : 0 ≤ n := by
  unfold numg at h
  split at h
  · cases h
    omega
  · cases h
theorem numg_45 {l : List Nat} (h : 45 ∈ l) : numg l = none := by
  unfold numg
  refine if_neg fun z => ?_
  have := z.1.2 45 h
  omega
theorem numg_nil : numg [] = none := by
  unfold numg
  exact if_neg fun z => z.1.1 rfl
/-- cut at a sign: by the first one -/
theorem spl_ind {s : Nat} {P : List Nat → List (List Nat) → Prop} (h0 : ∀ L, s ∉ L → P L [L]) (h1 : ∀ a b r, s ∉ a → P b r → P (a ++ ([s] ++ b)) (a :: r)) : ∀ (n : Nat) (L : List Nat), L.length ≤ n → P L (TL.spl [s] 0 [] L) := by
  intro n
  induction n with
  | zero =>
    intro L hL
    have e := List.length_eq_zero_iff.mp (Nat.le_zero.mp hL)
    subst e
    rw [TL.spl_last1 List.not_mem_nil]
    exact h0 [] List.not_mem_nil
  | succ n ih =>
    intro L hL
    by_cases c : s ∈ L
    · obtain ⟨a, b, rfl, na⟩ := List.eq_append_cons_of_mem c
      have e : TL.spl [s] 0 [] (a ++ ([s] ++ b)) = ([] ++ a) :: TL.spl [s] 0 [] b := TL.spl_part1 na
      rw [List.nil_append] at e
      show P (a ++ ([s] ++ b)) (TL.spl [s] 0 [] (a ++ ([s] ++ b)))
      rw [e]
      rw [List.length_append, List.length_cons] at hL
      exact h1 a b _ na (ih b (by omega))
    · rw [TL.spl_last1 c, List.nil_append]
      exact h0 L c
theorem spl_mem {s : Nat} (L : List Nat) : ∀ p ∈ TL.spl [s] 0 [] L, ∀ c ∈ p, c ∈ L := by
  refine spl_ind (P := fun L r => ∀ p ∈ r, ∀ c ∈ p, c ∈ L) (fun L _ p hp c hc => ?_) (fun a b r _ ih p hp c hc => ?_) L.length L (Nat.le_refl _)
  · rw [List.mem_singleton.mp hp] at hc
    exact hc
  · rcases List.mem_cons.mp hp with rfl | hp
    · exact List.mem_append_left _ hc
    · exact List.mem_append_right _ (List.mem_append_right _ (ih p hp c hc))
theorem spl_len {s : Nat} (L : List Nat) : (TL.spl [s] 0 [] L).length ≤ L.length + 1 ∧ 0 < (TL.spl [s] 0 [] L).length := by
  refine spl_ind (P := fun L r => r.length ≤ L.length + 1 ∧ 0 < r.length) (fun L _ => ⟨by simp, by simp⟩) (fun a b r _ ih => ⟨?_, by simp⟩) L.length L (Nat.le_refl _)
  rw [List.length_append, List.length_append, List.length_cons]
  have : [s].length = 1 := rfl
  omega
/-- the interval that a word is -/
noncomputable def ivf (L : List Nat) : Option (Int × Int) := match TL.spl [45] 0 [] L with
  | [a, b] => match numf a, numf b with
    | some x, some y => if x ≤ y then some (x, y) else none
    | _, _ => none
  | _ => none
theorem hy_kind : ("-" : Str).cps.all (· < 256) = true := by decide +kernel
theorem split_hy (w : Str) : (Txt.split w "-").map TL.tl = TL.spl [45] 0 [] (TL.tl w) := by
  have z := TL.split_spl w "-" (by rw [tl_hy]; simp) (TL.kind_ok hy_kind)
  rw [tl_hy] at z
  exact z
theorem split_sp (w : Str) : (Txt.split w " ").map TL.tl = TL.spl [32] 0 [] (TL.tl w) := by
  have z := TL.split_spl w " " (by rw [tl_sp]; simp) (TL.kind_ok sp_kind)
  rw [tl_sp] at z
  exact z
/-- what the program reads: the two parts around the first hyphen -/
noncomputable def ivg (L : List Nat) : Option (Int × Int) := match TL.par [45] [] L with
  | some (a, b) => match numg a, numg b with
    | some x, some y => if (x ≤ 1000000000000 ∧ y ≤ 1000000000000) ∧ x ≤ y then some (x, y) else none
    | _, _ => none
  | none => none
theorem ivg_eq (L : List Nat) : ivg L = ivf L := by
  unfold ivg ivf
  by_cases c : 45 ∈ L
  · obtain ⟨a, b, rfl, na⟩ := List.eq_append_cons_of_mem c
    have e1 : TL.par [45] [] (a ++ 45 :: b) = some ([] ++ a, b) := TL.par_part1 (S := []) na
    have e2 : TL.spl [45] 0 [] (a ++ 45 :: b) = ([] ++ a) :: TL.spl [45] 0 [] b := TL.spl_part1 (S := []) na
    rw [e1, e2, List.nil_append]
    by_cases d : 45 ∈ b
    · obtain ⟨a2, b2, rfl, na2⟩ := List.eq_append_cons_of_mem d
      have e3 : TL.spl [45] 0 [] (a2 ++ 45 :: b2) = ([] ++ a2) :: TL.spl [45] 0 [] b2 := TL.spl_part1 (S := []) na2
      have l2 := (spl_len (s := 45) b2).2
      rw [e3]
      dsimp only
      rw [numg_45 d]
      cases h2 : TL.spl [45] 0 [] b2 with
      | nil =>
        rw [h2] at l2
        cases l2
      | cons x r =>
        cases numg a <;> rfl
    · rw [TL.spl_last1 d, List.nil_append]
      dsimp only
      rw [numf_of (l := a), numf_of (l := b)]
      cases ha : numg a with
      | none => rfl
      | some x =>
        cases hb : numg b with
        | none =>
          dsimp only
          by_cases cx : x ≤ 1000000000000
          · rw [if_pos cx]
          · rw [if_neg cx]
        | some y =>
          dsimp only
          by_cases cx : x ≤ 1000000000000
          · by_cases cy : y ≤ 1000000000000
            · rw [if_pos cx, if_pos cy]
              dsimp only
              by_cases cxy : x ≤ y
              · rw [if_pos ⟨⟨cx, cy⟩, cxy⟩, if_pos cxy]
              · rw [if_neg (fun z => cxy z.2), if_neg cxy]
            · rw [if_pos cx, if_neg cy, if_neg (fun z => cy z.1.2)]
          · rw [if_neg cx, if_neg (fun z => cx z.1.1)]
  · rw [TL.par_none1 c, TL.spl_last1 c]

/-! ### text.replace(y, z, 1) of written texts -/
namespace R1
open PySem Builtin Builtin.Str
theorem args4 (a b c d : Value) : argsOk "str.replace" ⟨[a, b, c, d], []⟩ := by
  unfold argsOk; rw [signature?_of (id := "str.replace") (n := ['e', 'c', 'a', 'l', 'p', 'e', 'r']) (o := ['r', 't', 's']) (by kernel_rfl) F.owner_str]; kernel_rfl
/-- what replace gives, at most one place -/
def once (x y z : Str) : Str := if ((occurrences x y 0 x.length 1).isEmpty || (y.length == 0 && z.length == 0)) = true then x else glued z (partsBetween x (occurrences x y 0 x.length 1) y.length)
theorem gives1 (x y z : Str) (t u v w : Tok) (h0 : (u == 0 || v == 0) = false) (huv : (u == v) = false) (hyz : (y == z) = false) (hl : tooLong (x.length + (occurrences x y 0 x.length 1).length * z.length) = false) :
    Gives («str.replace» ⟨[.str x t, .str y u, .str z v, .int 1 w], []⟩) (if ((occurrences x y 0 x.length 1).isEmpty || (y.length == 0 && z.length == 0)) = true then .val (.str x t) else .str (glued z (partsBetween x (occurrences x y 0 x.length 1) y.length))) := by
  show Gives (if ((occurrences x y 0 x.length 1).isEmpty || (y.length == 0 && z.length == 0)) = true then (do rule "str.replace.nothing"; ret (.str x t)) else
          (do let same ← isSame (.str y u) (.str z v)
              if same = true then (do rule "str.replace.old-is-new"; ret (.str x t)) else
              if tooLong (x.length + (occurrences x y 0 x.length 1).length * z.length) = true then unsupported "str.replace:memory" else
              retStr (glued z (partsBetween x (occurrences x y 0 x.length 1) y.length)))) _
  cases hc : ((occurrences x y 0 x.length 1).isEmpty || (y.length == 0 && z.length == 0))
  · rw [isSame_str_other y z u v h0 huv hyz, hl]
    exact .of_eq rfl
  · exact .rule (.of_eq rfl)
theorem once_len (x y z : Str) : (once x y z).length ≤ x.length + z.length := by
  unfold once
  split
  · omega
  · have h1 := StrLaws.occ_length_le x y 0 x.length 1
    have hy : (Builtin.Str.glued y (Builtin.Str.partsBetween x (Builtin.Str.occurrences x y 0 x.length 1) y.length)).length = x.length := by rw [StrLaws.glued_between_self]
    rw [size_glued, length_partsBetween, Nat.add_sub_cancel] at hy
    rw [size_glued, length_partsBetween, Nat.add_sub_cancel]
    have h2 : (Builtin.Str.occurrences x y 0 x.length 1).length * z.length ≤ 1 * z.length := Nat.mul_le_mul_right _ (by omega)
    omega
theorem call1 {prog : Program} {w : World} {A : Around} {E : Value → Shared → Prop} {s : Shared} {x y z : Str} {t u v k : Tok} {Q : Value → Shared → Prop} (hu : u ≠ 0) (hv : v ≠ 0) (huv : u ≠ v) (hyz : (y == z) = false) (hb : x.length + z.length ≤ 16777216)
    (hq : ∀ t' k, Q (.str (once x y z) t') { s with toks := k }) :
    wpAny (model prog w) A (call (.builtin "str.replace") [.str x t, .str y u, .str z v, .int 1 k]) Q E s := by
  have h1 := StrLaws.occ_length_le x y 0 x.length 1
  have h2 : (occurrences x y 0 x.length 1).length * z.length ≤ 1 * z.length := Nat.mul_le_mul_right _ (by omega)
  have hl : tooLong (x.length + (occurrences x y 0 x.length 1).length * z.length) = false := by
    unfold tooLong sizeLine
    exact decide_eq_false (by omega)
  refine call_gives F.slot_str_replace (typeIs_str _ _ _) F.entry_str_replace (args4 _ _ _ _) (gives1 x y z t u v k (by simp [hu, hv]) (by simp [huv]) hyz hl) ?_
  have hq' := hq
  have hn := once_len x y z
  unfold once at hq' hn
  cases hc : ((occurrences x y 0 x.length 1).isEmpty || (y.length == 0 && z.length == 0))
  · rw [hc] at hq' hn
    simp only [Bool.false_eq_true, if_false] at hq' hn ⊢
    exact ⟨Nat.le_trans hn (by rw [sizeLine_eq]; exact hb), hq' _ _⟩
  · rw [hc] at hq'
    simp only [if_true] at hq' ⊢
    exact hq' _ s.toks
end R1
open CwR
/-! ### one token is given out on the way -/
def PE1 (X : Cx) (e : Expr) (te : TE) : Prop := ∀ (pins : List (Addr × Obj)) (s : Shared) (σ : L2.St) (H : Hp) (Q : VK), Inv X pins σ H s → te σ H Q →
  wpAny (model X.prog X.w) X.A (eval e X.env) (fun v s1 => 1 ≤ s1.toks ∧ EP X pins σ Q v s1) X.xe s
def PA1 (X : Cx) (es : List Expr) (ta : TA) : Prop := ∀ (pos : Pos) (pins : List (Addr × Obj)) (s : Shared) (σ : L2.St) (H : Hp) (Q : List V → Hp → Prop), Inv X pins σ H s → ta σ H Q →
  wpAny (model X.prog X.w) X.A (spliced (backTo pos (starEach es X.env))) (fun us s1 => 1 ≤ s1.toks ∧ AP X pins σ Q us s1) X.xe s
def PS1 (X : Cx) (st : Stmt) (t : TS) : Prop := ∀ (pins : List (Addr × Obj)) (s : Shared) (σ : L2.St) (H : Hp) (D : Ends), Inv X pins σ H s → t D σ H →
  wpAny (model X.prog X.w) X.A (exec st X.env) (fun f s1 => 1 ≤ s1.toks ∧ SP X pins D f s1) X.xe s
section
variable {X : Cx} {st : Stmt} {rest : List Stmt} {t u : TS} {a b e : Expr} {te tb : TE}
theorem pe1_str {c : Str} {j : Nat} {pos : Pos} : PE1 X (.Constant (.str c) j pos) (tC (.str c)) := fun _ s _ H _ I h =>
  Calls.Constant_str ⟨by show 1 ≤ s.toks + 1; omega, .str c, H, I.tok _, ⟨s.toks, rfl⟩, h⟩
theorem pe1_op {op : Operator} {r : R2} {pos : Pos} (ho : OpR X (binaryOp op) r) (ha : PE X a te) (hb : PE1 X b tb) : PE1 X (.BinOp a op b pos) (tOp r te tb) := by
  intro pins s σ H Q I h
  refine wpAny_BinOp (thn (ha.run pins s σ H _ I h) fun v s1 ⟨x, H1, I1, r1, q1⟩ => ?_)
  refine thn (hb pins s1 σ H1 _ I1 q1) fun u s2 ⟨k, y, H2, I2, r2, q2⟩ => ?_
  exact wpAny_mono (wpAny_toks_of k (ho pins s2 σ H2 x y v u Q I2 r1 r2 q2)) (fun _ _ z => z) fun _ _ z => z.2
theorem pa1_cons {es : List Expr} {ta : TA} (ha : PE1 X e te) (hr : PA X es ta) (hs : starEach (e :: es) X.env = (false, eval e X.env) :: starEach es X.env := by rfl) : PA1 X (e :: es) (tCons te ta) := by
  intro pos pins s σ H Q I h
  rw [hs]
  show wpAny _ _ (spliced ((false, eval e X.env) :: backTo pos (starEach es X.env))) _ _ s
  refine Calls.spliced_cons (thn (ha pins s σ H _ I h) fun v s1 ⟨k, x, H1, I1, r1, q1⟩ => ?_)
  exact wpAny_mono (wpAny_toks_of k (hr.run pos pins s1 σ H1 _ I1 q1)) (fun us s2 ⟨k2, xs, H2, I2, r2, q2⟩ => ⟨k2, x :: xs, H2, I2, .cons r1 r2, q2⟩) fun _ _ z => z.2
theorem pe1_lst {es : List Expr} {ta : TA} {pos : Pos} (h : PA1 X es ta) : PE1 X (.List es pos) (tLst ta) := by
  intro pins s σ H Q I hq
  refine wpAny_List_spliced (thn (h pos pins s σ H _ I hq) fun us s1 ⟨k, xs, H1, I1, r, z, q⟩ => ⟨by rw [← r.length]; exact z, k, ?_⟩)
  have hf : H1 s1.heap.objs.size = none := I1.hok.fresh (Nat.le_refl _)
  refine ⟨.ref s1.heap.objs.size, upd H1 s1.heap.objs.size (.lst xs), I1.laid (t' := s1.toks) (fun b u e => Heap.get?_push_of_some _ e) (Nat.le_refl _) ?_, rfl, q _ hf⟩
  exact ⟨z, us, 0, r, Heap.get?_push_size _ rfl⟩
theorem ps1_asg {tg e : Expr} {te : TE} {g : TG} {pos : Pos} (he : PE1 X e te) (hg : PG X tg g) (hs : swapsWithSole [tg] e pos.line X.env = pure false := by rfl) (hw : swappedStores [tg] e X.env = pure none := by rfl)
    (h1 : (assignEach [tg] X.env).map (·.2) = [assign tg X.env] := by rfl) : PS1 X (.Assign [tg] e pos) (tAsg te g) := by
  intro pins s σ H D I h
  refine wpAny_Assign_stores (thn (he pins s σ H _ I h) fun v s1 ⟨k, x, H1, I1, r1, q1⟩ => ?_) hs hw
  rw [h1]
  exact wpAny_mono (wpAny_toks_of k (hg.run pins s1 σ H1 x v _ I1 r1 q1)) (fun _ s2 q => q) fun _ _ z => z.2
theorem pss_first (h1 : PS1 X st t) (h2 : PSsT X rest u) : PSs X (st :: rest) (tSeq t u) := by
  refine ⟨fun pins s σ H D I h => ?_⟩
  refine wpAny_execs_cons (thn (h1 pins s σ H { D with nx := u D } I h) fun f s1 ⟨k, q⟩ => ?_)
  cases f with
  | next =>
    obtain ⟨σ', H', I', q⟩ := q
    exact h2 pins s1 σ' H' D k I' q
  | ret v => exact q
  | brk => exact q
  | cont => exact q
theorem pst_expr {e : Expr} {te : TE} {pos : Pos} (he : PET X e te) (hs : swapsWith e none pos.line X.env = pure false := by rfl) : PST X (.Expr e pos) (tDrop te) := by
  intro pins s σ H D k I h
  exact wpAny_Expr_any (thn (he pins s σ H _ k I h) fun v s1 ⟨x, H1, I1, r1, q1⟩ => ⟨σ, H1, I1, q1⟩) I.quiet hs
theorem pet_bm {T : String} {name : Str} {id : String} {r : V → List V → Hp → VK → Prop} {o : Expr} {to : TE} {es : List Expr} {t : TA} {apos cpos : Pos} (pa : PlainAttrs T) (slot : Slot T name id) (hty : typeOf (.builtin id) = pure (.type "method_descriptor")) (hm : MtR X id r) (ho : PE X o to) (ha : PAT X (e :: es) t)
    (hbase : attributeBase o name X.env (eval o X.env) = eval o X.env := by rfl)
    (hfew : ((backTo cpos (starEach (e :: es) X.env)).all (fun x => !x.1) && (backToKw cpos (keywordEach [] X.env)).all (fun x => x.1.isSome)
      && decide ((e :: es).length + ([] : List Keyword).length + (if ([] : List Keyword).isEmpty then 0 else 1) < 30)) = true := by rfl)
    (hline : (apos.endLine == cpos.line) = true := by rfl) (hs : starEach (e :: es) X.env = (false, eval e X.env) :: starEach es X.env := by rfl) (hplain : (backTo cpos (starEach es X.env)).any (·.1) = false := by rfl) :
    PET X (.Call (.Attribute o name apos) (e :: es) [] cpos) (tBM X.K T r to t) := by
  intro pins s σ H Q k I h
  refine wpAny_Call_method_late hbase hfew hline rfl (wpAny_mono (wpAny_toks_of k (ho.run pins s σ H _ I h)) (fun v s1 ⟨k1, x, H1, I1, r1, ty, q1⟩ => ?_) fun _ _ z => z.2)
  obtain ⟨h1, h2⟩ := tyV_is I1 r1 ty
  refine ⟨T, id, pa, slot, hty, h1, h2, ?_⟩
  have hA := ha cpos pins s1 σ H1 _ k1 I1 q1
  rw [hs] at hA ⊢
  refine Calls.callWith_builtin (by show (false || (backTo cpos (starEach es X.env)).any (·.1)) = false; rw [hplain] <;> rfl) (Calls.evalArgs_plain ?_)
  exact thn hA fun us s2 ⟨vs, H2, I2, r2, q2⟩ => hm pins s2 σ H2 x vs v us Q I2 r1 r2 q2
def tOnce (to : TE) (y z : Str) : TE := fun σ H Q => to σ H fun v H1 => ∃ x, v = .str x ∧ x.length + z.length ≤ 16777216 ∧ Q (.str (R1.once x y z)) H1
theorem pet_once {o : Expr} {to : TE} {y z : Str} {j k l : Nat} {c0 c1 c2 apos pos : Pos} (ho : PE X o to) (hyz : (y == z) = false := by decide)
    (hst : starEach [.Constant (.str y) j c0, .Constant (.str z) k c1, .Constant (.int 1) l c2] X.env = [(false, eval (.Constant (.str y) j c0) X.env), (false, eval (.Constant (.str z) k c1) X.env), (false, eval (.Constant (.int 1) l c2) X.env)] := by rfl)
    (hbase : attributeBase o "replace" X.env (eval o X.env) = eval o X.env := by rfl) (hline : (apos.endLine == pos.line) = true := by rfl) :
    PET X (.Call (.Attribute o "replace" apos) [.Constant (.str y) j c0, .Constant (.str z) k c1, .Constant (.int 1) l c2] [] pos) (tOnce to y z) := by
  intro pins s σ H Q h0 I h
  refine wpAny_Call_method_lateS hbase (by rw [hst]; rfl) hline ?_
  rw [hst]
  refine (wpAny_mono (PySem.wpAny_toks (ho.run pins s σ H _ I h)) (fun v s1 q => ?_) fun _ _ z => z.2)
  obtain ⟨hk, v', H1, I1, r1, x, e1, hb, q⟩ := q
  subst e1
  obtain ⟨tx, e2⟩ := r1
  subst e2
  refine ⟨"str", _, PySem.F.plainAttrs_str, PySem.F.slot_str_replace, PySem.F.type_str_replace, typeIs_str _ _ _, (fun _ e => nomatch e), Calls.callWith_builtin rfl (Calls.evalArgs_plain (Calls.spliced_cons ?_))⟩
  refine Calls.Constant_str (pos := c0) (k := j) (Calls.spliced_cons (Calls.Constant_str (pos := c1) (k := k) (Calls.spliced_cons (wpAny_Constant_int (pos := c2) (k := l) (Calls.spliced_nil ?_)))))
  exact R1.call1 (by show s1.toks ≠ 0; omega) (by show s1.toks + 1 ≠ 0; omega) (by show s1.toks ≠ s1.toks + 1; omega) hyz hb fun t' k => ⟨.str (R1.once x y z), H1, I1.tok k, ⟨t', rfl⟩, q⟩
end
section
variable {X : Cx} {te : TE}
theorem ps1_set {i : Nat} {x : Str} {e : Expr} {pos pos' : Pos} (hN : X.N.Nodup) (hi : X.N[i]? = some x) (hx : Loc X.env.scope x) (he : PE1 X e te) (hs : swapsWith e (some (.Name x pos')) pos.line X.env = pure false := by rfl) (hf : X.fn x = true ∨ X.env.scope.names.lookup x = some .local := by first | exact .inl rfl | exact .inr rfl | assumption) :
    PS1 X (.Assign [.Name x pos'] e pos) (tAsg te (gName i)) := by
  intro pins s σ H D I h
  refine wpAny_Assign_Name (thn (he pins s σ H _ I h) fun v s1 ⟨k, y, H1, I1, r1, q1⟩ => ?_) hs
  exact wpAny_mono (wpAny_toks_of k (store_ok (Q := fun _ s2 => SP X pins D .next s2) I1 hN hi hx r1 (fun s2 I2 => ⟨_, H1, I2, q1⟩) hf)) (fun _ _ z => z) fun _ _ z => z.2
end

/-! ### a lambda of one parameter p with one captured name c, made in a def and called by a built-in -/
structure Lam1 (sc scope : Scope) (cap par : Str) : Prop where
  kind : scope.kind = .function
  co : scope.isCoroutine = false
  gen : scope.isGenerator = false
  parL : scope.names.lookup par = some .local
  cells : ∀ y ∈ scope.names, y.2 ≠ .cell
  locs : ∀ y, scope.names.lookup y = some .local → y = par
  free : ∀ y ∈ scope.names, y.2 = .free → sc.names.lookup y.1 = some .cell ∨ sc.names.lookup y.1 = some .free
  ne : cap ≠ par
def lam1B (sc scope : Scope) (cap par : Str) : Bool :=
  decide (scope.kind = .function) && !scope.isCoroutine && !scope.isGenerator && decide (scope.names.lookup par = some .local) && (scope.names.all fun y => !decide (y.2 = .cell)) && (scope.names.all fun y => !decide (y.2 = .local) || decide (y.1 = par))
    && (scope.names.all fun y => !decide (y.2 = .free) || decide (sc.names.lookup y.1 = some .cell) || decide (sc.names.lookup y.1 = some .free)) && !decide (cap = par)
theorem lam1_by {sc scope : Scope} {cap par : Str} (h : lam1B sc scope cap par = true) : Lam1 sc scope cap par := by
  unfold lam1B at h
  simp only [Bool.and_eq_true, Bool.or_eq_true, Bool.not_eq_true', decide_eq_true_eq, decide_eq_false_iff_not, List.all_eq_true] at h
  obtain ⟨⟨⟨⟨⟨⟨⟨h1, h2⟩, h3⟩, h4⟩, h5⟩, h6⟩, h7⟩, h8⟩ := h
  refine ⟨h1, h2, h3, h4, h5, fun y e => ?_, fun y hy e => ?_, h8⟩
  · rcases h6 _ (PySem.mem_of_lookup e) with z | z
    · exact absurd rfl z
    · exact z
  · rcases h7 y hy with (z | z) | z
    · exact absurd e z
    · exact .inl z
    · exact .inr z
theorem Lam1.has {X : Cx} {scope : Scope} {cap par : Str} (L : Lam1 X.env.scope scope cap par) (ok : X.Ok) : ∀ y ∈ scope.names, y.2 = .free → ∃ c, X.env.cells.lookup y.1 = some c := fun y hy e => by
  rcases L.free y hy e with k | k
  · exact ok.has _ (.inl k)
  · exact ok.has _ (.inr k)
/-- the context of the lambda's body -/
def lamCx1 (X : Cx) (A : Around) (s : Shared) (H : Hp) (scope : Scope) (cap par : Str) (f c' : Addr) : Cx where
  prog := X.prog
  w := X.w
  K := X.K
  mg := X.mg
  base := X.base
  A := A.deeper (LamX.lamEnv X scope s.heap.objs.size f c')
  N := [cap, par]
  s_0 := s
  H_0 := H
  env := LamX.lamEnv X scope s.heap.objs.size f c'
  outer := X.stack
  stack := LamX.lamEnv X scope s.heap.objs.size f c' :: X.stack
  ex := []
  fn := fun _ => false
  calm := true
  pn := []
  xe := fun _ _ => False
section
variable {X : Cx} {pins : List (Addr × Obj)} {σ : L2.St} {HZ : Hp} {s1 : Shared}
theorem lam_start1 {A : Around} {scope : Scope} {cap par : Str} {f c' : Addr} {h₁ : Heap} {tk i : Nat} {cv pv : V} {u : Value} (I : Inv X pins σ HZ s1) (L : Lam1 X.env.scope scope cap par) (hi : X.N[i]? = some cap) (hσ : σ[i]? = some (some cv))
    (hA : A.frames = some X.stack) (hd : A.handled = none) (hns : h₁.Ns s1.heap.objs.size fun y => ([(par, u)] : List (Str × Value)).reverse.lookup y) (rv : RelV pv u) (keep1 : ∀ b o, s1.heap.get? b = some o → h₁.get? b = some o) :
    Inv (lamCx1 X A s1 HZ scope cap par f c') [] [some cv, some pv] HZ { s1 with heap := h₁, toks := tk } := by
  have e0 := I.env0
  have caps := L.has I.ok
  have ofClo : ∀ {y c}, (cloFrom X.env.cells scope.names []).lookup y = some c → X.env.cells.lookup y = some c := fun {y c} e => by
    rcases cloFrom_mem (PySem.mem_of_lookup e) with zz | ⟨q1, q2⟩
    · cases zz
    · obtain ⟨cc, hc⟩ := caps _ q1 rfl
      have hc : X.env.cells.lookup y = some cc := hc
      have e2 : c = cc := by
        rw [q2, hc] <;> rfl
      rw [e2]
      exact hc
  have hasC : ∀ {y}, scope.names.lookup y = some .free → ∃ c, (cloFrom X.env.cells scope.names []).lookup y = some c := fun {y} hl => by
    have hy : (y, NameKind.free) ∈ scope.names := PySem.mem_of_lookup hl
    exact mem_lookup (cloFrom_has (cells := X.env.cells) (acc := []) hy)
  have cellK : ∀ {c : Addr} {v : Option Value}, s1.heap.IsCell c v → h₁.IsCell c v := fun {c v} ⟨o, ho, hd⟩ => ⟨o, keep1 _ _ ho, hd⟩
  have noEx : ∀ b : Addr, b ∉ (lamCx1 X A s1 HZ scope cap par f c').ex := fun b z => absurd (show b ∈ ([] : List Addr) from z) (by simp)
  refine ⟨⟨e0.mod, L.kind, rfl, rfl, Nat.le_refl _, fun y z c e1 e2 => I.ok.inj y z c (ofClo e1) (ofClo e2), fun y hy => ?_, fun y c z _ => ?_, fun _ => hd, Around.frames_deeper hA, .inr ⟨rfl, rfl⟩, fun b z => absurd z (noEx b), e0.bs, e0.bsz, fun b _ _ => noEx b,
      fun b z => absurd z (noEx b), e0.funs, e0.frf⟩,
    rfl, e0.bare, Un.kept keep1, ⟨_, hns, fun j y v e1 e2 e3 => ?_⟩, fun y c e => ?_, e0.hok.fresh (Nat.le_refl _), fun y c e => ?_, fun q hq => absurd (show q ∈ ([] : List (Addr × Obj)) ++ [] from hq) (by simp), e0.hok.kept keep1, rfl⟩
  · have hy : scope.names.lookup y = some .cell ∨ scope.names.lookup y = some .free := hy
    rcases hy with hy | hy
    · exact absurd rfl (L.cells _ (PySem.mem_of_lookup hy))
    · exact hasC hy
  · have z : false = true := z
    cases z
  · have e3 : Vis scope y := e3
    match j, e1, e2 with
    | 0, e1, e2 =>
      cases e1
      cases e2
      rcases e3 with k | k | k
      · exact absurd (L.locs _ k) L.ne
      · exact absurd rfl (L.cells _ (PySem.mem_of_lookup k))
      · obtain ⟨m, hn, hl⟩ := I.loc
        have hvis : Vis X.env.scope cap := (L.free _ (PySem.mem_of_lookup k) rfl).elim (fun k => .inr (.inl k)) (fun k => .inr (.inr k))
        obtain ⟨w', r, q⟩ := hl i cap cv hi hσ hvis
        obtain ⟨c2, h2⟩ := hasC k
        refine ⟨w', r, .inr ⟨.inr k, c2, h2, ?_⟩⟩
        have c1 := ofClo h2
        rcases q with ⟨k', _⟩ | ⟨_, c3, e', z⟩
        · have k' : X.env.scope.names.lookup cap = some .local := k'
          rcases L.free _ (PySem.mem_of_lookup k) rfl with k2 | k2 <;> rw [show X.env.scope.names.lookup cap = _ from k2] at k' <;> cases k'
        · rw [c1] at e'
          cases e'
          exact cellK z
    | 1, e1, e2 =>
      cases e1
      cases e2
      refine ⟨u, rv, .inl ⟨L.parL, ?_⟩⟩
      simp [List.lookup]
    | n + 2, e1, e2 => cases e1
  · obtain ⟨w', z⟩ := I.cell y c (ofClo e)
    exact ⟨w', cellK z⟩
  · exact I.freeC y c (ofClo e)
/-- the lambda called with u -/
theorem lam_call1 {A : Around} {scope : Scope} {cap par : Str} {f c' : Addr} {pm ctv : Value} {params : Arguments} {body : Expr} {k i : Nat} {cv pv : V} {u : Value} {tb : TE} {Q : VK} (I : Inv X pins σ HZ s1) (L : Lam1 X.env.scope scope cap par) (hi : X.N[i]? = some cap) (hσ : σ[i]? = some (some cv))
    (hA : A.frames = some X.stack) (hr : Room (k + 1) A)
    (hf : s1.heap.get? f = some (PySem.W.kla_obj "<lambda>" (X.env.qual ++ "<lambda>") params body scope (cloFrom X.env.cells scope.names []) pm c' ctv)) (hc : HZ c' = some (LamX.CodeO c' (X.env.qual ++ "<lambda>")))
    (hbind : bindArgs (PySem.W.kla_fn "<lambda>" (X.env.qual ++ "<lambda>") params body scope (cloFrom X.env.cells scope.names []) pm (.ref c') ctv) ⟨[u], []⟩ = pure [(par, u)])
    (hbody : Room k (A.deeper (LamX.lamEnv X scope s1.heap.objs.size f c')) → PE (lamCx1 X A s1 HZ scope cap par f c') body tb) (rv : RelV pv u) (ht : tb [some cv, some pv] HZ Q) :
    wpAny (model X.prog X.w) A (call (.ref f) [u]) (fun x s' => ∃ v H', Inv X pins σ H' s' ∧ RelV v x ∧ Q v H' ∧ Un (frs X.stack) [] HZ H' s1.heap s'.heap) (fun _ _ => False) s1 := by
  obtain ⟨⟨oc, vs, t, hoc, hdc, hvc⟩, _, _⟩ := I.hok c' _ hc
  have rc : codeAny (model X.prog X.w) A (.call (.ref f) ⟨[u], []⟩) (CR CX0 X.stack X.prog X.w HZ s1 Q E0) s1 := by
    refine PySem.W.kla_callFunE hr.depth hf rfl L.co L.gen rfl ⟨c', oc, vs, t, rfl, hoc, hdc, hvc⟩ ?_
    rw [hbind]
    refine wpAny_pure (wpAny_newFunctionEnv L.cells (fun y hy => by rw [List.mem_singleton.mp hy]; exact L.parL) (fun h₁ hns hsb => ⟨I.nolimit.fresh _ hsb, ?_⟩) L.kind)
    show codeAny _ _ (.expr body (LamX.lamEnv X scope s1.heap.objs.size f c')) _ _
    have keep1 : ∀ b o, s1.heap.get? b = some o → h₁.get? b = some o := fun b o e => hsb.extBut b o (Nat.ne_of_lt (Heap.lt_size e)) (Heap.get?_push_of_some _ e)
    have J := lam_start1 (A := A) (f := f) (c' := c') (tk := s1.toks + ([(par, u)] : List (Str × Value)).length) I L hi hσ hA hr.hd hns rv keep1
    refine PySem.W.kla_codeExpr (wpAny_mono ((hbody (hr.deeper _)).run [] _ _ HZ Q J ht) (fun v s' hq => ?_) fun e s' hq => hq.elim)
    obtain ⟨w', H', J', rv', q⟩ := hq
    exact ⟨w', H', J'.os, J'.bare, J'.base, J'.hok, rv', q⟩
  refine wpAny_call (codeAny_mono rc fun r s' hq => ?_)
  cases r with
  | error e => exact (show False from hq).elim
  | ok fl =>
    cases fl with
    | ret x =>
      obtain ⟨v, H', os, bare, un, hok, r, q⟩ := hq
      exact ⟨v, H', I.call' os un hok bare (fun b z => absurd z (by simp)), r, q, un⟩
    | next => exact False.elim hq
    | brk => exact False.elim hq
    | cont => exact False.elim hq
end

/-! ### min(xs, key=f), f a function of the program's own -/
/-- the first of the least keys -/
def Lowest (kf : Nat → Int) (n i : Nat) : Prop := ∀ j, j < n → kf i ≤ kf j ∧ (j < i → kf i < kf j)
structure RawA (X : Cx) (pins : List (Addr × Obj)) (b : Addr) : Prop where
  sz : X.s_0.heap.objs.size ≤ b
  loc : b ≠ X.env.locals
  cell : ∀ x c, X.env.cells.lookup x = some c → c ≠ b
  pin : ∀ p ∈ X.pn ++ pins, p.1 ≠ b
  fr : b ∉ frs X.stack
theorem RawA.of {X : Cx} {pins : List (Addr × Obj)} {σ : L2.St} {H : Hp} {s : Shared} (I : Inv X pins σ H s) {b : Addr} (h : s.heap.objs.size ≤ b) : RawA X pins b where
  sz := Nat.le_trans I.sz h
  loc := (Nat.ne_of_lt (Nat.lt_of_lt_of_le I.lt h)).symm
  cell := fun x c e => by
    obtain ⟨v, o, ho, _⟩ := I.cell x c e
    exact Nat.ne_of_lt (Nat.lt_of_lt_of_le (Heap.lt_size ho) h)
  pin := fun p hp => Nat.ne_of_lt (Nat.lt_of_lt_of_le (Heap.lt_size (I.pin p hp).1) h)
  fr := fun z => by
    rcases List.mem_cons.mp (I.stkSub _ z) with e | e
    · have h1 := I.lt
      rw [← e] at h1
      exact Nat.lt_irrefl _ (Nat.lt_of_lt_of_le h1 h)
    · exact I.nofs h e
structure InLp (X : Cx) (pins : List (Addr × Obj)) (σ : L2.St) (Φ : Hp → Prop) (I S f : Addr) (fo : Obj) (s : Shared) : Prop where
  ex : ∃ H, Inv X pins σ H s ∧ Φ H ∧ H I = none ∧ H S = none ∧ H f = none
  fn : s.heap.get? f = some fo
section
variable {X : Cx} {pins : List (Addr × Obj)} {σ : L2.St} {Φ : Hp → Prop} {l I S f : Addr} {fo : Obj} {as : List Addr} {R : Result → Shared → Prop}
theorem InLp.turn {s : Shared} (L : InLp X pins σ Φ I S f fo s) {it : Addr} {h' : Heap} {t' : Nat} (hit : it = I ∨ it = S) (r : RawA X pins it) (ne : it ≠ f) (k : ∀ b o, b ≠ it → s.heap.get? b = some o → h'.get? b = some o) : InLp X pins σ Φ I S f fo { s with heap := h', toks := t' } := by
  obtain ⟨H, inv, φ, n1, n2, n3⟩ := L.ex
  refine ⟨⟨H, inv.turned (it := it) k ?_ r.loc (.inr r.sz) r.cell r.pin, φ, n1, n2, n3⟩, k _ _ ne.symm L.fn⟩
  rcases hit with rfl | rfl
  · exact n1
  · exact n2
def KeyI (X : Cx) (pins : List (Addr × Obj)) (σ : L2.St) (Φ : Hp → Prop) (f : Addr) (fo : Obj) (as : List Addr) (kf : Nat → Int) : Prop :=
  ∀ (i : Nat) (a : Addr), as[i]? = some a → ∀ (s : Shared) (H : Hp), Inv X pins σ H s → Φ H → H f = none → s.heap.get? f = some fo →
    wpAny (model X.prog X.w) X.A.in1 (call (.ref f) [.ref a]) (fun x s' => (∃ t, x = .int (kf i) t) ∧ ∃ H', Inv X pins σ H' s' ∧ Φ H' ∧ Un (frs X.stack) [] H H' s.heap s'.heap) (fun _ _ => False) s
theorem minL_loop (kf : Nat → Int) (hh : X.A.handled = none) (isL : ∀ s H, Inv X pins σ H s → Φ H → s.heap.IsList l (as.map Value.ref).toArray) (lI : l ≠ I) (SI : S ≠ I) (If : I ≠ f) (Sf : S ≠ f) (rI : RawA X pins I) (rS : RawA X pins S) (nf : f ∉ frs X.stack) (key : KeyI X pins σ Φ f fo as kf)
    (fin : ∀ i a s, as[i]? = some a → Lowest kf as.length i → InLp X pins σ Φ I S f fo s → R (.ok (.ret (.ref a))) s) :
    ∀ (r j i : Nat) (s : Shared) (ab : Addr) (tb : Tok) (c : Nat), as.length - (j + 1) = r → j + 1 ≤ as.length → InLp X pins σ Φ I S f fo s →
      s.heap.get? S = some (seqObj "list" #[.ref ab, .int (kf i) tb] c) → s.heap.IsListIter I l (j + 1) → as[i]? = some ab → i ≤ j → Lowest kf (j + 1) i →
      codeAny (model X.prog X.w) X.A (.builtin "min.loop" ⟨[.ref I, .ref f, .ref S], []⟩) R s := by
  have nm : (toString "min" ++ toString ".loop" : String) = "min.loop" := by decide
  have wk := Walks.list (prog := X.prog) (w := X.w) (A := X.A.in1) hh I l lI (as.map Value.ref).toArray
  have sz : (as.map Value.ref).toArray.size = as.length := by simp
  intro r
  induction r with
  | zero =>
    intro j i s ab tb c er jl L gS it ev ij top
    have last : j + 1 = as.length := by omega
    refine codeAny_builtin PySem.F.entry_min_loop ?_
    rw [Around.under_plainId PySem.F.plain_min_loop _]
    show wpAny _ X.A.in1 (seqItems? (Value.ref S) >>= _) _ _ _
    refine wpAny_bind (wpAny_seqItems gS rfl ?_)
    show wpAny _ X.A.in1 (tryCatch (pyNext (Value.ref I)) _ >>= _) _ _ _
    refine wpAny_bind (wpAny_tryCatch (wk.done _ _ _ ⟨by rw [sz, ← last]; exact it, by
      obtain ⟨H, inv, φ, _⟩ := L.ex
      exact isL _ _ inv φ⟩ fun h1 tk1 k1 => ?_))
    have k1' : ∀ b o, b ≠ I → s.heap.get? b = some o → h1.get? b = some o := fun b o nb e => k1 b o (fun z => nb (List.mem_singleton.mp z)) e
    have L1 := L.turn (t' := tk1) (.inl rfl) rI If k1'
    have gS1 := k1' S _ SI gS
    have u1 := Heap.SameBut.update h1 S (Obj.mapSeq (fun _ => (#[] : Array Value)))
    show wpAny _ X.A.in1 (updateSeq S (fun _ => #[]) >>= fun _ => _) _ _ _
    refine wpAny_bind (wpAny_updateSeq gS1 rfl (wpAny_bind (wpAny_letGo (wpAny_pure ?_))))
    exact fin i ab _ ev (by rw [← last]; exact top) (L1.turn (.inr rfl) rS Sf fun b o nb e => (u1.2 b nb).trans e)
  | succ r ih =>
    intro j i s ab tb c er jl L gS it ev ij top
    have more : j + 1 < as.length := by omega
    refine codeAny_builtin PySem.F.entry_min_loop ?_
    rw [Around.under_plainId PySem.F.plain_min_loop _]
    show wpAny _ X.A.in1 (seqItems? (Value.ref S) >>= _) _ _ _
    refine wpAny_bind (wpAny_seqItems gS rfl ?_)
    show wpAny _ X.A.in1 (tryCatch (pyNext (Value.ref I)) _ >>= _) _ _ _
    refine wpAny_bind (wpAny_tryCatch (wk.item (j + 1) _ _ _ (by rw [sz]; exact more) ⟨it, by
      obtain ⟨H, inv, φ, _⟩ := L.ex
      exact isL _ _ inv φ⟩ fun v h1 tk1 pv it1 k1 => ?_))
    obtain ⟨a1, ev1, rfl⟩ : ∃ a1, as[j + 1]? = some a1 ∧ v = Value.ref a1 := by
      have z : (as.map Value.ref)[j + 1]? = some v := by simpa using pv
      rw [List.getElem?_map] at z
      obtain ⟨a1, e1, e2⟩ := Option.map_eq_some_iff.mp z
      exact ⟨a1, e1, e2.symm⟩
    have k1' : ∀ b o, b ≠ I → s.heap.get? b = some o → h1.get? b = some o := fun b o nb e => k1 b o (fun z => nb (List.mem_singleton.mp z)) e
    have L1 := L.turn (t' := tk1) (.inl rfl) rI If k1'
    have gS1 := k1' S _ SI gS
    obtain ⟨oI, gI, cI, dI⟩ := it1.1
    obtain ⟨H1, inv1, φ1, nI1, nS1, nf1⟩ := L1.ex
    show wpAny _ X.A.in1 (tryCatch (holding [.ref a1] (call (Value.ref f) [.ref a1])) _ >>= _) _ _ _
    refine wpAny_bind (wpAny_tryCatch (wpAny_holding (wpAny_mono (key (j + 1) a1 ev1 _ H1 inv1 φ1 nf1 L1.fn) (fun x s2 hx => ?_) (fun _ _ no => no.elim))))
    obtain ⟨⟨t2, rfl⟩, H2, inv2, φ2, un⟩ := hx
    have gS2 : s2.heap.get? S = _ := un.keep S _ gS1 nS1 rS.fr (by simp)
    have gI2 : s2.heap.get? I = _ := un.keep I _ gI nI1 rI.fr (by simp)
    have gf2 : s2.heap.get? f = _ := un.keep f _ L1.fn nf1 nf (by simp)
    have L2' : InLp X pins σ Φ I S f fo s2 := ⟨⟨H2, inv2, φ2, un.free I _ gI nI1 (by simp), un.free S _ gS1 nS1 (by simp), un.free f _ L1.fn nf1 (by simp)⟩, gf2⟩
    show wpAny _ X.A.in1 (tryCatch (holding [.ref a1, Value.int (kf (j + 1)) t2] (richCompare .Lt (.int (kf (j + 1)) t2) (.int (kf i) tb) >>= _)) _ >>= _) _ _ _
    refine wpAny_bind (wpAny_tryCatch (wpAny_holding (wpAny_bind (CmpOf.ints_lt (prog := X.prog) (w := X.w) (A := X.A.in1) (P := fun n u => ∃ t, u = .int (kf n) t) kf (fun n u z => z) (j + 1) i _ _ _ _ _ ⟨t2, rfl⟩ ⟨tb, rfl⟩ ?_))))
    refine wpAny_bind (wpAny_holding (wpAny_truthy_bool (wpAny_bind (wpAny_letGo (wpAny_pure ?_)))))
    by_cases up : kf (j + 1) < kf i
    · have u1 := Heap.SameBut.update s2.heap S (Obj.mapSeq (fun _ => #[.ref a1, .int (kf (j + 1)) t2]))
      obtain ⟨c2, gS3⟩ : ∃ c2, (s2.heap.update S (Obj.mapSeq fun _ => #[.ref a1, .int (kf (j + 1)) t2])).get? S = some (seqObj "list" #[.ref a1, .int (kf (j + 1)) t2] c2) := ⟨_, get?_update_seq gS2 fun _ => _⟩
      simp only [up, decide_true, if_true]
      refine wpAny_bind (wpAny_updateSeq gS2 rfl (wpAny_bind (wpAny_letGo ?_)))
      rw [nm]
      refine wpAny_pure ⟨plainId_quiet PySem.F.plain_min_loop _, ih (j + 1) (j + 1) _ a1 t2 c2 (by omega) more (L2'.turn (.inr rfl) rS Sf fun b o nb e => (u1.2 b nb).trans e) gS3 ⟨oI, (u1.2 I SI.symm).trans gI2, cI, dI⟩ ev1 (Nat.le_refl _) fun n hn => ?_⟩
      by_cases e : n = j + 1
      · subst e
        exact ⟨Int.le_refl _, fun z => absurd z (Nat.lt_irrefl _)⟩
      · have := (top n (by omega)).1
        exact ⟨by omega, fun _ => by omega⟩
    · simp only [up, decide_false, Bool.false_eq_true, if_false]
      refine wpAny_bind (wpAny_letGo ?_)
      rw [nm]
      refine wpAny_pure ⟨plainId_quiet PySem.F.plain_min_loop _, ih (j + 1) i _ ab tb c (by omega) more (L2'.turn (.inr rfl) rS Sf fun b o nb e => e) gS2 ⟨oI, gI2, cI, dI⟩ ev (by omega) fun n hn => ?_⟩
      by_cases e : n = j + 1
      · subst e
        exact ⟨by omega, fun z => absurd z (by omega)⟩
      · exact top n (by omega)
theorem minL {s : Shared} {Q : Value → Shared → Prop} {E : Value → Shared → Prop} {H : Hp} (kf : Nat → Int) (inv : Inv X pins σ H s) (φ : Φ H) (hh : X.A.handled = none) (isL : ∀ s H, Inv X pins σ H s → Φ H → s.heap.IsList l (as.map Value.ref).toArray) (some1 : 0 < as.length) (hf : s.heap.get? f = some fo) (hn : H f = none) (nf : f ∉ frs X.stack) (key : KeyI X pins σ Φ f fo as kf)
    (fin : ∀ i a s H, as[i]? = some a → Lowest kf as.length i → Inv X pins σ H s → Φ H → Q (.ref a) s) :
    wpAny (model X.prog X.w) X.A (call (.builtin "min") [.ref l] [(Str.ofString "key", .ref f)]) Q E s := by
  have nm : (toString "min" ++ toString ".loop" : String) = "min.loop" := by decide
  have isL0 := isL s H inv φ
  have isL1 := isL0
  obtain ⟨ol, gl, _⟩ := isL1
  have ll : l < s.heap.objs.size := Heap.lt_size gl
  have lf : f < s.heap.objs.size := Heap.lt_size hf
  refine kmb_tree PySem.F.kind_min PySem.F.plain_min PySem.F.entry_min (kmb_min_key _ _) ?_
  show wpAny _ X.A.in1 (Builtin.Builtins.bindParams "min" ["key", "default"] 0 ⟨[], [(Str.ofString "key", Value.ref f)]⟩ >>= _) _ _ s
  refine wpAny_bind (wpAny_of_eq (show Builtin.Builtins.bindParams "min" ["key", "default"] 0 ⟨[], [(Str.ofString "key", Value.ref f)]⟩ = pure [some (.ref f), none] from rfl) ?_)
  refine wpAny_bind (wpAny_pure (wpAny_bind (wpAny_pyIter_list isL0 (wpAny_bind (wpAny_newList ?_ (Nat.zero_le _))))))
  rw [nm]
  have it0 := Heap.get?_push_size s.heap (o := { cls := .type "list_iterator", data := .fields #[.ref l, .int 0 0] }) rfl
  have z1 : (s.heap.push { cls := .type "list_iterator", data := .fields #[.ref l, .int 0 0] }).objs.size = s.heap.objs.size + 1 := Heap.size_push ..
  have k1 : Stay s.heap (s.heap.push { cls := .type "list_iterator", data := .fields #[.ref l, .int 0 0] }) := fun b o e => Heap.get?_push_of_some _ e
  generalize s.heap.push { cls := .type "list_iterator", data := .fields #[.ref l, .int 0 0] } = g1 at *
  have gS := Heap.get?_push_size g1 (o := seqObj "list" #[] 0) rfl
  have k2 : Stay g1 (g1.push (seqObj "list" #[] 0)) := fun b o e => Heap.get?_push_of_some _ e
  have gI := k2 _ _ it0
  generalize g1.push (seqObj "list" #[] 0) = g2 at *
  rw [z1] at gS ⊢
  have st2 : Stay s.heap g2 := fun b o e => k2 b o (k1 b o e)
  have SI : s.heap.objs.size + 1 ≠ s.heap.objs.size := Nat.succ_ne_self _
  have lI : l ≠ s.heap.objs.size := Nat.ne_of_lt ll
  have If : s.heap.objs.size ≠ f := (Nat.ne_of_lt lf).symm
  have Sf : s.heap.objs.size + 1 ≠ f := (Nat.ne_of_lt (Nat.lt_succ_of_lt lf)).symm
  have rI : RawA X pins s.heap.objs.size := RawA.of inv (Nat.le_refl _)
  have rS : RawA X pins (s.heap.objs.size + 1) := RawA.of inv (Nat.le_succ _)
  have L0 : InLp X pins σ Φ s.heap.objs.size (s.heap.objs.size + 1) f fo { s with heap := g2 } := ⟨⟨H, inv.kept st2, φ, inv.hok.fresh (Nat.le_refl _), inv.hok.fresh (Nat.le_succ _), hn⟩, st2 _ _ hf⟩
  have wk := Walks.list (prog := X.prog) (w := X.w) (A := X.A.in1) hh s.heap.objs.size l lI (as.map Value.ref).toArray
  have sz : (as.map Value.ref).toArray.size = as.length := by simp
  refine wpAny_pure ⟨plainId_quiet PySem.F.plain_min_loop _, codeAny_builtin PySem.F.entry_min_loop ?_⟩
  rw [Around.under_plainId PySem.F.plain_min_loop _]
  show wpAny _ X.A.in1 (seqItems? (Value.ref _) >>= _) _ _ _
  refine wpAny_bind (wpAny_seqItems gS rfl ?_)
  show wpAny _ X.A.in1 (tryCatch (pyNext (Value.ref s.heap.objs.size)) _ >>= _) _ _ _
  refine wpAny_bind (wpAny_tryCatch (wk.item 0 _ _ _ (by rw [sz]; exact some1) ⟨⟨_, gI, rfl, rfl⟩, isL_stay st2 isL0⟩ fun v h1 tk1 pv it1 kk => ?_))
  obtain ⟨a1, ev1, rfl⟩ : ∃ a1, as[0]? = some a1 ∧ v = Value.ref a1 := by
    have z : (as.map Value.ref)[0]? = some v := by simpa using pv
    rw [List.getElem?_map] at z
    obtain ⟨a1, e1, e2⟩ := Option.map_eq_some_iff.mp z
    exact ⟨a1, e1, e2.symm⟩
  have kk' : ∀ b o, b ≠ s.heap.objs.size → g2.get? b = some o → h1.get? b = some o := fun b o nb e => kk b o (fun z => nb (List.mem_singleton.mp z)) e
  have L1 := L0.turn (t' := tk1) (.inl rfl) rI If kk'
  have gS1 := kk' _ _ SI gS
  obtain ⟨oI, gI1, cI, dI⟩ := it1.1
  obtain ⟨H1, inv1, φ1, nI1, nS1, nf1⟩ := L1.ex
  show wpAny _ X.A.in1 (tryCatch (holding [.ref a1] (call (Value.ref f) [.ref a1])) _ >>= _) _ _ _
  refine wpAny_bind (wpAny_tryCatch (wpAny_holding (wpAny_mono (key 0 a1 ev1 _ H1 inv1 φ1 nf1 L1.fn) (fun x s2 hx => ?_) (fun _ _ no => no.elim))))
  obtain ⟨⟨t2, rfl⟩, H2, inv2, φ2, un⟩ := hx
  have gS2 := un.keep _ _ gS1 nS1 rS.fr (by simp)
  have gI2 := un.keep _ _ gI1 nI1 rI.fr (by simp)
  have gf2 := un.keep f _ L1.fn nf1 nf (by simp)
  have L2' : InLp X pins σ Φ s.heap.objs.size (s.heap.objs.size + 1) f fo s2 := ⟨⟨H2, inv2, φ2, un.free _ _ gI1 nI1 (by simp), un.free _ _ gS1 nS1 (by simp), un.free f _ L1.fn nf1 (by simp)⟩, gf2⟩
  have u1 := Heap.SameBut.update s2.heap (s.heap.objs.size + 1) (Obj.mapSeq (fun _ => #[.ref a1, .int (kf 0) t2]))
  obtain ⟨c2, gS3⟩ : ∃ c2, (s2.heap.update (s.heap.objs.size + 1) (Obj.mapSeq fun _ => #[.ref a1, .int (kf 0) t2])).get? (s.heap.objs.size + 1) = some (seqObj "list" #[.ref a1, .int (kf 0) t2] c2) := ⟨_, get?_update_seq gS2 fun _ => _⟩
  show wpAny _ X.A.in1 (updateSeq (s.heap.objs.size + 1) (fun _ => #[.ref a1, .int (kf 0) t2]) >>= _) _ _ _
  refine wpAny_bind (wpAny_updateSeq gS2 rfl ?_)
  rw [nm]
  refine wpAny_pure ⟨plainId_quiet PySem.F.plain_min_loop _, minL_loop kf hh isL lI SI If Sf rI rS nf key (fun i a s' e low L => ?_) _ 0 0 _ a1 t2 c2 rfl some1 (L2'.turn (.inr rfl) rS Sf fun b o nb e => (u1.2 b nb).trans e) gS3 ⟨oI, (u1.2 _ SI.symm).trans gI2, cI, dI⟩ ev1 (Nat.le_refl _) fun n hn => ?_⟩
  · obtain ⟨H', inv', φ', _⟩ := L.ex
    exact fin i a s' H' e low inv' φ'
  · have e : n = 0 := by omega
    subst e
    exact ⟨Int.le_refl _, fun z => absurd z (Nat.lt_irrefl _)⟩
end

/-- all but what stands at P stays -/
abbrev ButAt (P : Addr) (H H' : Hp) : Prop := ∀ b o, b ≠ P → H b = some o → H' b = some o
/-- the lambda is made: nothing but its maker's table changes -/
theorem lam_make3 {X : Cx} {pins : List (Addr × Obj)} {σ : L2.St} {H : Hp} {s : Shared} {c P : Addr} {params : Arguments} {body : Expr} {scope : Scope} {pos : Pos} {E : Value → Shared → Prop} {Q : Value → Shared → Prop} (I : Inv X pins σ H s) (TB : LamX.TabB X.base X.mg c P) (hcode : X.env.code = .ref c)
    (tab : LamX.TabS H P (X.env.qual ++ "<lambda>")) (hdef : defaultsOf params X.env = ([], [])) (caps : ∀ y ∈ scope.names, y.2 = .free → ∃ c, X.env.cells.lookup y.1 = some c)
    (fin : ∀ (f c' : Addr) (pm ctv : Value) (H1 : Hp) (s' : Shared), Inv X pins σ H1 s' → ButAt P H H1 → LamX.TabS H1 P (X.env.qual ++ "<lambda>") →
      s'.heap.get? f = some (PySem.W.kla_obj "<lambda>" (X.env.qual ++ "<lambda>") params body scope (cloFrom X.env.cells scope.names []) pm c' ctv) → H1 f = none → f ∉ frs X.stack → H1 c' = some (LamX.CodeO c' (X.env.qual ++ "<lambda>")) → Q (.ref f) s') :
    wpAny (model X.prog X.w) X.A (eval (.Lambda params body scope pos) X.env) Q E s := by
  obtain ⟨ps, hP, tri, known⟩ := tab
  have raw : s.heap.get? P = some { cls := .none, data := .fields ps } := I.hok P _ hP
  have glob := I.mod.glob.keeps I.bk
  have code := TB.code.keeps I.bk
  have bm := TB.bm.keeps I.bk
  apply PySem.W.kla_eval hdef
  cases found : codeAmong pos ps.toList with
  | some cv =>
    obtain ⟨c', rfl, co⟩ := known pos cv found
    apply PySem.W.kla_makeFunctionHit (closure_ok caps) I.ok.glob glob hcode code raw tri found bm
    intro ctv h' tk keep size
    exact fin _ c' _ ctv H _ (I.kept fun b o e => Heap.get?_push_of_some _ (keep b o e)) (fun _ _ _ e => e) ⟨ps, hP, tri, known⟩ (Heap.get?_push_size _ rfl) (I.hok.fresh size) (RawA.of I size).fr co
  | none =>
    apply PySem.W.kla_makeFunction (closure_ok caps) I.ok.glob glob hcode code raw tri found TB.gP bm
    intro c' ctv h' tk ext old lt rec grown
    obtain ⟨_, oc, vs, t, e2, hoc, hd, hv⟩ := rec
    cases e2
    have size : s.heap.objs.size ≤ h'.objs.size := Nat.le_trans old (Nat.le_of_lt lt)
    have nC : H c' = none := I.hok.fresh old
    have PC : P ≠ c' := ne_of_none hP nC
    have J := LamX.inv_table (t' := tk) (more := #[rawInt pos.line, rawInt pos.col, .ref c']) (h' := h'.push (PySem.W.kla_obj "<lambda>" (X.env.qual ++ "<lambda>") params body scope (cloFrom X.env.cells scope.names []) ((X.mg "__name__").getD .none) c' ctv)) I hP
      (fun b o nb e => Heap.get?_push_of_some _ (ext b o nb e)) (Heap.get?_push_of_some _ grown) old ⟨oc, vs, t, Heap.get?_push_of_some _ hoc, hd, hv⟩
    have but : ButAt P H (upd (upd H P (.tbl (ps ++ #[rawInt pos.line, rawInt pos.col, .ref c']))) c' (LamX.CodeO c' (X.env.qual ++ "<lambda>"))) := fun b o nb e => by
      rw [upd_ne (ne_of_none e nC), upd_ne nb]
      exact e
    have asList : (ps ++ #[rawInt pos.line, rawInt pos.col, .ref c']).toList = ps.toList ++ [rawInt pos.line, rawInt pos.col, .ref c'] := by simp
    refine fin h'.objs.size c' _ ctv _ _ J but ⟨_, (upd_ne PC).trans upd_same, ?_, fun pos' cv hc => ?_⟩ (Heap.get?_push_size _ rfl) ?_ (RawA.of I size).fr upd_same
    · rw [asList]
      exact PySem.TriplesOk_snoc _ _ _ _ tri
    · rw [asList] at hc
      rcases LamX.among_app _ tri hc with z | z
      · obtain ⟨c0, q1, q2⟩ := known pos' cv z
        refine ⟨c0, q1, but _ _ (fun w => ?_) q2⟩
        rw [w, hP] at q2
        exact LamX.codeO_ne ps (Option.some.inj q2).symm
      · exact ⟨c', z, upd_same⟩
    · rw [upd_ne (Nat.ne_of_gt lt), upd_ne (Nat.ne_of_gt (Nat.lt_of_lt_of_le (Heap.lt_size raw) size))]
      exact I.hok.fresh size
/-- min(xs, key=lambda par: body), xs a list of objects; body makes ints and changes nothing that stands -/
def tMinLam (P : Addr) (q : Str) (i : Nat) (ta : TA) (tb : TE) : TE := fun σ H Q => ta σ H fun vs H1 => ∃ (a : Addr) (as : List Addr) (kf : Nat → Int) (cv : V), vs = [.ref a] ∧ H1 a = some (.lst (as.map V.ref)) ∧ 0 < as.length ∧ LamX.TabS H1 P q ∧ σ[i]? = some (some cv) ∧
  ∀ H2, ButAt P H1 H2 → LamX.TabS H2 P q → (∀ (j : Nat) (b : Addr) (H' : Hp), as[j]? = some b → Same H2 H' → tb [some cv, some (.ref b)] H' fun v H'' => v = .int (kf j) ∧ Same H' H'') ∧
    ∀ (j : Nat) (b : Addr) (H' : Hp), as[j]? = some b → Lowest kf as.length j → Same H2 H' → Q (.ref b) H'
theorem vals_refs : ∀ {as : List Addr} {us : List Value}, Vals (as.map V.ref) us → us = as.map Value.ref
  | [], _, .nil => rfl
  | a :: as, _, .cons r t => by
    cases r
    rw [vals_refs t] <;> rfl
theorem pe_minLam {X : Cx} {c P : Addr} {k : Nat} {e : Expr} {params : Arguments} {body : Expr} {scope : Scope} {cap par : Str} {p kp lpos pos : Pos} {ta : TA} {tb : TE} (i : Nat) (hc : X.calm = true) (hg : Gl X "min") (hm : X.mg "min" = none) (hr : Room (k + 2) X.A) (TB : LamX.TabB X.base X.mg c P) (hcode : X.env.code = .ref c)
    (L : Lam1 X.env.scope scope cap par) (hi : X.N[i]? = some cap) (hdef : defaultsOf params X.env = ([], []))
    (hbind : ∀ (q : Str) (cl : List (Str × Addr)) (pm cv ctv u : Value), bindArgs (PySem.W.kla_fn "<lambda>" q params body scope cl pm cv ctv) ⟨[u], []⟩ = pure [(par, u)]) (ha : PA X [e] ta)
    (hbody : ∀ (A : Around) (s : Shared) (H : Hp) (f c' : Addr), Room k (A.deeper (LamX.lamEnv X scope s.heap.objs.size f c')) → PE (lamCx1 X A s H scope cap par f c') body tb)
    (he : backTo pos (starEach [e] X.env) = (false, eval e X.env) :: backTo pos (starEach [] X.env) := by rfl) (hpl : (backTo pos (starEach [e] X.env)).any (·.1) = false := by rfl) :
    PE X (.Call (.Name "min" p) [e] [⟨some "key", .Lambda params body scope lpos, kp⟩] pos) (tMinLam P (X.env.qual ++ "<lambda>") i ta tb) := by
  refine ⟨fun pins s σ H Q I h => ?_⟩
  refine wpAny_Call_Name_kw (ld_blt (u := .builtin "min") I hg hm (by decide +kernel) ?_)
  refine PyProof.Rows.callWith_kw (thn (ha.run pos pins s σ H _ I h) fun us s1 ⟨vs, H1, I1, r1, q1⟩ => ?_) he hpl (by rfl) (by rfl)
  show wpAny _ _ (evalAll [(do let v ← eval (.Lambda params body scope lpos) X.env; standAt pos; pure v)]) _ _ s1
  obtain ⟨a, as, kf, cv, rfl, hl, pos1, tab, hσ, hq⟩ := q1
  rw [Vals.ref1 r1]
  refine wpAny_evalAll_cons (wpAny_bind (lam_make3 I1 TB hcode tab hdef (L.has I1.ok) fun f c' pm ctv H2 s2 I2 eN T2 hf hfn hfr hco => ?_))
  refine wpAny_bind (wpAny_standAt (wpAny_pure (wpAny_evalAll_nil ?_)))
  obtain ⟨k1, k2⟩ := hq H2 eN T2
  have hl2 : H2 a = some (.lst (as.map V.ref)) := eN _ _ (fun z => by
    obtain ⟨ps, h4, _⟩ := tab
    rw [z, h4] at hl
    cases hl) hl
  refine minL (Φ := fun H' => Same H2 H') (as := as) (f := f) (H := H2) kf I2 (Same.refl _) (I2.ok.hd hc) (fun s H inv φ => ?_) pos1 hf hfn hfr (fun j b eb s H inv φ hn hg => ?_) fun j b s H eb low inv φ => ⟨.ref b, H, inv, rfl, k2 j b H eb low φ⟩
  · obtain ⟨its, rv, isL, _⟩ := inv.list (SqL.of (φ _ _ hl2))
    rw [vals_refs rv] at isL
    exact isL.isList
  · refine wpAny_mono (lam_call1 (A := X.A.in1) (pv := .ref b) (u := .ref b) inv L hi hσ inv.ok.frames hr.in1 hg (φ _ _ hco) (hbind _ _ _ _ _ _) (fun hr' => hbody _ _ _ _ _ hr') rfl (k1 j b H eb φ)) (fun x s' hx => ?_) fun _ _ no => no
    obtain ⟨v, H', inv', rv, ⟨rfl, sm⟩, un⟩ := hx
    exact ⟨rv, H', inv', φ.trans sm, un⟩

/-! ### the end of a law row of the quiet kind whose program makes a lambda: its maker's table of code objects stands empty at the start -/
abbrev emptyTab : Obj := { cls := .none, data := .fields #[] }
/-- H tells the script and the table, nothing else -/
structure Start (P : Program) (w : World) (K : PySem.W.Frag) (h : Heap) (a T : Addr) (H : Hp) : Prop where
  tab : H T = some (.tbl #[])
  ok : HOk P w H h
  only : ∀ b u, H b = some u → (b = T ∧ u = .tbl #[]) ∨ (b = a ∧ K.lookup b = none ∧ ∃ o xs, u = .frz o (.lst xs))
theorem Start.untold {P : Program} {w : World} {K : PySem.W.Frag} {h : Heap} {a T : Addr} {H : Hp} (S : Start P w K h a T H) {b : Addr} (h1 : b ≠ T) (h2 : b ≠ a) : H b = none := by
  cases q : H b with
  | none => rfl
  | some u =>
    rcases S.only b u q with z | z
    · exact absurd z.1 h1
    · exact absurd z.1 h2
theorem quiet_lawT {P : Program} {w : World} {K : PySem.W.Frag} {mg mb : Str → Option Value} {k : Nat} {fa a c T : Addr} {fd : FuncData} {x : Str} {sp : Sp} {s₁ : Shared} {vs : List Value} {ns : List Int}
    (inK : K.In s₁.heap) (glob : s₁.heap.Ns mainGlobals mg) (blt : s₁.heap.Ns builtinsNs mb) (bltIs : ∀ y : Str, y ≠ "__name__" → mb y = bootBuiltins y) (lim : s₁.heap.NoLimit) (gens : s₁.gens = #[]) (mods : ∃ mm, s₁.heap.Ns sysModules mm)
    (tab : s₁.heap.get? T = some emptyTab) (noT : K.lookup T = none) (code : PySem.W.CodeHd s₁.heap c T)
    (bmain : ∃ (bm : Addr) (ob : Obj), mg "__builtins__" = some (.ref bm) ∧ bm ≠ builtinsNs ∧ s₁.heap.get? bm = some ob ∧ ob.cls = .type "module" ∧ ob.dict = some builtinsNs ∧ ob.data = .plain)
    (here : s₁.heap.get? a = some { cls := .type "list", data := .seq vs.toArray }) (whole : IntsAre vs ns) (few : ns.length ≤ sizeLine) (room : Room k callerA)
    (F : ∀ base : Heap, K.In base → base.Ns mainGlobals mg → (∃ mm, base.Ns sysModules mm) → LamX.TabB base mg c T → FnG P w K mg base k fa fd [x] sp) (bind : ∀ (s : Shared) (u : Value), BindsTo s fd ⟨[u], []⟩ [(x, u)])
    (want : ∀ H : Hp, H T = some (.tbl #[]) → SqL K H a (ns.map V.int) → sp [.ref a] H (fun v _ => v = .bl true) E0) :
    codeAny (model P w) callerA (.call (.ref fa) ⟨[.ref a], []⟩) (fun r s' => r = .ok (.ret (.bool true)) ∧ OldK s₁.heap s'.heap ∧ s'.os = s₁.os ∧ AllBare s'.gens) s₁ := by
  have rel := vals_ints whole
  have aT : a ≠ T := fun z => by
    have q := tab
    rw [← z, here] at q
    injection q with q
    exact nomatch congrArg Obj.data q
  have main : ∀ H : Hp, Start P w K s₁.heap a T H → SqL K H a (ns.map V.int) →
      codeAny (model P w) callerA (.call (.ref fa) ⟨[.ref a], []⟩) (fun r s' => r = .ok (.ret (.bool true)) ∧ OldK s₁.heap s'.heap ∧ s'.os = s₁.os ∧ AllBare s'.gens) s₁ := by
    intro H S sq
    -- what is neither a list nor a table's empty fields is not told
    have plainO : ∀ {b o}, s₁.heap.get? b = some o → (∀ ys n, o.data ≠ .seq ys n) → o.data ≠ .fields #[] → (hidT s₁.heap H).get? b = some o := fun {b o} e h1 h2 => hidT_get e (S.untold (fun z => by
        rw [z, tab] at e
        cases e
        exact h2 rfl) fun z => by
        rw [z, here] at e
        cases e
        exact h1 _ _ rfl)
    have ns1 : ∀ {b m}, s₁.heap.Ns b m → (hidT s₁.heap H).Ns b m := by
      rintro b m ⟨o, es, ep, e, d, r⟩
      refine ⟨o, es, ep, plainO e (fun ys n z => ?_) (fun z => ?_), d, r⟩
      · rw [d] at z
        cases z
      · rw [d] at z
        cases z
    have kIn : K.In (hidT s₁.heap H) := by
      intro b o e
      refine hidT_get (inK b o e) ?_
      cases q : H b with
      | none => rfl
      | some u =>
        rcases S.only b u q with z | z
        · rw [z.1, noT] at e
          cases e
        · rw [z.2.1] at e
          cases e
    have lim1 : (hidT s₁.heap H).NoLimit := by
      obtain ⟨mc, h1, h2⟩ := lim
      exact ⟨mc, ns1 h1, h2⟩
    have code1 : PySem.W.CodeHd (hidT s₁.heap H) c T := by
      obtain ⟨o, us, file, tf, flags, tg, inF, text, tt, e1, r1, r2, r3, rr⟩ := code
      refine ⟨o, us, file, tf, flags, tg, inF, text, tt, plainO e1 (fun ys n z => ?_) (fun z => ?_), r1, r2, r3, rr⟩
      · rw [r2] at z
        cases z
      · rw [r2] at z
        cases z
        cases r3
    have table : LamX.TabB (hidT s₁.heap H) mg c T := by
      refine ⟨code1, ?_, fun z => ?_⟩
      · obtain ⟨bm, ob, b1, b2, b3, b4, b5, b6⟩ := bmain
        refine ⟨bm, ob, b1, b2, fun z => ?_, fun z => ?_, plainO b3 (fun ys n z => ?_) (fun z => ?_), b4, b5, b6⟩
        · obtain ⟨o, es, ep, e, d, _⟩ := glob
          rw [z, e] at b3
          cases b3
          rw [d] at b6
          cases b6
        · rw [z, tab] at b3
          cases b3
          cases b6
        · rw [b6] at z
          cases z
        · rw [b6] at z
          cases z
      · obtain ⟨o, es, ep, e, d, _⟩ := glob
        rw [z, tab] at e
        cases e
        cases d
    have e0 : Env0 P w K mg (hidT s₁.heap H) callerA [] s₁ H := {
      frames := rfl, mod := ⟨kIn, ns1 glob, ⟨mb, ns1 blt, bltIs⟩, lim1⟩, bs := fun _ _ e => of_hidT e, bsz := Nat.le_of_eq (hidT_size _ _), funs := True.intro, frf := (fun _ hb => nomatch hb), hok := S.ok, bare := .of_eq gens }
    apply codeAny_mono ((F _ kIn (ns1 glob) (mods.elim fun mm h => ⟨mm, ns1 h⟩) table).go (us := [.ref a]) (vs := [.ref a]) room rfl e0 (bind s₁ _) (.cons rfl .nil) (want H S.tab sq))
    intro r s' hr
    match r, hr with
    | .error _, hr => exact hr.elim
    | .ok .next, hr => exact False.elim hr
    | .ok .brk, hr => exact False.elim hr
    | .ok .cont, hr => exact False.elim hr
    | .ok (.ret u), hr =>
      obtain ⟨v, H', os, bare, un, ok', rv, q⟩ := hr
      cases (show v = V.bl true from q)
      cases (show u = Value.bool true from rv)
      obtain ⟨more, grown⟩ := un.tbls T #[] S.tab
      have gT := ok' T _ grown
      have rest : ∀ b o, b ≠ T → s₁.heap.get? b = some o → s'.heap.get? b = some o := by
        intro b o nb e
        cases q : H b with
        | none => exact un.keep b o e q (fun z => nomatch z) (fun z => nomatch z)
        | some u =>
          rcases S.only b u q with z | ⟨_, _, ob, xs, rfl⟩
          · exact absurd z.1 nb
          · have e1 := (S.ok b _ q).1
            have e2 := (ok' b _ (un.frzs b ob _ q)).1
            rw [e] at e1
            cases e1
            exact e2
      refine ⟨rfl, ⟨fun b o e => ?_, fun b o e => ?_⟩, os, bare⟩
      · by_cases hb : b = T
        · subst hb
          rw [tab] at e
          cases e
          exact .inr (.inl ⟨(code.tab tab).isCodeTable, rfl, #[], more, rfl, gT⟩)
        · exact .inl (rest b o hb e)
      · by_cases hb : b = T
        · subst hb
          exact ⟨_, gT⟩
        · exact ⟨o, rest b o hb e⟩
  have small : (ns.map V.int).length ≤ sizeLine := by rw [List.length_map]; exact few
  cases known : K.lookup a with
  | some o =>
    have e := inK a o known
    rw [here] at e
    cases e
    have sz : vs.length ≤ sizeLine := by rw [← rel.length]; exact small
    have H0 : ∀ {b u}, (if b = T then some (HO.tbl #[]) else none) = some u → b = T ∧ u = .tbl #[] := by
      intro b u z
      by_cases hb : b = T
      · rw [if_pos hb] at z
        cases z
        exact ⟨hb, rfl⟩
      · rw [if_neg hb] at z
        cases z
    refine main (fun b => if b = T then some (.tbl #[]) else none) ⟨if_pos rfl, fun b u z => ?_, fun b u z => .inl (H0 z)⟩ (.inr ⟨_, vs.toArray, _, known, rfl, rfl, rfl, by simpa using sz, by simpa using rel⟩)
    obtain ⟨rfl, rfl⟩ := H0 z
    exact tab
  | none =>
    have H1 : ∀ {b u}, (if b = T then some (HO.tbl #[]) else if b = a then some (HO.frz { cls := .type "list", data := .seq vs.toArray } (.lst (ns.map V.int))) else none) = some u → (b = T ∧ u = .tbl #[]) ∨ (b = a ∧ u = HO.frz { cls := .type "list", data := .seq vs.toArray } (.lst (ns.map V.int))) := by
      intro b u z
      by_cases hb : b = T
      · rw [if_pos hb] at z
        cases z
        exact .inl ⟨hb, rfl⟩
      · rw [if_neg hb] at z
        by_cases hc : b = a
        · rw [if_pos hc] at z
          cases z
          exact .inr ⟨hc, rfl⟩
        · rw [if_neg hc] at z
          cases z
    refine main (fun b => if b = T then some (.tbl #[]) else if b = a then some (.frz { cls := .type "list", data := .seq vs.toArray } (.lst (ns.map V.int))) else none) ⟨if_pos rfl, fun b u z => ?_, fun b u z => ?_⟩ (.inl (.inr ⟨{ cls := .type "list", data := .seq vs.toArray }, (if_neg aT).trans (if_pos rfl)⟩))
    · rcases H1 z with ⟨rfl, rfl⟩ | ⟨rfl, rfl⟩
      · exact tab
      · exact ⟨here, small, vs, _, rel, here⟩
    · rcases H1 z with z | ⟨rfl, rfl⟩
      · exact .inl z
      · exact .inr ⟨rfl, known, _, _, rfl⟩
theorem quiet_walkT {l : PySem.W.OpenLaw} {n k : Nat} {q : Program} {loose : List Str} {XP : (Str → Option Value) → Heap → Prop} {YP : World → Heap → Prop} {d : DefRec} {K : Params → PySem.W.Frag} {x : Str}
    (noImport : importsNone q = true) (most : l.most = some n) (n2 : n ≤ sizeLine) (defaults : d.params.defaults = []) (room : Room k callerA) (hY : ∀ (w : World) (h : Heap), YP w h → (K w.params).In h)
    (F : ∀ (w : World) (mg : Str → Option Value) (fa : Addr) (h : Heap), (K w.params).In h → h.Ns mainGlobals mg → mg d.name = some (.ref fa) → (∀ (d' : DefRec) (y : Str) (c P : Addr), (recsOf q).find? (fun e => e.name == y) = some d' → PySem.W.tabIn (K w.params) y = some (c, P) → PySem.W.CodeHd h c P ∧ h.get? P = some emptyTab) →
      ∃ (fd : FuncData) (c T : Addr) (sp : Sp), PySem.W.CodeHd h c T ∧ h.get? T = some emptyTab ∧ (K w.params).lookup T = none ∧ (∀ (s : Shared) (u : Value), BindsTo s fd ⟨[u], []⟩ [(x, u)]) ∧
        (∀ (H : Hp) (a : Addr) (ns : List Int), ns.length ≤ n → H T = some (.tbl #[]) → SqL (K w.params) H a (ns.map V.int) → sp [.ref a] H (fun v _ => v = .bl true) E0) ∧
        ∀ base : Heap, (K w.params).In base → base.Ns mainGlobals mg → (∃ mm, base.Ns sysModules mm) → LamX.TabB base mg c T → FnG l.prog w (K w.params) mg base k fa fd [x] sp) :
    PySem.W.WalkO q loose XP YP l.row.toRowW d [] (fun f vs => PySem.call f vs) := by
  apply Att.attach_call most defaults
  intro w s₀ s₁ mg mb fa o pm cd doc a vs ns G Y ho hd hcd hmg hobj hints hlen hg
  obtain ⟨fd, c, T, sp, code, tab, noT, hb, want, hF⟩ := F w mg fa _ (hY w _ Y) G.T.g hmg fun d' y c P h1 h2 => PySem.W.tab_of G.T (hY w _ Y) h1 h2
  exact quiet_lawT (hY w _ Y) G.T.g G.T.b G.T.builtins G.T.nolimit hg ((G.T.seer noImport).mods.elim fun mm h => ⟨mm, h.1⟩) tab noT code G.T.bmain hobj hints (Nat.le_trans hlen n2) room hF hb fun H o1 s1 => want H a ns hlen o1 s1
theorem tabIn_of {K : PySem.W.Frag} {y : Str} {f cc T : Addr} {o1 p1 : Value} {o2 p2 : Option Addr} {fd : FuncData} {vs : Array Value} {o3 p3 : Array (Option Value)} (a : PySem.W.nsIn K mainGlobals y = some (some (.ref f))) (l : K.lookup f = some ⟨o1, o2, .func fd, o3⟩) (e : fd.code = .ref cc)
    (c : K.lookup cc = some ⟨p1, p2, .fields vs, p3⟩) (v : (vs[11]? : Option Value) = some (.ref T)) : PySem.W.tabIn K y = some (cc, T) := by
  unfold PySem.W.tabIn
  rw [a]
  simp only [l, e, c, v]
theorem endT {l : PySem.W.OpenLaw} {w : World} {K : PySem.W.Frag} {mg : Str → Option Value} {h : Heap} {q : Program} {k n : Nat} {fa : Addr} {x y : Str} {sp : Sp} {f cc T : Addr} {o1 p1 : Value} {o2 p2 : Option Addr} {fdm : FuncData} {vs : Array Value} {o3 p3 : Array (Option Value)}
    (tabOf : ∀ (d' : DefRec) (y : Str) (c P : Addr), (recsOf q).find? (fun e => e.name == y) = some d' → PySem.W.tabIn K y = some (c, P) → PySem.W.CodeHd h c P ∧ h.get? P = some emptyTab)
    (a : PySem.W.nsIn K mainGlobals y = some (some (.ref f))) (lk : K.lookup f = some ⟨o1, o2, .func fdm, o3⟩) (e : fdm.code = .ref cc) (c : K.lookup cc = some ⟨p1, p2, .fields vs, p3⟩) (v : (vs[11]? : Option Value) = some (.ref T))
    (there : ((recsOf q).find? fun e => e.name == y).isSome = true) (noT : (K.lookup T).isNone = true)
    (all : ∃ fd : FuncData, (∀ (s : Shared) (v : Value), BindsTo s fd ⟨[v], []⟩ [(x, v)]) ∧ ∀ base : Heap, K.In base → base.Ns mainGlobals mg → (∃ mm, base.Ns sysModules mm) → LamX.TabB base mg cc T → FnG l.prog w K mg base k fa fd [x] sp)
    (want : ∀ (H : Hp) (a : Addr) (ns : List Int), ns.length ≤ n → H T = some (.tbl #[]) → SqL K H a (ns.map V.int) → sp [.ref a] H (fun v _ => v = .bl true) E0) :
    ∃ (fd : FuncData) (c T : Addr) (sp : Sp), PySem.W.CodeHd h c T ∧ h.get? T = some emptyTab ∧ K.lookup T = none ∧ (∀ (s : Shared) (u : Value), BindsTo s fd ⟨[u], []⟩ [(x, u)]) ∧
        (∀ (H : Hp) (a : Addr) (ns : List Int), ns.length ≤ n → H T = some (.tbl #[]) → SqL K H a (ns.map V.int) → sp [.ref a] H (fun v _ => v = .bl true) E0) ∧
        ∀ base : Heap, K.In base → base.Ns mainGlobals mg → (∃ mm, base.Ns sysModules mm) → LamX.TabB base mg c T → FnG l.prog w K mg base k fa fd [x] sp := by
  obtain ⟨fd, b, F⟩ := all
  obtain ⟨d', hd⟩ := Option.isSome_iff_exists.mp there
  obtain ⟨code, tab⟩ := tabOf d' y cc T hd (tabIn_of a lk e c v)
  exact ⟨fd, cc, T, sp, code, tab, Option.isNone_iff_eq_none.mp noT, b, want, F⟩

/-! ### the def that makes a lambda: its code object, the table at P -/
abbrev TabH (base : Heap) (mg : Str → Option Value) (fd : FuncData) (P : Addr) : Prop := ∃ c, LamX.TabB base mg c P ∧ fd.code = .ref c
theorem okC {P : Program} {w : World} {K : PySem.W.Frag} {mg : Str → Option Value} {base : Heap} {x qual : Str} {st : Stmt} {f : Addr} {fd : FuncData} {N ps : List Str} {k : Nat} {sp : Sp} (F : Fun K x qual st f fd) (S : FnScope N ps (defScope st)) (len : ∀ vs H Q E, sp vs H Q E → vs.length = ps.length)
    (body : ∀ (cdv : Value), fd.code = cdv → ∀ (A : Around) (outer : List Env) (s : Shared) (H : Hp) (vs : List V) (Q : VK) (E : XK), Room k (A.deeper (envOfC qual (defScope st) s.heap.objs.size f cdv)) → sp vs H Q E →
      ∃ t, PSs (cxOf CX0 P w K mg base N qual (defScope st) f cdv A outer s H E).nox (defBody st) t ∧ t { nx := fun _ H' => Q .non H', rt := Q } (start N vs) H) : FnOk P w K mg base CX0 (k + 1) f fd ps sp := by
  obtain ⟨oc, od, kV, doc, pm, an, cdv, ct, osl, e, look, code⟩ := F.ex
  subst e
  refine fn_of look code S len fun A outer s H vs Q E room want => ?_
  obtain ⟨t, ht, hq⟩ := body cdv rfl A outer s H vs Q E room want
  exact ⟨t, ht.nox, hq⟩

def topS (i : Nat) : Stmt := PySem.Challenge.pw_fewspans_k55_unknown_commands.main.body.getD i (.Pass ⟨0, 0, 0, 0⟩)
abbrev s_is_number : Stmt := topS 23
abbrev N_is_number : List Str := ["value"]
theorem sc_is_number : FnScope N_is_number ["value"] (defScope s_is_number) := ⟨rfl, rfl, rfl, by decide +kernel, rfl, by decide +kernel, by decide +kernel⟩
abbrev s_is_position : Stmt := topS 24
abbrev N_is_position : List Str := ["value"]
theorem sc_is_position : FnScope N_is_position ["value"] (defScope s_is_position) := ⟨rfl, rfl, rfl, by decide +kernel, rfl, by decide +kernel, by decide +kernel⟩
abbrev s_is_tuple_of : Stmt := topS 25
abbrev N_is_tuple_of : List Str := ["value", "length"]
theorem sc_is_tuple_of : FnScope N_is_tuple_of ["value", "length"] (defScope s_is_tuple_of) := ⟨rfl, rfl, rfl, by decide +kernel, rfl, by decide +kernel, by decide +kernel⟩
abbrev s_is_interval : Stmt := topS 26
abbrev N_is_interval : List Str := ["value", "low", "high"]
theorem sc_is_interval : FnScope N_is_interval ["value"] (defScope s_is_interval) := ⟨rfl, rfl, rfl, by decide +kernel, rfl, by decide +kernel, by decide +kernel⟩
abbrev s_ascending_error : Stmt := topS 27
abbrev N_ascending_error : List Str := ["value", "most", "index", "item"]
theorem sc_ascending_error : FnScope N_ascending_error ["value", "most"] (defScope s_ascending_error) := ⟨rfl, rfl, rfl, by decide +kernel, rfl, by decide +kernel, by decide +kernel⟩
abbrev s_targets_error : Stmt := topS 28
abbrev N_targets_error : List Str := ["value"]
theorem sc_targets_error : FnScope N_targets_error ["value"] (defScope s_targets_error) := ⟨rfl, rfl, rfl, by decide +kernel, rfl, by decide +kernel, by decide +kernel⟩
abbrev s_is_pieces : Stmt := topS 29
abbrev N_is_pieces : List Str := ["value"]
theorem sc_is_pieces : FnScope N_is_pieces ["value"] (defScope s_is_pieces) := ⟨rfl, rfl, rfl, by decide +kernel, rfl, by decide +kernel, by decide +kernel⟩
abbrev s_interval_text : Stmt := topS 33
abbrev N_interval_text : List Str := ["interval", "low", "high"]
theorem sc_interval_text : FnScope N_interval_text ["interval"] (defScope s_interval_text) := ⟨rfl, rfl, rfl, by decide +kernel, rfl, by decide +kernel, by decide +kernel⟩
abbrev s_joined_texts : Stmt := topS 34
abbrev N_joined_texts : List Str := ["texts"]
theorem sc_joined_texts : FnScope N_joined_texts ["texts"] (defScope s_joined_texts) := ⟨rfl, rfl, rfl, by decide +kernel, rfl, by decide +kernel, by decide +kernel⟩
abbrev s_intervals_text : Stmt := topS 35
abbrev N_intervals_text : List Str := ["intervals", "interval"]
theorem sc_intervals_text : FnScope N_intervals_text ["intervals"] (defScope s_intervals_text) := ⟨rfl, rfl, rfl, by decide +kernel, rfl, by decide +kernel, by decide +kernel⟩
abbrev s_demand_text : Stmt := topS 36
abbrev N_demand_text : List Str := ["demand", "position", "target"]
theorem sc_demand_text : FnScope N_demand_text ["demand"] (defScope s_demand_text) := ⟨rfl, rfl, rfl, by decide +kernel, rfl, by decide +kernel, by decide +kernel⟩
abbrev s_parse_number : Stmt := topS 37
abbrev N_parse_number : List Str := ["text", "number"]
theorem sc_parse_number : FnScope N_parse_number ["text"] (defScope s_parse_number) := ⟨rfl, rfl, rfl, by decide +kernel, rfl, by decide +kernel, by decide +kernel⟩
abbrev s_parse_interval : Stmt := topS 38
abbrev N_parse_interval : List Str := ["word", "low", "hyphen", "high", "interval"]
theorem sc_parse_interval : FnScope N_parse_interval ["word"] (defScope s_parse_interval) := ⟨rfl, rfl, rfl, by decide +kernel, rfl, by decide +kernel, by decide +kernel⟩
abbrev s_edit_version : Stmt := topS 40
abbrev N_edit_version : List Str := ["plan", "word", "interval"]
theorem sc_edit_version : FnScope N_edit_version ["plan", "word", "interval"] (defScope s_edit_version) := ⟨rfl, rfl, rfl, by decide +kernel, rfl, by decide +kernel, by decide +kernel⟩
abbrev s_edit_answer : Stmt := topS 41
abbrev N_edit_answer : List Str := ["plan", "line", "word", "space", "rest", "interval", "version"]
theorem sc_edit_answer : FnScope N_edit_answer ["plan", "line"] (defScope s_edit_answer) := ⟨rfl, rfl, rfl, by decide +kernel, rfl, by decide +kernel, by decide +kernel⟩
abbrev s_state_answer : Stmt := topS 42
abbrev N_state_answer : List Str := ["plan", "word", "demand"]
theorem sc_state_answer : FnScope N_state_answer ["plan", "word"] (defScope s_state_answer) := ⟨rfl, rfl, rfl, by decide +kernel, rfl, by decide +kernel, by decide +kernel⟩
abbrev s_count_answer : Stmt := topS 43
abbrev N_count_answer : List Str := ["plan", "word", "demand", "change"]
theorem sc_count_answer : FnScope N_count_answer ["plan", "word"] (defScope s_count_answer) := ⟨rfl, rfl, rfl, by decide +kernel, rfl, by decide +kernel, by decide +kernel⟩
abbrev s_answer_line : Stmt := topS 44
abbrev N_answer_line : List Str := ["plan", "line"]
theorem sc_answer_line : FnScope N_answer_line ["plan", "line"] (defScope s_answer_line) := ⟨rfl, rfl, rfl, by decide +kernel, rfl, by decide +kernel, by decide +kernel⟩
abbrev s_without_item : Stmt := topS 50
abbrev N_without_item : List Str := ["items", "item", "other"]
theorem sc_without_item : FnScope N_without_item ["items", "item"] (defScope s_without_item) := ⟨rfl, rfl, rfl, by decide +kernel, rfl, by decide +kernel, by decide +kernel⟩
abbrev s_with_interval : Stmt := topS 55
abbrev N_with_interval : List Str := ["intervals", "value", "bound"]
theorem sc_with_interval : FnScope N_with_interval ["intervals", "value", "bound"] (defScope s_with_interval) := ⟨rfl, rfl, rfl, by decide +kernel, rfl, by decide +kernel, by decide +kernel⟩
abbrev s_without_interval : Stmt := topS 56
abbrev N_without_interval : List Str := ["intervals", "value"]
theorem sc_without_interval : FnScope N_without_interval ["intervals", "value"] (defScope s_without_interval) := ⟨rfl, rfl, rfl, by decide +kernel, rfl, by decide +kernel, by decide +kernel⟩
abbrev s_edited_state : Stmt := topS 57
abbrev N_edited_state : List Str := ["state", "word", "value", "targets", "pieces"]
theorem sc_edited_state : FnScope N_edited_state ["state", "word", "value"] (defScope s_edited_state) := ⟨rfl, rfl, rfl, by decide +kernel, rfl, by decide +kernel, by decide +kernel⟩
abbrev s_helpful_piece : Stmt := topS 73
abbrev N_helpful_piece : List Str := ["demands", "blocks", "pieces", "low", "end", "start", "high"]
theorem sc_helpful_piece : FnScope N_helpful_piece ["demands", "blocks"] (defScope s_helpful_piece) := ⟨rfl, rfl, rfl, by decide +kernel, rfl, by decide +kernel, by decide +kernel⟩
abbrev s_law_deck : Stmt := topS 80
abbrev N_law_deck : List Str := ["_law_script", "_law_cell"]
theorem sc_law_deck : FnScope N_law_deck ["_law_script"] (defScope s_law_deck) := ⟨rfl, rfl, rfl, by decide +kernel, rfl, by decide +kernel, by decide +kernel⟩
abbrev s_law_draw : Stmt := topS 81
abbrev N_law_draw : List Str := ["_law_deck_here", "_law_many", "_law_cell", "_law_place"]
theorem sc_law_draw : FnScope N_law_draw ["_law_deck_here", "_law_many"] (defScope s_law_draw) := ⟨rfl, rfl, rfl, by decide +kernel, rfl, by decide +kernel, by decide +kernel⟩
abbrev s_law_same : Stmt := topS 82
abbrev N_law_same : List Str := ["_law_found", "_law_due", "_law_one", "_law_other"]
theorem sc_law_same : FnScope N_law_same ["_law_found", "_law_due"] (defScope s_law_same) := ⟨rfl, rfl, rfl, by decide +kernel, rfl, by decide +kernel, by decide +kernel⟩
abbrev s_law_small : Stmt := topS 83
abbrev N_law_small : List Str := ["_law_deck_here", "_law_most", "_law_span", "_law_found", "_law_k", "_law_low"]
theorem sc_law_small : FnScope N_law_small ["_law_deck_here", "_law_most", "_law_span"] (defScope s_law_small) := ⟨rfl, rfl, rfl, by decide +kernel, rfl, by decide +kernel, by decide +kernel⟩
abbrev s_law_odd : Stmt := topS 84
abbrev N_law_odd : List Str := ["_law_deck_here", "_law_some"]
theorem sc_law_odd : FnScope N_law_odd ["_law_deck_here"] (defScope s_law_odd) := ⟨rfl, rfl, rfl, by decide +kernel, rfl, by decide +kernel, by decide +kernel⟩
abbrev s_law_text : Stmt := topS 85
abbrev N_law_text : List Str := ["_law_intervals", "_law_low", "_law_high"]
theorem sc_law_text : FnScope N_law_text ["_law_intervals"] (defScope s_law_text) := ⟨rfl, rfl, rfl, by decide +kernel, rfl, by decide +kernel, by decide +kernel⟩
abbrev s_law_lines : Stmt := topS 86
abbrev N_law_lines : List Str := ["_law_word", "_law_good", "_law_found", "_law_line", "_law_verb"]
theorem sc_law_lines : FnScope N_law_lines ["_law_word"] (defScope s_law_lines) := ⟨rfl, rfl, rfl, by decide +kernel, rfl, by decide +kernel, by decide +kernel⟩
abbrev s_law : Stmt := topS 87
abbrev N_law : List Str := ["_law_script", "_law_deck_here", "_law_targets", "_law_plan", "_law_other", "_law_shell", "_law_word", "_law_line"]
theorem sc_law : FnScope N_law ["_law_script"] (defScope s_law) := ⟨rfl, rfl, rfl, by decide +kernel, rfl, by decide +kernel, by decide +kernel⟩
abbrev s_Shell_init : Stmt := inClass (topS 45) 0
abbrev N_Shell_init : List Str := ["self", "plan"]
theorem sc_Shell_init : FnScope N_Shell_init ["self", "plan"] (defScope s_Shell_init) := ⟨rfl, rfl, rfl, by decide +kernel, rfl, by decide +kernel, by decide +kernel⟩
abbrev s_Shell_execute : Stmt := inClass (topS 45) 1
abbrev N_Shell_execute : List Str := ["self", "line"]
theorem sc_Shell_execute : FnScope N_Shell_execute ["self", "line"] (defScope s_Shell_execute) := ⟨rfl, rfl, rfl, by decide +kernel, rfl, by decide +kernel, by decide +kernel⟩
abbrev s_Plan_init : Stmt := inClass (topS 78) 0
abbrev N_Plan_init : List Str := ["self", "targets", "pieces", "error"]
theorem sc_Plan_init : FnScope N_Plan_init ["self", "targets", "pieces"] (defScope s_Plan_init) := ⟨rfl, rfl, rfl, by decide +kernel, rfl, by decide +kernel, by decide +kernel⟩
abbrev s_Plan_add_target : Stmt := inClass (topS 78) 1
abbrev N_Plan_add_target : List Str := ["self", "interval"]
theorem sc_Plan_add_target : FnScope N_Plan_add_target ["self", "interval"] (defScope s_Plan_add_target) := ⟨rfl, rfl, rfl, by decide +kernel, rfl, by decide +kernel, by decide +kernel⟩
abbrev s_Plan_add_piece : Stmt := inClass (topS 78) 2
abbrev N_Plan_add_piece : List Str := ["self", "interval"]
theorem sc_Plan_add_piece : FnScope N_Plan_add_piece ["self", "interval"] (defScope s_Plan_add_piece) := ⟨rfl, rfl, rfl, by decide +kernel, rfl, by decide +kernel, by decide +kernel⟩
abbrev s_Plan_remove_target : Stmt := inClass (topS 78) 3
abbrev N_Plan_remove_target : List Str := ["self", "interval"]
theorem sc_Plan_remove_target : FnScope N_Plan_remove_target ["self", "interval"] (defScope s_Plan_remove_target) := ⟨rfl, rfl, rfl, by decide +kernel, rfl, by decide +kernel, by decide +kernel⟩
abbrev s_Plan_remove_piece : Stmt := inClass (topS 78) 4
abbrev N_Plan_remove_piece : List Str := ["self", "interval"]
theorem sc_Plan_remove_piece : FnScope N_Plan_remove_piece ["self", "interval"] (defScope s_Plan_remove_piece) := ⟨rfl, rfl, rfl, by decide +kernel, rfl, by decide +kernel, by decide +kernel⟩
abbrev s_Plan_undo : Stmt := inClass (topS 78) 5
abbrev N_Plan_undo : List Str := ["self"]
theorem sc_Plan_undo : FnScope N_Plan_undo ["self"] (defScope s_Plan_undo) := ⟨rfl, rfl, rfl, by decide +kernel, rfl, by decide +kernel, by decide +kernel⟩
abbrev s_Plan_targets : Stmt := inClass (topS 78) 7
abbrev N_Plan_targets : List Str := ["self", "version"]
theorem sc_Plan_targets : FnScope N_Plan_targets ["self", "version"] (defScope s_Plan_targets) := ⟨rfl, rfl, rfl, by decide +kernel, rfl, by decide +kernel, by decide +kernel⟩
abbrev s_Plan_pieces : Stmt := inClass (topS 78) 8
abbrev N_Plan_pieces : List Str := ["self", "version"]
theorem sc_Plan_pieces : FnScope N_Plan_pieces ["self", "version"] (defScope s_Plan_pieces) := ⟨rfl, rfl, rfl, by decide +kernel, rfl, by decide +kernel, by decide +kernel⟩
abbrev s_Plan_needed : Stmt := inClass (topS 78) 9
abbrev N_Plan_needed : List Str := ["self", "version", "targets", "pieces"]
theorem sc_Plan_needed : FnScope N_Plan_needed ["self", "version"] (defScope s_Plan_needed) := ⟨rfl, rfl, rfl, by decide +kernel, rfl, by decide +kernel, by decide +kernel⟩
abbrev s_Plan_solution : Stmt := inClass (topS 78) 10
abbrev N_Plan_solution : List Str := ["self", "version", "targets", "pieces"]
theorem sc_Plan_solution : FnScope N_Plan_solution ["self", "version"] (defScope s_Plan_solution) := ⟨rfl, rfl, rfl, by decide +kernel, rfl, by decide +kernel, by decide +kernel⟩
abbrev s_Plan_missing : Stmt := inClass (topS 78) 11
abbrev N_Plan_missing : List Str := ["self", "version", "targets", "pieces"]
theorem sc_Plan_missing : FnScope N_Plan_missing ["self", "version"] (defScope s_Plan_missing) := ⟨rfl, rfl, rfl, by decide +kernel, rfl, by decide +kernel, by decide +kernel⟩
abbrev s_Plan_changes : Stmt := inClass (topS 78) 13
abbrev N_Plan_changes : List Str := ["self", "counts", "targets", "pieces", "before", "after"]
theorem sc_Plan_changes : FnScope N_Plan_changes ["self"] (defScope s_Plan_changes) := ⟨rfl, rfl, rfl, by decide +kernel, rfl, by decide +kernel, by decide +kernel⟩
abbrev s_Plan_edit : Stmt := inClass (topS 78) 14
abbrev N_Plan_edit : List Str := ["self", "word", "value"]
theorem sc_Plan_edit : FnScope N_Plan_edit ["self", "word", "value"] (defScope s_Plan_edit) := ⟨rfl, rfl, rfl, by decide +kernel, rfl, by decide +kernel, by decide +kernel⟩
abbrev s_Plan_record : Stmt := inClass (topS 78) 15
abbrev N_Plan_record : List Str := ["self", "word", "value", "state"]
theorem sc_Plan_record : FnScope N_Plan_record ["self", "word", "value"] (defScope s_Plan_record) := ⟨rfl, rfl, rfl, by decide +kernel, rfl, by decide +kernel, by decide +kernel⟩
abbrev s_Plan_require_idle : Stmt := inClass (topS 78) 18
abbrev N_Plan_require_idle : List Str := ["self"]
theorem sc_Plan_require_idle : FnScope N_Plan_require_idle ["self"] (defScope s_Plan_require_idle) := ⟨rfl, rfl, rfl, by decide +kernel, rfl, by decide +kernel, by decide +kernel⟩
abbrev s_Plan_state_at : Stmt := inClass (topS 78) 19
abbrev N_Plan_state_at : List Str := ["self", "version"]
theorem sc_Plan_state_at : FnScope N_Plan_state_at ["self", "version"] (defScope s_Plan_state_at) := ⟨rfl, rfl, rfl, by decide +kernel, rfl, by decide +kernel, by decide +kernel⟩
abbrev s_Plan_len : Stmt := inClass (topS 78) 20
abbrev N_Plan_len : List Str := ["self"]
theorem sc_Plan_len : FnScope N_Plan_len ["self"] (defScope s_Plan_len) := ⟨rfl, rfl, rfl, by decide +kernel, rfl, by decide +kernel, by decide +kernel⟩
abbrev s_Plan_eq : Stmt := inClass (topS 78) 22
abbrev N_Plan_eq : List Str := ["self", "other"]
theorem sc_Plan_eq : FnScope N_Plan_eq ["self", "other"] (defScope s_Plan_eq) := ⟨rfl, rfl, rfl, by decide +kernel, rfl, by decide +kernel, by decide +kernel⟩
/-! ### the deck and its draws -/
structure Dk (H : Hp) (d c : Addr) (n : Int) : Prop where
  top : H d = some (.lst [.ref c, .int n])
  cells : ∃ xs : List Int, H c = some (.lst (xs.map V.int)) ∧ xs.length ≤ 63 ∧ ∀ x ∈ xs, 0 ≤ x
theorem Dk.ne {H : Hp} {d c : Addr} {n : Int} (h : Dk H d c n) : c ≠ d := by
  obtain ⟨xs, e, _⟩ := h.cells
  intro z
  subst z
  have q := e.symm.trans h.top
  cases xs with
  | nil => cases q
  | cons x r => cases q
/-- nothing but the deck has changed -/
def Kp (d c : Addr) (H H' : Hp) : Prop := ∀ b o, b ≠ d → b ≠ c → H b = some o → H' b = some o
theorem Kp.trans {d c : Addr} {H H1 H2 : Hp} (h1 : Kp d c H H1) (h2 : Kp d c H1 H2) : Kp d c H H2 := fun b o n1 n2 e => h2 b o n1 n2 (h1 b o n1 n2 e)
theorem Kp.same {d c : Addr} {H H1 : Hp} (h : Same H H1) : Kp d c H H1 := fun b o _ _ e => h b o e
theorem Kp.none {d c : Addr} {H H' : Hp} (k : Kp d c H H') {n m : Int} (h : Dk H d c n) (h' : Dk H' d c m) {t : Addr} (e : H' t = none) : H t = none := by
  by_cases e1 : t = d
  · rw [e1, h'.top] at e
    cases e
  · by_cases e2 : t = c
    · obtain ⟨xs, z, _⟩ := h'.cells
      rw [e2, z] at e
      cases e
    · cases q : H t with
      | none => rfl
      | some o =>
        rw [k t o e1 e2 q] at e
        cases e
theorem Dk.kept {H H' : Hp} {d c : Addr} {n : Int} (h : Dk H d c n) (s : Same H H') : Dk H' d c n :=
  let ⟨xs, e, a⟩ := h.cells
  ⟨s _ _ h.top, xs, s _ _ e, a⟩
theorem Dk.eq {H : Hp} {d c : Addr} {n m : Int} (h : Dk H d c n) (e : n = m) : Dk H d c m := e ▸ h
def sp_law_deck (K : PySem.W.Frag) : Sp := fun vs H Q _ => ∃ (a : Addr) (ns : List Int), vs = [.ref a] ∧ SqL K H a (ns.map V.int) ∧ ns.length ≤ 63 ∧
  ∀ H' d c, Same H H' → H d = none → H c = none → Dk H' d c 0 → Q (.ref d) H'
def sp_law_draw : Sp := fun vs H Q _ => ∃ (d c : Addr) (n lim : Int), vs = [.ref d, .int lim] ∧ Dk H d c n ∧ 0 ≤ n ∧ n < 1000000 ∧ 0 < lim ∧ lim < 2 ^ 63 ∧
  ∀ H' r, Kp d c H H' → Dk H' d c (n + 1) → 0 ≤ r → r < lim → Q (.int r) H'
theorem same_new {H : Hp} {p : Addr} {o : HO} (h : H p = none) : Same H (upd H p o) := fun b x e => by
  rw [upd_ne (ne_of_none e h)]
  exact e
theorem cutTo (xs : List V) (j : Nat) : cutV xs none (some (j : Int)) = xs.take j := by
  unfold cutV
  rw [HT.sIx_none, show HT.sIx xs.length xs.length (some (j : Int)) = min j xs.length from HT.sIx_nat xs.length xs.length j]
  rw [Nat.sub_zero, List.drop_zero]
  rcases Nat.le_total j xs.length with h | h
  · rw [Nat.min_eq_left h]
  · rw [Nat.min_eq_right h, List.take_length, List.take_of_length_le h]
section
structure Tx (K : PySem.W.Frag) (mg : Str → Option Value) (f_is_number f_is_position f_is_tuple_of f_is_interval f_ascending_error f_targets_error f_is_pieces f_interval_text f_joined_texts f_intervals_text f_demand_text f_parse_number f_parse_interval f_edit_version f_edit_answer f_state_answer f_count_answer f_answer_line f_without_item f_with_interval f_without_interval f_edited_state f_helpful_piece f_law_deck f_law_draw f_law_same f_law_small f_law_odd f_law_text f_law_lines f_law f_Shell_init f_Shell_execute f_Plan_init f_Plan_add_target f_Plan_add_piece f_Plan_remove_target f_Plan_remove_piece f_Plan_undo f_Plan_targets f_Plan_pieces f_Plan_needed f_Plan_solution f_Plan_missing f_Plan_changes f_Plan_edit f_Plan_record f_Plan_require_idle f_Plan_state_at f_Plan_len f_Plan_eq C_Shell C_Plan X_NothingToUndo X_Busy X_TooManyEdits X_Duplicate X_TooMany X_Unknown X_TooWide : Addr) (d_is_number d_is_position d_is_tuple_of d_is_interval d_ascending_error d_targets_error d_is_pieces d_interval_text d_joined_texts d_intervals_text d_demand_text d_parse_number d_parse_interval d_edit_version d_edit_answer d_state_answer d_count_answer d_answer_line d_without_item d_with_interval d_without_interval d_edited_state d_helpful_piece d_law_deck d_law_draw d_law_same d_law_small d_law_odd d_law_text d_law_lines d_law d_Shell_init d_Shell_execute d_Plan_init d_Plan_add_target d_Plan_add_piece d_Plan_remove_target d_Plan_remove_piece d_Plan_undo d_Plan_targets d_Plan_pieces d_Plan_needed d_Plan_solution d_Plan_missing d_Plan_changes d_Plan_edit d_Plan_record d_Plan_require_idle d_Plan_state_at d_Plan_len d_Plan_eq : FuncData) (t_LAST_POSITION t_MAX_TARGETS t_MAX_PIECES t_MAX_BLOCKS t_MAX_EDITS t_BATCH : Tok) : Prop where
  F_is_number : Fun K "is_number" "is_number" s_is_number f_is_number d_is_number
  b_is_number : Binds K d_is_number ["value"] []
  g_is_number : mg "is_number" = some (.ref f_is_number)
  F_is_position : Fun K "is_position" "is_position" s_is_position f_is_position d_is_position
  b_is_position : Binds K d_is_position ["value"] []
  g_is_position : mg "is_position" = some (.ref f_is_position)
  F_is_tuple_of : Fun K "is_tuple_of" "is_tuple_of" s_is_tuple_of f_is_tuple_of d_is_tuple_of
  b_is_tuple_of : Binds K d_is_tuple_of ["value", "length"] []
  g_is_tuple_of : mg "is_tuple_of" = some (.ref f_is_tuple_of)
  F_is_interval : Fun K "is_interval" "is_interval" s_is_interval f_is_interval d_is_interval
  b_is_interval : Binds K d_is_interval ["value"] []
  g_is_interval : mg "is_interval" = some (.ref f_is_interval)
  F_ascending_error : Fun K "ascending_error" "ascending_error" s_ascending_error f_ascending_error d_ascending_error
  b_ascending_error : Binds K d_ascending_error ["value", "most"] []
  g_ascending_error : mg "ascending_error" = some (.ref f_ascending_error)
  F_targets_error : Fun K "targets_error" "targets_error" s_targets_error f_targets_error d_targets_error
  b_targets_error : Binds K d_targets_error ["value"] []
  g_targets_error : mg "targets_error" = some (.ref f_targets_error)
  F_is_pieces : Fun K "is_pieces" "is_pieces" s_is_pieces f_is_pieces d_is_pieces
  b_is_pieces : Binds K d_is_pieces ["value"] []
  g_is_pieces : mg "is_pieces" = some (.ref f_is_pieces)
  F_interval_text : Fun K "interval_text" "interval_text" s_interval_text f_interval_text d_interval_text
  b_interval_text : Binds K d_interval_text ["interval"] []
  g_interval_text : mg "interval_text" = some (.ref f_interval_text)
  F_joined_texts : Fun K "joined_texts" "joined_texts" s_joined_texts f_joined_texts d_joined_texts
  b_joined_texts : Binds K d_joined_texts ["texts"] []
  g_joined_texts : mg "joined_texts" = some (.ref f_joined_texts)
  F_intervals_text : Fun K "intervals_text" "intervals_text" s_intervals_text f_intervals_text d_intervals_text
  b_intervals_text : Binds K d_intervals_text ["intervals"] []
  g_intervals_text : mg "intervals_text" = some (.ref f_intervals_text)
  F_demand_text : Fun K "demand_text" "demand_text" s_demand_text f_demand_text d_demand_text
  b_demand_text : Binds K d_demand_text ["demand"] []
  g_demand_text : mg "demand_text" = some (.ref f_demand_text)
  F_parse_number : Fun K "parse_number" "parse_number" s_parse_number f_parse_number d_parse_number
  b_parse_number : Binds K d_parse_number ["text"] []
  g_parse_number : mg "parse_number" = some (.ref f_parse_number)
  F_parse_interval : Fun K "parse_interval" "parse_interval" s_parse_interval f_parse_interval d_parse_interval
  b_parse_interval : Binds K d_parse_interval ["word"] []
  g_parse_interval : mg "parse_interval" = some (.ref f_parse_interval)
  F_edit_version : Fun K "edit_version" "edit_version" s_edit_version f_edit_version d_edit_version
  b_edit_version : Binds K d_edit_version ["plan", "word", "interval"] []
  g_edit_version : mg "edit_version" = some (.ref f_edit_version)
  F_edit_answer : Fun K "edit_answer" "edit_answer" s_edit_answer f_edit_answer d_edit_answer
  b_edit_answer : Binds K d_edit_answer ["plan", "line"] []
  g_edit_answer : mg "edit_answer" = some (.ref f_edit_answer)
  F_state_answer : Fun K "state_answer" "state_answer" s_state_answer f_state_answer d_state_answer
  b_state_answer : Binds K d_state_answer ["plan", "word"] []
  g_state_answer : mg "state_answer" = some (.ref f_state_answer)
  F_count_answer : Fun K "count_answer" "count_answer" s_count_answer f_count_answer d_count_answer
  b_count_answer : Binds K d_count_answer ["plan", "word"] []
  g_count_answer : mg "count_answer" = some (.ref f_count_answer)
  F_answer_line : Fun K "answer_line" "answer_line" s_answer_line f_answer_line d_answer_line
  b_answer_line : Binds K d_answer_line ["plan", "line"] []
  g_answer_line : mg "answer_line" = some (.ref f_answer_line)
  F_without_item : Fun K "without_item" "without_item" s_without_item f_without_item d_without_item
  b_without_item : Binds K d_without_item ["items", "item"] []
  g_without_item : mg "without_item" = some (.ref f_without_item)
  F_with_interval : Fun K "with_interval" "with_interval" s_with_interval f_with_interval d_with_interval
  b_with_interval : Binds K d_with_interval ["intervals", "value", "bound"] []
  g_with_interval : mg "with_interval" = some (.ref f_with_interval)
  F_without_interval : Fun K "without_interval" "without_interval" s_without_interval f_without_interval d_without_interval
  b_without_interval : Binds K d_without_interval ["intervals", "value"] []
  g_without_interval : mg "without_interval" = some (.ref f_without_interval)
  F_edited_state : Fun K "edited_state" "edited_state" s_edited_state f_edited_state d_edited_state
  b_edited_state : Binds K d_edited_state ["state", "word", "value"] []
  g_edited_state : mg "edited_state" = some (.ref f_edited_state)
  F_helpful_piece : Fun K "helpful_piece" "helpful_piece" s_helpful_piece f_helpful_piece d_helpful_piece
  b_helpful_piece : Binds K d_helpful_piece ["demands", "blocks"] []
  g_helpful_piece : mg "helpful_piece" = some (.ref f_helpful_piece)
  F_law_deck : Fun K "_law_deck" "_law_deck" s_law_deck f_law_deck d_law_deck
  b_law_deck : Binds K d_law_deck ["_law_script"] []
  g_law_deck : mg "_law_deck" = some (.ref f_law_deck)
  F_law_draw : Fun K "_law_draw" "_law_draw" s_law_draw f_law_draw d_law_draw
  b_law_draw : Binds K d_law_draw ["_law_deck_here", "_law_many"] []
  g_law_draw : mg "_law_draw" = some (.ref f_law_draw)
  F_law_same : Fun K "_law_same" "_law_same" s_law_same f_law_same d_law_same
  b_law_same : Binds K d_law_same ["_law_found", "_law_due"] []
  g_law_same : mg "_law_same" = some (.ref f_law_same)
  F_law_small : Fun K "_law_small" "_law_small" s_law_small f_law_small d_law_small
  b_law_small : Binds K d_law_small ["_law_deck_here", "_law_most", "_law_span"] []
  g_law_small : mg "_law_small" = some (.ref f_law_small)
  F_law_odd : Fun K "_law_odd" "_law_odd" s_law_odd f_law_odd d_law_odd
  b_law_odd : Binds K d_law_odd ["_law_deck_here"] []
  g_law_odd : mg "_law_odd" = some (.ref f_law_odd)
  F_law_text : Fun K "_law_text" "_law_text" s_law_text f_law_text d_law_text
  b_law_text : Binds K d_law_text ["_law_intervals"] []
  g_law_text : mg "_law_text" = some (.ref f_law_text)
  F_law_lines : Fun K "_law_lines" "_law_lines" s_law_lines f_law_lines d_law_lines
  b_law_lines : Binds K d_law_lines ["_law_word"] []
  g_law_lines : mg "_law_lines" = some (.ref f_law_lines)
  F_law : Fun K "law" "law" s_law f_law d_law
  b_law : Binds K d_law ["_law_script"] []
  g_law : mg "law" = some (.ref f_law)
  F_Shell_init : Fun K "__init__" "Shell.__init__" s_Shell_init f_Shell_init d_Shell_init
  b_Shell_init : Binds K d_Shell_init ["self", "plan"] []
  m_Shell_init : Meth K C_Shell "__init__" f_Shell_init
  F_Shell_execute : Fun K "execute" "Shell.execute" s_Shell_execute f_Shell_execute d_Shell_execute
  b_Shell_execute : Binds K d_Shell_execute ["self", "line"] []
  m_Shell_execute : Meth K C_Shell "execute" f_Shell_execute
  F_Plan_init : Fun K "__init__" "Plan.__init__" s_Plan_init f_Plan_init d_Plan_init
  b_Plan_init : Binds K d_Plan_init ["self", "targets", "pieces"] []
  m_Plan_init : Meth K C_Plan "__init__" f_Plan_init
  F_Plan_add_target : Fun K "add_target" "Plan.add_target" s_Plan_add_target f_Plan_add_target d_Plan_add_target
  b_Plan_add_target : Binds K d_Plan_add_target ["self", "interval"] []
  m_Plan_add_target : Meth K C_Plan "add_target" f_Plan_add_target
  F_Plan_add_piece : Fun K "add_piece" "Plan.add_piece" s_Plan_add_piece f_Plan_add_piece d_Plan_add_piece
  b_Plan_add_piece : Binds K d_Plan_add_piece ["self", "interval"] []
  m_Plan_add_piece : Meth K C_Plan "add_piece" f_Plan_add_piece
  F_Plan_remove_target : Fun K "remove_target" "Plan.remove_target" s_Plan_remove_target f_Plan_remove_target d_Plan_remove_target
  b_Plan_remove_target : Binds K d_Plan_remove_target ["self", "interval"] []
  m_Plan_remove_target : Meth K C_Plan "remove_target" f_Plan_remove_target
  F_Plan_remove_piece : Fun K "remove_piece" "Plan.remove_piece" s_Plan_remove_piece f_Plan_remove_piece d_Plan_remove_piece
  b_Plan_remove_piece : Binds K d_Plan_remove_piece ["self", "interval"] []
  m_Plan_remove_piece : Meth K C_Plan "remove_piece" f_Plan_remove_piece
  F_Plan_undo : Fun K "undo" "Plan.undo" s_Plan_undo f_Plan_undo d_Plan_undo
  b_Plan_undo : Binds K d_Plan_undo ["self"] []
  m_Plan_undo : Meth K C_Plan "undo" f_Plan_undo
  F_Plan_targets : FunD K "targets" "Plan.targets" (defArgs s_Plan_targets) (defBody s_Plan_targets) (defScope s_Plan_targets) [] [("version", V.non)] f_Plan_targets d_Plan_targets
  b_Plan_targets : ∃ ds, Vals [V.non] ds ∧ Binds K d_Plan_targets ["self", "version"] ds
  k_Plan_targets : KBn K d_Plan_targets ["self", "version"] 1 ["version"] (fun us ws => us ++ ws) (fun vs zs => vs ++ zs)
  m_Plan_targets : Meth K C_Plan "targets" f_Plan_targets
  F_Plan_pieces : FunD K "pieces" "Plan.pieces" (defArgs s_Plan_pieces) (defBody s_Plan_pieces) (defScope s_Plan_pieces) [] [("version", V.non)] f_Plan_pieces d_Plan_pieces
  b_Plan_pieces : ∃ ds, Vals [V.non] ds ∧ Binds K d_Plan_pieces ["self", "version"] ds
  k_Plan_pieces : KBn K d_Plan_pieces ["self", "version"] 1 ["version"] (fun us ws => us ++ ws) (fun vs zs => vs ++ zs)
  m_Plan_pieces : Meth K C_Plan "pieces" f_Plan_pieces
  F_Plan_needed : FunD K "needed" "Plan.needed" (defArgs s_Plan_needed) (defBody s_Plan_needed) (defScope s_Plan_needed) [] [("version", V.non)] f_Plan_needed d_Plan_needed
  b_Plan_needed : ∃ ds, Vals [V.non] ds ∧ Binds K d_Plan_needed ["self", "version"] ds
  k_Plan_needed : KBn K d_Plan_needed ["self", "version"] 1 ["version"] (fun us ws => us ++ ws) (fun vs zs => vs ++ zs)
  m_Plan_needed : Meth K C_Plan "needed" f_Plan_needed
  F_Plan_solution : FunD K "solution" "Plan.solution" (defArgs s_Plan_solution) (defBody s_Plan_solution) (defScope s_Plan_solution) [] [("version", V.non)] f_Plan_solution d_Plan_solution
  b_Plan_solution : ∃ ds, Vals [V.non] ds ∧ Binds K d_Plan_solution ["self", "version"] ds
  k_Plan_solution : KBn K d_Plan_solution ["self", "version"] 1 ["version"] (fun us ws => us ++ ws) (fun vs zs => vs ++ zs)
  m_Plan_solution : Meth K C_Plan "solution" f_Plan_solution
  F_Plan_missing : FunD K "missing" "Plan.missing" (defArgs s_Plan_missing) (defBody s_Plan_missing) (defScope s_Plan_missing) [] [("version", V.non)] f_Plan_missing d_Plan_missing
  b_Plan_missing : ∃ ds, Vals [V.non] ds ∧ Binds K d_Plan_missing ["self", "version"] ds
  k_Plan_missing : KBn K d_Plan_missing ["self", "version"] 1 ["version"] (fun us ws => us ++ ws) (fun vs zs => vs ++ zs)
  m_Plan_missing : Meth K C_Plan "missing" f_Plan_missing
  F_Plan_changes : Fun K "changes" "Plan.changes" s_Plan_changes f_Plan_changes d_Plan_changes
  b_Plan_changes : Binds K d_Plan_changes ["self"] []
  m_Plan_changes : Meth K C_Plan "changes" f_Plan_changes
  F_Plan_edit : Fun K "edit" "Plan.edit" s_Plan_edit f_Plan_edit d_Plan_edit
  b_Plan_edit : Binds K d_Plan_edit ["self", "word", "value"] []
  m_Plan_edit : Meth K C_Plan "edit" f_Plan_edit
  F_Plan_record : Fun K "record" "Plan.record" s_Plan_record f_Plan_record d_Plan_record
  b_Plan_record : Binds K d_Plan_record ["self", "word", "value"] []
  m_Plan_record : Meth K C_Plan "record" f_Plan_record
  F_Plan_require_idle : Fun K "require_idle" "Plan.require_idle" s_Plan_require_idle f_Plan_require_idle d_Plan_require_idle
  b_Plan_require_idle : Binds K d_Plan_require_idle ["self"] []
  m_Plan_require_idle : Meth K C_Plan "require_idle" f_Plan_require_idle
  F_Plan_state_at : Fun K "state_at" "Plan.state_at" s_Plan_state_at f_Plan_state_at d_Plan_state_at
  b_Plan_state_at : Binds K d_Plan_state_at ["self", "version"] []
  m_Plan_state_at : Meth K C_Plan "state_at" f_Plan_state_at
  F_Plan_len : Fun K "__len__" "Plan.__len__" s_Plan_len f_Plan_len d_Plan_len
  b_Plan_len : Binds K d_Plan_len ["self"] []
  m_Plan_len : Meth K C_Plan "__len__" f_Plan_len
  F_Plan_eq : Fun K "__eq__" "Plan.__eq__" s_Plan_eq f_Plan_eq d_Plan_eq
  b_Plan_eq : Binds K d_Plan_eq ["self", "other"] []
  m_Plan_eq : Meth K C_Plan "__eq__" f_Plan_eq
  c_LAST_POSITION : mg "LAST_POSITION" = some (.int 1000000000000 t_LAST_POSITION)
  c_MAX_TARGETS : mg "MAX_TARGETS" = some (.int 24 t_MAX_TARGETS)
  c_MAX_PIECES : mg "MAX_PIECES" = some (.int 30 t_MAX_PIECES)
  c_MAX_BLOCKS : mg "MAX_BLOCKS" = some (.int 8 t_MAX_BLOCKS)
  c_MAX_EDITS : mg "MAX_EDITS" = some (.int 60 t_MAX_EDITS)
  c_BATCH : mg "BATCH" = some (.int 20 t_BATCH)
  z_abs : mg "abs" = none
  z_bool : mg "bool" = none
  z_enumerate : mg "enumerate" = none
  z_int : mg "int" = none
  z_isinstance : mg "isinstance" = none
  z_len : mg "len" = none
  z_range : mg "range" = none
  z_set : mg "set" = none
  z_sorted : mg "sorted" = none
  z_str : mg "str" = none
  z_tuple : mg "tuple" = none
  z_zip : mg "zip" = none
  cl_Shell : Cls K C_Shell
  g_Shell : mg "Shell" = some (.ref C_Shell)
  mk_Shell : Mk K C_Shell f_Shell_init
  n_Shell_plan : NoAttr K C_Shell "plan"
  cl_Plan : Cls K C_Plan
  g_Plan : mg "Plan" = some (.ref C_Plan)
  mk_Plan : Mk K C_Plan f_Plan_init
  n_Plan_states : NoAttr K C_Plan "states"
  n_Plan_done : NoAttr K C_Plan "done"
  n_Plan_busy : NoAttr K C_Plan "busy"
  is_Plan : PySem.W.findIn K (.ref C_Plan) "__class__" = some (some (.builtin "object.__class__")) ∧ PySem.W.specialIn K (.builtin "object.__class__") "__get__" = some (some (.builtin "getset_descriptor.__get__")) ∧ PySem.W.takesIn K (.builtin "object.__class__") = some true ∧ PySem.W.mroIn K C_Plan (.type "object") = some true
  xn_NothingToUndo : XcN K mg "NothingToUndo" X_NothingToUndo
  xn_Busy : XcN K mg "Busy" X_Busy
  xn_TooManyEdits : XcN K mg "TooManyEdits" X_TooManyEdits
  xn_Duplicate : XcN K mg "Duplicate" X_Duplicate
  xn_TooMany : XcN K mg "TooMany" X_TooMany
  xn_Unknown : XcN K mg "Unknown" X_Unknown
  xn_TooWide : XcN K mg "TooWide" X_TooWide
  xr_NothingToUndo : XcR K X_NothingToUndo
  xv_NothingToUndo : PySem.W.subIn K (.ref X_NothingToUndo) (.type "ValueError") = some true
  xs_NothingToUndo_Busy : PySem.W.subIn K (.ref X_NothingToUndo) (.ref X_Busy) = some false
  xs_NothingToUndo_TooManyEdits : PySem.W.subIn K (.ref X_NothingToUndo) (.ref X_TooManyEdits) = some false
  xs_NothingToUndo_Duplicate : PySem.W.subIn K (.ref X_NothingToUndo) (.ref X_Duplicate) = some false
  xs_NothingToUndo_TooMany : PySem.W.subIn K (.ref X_NothingToUndo) (.ref X_TooMany) = some false
  xs_NothingToUndo_Unknown : PySem.W.subIn K (.ref X_NothingToUndo) (.ref X_Unknown) = some false
  xs_NothingToUndo_NothingToUndo : PySem.W.subIn K (.ref X_NothingToUndo) (.ref X_NothingToUndo) = some true
  xs_NothingToUndo_TooWide : PySem.W.subIn K (.ref X_NothingToUndo) (.ref X_TooWide) = some false
variable {P : Program} {w : World} {K : PySem.W.Frag} {mg : Str → Option Value} {base : Heap} {f_is_number f_is_position f_is_tuple_of f_is_interval f_ascending_error f_targets_error f_is_pieces f_interval_text f_joined_texts f_intervals_text f_demand_text f_parse_number f_parse_interval f_edit_version f_edit_answer f_state_answer f_count_answer f_answer_line f_without_item f_with_interval f_without_interval f_edited_state f_helpful_piece f_law_deck f_law_draw f_law_same f_law_small f_law_odd f_law_text f_law_lines f_law f_Shell_init f_Shell_execute f_Plan_init f_Plan_add_target f_Plan_add_piece f_Plan_remove_target f_Plan_remove_piece f_Plan_undo f_Plan_targets f_Plan_pieces f_Plan_needed f_Plan_solution f_Plan_missing f_Plan_changes f_Plan_edit f_Plan_record f_Plan_require_idle f_Plan_state_at f_Plan_len f_Plan_eq C_Shell C_Plan X_NothingToUndo X_Busy X_TooManyEdits X_Duplicate X_TooMany X_Unknown X_TooWide : Addr} {d_is_number d_is_position d_is_tuple_of d_is_interval d_ascending_error d_targets_error d_is_pieces d_interval_text d_joined_texts d_intervals_text d_demand_text d_parse_number d_parse_interval d_edit_version d_edit_answer d_state_answer d_count_answer d_answer_line d_without_item d_with_interval d_without_interval d_edited_state d_helpful_piece d_law_deck d_law_draw d_law_same d_law_small d_law_odd d_law_text d_law_lines d_law d_Shell_init d_Shell_execute d_Plan_init d_Plan_add_target d_Plan_add_piece d_Plan_remove_target d_Plan_remove_piece d_Plan_undo d_Plan_targets d_Plan_pieces d_Plan_needed d_Plan_solution d_Plan_missing d_Plan_changes d_Plan_edit d_Plan_record d_Plan_require_idle d_Plan_state_at d_Plan_len d_Plan_eq : FuncData} {t_LAST_POSITION t_MAX_TARGETS t_MAX_PIECES t_MAX_BLOCKS t_MAX_EDITS t_BATCH : Tok} {pT : Addr}
abbrev TxA (K : PySem.W.Frag) (mg : Str → Option Value) (f_is_number f_is_position f_is_tuple_of f_is_interval f_ascending_error f_targets_error f_is_pieces f_interval_text f_joined_texts f_intervals_text f_demand_text f_parse_number f_parse_interval f_edit_version f_edit_answer f_state_answer f_count_answer f_answer_line f_without_item f_with_interval f_without_interval f_edited_state f_helpful_piece f_law_deck f_law_draw f_law_same f_law_small f_law_odd f_law_text f_law_lines f_law f_Shell_init f_Shell_execute f_Plan_init f_Plan_add_target f_Plan_add_piece f_Plan_remove_target f_Plan_remove_piece f_Plan_undo f_Plan_targets f_Plan_pieces f_Plan_needed f_Plan_solution f_Plan_missing f_Plan_changes f_Plan_edit f_Plan_record f_Plan_require_idle f_Plan_state_at f_Plan_len f_Plan_eq C_Shell C_Plan X_NothingToUndo X_Busy X_TooManyEdits X_Duplicate X_TooMany X_Unknown X_TooWide : Addr) (d_is_number d_is_position d_is_tuple_of d_is_interval d_ascending_error d_targets_error d_is_pieces d_interval_text d_joined_texts d_intervals_text d_demand_text d_parse_number d_parse_interval d_edit_version d_edit_answer d_state_answer d_count_answer d_answer_line d_without_item d_with_interval d_without_interval d_edited_state d_helpful_piece d_law_deck d_law_draw d_law_same d_law_small d_law_odd d_law_text d_law_lines d_law d_Shell_init d_Shell_execute d_Plan_init d_Plan_add_target d_Plan_add_piece d_Plan_remove_target d_Plan_remove_piece d_Plan_undo d_Plan_targets d_Plan_pieces d_Plan_needed d_Plan_solution d_Plan_missing d_Plan_changes d_Plan_edit d_Plan_record d_Plan_require_idle d_Plan_state_at d_Plan_len d_Plan_eq : FuncData) (t_LAST_POSITION t_MAX_TARGETS t_MAX_PIECES t_MAX_BLOCKS t_MAX_EDITS t_BATCH : Tok) := Tx K mg f_is_number f_is_position f_is_tuple_of f_is_interval f_ascending_error f_targets_error f_is_pieces f_interval_text f_joined_texts f_intervals_text f_demand_text f_parse_number f_parse_interval f_edit_version f_edit_answer f_state_answer f_count_answer f_answer_line f_without_item f_with_interval f_without_interval f_edited_state f_helpful_piece f_law_deck f_law_draw f_law_same f_law_small f_law_odd f_law_text f_law_lines f_law f_Shell_init f_Shell_execute f_Plan_init f_Plan_add_target f_Plan_add_piece f_Plan_remove_target f_Plan_remove_piece f_Plan_undo f_Plan_targets f_Plan_pieces f_Plan_needed f_Plan_solution f_Plan_missing f_Plan_changes f_Plan_edit f_Plan_record f_Plan_require_idle f_Plan_state_at f_Plan_len f_Plan_eq C_Shell C_Plan X_NothingToUndo X_Busy X_TooManyEdits X_Duplicate X_TooMany X_Unknown X_TooWide d_is_number d_is_position d_is_tuple_of d_is_interval d_ascending_error d_targets_error d_is_pieces d_interval_text d_joined_texts d_intervals_text d_demand_text d_parse_number d_parse_interval d_edit_version d_edit_answer d_state_answer d_count_answer d_answer_line d_without_item d_with_interval d_without_interval d_edited_state d_helpful_piece d_law_deck d_law_draw d_law_same d_law_small d_law_odd d_law_text d_law_lines d_law d_Shell_init d_Shell_execute d_Plan_init d_Plan_add_target d_Plan_add_piece d_Plan_remove_target d_Plan_remove_piece d_Plan_undo d_Plan_targets d_Plan_pieces d_Plan_needed d_Plan_solution d_Plan_missing d_Plan_changes d_Plan_edit d_Plan_record d_Plan_require_idle d_Plan_state_at d_Plan_len d_Plan_eq t_LAST_POSITION t_MAX_TARGETS t_MAX_PIECES t_MAX_BLOCKS t_MAX_EDITS t_BATCH
theorem ok_law_deck (T : Tx K mg f_is_number f_is_position f_is_tuple_of f_is_interval f_ascending_error f_targets_error f_is_pieces f_interval_text f_joined_texts f_intervals_text f_demand_text f_parse_number f_parse_interval f_edit_version f_edit_answer f_state_answer f_count_answer f_answer_line f_without_item f_with_interval f_without_interval f_edited_state f_helpful_piece f_law_deck f_law_draw f_law_same f_law_small f_law_odd f_law_text f_law_lines f_law f_Shell_init f_Shell_execute f_Plan_init f_Plan_add_target f_Plan_add_piece f_Plan_remove_target f_Plan_remove_piece f_Plan_undo f_Plan_targets f_Plan_pieces f_Plan_needed f_Plan_solution f_Plan_missing f_Plan_changes f_Plan_edit f_Plan_record f_Plan_require_idle f_Plan_state_at f_Plan_len f_Plan_eq C_Shell C_Plan X_NothingToUndo X_Busy X_TooManyEdits X_Duplicate X_TooMany X_Unknown X_TooWide d_is_number d_is_position d_is_tuple_of d_is_interval d_ascending_error d_targets_error d_is_pieces d_interval_text d_joined_texts d_intervals_text d_demand_text d_parse_number d_parse_interval d_edit_version d_edit_answer d_state_answer d_count_answer d_answer_line d_without_item d_with_interval d_without_interval d_edited_state d_helpful_piece d_law_deck d_law_draw d_law_same d_law_small d_law_odd d_law_text d_law_lines d_law d_Shell_init d_Shell_execute d_Plan_init d_Plan_add_target d_Plan_add_piece d_Plan_remove_target d_Plan_remove_piece d_Plan_undo d_Plan_targets d_Plan_pieces d_Plan_needed d_Plan_solution d_Plan_missing d_Plan_changes d_Plan_edit d_Plan_record d_Plan_require_idle d_Plan_state_at d_Plan_len d_Plan_eq t_LAST_POSITION t_MAX_TARGETS t_MAX_PIECES t_MAX_BLOCKS t_MAX_EDITS t_BATCH) : FnOk P w K mg base CX0 1 f_law_deck d_law_deck ["_law_script"] (sp_law_deck K) := by
  refine T.F_law_deck.ok sc_law_deck (fun vs H Q E h => ?_) (fun cdv A outer s H vs Q E hr h => ?_)
  · obtain ⟨a, ns, rfl, _⟩ := h
    rfl
  · obtain ⟨a, ns0, rfl, hS, hlen, q⟩ := h
    refine ⟨_, (pss_one (ps_ret (pe_lst (pa_cons (pe_lc (own := [("_law_cell", 1)]) (g := (gName 1)) (tt := tYes) (by rfl) sc_law_deck.nd (pi_list (pe_slice sl_list (pv 0) po_none (po_some pe_int))) (blkOk_by (own := [("_law_cell", 1)]) (N := N_law_deck) (sc := defScope s_law_deck) (by decide +kernel)) (fun _ _ _ _ _ => (pg_name (i := 1) sc_law_deck.nd rfl (Or.inl rfl))) (fun _ _ _ _ _ => pts_nil) (fun _ _ _ _ _ => (pe_callB call_abs (by rfl) T.z_abs (by decide +kernel) (pa_cons (pv 1) pa_nil)))) (pa_cons pe_int pa_nil))))), ?_⟩
    refine ⟨.ref a, rfl, 63, rfl, a, ns0.map V.int, rfl, hS, fun p np => ?_⟩
    rw [show cutV (ns0.map V.int) none (some 63) = (ns0.take 63).map V.int by rw [List.map_take]; exact cutTo _ 63]
    have hlen : (ns0.take 63).length ≤ 63 := Nat.le_trans (List.length_take_le' _ _) hlen
    generalize ns0.take 63 = ns at *
    have s1 : Same H (upd H p (.lst (ns.map V.int))) := same_new np
    refine ⟨p, rfl, ⟨_, SqL.of upd_same⟩, fun D nD => ?_⟩
    have nDp : D ≠ p := fun e => by
      rw [e, upd_same] at nD
      cases nD
    have nD0 : H D = none := by
      rw [upd_ne nDp] at nD
      exact nD
    refine lc_list (K := K) (a := p) (xs := ns.map V.int) (fun i H' => Same (upd H p (.lst (ns.map V.int))) H' ∧ H' D = some (.lst (((ns.take i).map fun (x : Int) => if x < 0 then -x else x).map V.int))) ⟨same_new nD, upd_same⟩ (fun i H' _ h => h.1.seq (SqL.of upd_same)) ?_ ?_
    · rintro i x H' hi ⟨sm, eD⟩
      rw [List.getElem?_map] at hi
      obtain ⟨n, en, rfl⟩ := Option.map_eq_some_iff.mp hi
      refine ⟨rfl, .int n, rfl, n, rfl, _, eD, ?_, ?_, ?_⟩
      · have : (List.take i ns).length ≤ ns.length := List.length_take_le' i ns
        simp only [List.length_map]
        exact small1000 (by omega)
      · intro b o e
        have nb : b ≠ D := ne_of_none e nD
        rw [upd_ne nb]
        exact sm b o e
      · rw [upd_same, List.take_add_one, en]
        simp
    · rintro H' ⟨sm, eD⟩
      rw [List.length_map, List.take_length] at eD
      refine ⟨by show 2 ≤ sizeLine; decide, fun d nd => ?_⟩
      have nDd : D ≠ d := ne_of_none eD nd
      have nd0 : H d = none := s1.free (sm.free nd)
      refine q _ d D (s1.trans (sm.trans (same_new nd))) nd0 nD0 ⟨upd_same, _, by rw [upd_ne nDd]; exact eD, by rw [List.length_map]; exact hlen, fun x hx => ?_⟩
      obtain ⟨y, _, rfl⟩ := List.mem_map.mp hx
      split <;> omega
theorem ok_law_draw (T : Tx K mg f_is_number f_is_position f_is_tuple_of f_is_interval f_ascending_error f_targets_error f_is_pieces f_interval_text f_joined_texts f_intervals_text f_demand_text f_parse_number f_parse_interval f_edit_version f_edit_answer f_state_answer f_count_answer f_answer_line f_without_item f_with_interval f_without_interval f_edited_state f_helpful_piece f_law_deck f_law_draw f_law_same f_law_small f_law_odd f_law_text f_law_lines f_law f_Shell_init f_Shell_execute f_Plan_init f_Plan_add_target f_Plan_add_piece f_Plan_remove_target f_Plan_remove_piece f_Plan_undo f_Plan_targets f_Plan_pieces f_Plan_needed f_Plan_solution f_Plan_missing f_Plan_changes f_Plan_edit f_Plan_record f_Plan_require_idle f_Plan_state_at f_Plan_len f_Plan_eq C_Shell C_Plan X_NothingToUndo X_Busy X_TooManyEdits X_Duplicate X_TooMany X_Unknown X_TooWide d_is_number d_is_position d_is_tuple_of d_is_interval d_ascending_error d_targets_error d_is_pieces d_interval_text d_joined_texts d_intervals_text d_demand_text d_parse_number d_parse_interval d_edit_version d_edit_answer d_state_answer d_count_answer d_answer_line d_without_item d_with_interval d_without_interval d_edited_state d_helpful_piece d_law_deck d_law_draw d_law_same d_law_small d_law_odd d_law_text d_law_lines d_law d_Shell_init d_Shell_execute d_Plan_init d_Plan_add_target d_Plan_add_piece d_Plan_remove_target d_Plan_remove_piece d_Plan_undo d_Plan_targets d_Plan_pieces d_Plan_needed d_Plan_solution d_Plan_missing d_Plan_changes d_Plan_edit d_Plan_record d_Plan_require_idle d_Plan_state_at d_Plan_len d_Plan_eq t_LAST_POSITION t_MAX_TARGETS t_MAX_PIECES t_MAX_BLOCKS t_MAX_EDITS t_BATCH) : FnOk P w K mg base CX0 1 f_law_draw d_law_draw ["_law_deck_here", "_law_many"] sp_law_draw := by
  refine T.F_law_draw.ok sc_law_draw (fun vs H Q E h => ?_) (fun cdv A outer s H vs Q E hr h => ?_)
  · obtain ⟨d, c, n, lim, rfl, _⟩ := h
    rfl
  · obtain ⟨d, c, n, lim, rfl, dk, n0, n1, l0, l1, q⟩ := h
    obtain ⟨xs, ec, xl, xp⟩ := dk.cells
    have ncd := dk.ne
    have ed := dk.top
    have l64 : lim.natAbs < 2 ^ 64 := by omega
    have n64 : (n + 1).natAbs < 2 ^ 64 := by omega
    refine ⟨_, (pss_cons (ps_asg (pe_op op_add (pe_ix ix_list (pv 0) pe_int (fun _ _ => rfl)) pe_int) (pg_sub (pv 0) pe_int set_list))
      (pss_cons (ps_set (i := 2) sc_law_draw.nd rfl (Or.inl rfl) pe_int)
      (pss_cons (ps_set (i := 3) sc_law_draw.nd rfl (Or.inl rfl) (pe_un un_neg pe_int))
      (pss_cons (ps_if (pt_cmpR op_gt (pe_callB call_len_seq (by rfl) T.z_len PySem.boot_len (pa_cons (pe_ix ix_list (pv 0) pe_int (fun _ _ => rfl)) pa_nil)) pe_int (nomark _))
      (pss_cons (ps_set (i := 3) sc_law_draw.nd rfl (Or.inl rfl) (pe_op op_mod (pe_ix ix_list (pv 0) pe_int (fun _ _ => rfl)) (pe_callB call_len_seq (by rfl) T.z_len PySem.boot_len (pa_cons (pe_ix ix_list (pv 0) pe_int (fun _ _ => rfl)) pa_nil))))
      (pss_one (ps_set (i := 2) sc_law_draw.nd rfl (Or.inl rfl) (pe_ix ix_list (pe_ix ix_list (pv 0) pe_int (fun _ _ => rfl)) (pv 3) (fun _ _ => rfl)))))
      pss_nil)
      (pss_cons (ps_if (pt_cmpR op_ge (pv 2) (pe_op op_pow pe_int pe_int) (nomark _))
      (pss_cons (ps_asg (pe_op op_fdivW (pv 2) (pv 1)) (pg_sub (pe_ix ix_list (pv 0) pe_int (fun _ _ => rfl)) (pv 3) set_list))
      (pss_one (ps_ret (pe_op op_mod (pv 2) (pv 1)))))
      pss_nil)
      (pss_one (ps_ret (pe_op op_mod (pe_op op_mod (pe_op op_pow (pe_op op_add (pe_op op_add (pe_op op_mod (pv 2) pe_int) (pe_op op_mulW pe_int (pe_ix ix_list (pv 0) pe_int (fun _ _ => rfl)))) pe_int) pe_int) pe_int) (pv 1))))))))), ?_⟩
    refine ⟨.ref d, rfl, d, _, 1, .int n, rfl, rfl, SqL.of ed, rfl, n, 1, rfl, rfl, .ref d, rfl, d, _, 1, 1, rfl, rfl, ed, rfl, ?_⟩
    generalize eH : upd H d (.lst ([V.ref c, V.int n].set 1 (.int (n + 1)))) = H1
    have ed1 : H1 d = some (.lst [.ref c, .int (n + 1)]) := by
      rw [← eH, upd_same]
      rfl
    have ec1 : H1 c = some (.lst (xs.map V.int)) := by
      rw [← eH, upd_ne ncd]
      exact ec
    have kp1 : Kp d c H H1 := fun b o nb _ e => by
      rw [← eH, upd_ne nb]
      exact e
    have dk1 : Dk H1 d c (n + 1) := ⟨ed1, xs, ec1, xl, xp⟩
    refine ⟨1, rfl, ?_⟩
    refine ⟨.ref d, rfl, d, _, 0, .ref c, rfl, rfl, SqL.of ed1, rfl, c, _, rfl, .inl (SqL.of ec1), _, _, rfl, rfl, _, rfl, ite2 (fun e => ?_) (fun e => ?_)⟩
    · have e1 := of_decide_eq_true e
      rw [List.length_map] at e1
      have lp : (0 : Int) < (xs.map V.int).length := by rw [List.length_map]; exact e1
      have rem0 : 0 ≤ (n + 1) % ((xs.map V.int).length : Int) := Int.emod_nonneg _ (by omega)
      have rem1 : (n + 1) % ((xs.map V.int).length : Int) < (xs.map V.int).length := Int.emod_lt_of_pos _ lp
      obtain ⟨j, ej⟩ : ∃ j : Nat, (n + 1) % ((xs.map V.int).length : Int) = j := ⟨_, (Int.toNat_of_nonneg rem0).symm⟩
      have hj : j < xs.length := by
        rw [ej, List.length_map] at rem1
        omega
      have gj : (xs.map V.int)[j]? = some (.int xs[j]) := by
        rw [List.getElem?_map, List.getElem?_eq_getElem hj]
        rfl
      have x0 : 0 ≤ xs[j] := xp _ (List.getElem_mem hj)
      refine ⟨.ref d, rfl, d, _, 1, .int (n + 1), rfl, rfl, SqL.of ed1, rfl, .ref d, rfl, d, _, 0, .ref c, rfl, rfl, SqL.of ed1, rfl, c, _, rfl, .inl (SqL.of ec1), _, _, rfl, rfl, lp, ?_⟩
      refine ⟨.ref d, rfl, d, _, 0, .ref c, rfl, rfl, SqL.of ed1, rfl, .int _, rfl, c, _, _, .int xs[j], rfl, rfl, SqL.of ec1, (by rw [ej]; exact atI_nat gj), ?_⟩
      refine ⟨.int xs[j], rfl, 10, 18, rfl, rfl, ⟨by decide, by decide, by decide⟩, _, _, rfl, rfl, _, rfl, ite2 (fun e2 => ?_) (fun e2 => ?_)⟩
      · refine ⟨.int xs[j], rfl, .int lim, rfl, _, _, rfl, rfl, wide_div l0 l64 (by decide) (by decide), .ref d, rfl, d, _, 0, .ref c, rfl, rfl, SqL.of ed1, rfl, .int _, rfl, c, _, _, j, rfl, rfl, ec1, ?_, ?_⟩
        · rw [ej]
          unfold ixN
          rw [if_pos (by omega), if_pos (by rw [List.length_map]; omega)]
          rfl
        · refine ⟨.int xs[j], rfl, .int lim, rfl, _, _, rfl, rfl, l0, ?_⟩
          refine q _ _ ?_ ⟨?_, xs.set j (xs[j] / lim), ?_, ?_, ?_⟩ (Int.emod_nonneg _ (by omega)) (Int.emod_lt_of_pos _ l0)
          · intro b o nb nc e
            rw [upd_ne nc]
            exact kp1 b o nb nc e
          · rw [upd_ne ncd.symm]
            exact ed1
          · rw [upd_same, List.map_set]
          · rw [List.length_set]
            exact xl
          · intro x hx
            rcases List.mem_or_eq_of_mem_set hx with hm | he
            · exact xp x hm
            · rw [he]
              exact Int.ediv_nonneg x0 (by omega)
      · refine ⟨.int xs[j], rfl, _, _, rfl, rfl, (by show (0 : Int) < 2147483587; decide), .ref d, rfl, d, _, 1, .int (n + 1), rfl, rfl, SqL.of ed1, rfl, _, _, rfl, rfl, wide_mul (a := 13) (b := 64) (by decide) n64 (by decide) (by decide) (by decide), _, _, rfl, rfl, _, _, rfl, rfl, _, _, rfl, rfl, ⟨by decide, by decide, ?_⟩, _, _, rfl, rfl, (by show (0 : Int) < 2147483647; decide), .int lim, rfl, _, _, rfl, rfl, l0, ?_⟩
        · have a0 := Int.emod_nonneg xs[j] (show (2147483587 : Int) ≠ 0 by decide)
          have a1 := Int.emod_lt_of_pos xs[j] (show (0 : Int) < 2147483587 by decide)
          omega
        · exact q _ _ kp1 dk1 (Int.emod_nonneg _ (by omega)) (Int.emod_lt_of_pos _ l0)
    · refine ⟨.int 0, rfl, 10, 18, rfl, rfl, ⟨by decide, by decide, by decide⟩, _, _, rfl, rfl, _, rfl, ite2 (fun e2 => ?_) (fun e2 => ?_)⟩
      · exact absurd e2 (by decide)
      · refine ⟨.int 0, rfl, _, _, rfl, rfl, (by show (0 : Int) < 2147483587; decide), .ref d, rfl, d, _, 1, .int (n + 1), rfl, rfl, SqL.of ed1, rfl, _, _, rfl, rfl, wide_mul (a := 13) (b := 64) (by decide) n64 (by decide) (by decide) (by decide), _, _, rfl, rfl, _, _, rfl, rfl, _, _, rfl, rfl, ⟨by decide, by decide, ?_⟩, _, _, rfl, rfl, (by show (0 : Int) < 2147483647; decide), .int lim, rfl, _, _, rfl, rfl, l0, ?_⟩
        · have a0 := Int.emod_nonneg 0 (show (2147483587 : Int) ≠ 0 by decide)
          have a1 := Int.emod_lt_of_pos 0 (show (0 : Int) < 2147483587 by decide)
          omega
        · exact q _ _ kp1 dk1 (Int.emod_nonneg _ (by omega)) (Int.emod_lt_of_pos _ l0)
theorem Kp.keep {d c : Addr} {H H' : Hp} (k : Kp d c H H') {a : Addr} {o : HO} (n1 : a ≠ d ∧ a ≠ c) (h : H a = some o) : H' a = some o := k a o n1.1 n1.2 h
theorem Kp.tup {d c : Addr} {n : Int} {H H' : Hp} (k : Kp d c H H') (dk : Dk H d c n) {a : Addr} {xs : List V} (h : H a = some (.tup xs)) : H' a = some (.tup xs) := by
  obtain ⟨ys, e, _⟩ := dk.cells
  exact k a _ (ne_of h dk.top (fun z => by cases z)) (ne_of h e (fun z => by cases z)) h
theorem Dk.off {H : Hp} {d c : Addr} {n : Int} (h : Dk H d c n) {p : Addr} (e : H p = none) : p ≠ d ∧ p ≠ c := by
  obtain ⟨ys, z, _⟩ := h.cells
  exact ⟨(ne_of_none h.top e).symm, (ne_of_none z e).symm⟩
theorem Dk.upd {H : Hp} {d c : Addr} {n : Int} (h : Dk H d c n) {p : Addr} {o : HO} (off : p ≠ d ∧ p ≠ c) : Dk (upd H p o) d c n := by
  obtain ⟨ys, z, w⟩ := h.cells
  exact ⟨by rw [upd_ne off.1.symm]; exact h.top, ys, by rw [upd_ne off.2.symm]; exact z, w⟩

abbrev Off (d c p : Addr) : Prop := p ≠ d ∧ p ≠ c
/-! ### what stays when the heap grows, or the deck is drawn from -/
theorem rd_same {H H' : Hp} (s : Same H H') {a : Addr} {u : HO} (h : Rd H a u) : Rd H' a u := by
  rcases h with h | ⟨o, h⟩
  · exact .inl (s _ _ h)
  · exact .inr ⟨o, s _ _ h⟩
theorem sqT_same {K : PySem.W.Frag} {H H' : Hp} (s : Same H H') {a : Addr} {xs : List V} (h : SqT K H a xs) : SqT K H' a xs := by
  rcases h with h | h
  · exact .inl (rd_same s h)
  · exact .inr h
theorem dp_same {K : PySem.W.Frag} {H H' : Hp} (s : Same H H') {v : V} {d : PyData} (h : Dp K H v d) : Dp K H' v d := by
  refine Dp.rec (K := K) (H := H) (motive_1 := fun v d _ => Dp K H' v d) (motive_2 := fun vs ds _ => DpAll K H' vs ds) .non (fun b => .bl b) (fun i => .int i) (fun x => .str x) (fun hs _ q => .lst (s.seq hs) q) (fun hs _ q => .tup (sqT_same s hs) q) .nil (fun _ _ a b => .cons a b) h
theorem dp2 {K : PySem.W.Frag} {H : Hp} {t : Addr} {x y : Int} (h : H t = some (.tup [.int x, .int y])) : Dp K H (.ref t) (.tuple [.int x, .int y]) := .tup (SqT.of h) (.cons (.int x) (.cons (.int y) .nil))
theorem sm2 {x y : Int} (h1 : x.natAbs < 10 ^ 30) (h2 : y.natAbs < 10 ^ 30) : Sm 202 1 (.tuple [.int x, .int y]) := by
  have h := Sm.tup (n := 100) (dp := 0) (ds := [.int x, .int y]) (fun d hd => by
    rcases List.mem_cons.mp hd with rfl | hd
    · exact Sm.int h1
    · rcases List.mem_cons.mp hd with rfl | hd
      · exact Sm.int h2
      · cases hd)
  exact h
/-- an interval, or None -/
def optD : Option (Int × Int) → PyData
  | none => .none
  | some (x, y) => .tuple [.int x, .int y]
def OV (H : Hp) (v : V) : Option (Int × Int) → Prop
  | none => v = .non
  | some (x, y) => ∃ t, v = .ref t ∧ H t = some (.tup [.int x, .int y])
theorem OV.same {H H' : Hp} (s : Same H H') {v : V} {o : Option (Int × Int)} (h : OV H v o) : OV H' v o := by
  match o, h with
  | none, h => exact h
  | some (x, y), h =>
    obtain ⟨t, e, z⟩ := h
    exact ⟨t, e, s _ _ z⟩
theorem OV.kp {d c : Addr} {n : Int} {H H' : Hp} (k : Kp d c H H') (dk : Dk H d c n) {v : V} {o : Option (Int × Int)} (h : OV H v o) : OV H' v o := by
  match o, h with
  | none, h => exact h
  | some (x, y), h =>
    obtain ⟨t, e, z⟩ := h
    exact ⟨t, e, k.tup dk z⟩
theorem OV.dp {K : PySem.W.Frag} {H : Hp} {v : V} {o : Option (Int × Int)} (h : OV H v o) : Dp K H v (optD o) := by
  match o, h with
  | none, h =>
    cases h
    exact .non
  | some (x, y), h =>
    obtain ⟨t, e, z⟩ := h
    subst e
    exact dp2 z

/-! ### rows of intervals -/
inductive Ivs (H : Hp) : List V → List (Int × Int) → Prop
  | nil : Ivs H [] []
  | cons {a : Addr} {x y : Int} {vs : List V} {ps : List (Int × Int)} : H a = some (.tup [.int x, .int y]) → Ivs H vs ps → Ivs H (.ref a :: vs) ((x, y) :: ps)
theorem Ivs.length {H : Hp} {vs : List V} {ps : List (Int × Int)} (h : Ivs H vs ps) : vs.length = ps.length := by
  induction h with
  | nil => rfl
  | cons _ _ ih => rw [List.length_cons, List.length_cons, ih]
theorem Ivs.same {H H' : Hp} (s : Same H H') {vs : List V} {ps : List (Int × Int)} (h : Ivs H vs ps) : Ivs H' vs ps := by
  induction h with
  | nil => exact .nil
  | cons e _ ih => exact .cons (s _ _ e) ih
theorem Ivs.kp {d c : Addr} {n : Int} {H H' : Hp} (k : Kp d c H H') (dk : Dk H d c n) {vs : List V} {ps : List (Int × Int)} (h : Ivs H vs ps) : Ivs H' vs ps := by
  induction h with
  | nil => exact .nil
  | cons e _ ih => exact .cons (k.tup dk e) ih
theorem Ivs.get {H : Hp} {vs : List V} {ps : List (Int × Int)} (h : Ivs H vs ps) : ∀ {i : Nat} {v : V}, vs[i]? = some v → ∃ a x y, v = .ref a ∧ ps[i]? = some (x, y) ∧ H a = some (.tup [.int x, .int y]) := by
  induction h with
  | nil =>
    intro i v e
    simp at e
  | cons e _ ih =>
    intro i v q
    cases i with
    | zero =>
      cases q
      exact ⟨_, _, _, rfl, rfl, e⟩
    | succ i => exact ih q
theorem Ivs.snoc {H : Hp} {vs : List V} {ps : List (Int × Int)} {a : Addr} {x y : Int} (h : Ivs H vs ps) (e : H a = some (.tup [.int x, .int y])) : Ivs H (vs ++ [.ref a]) (ps ++ [(x, y)]) := by
  induction h with
  | nil => exact .cons e .nil
  | cons z _ ih => exact .cons z ih
def pairD (p : Int × Int) : PyData := .tuple [.int p.1, .int p.2]
theorem Ivs.dp {K : PySem.W.Frag} {H : Hp} {vs : List V} {ps : List (Int × Int)} (h : Ivs H vs ps) : DpAll K H vs (ps.map pairD) := by
  induction h with
  | nil => exact .nil
  | cons e _ ih => exact .cons (dp2 e) ih

/-! ### comprehensions that change nothing but make new objects -/
/-- the tuples stay -/
def Tps (H H' : Hp) : Prop := ∀ b xs, H b = some (.tup xs) → H' b = some (.tup xs)
theorem Tps.refl (H : Hp) : Tps H H := fun _ _ e => e
theorem Tps.trans {H H1 H2 : Hp} (h : Tps H H1) (h2 : Tps H1 H2) : Tps H H2 := fun b xs e => h2 b xs (h b xs e)
theorem Tps.same {H H1 : Hp} (h : Same H H1) : Tps H H1 := fun b xs e => h b _ e
theorem Kp.tps {d c : Addr} {n : Int} {H H' : Hp} (k : Kp d c H H') (dk : Dk H d c n) : Tps H H' := fun _ _ e => k.tup dk e
theorem Tps.lst {H : Hp} {D : Addr} {ws vs : List V} (e : H D = some (.lst ws)) : Tps H (upd H D (.lst vs)) := fun b xs h => by
  rw [upd_ne (ne_of h e (fun z => by cases z))]
  exact h
theorem same_off {H0 H : Hp} {D : Addr} {o : HO} (n : H0 D = none) (s : Same H0 H) : Same H0 (upd H D o) := fun b u e => by
  rw [upd_ne (ne_of_none e n)]
  exact s b u e
theorem few_line {n : Nat} (h : n < 1000) : n < sizeLine := by
  rw [show sizeLine = 16777216 by decide]
  omega
theorem lcL {K : PySem.W.Frag} {a : Addr} {xs : List V} {g : TG} {tt : TT} {te : TE} {vs : List Nat} {σ : L2.St} {H1 : Hp} {D : Addr} {Qd : Hp → Prop} (R : Nat → Hp → List V → Prop) (nD : H1 D = none) (hl : ∀ H', Same H1 H' → SqL K H' a xs) (few : xs.length < 1000)
    (mono : ∀ i H' H'' ws, Tps H' H'' → R i H' ws → R i H'' ws) (len : ∀ i H' ws, R i H' ws → ws.length ≤ i) (r0 : ∀ H', R 0 H' [])
    (hs : ∀ i x H' (N : Hp → Prop) acc, xs[i]? = some x → Same H1 H' → H' D = some (.lst acc) → acc.length < sizeLine → R i H' acc → (∀ H'', Same H' H'' → R (i + 1) H'' acc → N H'') → (∀ H'' y, Same H' H'' → R (i + 1) H'' (acc ++ [y]) → ∃ acc', H'' D = some (.lst acc') ∧ acc'.length < sizeLine ∧ N (upd H'' D (.lst (acc' ++ [y])))) →
      g x (wipe σ vs) H' fun σ2 H2 => wipe σ2 vs = wipe σ vs ∧ tt σ2 H2 fun b H3 => if b = true then te σ2 H3 fun y H4 => ∃ acc, H4 D = some (.lst acc) ∧ acc.length < sizeLine ∧ N (upd H4 D (.lst (acc ++ [y]))) else N H3)
    (hd : ∀ H' ws, Same H1 H' → H' D = some (.lst ws) → R xs.length H' ws → Qd H') :
    ∃ W : Nat → Nat → Hp → Prop, (∃ m, W 0 m (upd H1 D (.lst []))) ∧ ∀ i m H, W i m H →
      ((Itl K a).stop i H ∧ Qd H) ∨ ((Itl K a).go i H ∧ ∃ Nx : Hp → Prop, (∀ H', Nx H' → ∃ m', m' < m ∧ W (i + 1) m' H') ∧ ∀ x H', (Itl K a).yld i H x H' → g x (wipe σ vs) H' fun σ2 H2 => wipe σ2 vs = wipe σ vs ∧ tt σ2 H2 fun b H3 =>
        if b = true then te σ2 H3 fun y H4 => ∃ acc, H4 D = some (.lst acc) ∧ acc.length < sizeLine ∧ Nx (upd H4 D (.lst (acc ++ [y]))) else Nx H3) := by
  refine lc_list (K := K) (a := a) (xs := xs) (fun i H' => Same H1 H' ∧ ∃ ws, H' D = some (.lst ws) ∧ R i H' ws) ⟨same_new nD, [], upd_same, r0 _⟩ (fun i H' _ h => hl H' h.1) ?_ ?_
  · rintro i x H' hi ⟨sm, ws, eD, r⟩
    have lt := (List.getElem?_eq_some_iff.mp hi).1
    have lw := len i H' ws r
    have sz : ws.length < sizeLine := few_line (by omega)
    refine hs i x H' _ ws hi sm eD sz r (fun H'' s r2 => ⟨sm.trans s, ws, s _ _ eD, r2⟩) (fun H'' y s r2 => ?_)
    exact ⟨ws, s _ _ eD, sz, same_off nD (sm.trans s), _, upd_same, mono _ _ _ _ (Tps.lst (s _ _ eD)) r2⟩
  · rintro H' ⟨sm, ws, eD, r⟩
    exact hd H' ws sm eD r
theorem lcT {K : PySem.W.Frag} {a : Addr} {xs : List V} {g : TG} {tt : TT} {te : TE} {vs : List Nat} {σ : L2.St} {H1 : Hp} {D : Addr} {Qd : Hp → Prop} (R : Nat → Hp → List V → Prop) (nD : H1 D = none) (hl : ∀ H', Same H1 H' → SqT K H' a xs) (few : xs.length < 1000)
    (mono : ∀ i H' H'' ws, Tps H' H'' → R i H' ws → R i H'' ws) (len : ∀ i H' ws, R i H' ws → ws.length ≤ i) (r0 : ∀ H', R 0 H' [])
    (hs : ∀ i x H' (N : Hp → Prop) acc, xs[i]? = some x → Same H1 H' → H' D = some (.lst acc) → acc.length < sizeLine → R i H' acc → (∀ H'', Same H' H'' → R (i + 1) H'' acc → N H'') → (∀ H'' y, Same H' H'' → R (i + 1) H'' (acc ++ [y]) → ∃ acc', H'' D = some (.lst acc') ∧ acc'.length < sizeLine ∧ N (upd H'' D (.lst (acc' ++ [y])))) →
      g x (wipe σ vs) H' fun σ2 H2 => wipe σ2 vs = wipe σ vs ∧ tt σ2 H2 fun b H3 => if b = true then te σ2 H3 fun y H4 => ∃ acc, H4 D = some (.lst acc) ∧ acc.length < sizeLine ∧ N (upd H4 D (.lst (acc ++ [y]))) else N H3)
    (hd : ∀ H' ws, Same H1 H' → H' D = some (.lst ws) → R xs.length H' ws → Qd H') :
    ∃ W : Nat → Nat → Hp → Prop, (∃ m, W 0 m (upd H1 D (.lst []))) ∧ ∀ i m H, W i m H →
      ((Itt K a).stop i H ∧ Qd H) ∨ ((Itt K a).go i H ∧ ∃ Nx : Hp → Prop, (∀ H', Nx H' → ∃ m', m' < m ∧ W (i + 1) m' H') ∧ ∀ x H', (Itt K a).yld i H x H' → g x (wipe σ vs) H' fun σ2 H2 => wipe σ2 vs = wipe σ vs ∧ tt σ2 H2 fun b H3 =>
        if b = true then te σ2 H3 fun y H4 => ∃ acc, H4 D = some (.lst acc) ∧ acc.length < sizeLine ∧ Nx (upd H4 D (.lst (acc ++ [y]))) else Nx H3) := by
  refine lc_tup (K := K) (a := a) (xs := xs) (fun i H' => Same H1 H' ∧ ∃ ws, H' D = some (.lst ws) ∧ R i H' ws) ⟨same_new nD, [], upd_same, r0 _⟩ (fun i H' _ h => hl H' h.1) ?_ ?_
  · rintro i x H' hi ⟨sm, ws, eD, r⟩
    have lt := (List.getElem?_eq_some_iff.mp hi).1
    have lw := len i H' ws r
    have sz : ws.length < sizeLine := few_line (by omega)
    refine hs i x H' _ ws hi sm eD sz r (fun H'' s r2 => ⟨sm.trans s, ws, s _ _ eD, r2⟩) (fun H'' y s r2 => ?_)
    exact ⟨ws, s _ _ eD, sz, same_off nD (sm.trans s), _, upd_same, mono _ _ _ _ (Tps.lst (s _ _ eD)) r2⟩
  · rintro H' ⟨sm, ws, eD, r⟩
    exact hd H' ws sm eD r
theorem map_filter_len {α : Type} {ns : List α} {p : α → Bool} {f : α → V} (i : Nat) : (((ns.take i).filter p).map f).length ≤ i := by
  rw [List.length_map]
  exact Nat.le_trans (List.length_filter_le _ _) (List.length_take_le _ _)
theorem take_filter {α : Type} {ns : List α} {i : Nat} {n : α} {p : α → Bool} (h : ns[i]? = some n) : (ns.take (i + 1)).filter p = (ns.take i).filter p ++ (if p n = true then [n] else []) := by
  rw [List.take_add_one, h, List.filter_append]
  congr 1
  show List.filter p [n] = _
  rw [List.filter_cons]
  split <;> rfl
theorem nodup_le {α : Type} [DecidableEq α] : ∀ {l m : List α}, l.Nodup → (∀ x ∈ l, x ∈ m) → l.length ≤ m.length
  | [], _, _, _ => Nat.zero_le _
  | a :: l, m, h, hs => by
    have hm := hs a List.mem_cons_self
    have h' := List.nodup_cons.mp h
    have ih := nodup_le (l := l) (m := m.erase a) h'.2 (fun x hx => (List.mem_erase_of_ne (fun e => h'.1 (by rw [← e]; exact hx))).mpr (hs x (List.mem_cons_of_mem _ hx)))
    rw [List.length_erase_of_mem hm] at ih
    have := List.length_pos_of_mem hm
    rw [List.length_cons]
    omega

/-! ### demands, and rows of them -/
structure Dm (H : Hp) (v : V) (p lo hi : Int) : Prop where
  ex : ∃ u t, v = .ref u ∧ H u = some (.tup [.int p, .ref t]) ∧ H t = some (.tup [.int lo, .int hi])
  low : lo ≤ p
  high : p ≤ hi
theorem Dm.tps {H H' : Hp} (s : Tps H H') {v : V} {p lo hi : Int} (h : Dm H v p lo hi) : Dm H' v p lo hi := by
  obtain ⟨u, t, rfl, e1, e2⟩ := h.ex
  exact ⟨⟨u, t, rfl, s _ _ e1, s _ _ e2⟩, h.low, h.high⟩
theorem Dm.same {H H' : Hp} (s : Same H H') {v : V} {p lo hi : Int} (h : Dm H v p lo hi) : Dm H' v p lo hi := h.tps (Tps.same s)
inductive Dms (H : Hp) : List V → List (Int × Int × Int) → Prop
  | nil : Dms H [] []
  | cons {v : V} {p lo hi : Int} {vs : List V} {ds : List (Int × Int × Int)} : Dm H v p lo hi → Dms H vs ds → Dms H (v :: vs) ((p, lo, hi) :: ds)
theorem Dms.length {H : Hp} {vs : List V} {ds : List (Int × Int × Int)} (h : Dms H vs ds) : vs.length = ds.length := by
  induction h with
  | nil => rfl
  | cons _ _ ih => rw [List.length_cons, List.length_cons, ih]
theorem Dms.tps {H H' : Hp} (s : Tps H H') {vs : List V} {ds : List (Int × Int × Int)} (h : Dms H vs ds) : Dms H' vs ds := by
  induction h with
  | nil => exact .nil
  | cons e _ ih => exact .cons (e.tps s) ih
theorem Dms.same {H H' : Hp} (s : Same H H') {vs : List V} {ds : List (Int × Int × Int)} (h : Dms H vs ds) : Dms H' vs ds := h.tps (Tps.same s)
theorem Dms.get {H : Hp} {vs : List V} {ds : List (Int × Int × Int)} (h : Dms H vs ds) : ∀ {i : Nat} {v : V}, vs[i]? = some v → ∃ p lo hi, ds[i]? = some (p, lo, hi) ∧ Dm H v p lo hi := by
  induction h with
  | nil =>
    intro i v e
    simp at e
  | cons e _ ih =>
    intro i v q
    cases i with
    | zero =>
      cases q
      exact ⟨_, _, _, rfl, e⟩
    | succ i => exact ih q
theorem Dms.append {H : Hp} {vs us : List V} {ds es : List (Int × Int × Int)} (h : Dms H vs ds) (h2 : Dms H us es) : Dms H (vs ++ us) (ds ++ es) := by
  induction h with
  | nil => exact h2
  | cons e _ ih => exact .cons e ih
theorem Dms.snoc {H : Hp} {vs : List V} {ds : List (Int × Int × Int)} {v : V} {p lo hi : Int} (h : Dms H vs ds) (e : Dm H v p lo hi) : Dms H (vs ++ [v]) (ds ++ [(p, lo, hi)]) := h.append (.cons e .nil)
theorem Dms.take {H : Hp} {vs : List V} {ds : List (Int × Int × Int)} (h : Dms H vs ds) : ∀ n : Nat, Dms H (vs.take n) (ds.take n) := by
  induction h with
  | nil =>
    intro n
    rw [List.take_nil, List.take_nil]
    exact .nil
  | cons e _ ih =>
    intro n
    cases n with
    | zero => exact .nil
    | succ n => exact .cons e (ih n)
theorem Dms.reverse {H : Hp} {vs : List V} {ds : List (Int × Int × Int)} (h : Dms H vs ds) : Dms H vs.reverse ds.reverse := by
  induction h with
  | nil => exact .nil
  | cons e _ ih =>
    rw [List.reverse_cons, List.reverse_cons]
    exact ih.snoc e
theorem Dms.isEmpty {H : Hp} {vs : List V} {ds : List (Int × Int × Int)} (h : Dms H vs ds) : vs.isEmpty = ds.isEmpty := by
  cases h <;> rfl
theorem Dms.ok {H : Hp} {vs : List V} {ds : List (Int × Int × Int)} (h : Dms H vs ds) : ∀ q ∈ ds, q.2.1 ≤ q.1 ∧ q.1 ≤ q.2.2 := by
  induction h with
  | nil =>
    intro q hq
    cases hq
  | cons e _ ih =>
    intro q hq
    rcases List.mem_cons.mp hq with rfl | hq
    · exact ⟨e.low, e.high⟩
    · exact ih q hq
/-! ### comprehensions over a range that draw -/
theorem lcK {d c : Addr} {n0 per : Int} {lo : Int} {n : Nat} {g : TG} {tt : TT} {te : TE} {vs : List Nat} {σ : L2.St} {H1 : Hp} {D : Addr} {Qd : Hp → Prop} (R : Nat → Hp → List V → Prop) (nD : H1 D = none) (dk : Dk H1 d c n0) (few : n < 1000)
    (mono : ∀ i H' H'' ws, Tps H' H'' → R i H' ws → R i H'' ws) (len : ∀ i H' ws, R i H' ws → ws.length ≤ i) (r0 : ∀ H', R 0 H' [])
    (hs : ∀ i H' (N : Hp → Prop) acc, i < n → Kp d c H1 H' → Dk H' d c (n0 + per * i) → H' D = some (.lst acc) → R i H' acc → (∀ H'' y, Kp d c H' H'' → Dk H'' d c (n0 + per * i + per) → R (i + 1) H'' (acc ++ [y]) → ∃ acc', H'' D = some (.lst acc') ∧ acc'.length < sizeLine ∧ N (upd H'' D (.lst (acc' ++ [y])))) →
      g (.int (lo + i)) (wipe σ vs) H' fun σ2 H2 => wipe σ2 vs = wipe σ vs ∧ tt σ2 H2 fun b H3 => if b = true then te σ2 H3 fun y H4 => ∃ acc, H4 D = some (.lst acc) ∧ acc.length < sizeLine ∧ N (upd H4 D (.lst (acc ++ [y]))) else N H3)
    (hd : ∀ H' ws, Kp d c H1 H' → Dk H' d c (n0 + per * n) → H' D = some (.lst ws) → R n H' ws → Qd H') :
    ∃ W : Nat → Nat → Hp → Prop, (∃ m, W 0 m (upd H1 D (.lst []))) ∧ ∀ i m H, W i m H →
      ((Itr lo n).stop i H ∧ Qd H) ∨ ((Itr lo n).go i H ∧ ∃ Nx : Hp → Prop, (∀ H', Nx H' → ∃ m', m' < m ∧ W (i + 1) m' H') ∧ ∀ x H', (Itr lo n).yld i H x H' → g x (wipe σ vs) H' fun σ2 H2 => wipe σ2 vs = wipe σ vs ∧ tt σ2 H2 fun b H3 =>
        if b = true then te σ2 H3 fun y H4 => ∃ acc, H4 D = some (.lst acc) ∧ acc.length < sizeLine ∧ Nx (upd H4 D (.lst (acc ++ [y]))) else Nx H3) := by
  have off := dk.off nD
  refine lc_range (lo := lo) (n := n) (fun i H' => Kp d c H1 H' ∧ Dk H' d c (n0 + per * i) ∧ ∃ ws, H' D = some (.lst ws) ∧ R i H' ws) ⟨Kp.same (same_new nD), (dk.upd off).eq (by simp), [], upd_same, r0 _⟩ ?_ ?_
  · rintro i H' hi ⟨kp, dk', ws, eD, r⟩
    have lw := len i H' ws r
    have sz : ws.length < sizeLine := few_line (by omega)
    refine hs i H' _ ws hi kp dk' eD r (fun H'' y kp2 dk2 r2 => ?_)
    have eD2 := kp2.keep off eD
    refine ⟨ws, eD2, sz, fun b o n1 n2 e => ?_, (dk2.upd off).eq ?_, _, upd_same, mono _ _ _ _ (Tps.lst eD2) r2⟩
    · rw [upd_ne (ne_of_none e nD)]
      exact kp2 b o n1 n2 (kp b o n1 n2 e)
    · rw [Int.natCast_succ, Int.mul_add, Int.mul_one]
      omega
  · rintro H' ⟨kp, dk', ws, eD, r⟩
    exact hd H' ws kp dk' eD r

theorem Ivs.tps {H H' : Hp} (s : Tps H H') {vs : List V} {ps : List (Int × Int)} (h : Ivs H vs ps) : Ivs H' vs ps := by
  induction h with
  | nil => exact .nil
  | cons e _ ih => exact .cons (s _ _ e) ih
theorem Ivs.append {H : Hp} {vs us : List V} {ps qs : List (Int × Int)} (h : Ivs H vs ps) (h2 : Ivs H us qs) : Ivs H (vs ++ us) (ps ++ qs) := by
  induction h with
  | nil => exact h2
  | cons e _ ih => exact .cons e ih
theorem Ivs.isEmpty {H : Hp} {vs : List V} {ps : List (Int × Int)} (h : Ivs H vs ps) : vs.isEmpty = ps.isEmpty := by
  cases h <;> rfl

def strI (f s : Int) (p : Int × Int) : Int × Int := (p.1 * f + s, p.2 * f + f - 1 + s)

/-! ### tuples joined and cut, whichever object comes out -/
theorem catA_any {K : PySem.W.Frag} {H : Hp} {a b : Addr} {xs ys : List V} {Q : VK} (h1 : H a = some (.tup xs)) (h2 : H b = some (.tup ys)) (sz : xs.length + ys.length ≤ sizeLine) (k : ∀ H' p, Same H H' → H' p = some (.tup (xs ++ ys)) → Q (.ref p) H') : rCatA K (.ref a) (.ref b) H Q := by
  refine ⟨a, b, xs, ys, rfl, rfl, SqT.of h1, SqT.of h2, sz, fun e => k H b (Same.refl _) ?_, fun _ e => k H a (Same.refl _) ?_, fun _ _ p np => k _ p (same_new np) upd_same⟩
  · rw [e]
    exact h2
  · rw [e, List.append_nil]
    exact h1
theorem slA_any {K : PySem.W.Frag} {H : Hp} {a : Addr} {xs : List V} {lo hi : Option Int} {Q : VK} (h1 : H a = some (.tup xs)) (k : ∀ H' p, Same H H' → H' p = some (.tup (cutV xs lo hi)) → Q (.ref p) H') : rSlA K (.ref a) lo hi H Q := by
  refine ⟨a, xs, rfl, SqT.of h1, fun e => k H a (Same.refl _) ?_, fun _ p np => k _ p (same_new np) upd_same⟩
  have e2 : cutV xs lo hi = xs := by
    unfold cutV
    rw [e.1, e.2]
    simp
  rw [e2]
  exact h1
theorem Ivs.take {H : Hp} {vs : List V} {ps : List (Int × Int)} (h : Ivs H vs ps) : ∀ n : Nat, Ivs H (vs.take n) (ps.take n) := by
  induction h with
  | nil =>
    intro n
    rw [List.take_nil, List.take_nil]
    exact .nil
  | cons e _ ih =>
    intro n
    cases n with
    | zero => exact .nil
    | succ n => exact .cons e (ih n)

/-! ### sorted(set(pairs)) -/
def ltP (a b : Int × Int) : Prop := a.1 < b.1 ∨ (a.1 = b.1 ∧ a.2 < b.2)
def prL (q : Int × Int) : List Int := [q.1, q.2]
theorem prL_inj {a b : Int × Int} (h : prL a = prL b) : a = b := by
  unfold prL at h
  cases a
  cases b
  simp at h
  rw [h.1, h.2]
theorem mem_prL {q : Int × Int} {ps : List (Int × Int)} : prL q ∈ ps.map prL ↔ q ∈ ps := by
  rw [List.mem_map]
  exact ⟨fun ⟨a, ha, e⟩ => prL_inj e ▸ ha, fun h => ⟨q, h, rfl⟩⟩
theorem Ivs.keys {H : Hp} {us : List V} {ps : List (Int × Int)} (h : Ivs H us ps) : ∃ ks : List (Addr × List Int), us = ks.map (fun p => V.ref p.1) ∧ ks.map (·.2) = ps.map prL ∧ ∀ p ∈ ks, ∃ x y : Int, p.2 = [x, y] ∧ H p.1 = some (.tup [.int x, .int y]) := by
  induction h with
  | nil => exact ⟨[], rfl, rfl, fun p hp => nomatch hp⟩
  | cons e _ ih =>
    obtain ⟨ks, e1, e2, e3⟩ := ih
    refine ⟨(_, [_, _]) :: ks, by rw [List.map_cons, e1], by rw [List.map_cons, List.map_cons, e2]; rfl, fun p hp => ?_⟩
    rcases List.mem_cons.mp hp with rfl | hp
    · exact ⟨_, _, rfl, e⟩
    · exact e3 p hp
theorem Ivs.ofKeys {H : Hp} : ∀ {L : List (Addr × List Int)}, (∀ p ∈ L, ∃ x y : Int, p.2 = [x, y] ∧ H p.1 = some (.tup [.int x, .int y])) → ∃ ps, Ivs H (L.map fun p => V.ref p.1) ps ∧ L.map (·.2) = ps.map prL
  | [], _ => ⟨[], .nil, rfl⟩
  | p :: L, h => by
    obtain ⟨x, y, e, e1⟩ := h p List.mem_cons_self
    obtain ⟨ps, i, e2⟩ := Ivs.ofKeys (L := L) fun q hq => h q (List.mem_cons_of_mem _ hq)
    exact ⟨(x, y) :: ps, .cons e1 i, by rw [List.map_cons, List.map_cons, e2, e]; rfl⟩
theorem Ivs.tpsMem {H : Hp} {us : List V} {ps : List (Int × Int)} (h : Ivs H us ps) {q : Int × Int} (hq : q ∈ ps) : ∃ a, V.ref a ∈ us ∧ H a = some (.tup [.int q.1, .int q.2]) := by
  induction h with
  | nil => cases hq
  | cons e _ ih =>
    rcases List.mem_cons.mp hq with rfl | hq
    · exact ⟨_, List.mem_cons_self, e⟩
    · obtain ⟨a, h1, h2⟩ := ih hq
      exact ⟨a, List.mem_cons_of_mem _ h1, h2⟩
theorem sorted_keys {K : PySem.W.Frag} {P : Program} {w : World} {H : Hp} {ps : List (Int × Int)} {Q : VK} {ks L : List (Addr × List Int)} {a : Addr} (e2 : ks.map (·.2) = ps.map prL) (e3 : ∀ p ∈ ks, ∃ x y : Int, p.2 = [x, y] ∧ H p.1 = some (.tup [.int x, .int y])) (na : H a = none) (h1 : ∀ p ∈ L, p ∈ ks) (h2 : ∀ p ∈ ks, p.2 ∈ L.map (·.2)) (bd : ∀ q ∈ ps, (0 ≤ q.1 ∧ q.1 < 10 ^ 13) ∧ 0 ≤ q.2 ∧ q.2 < 10 ^ 13)
    (fin : ∀ H' p us' ps', Same H H' → H p = none → H' p = some (.lst us') → Ivs H' us' ps' → ps'.Pairwise ltP → (∀ q, q ∈ ps' ↔ q ∈ ps) → Q (.ref p) H') :
    rSortedT K P w [.ref a] (upd H a (SetTO P w a L)) Q := by
  have s1 : Same H (upd H a (SetTO P w a L)) := same_new na
  refine ⟨a, L, 2, 10 ^ 13, rfl, upd_same, fun p hp => ?_, by decide, fun p hp => ?_, fun L' p pm nd fw pw np => ?_⟩
  · obtain ⟨x, y, e, e1⟩ := e3 p (h1 p hp)
    rw [e]
    exact SqT.of (s1 _ _ e1)
  · have m : p.2 ∈ ks.map (·.2) := List.mem_map.mpr ⟨p, h1 p hp, rfl⟩
    rw [e2] at m
    obtain ⟨q, hq, e⟩ := List.mem_map.mp m
    have b := bd q hq
    rw [← e]
    refine ⟨rfl, fun m hm => ?_⟩
    unfold prL at hm
    rcases List.mem_cons.mp hm with rfl | hm
    · exact b.1
    · rw [List.mem_singleton.mp hm]
      exact b.2
  · have s2 : Same (upd H a (SetTO P w a L)) (upd (upd H a (SetTO P w a L)) p (.lst (L'.map fun q => V.ref q.1))) := same_new np
    obtain ⟨ps', i, e4⟩ := Ivs.ofKeys (H := H) (L := L') fun q hq => e3 q (h1 q (pm.mem_iff.mp hq))
    have mem : ∀ q, q ∈ ps' ↔ q ∈ ps := fun q => by
      rw [← mem_prL, ← e4, ← mem_prL (ps := ps), ← e2, (pm.map (·.2)).mem_iff]
      constructor
      · intro h
        obtain ⟨p, hp, e⟩ := List.mem_map.mp h
        exact List.mem_map.mpr ⟨p, h1 p hp, e⟩
      · intro h
        obtain ⟨p, hp, e⟩ := List.mem_map.mp h
        rw [← e]
        exact h2 p hp
    refine fin _ p _ ps' (s1.trans s2) (s1.free np) upd_same (i.same (s1.trans s2)) ?_ mem
    have pw2 : (L'.map (·.2)).Pairwise (fun q r => TS.code (10 ^ 13) q ≤ TS.code (10 ^ 13) r) := List.pairwise_map.mpr pw
    have both := pw2.and nd
    rw [e4] at both
    refine (List.pairwise_map.mp both).imp_of_mem fun {x y} hx hy h => ?_
    have bx := bd x ((mem x).mp hx)
    have bY := bd y ((mem y).mp hy)
    have tb : ∀ {z : Int × Int}, ((0 ≤ z.1 ∧ z.1 < 10 ^ 13) ∧ 0 ≤ z.2 ∧ z.2 < 10 ^ 13) → TS.Bd (10 ^ 13) [z.1, z.2] := fun b m hm => by
      rcases List.mem_cons.mp hm with rfl | hm
      · exact b.1
      · rw [List.mem_singleton.mp hm]
        exact b.2
    rcases code_lex (tb bx) (tb bY) h.1 with c | ⟨c1, c2⟩
    · exact .inl c
    · refine .inr ⟨c1, ?_⟩
      rcases Int.lt_or_eq_of_le c2 with z | z
      · exact z
      · exact absurd (show prL x = prL y by unfold prL; rw [c1, z]) h.2
theorem sorted_set_pairs {K : PySem.W.Frag} {P : Program} {w : World} {H : Hp} {l : Addr} {us : List V} {ps : List (Int × Int)} {Q : VK} (hl : SqL K H l us) (iv : Ivs H us ps) (few : ps.length < 64) (bd : ∀ q ∈ ps, (0 ≤ q.1 ∧ q.1 < 10 ^ 13) ∧ 0 ≤ q.2 ∧ q.2 < 10 ^ 13)
    (fin : ∀ H' p us' ps', Same H H' → H p = none → H' p = some (.lst us') → Ivs H' us' ps' → ps'.Pairwise ltP → (∀ q, q ∈ ps' ↔ q ∈ ps) → Q (.ref p) H') :
    rSetOfT K P w [.ref l] H (fun x H1 => rSortedT K P w [x] H1 Q) := by
  obtain ⟨ks, rfl, e2, e3⟩ := iv.keys
  have lk : ks.length = ps.length := by
    have z := congrArg List.length e2
    rw [List.length_map, List.length_map] at z
    exact z
  refine ⟨l, ks, rfl, hl, fun p hp => ?_, by omega, fun a L na h1 h2 => ?_⟩
  · obtain ⟨x, y, e, e1⟩ := e3 p hp
    rw [e]
    exact SqT.of e1
  exact sorted_keys e2 e3 na h1 h2 bd fin

def leP (a b : Int × Int) : Prop := a.1 < b.1 ∨ (a.1 = b.1 ∧ a.2 ≤ b.2)
theorem leP_of_lt {ps : List (Int × Int)} (h : ps.Pairwise ltP) : ps.Pairwise leP := h.imp fun {a b} h => by
  rcases h with h | h
  · exact .inl h
  · exact .inr ⟨h.1, by omega⟩
theorem leP_uniq {ps qs : List (Int × Int)} (h1 : ps.Pairwise leP) (h2 : qs.Pairwise leP) (pm : ps.Perm qs) : ps = qs := by
  refine pm.eq_of_pairwise (le := leP) (fun a b _ _ x y => ?_) h1 h2
  have : a.1 = b.1 ∧ a.2 = b.2 := by
    unfold leP at x y
    omega
  exact Prod.ext this.1 this.2

/-! ### a comprehension over two tuples -/
theorem lcZ {K : PySem.W.Frag} {a b : Addr} {xs ys : List V} {g : TG} {tt : TT} {te : TE} {vs : List Nat} {σ : L2.St} {H1 : Hp} {D : Addr} {Qd : Hp → Prop} (R : Nat → Hp → List V → Prop) (nD : H1 D = none) (ha : ∀ H', Same H1 H' → SqT K H' a xs) (hb : ∀ H', Same H1 H' → SqT K H' b ys) (few : xs.length < 1000)
    (mono : ∀ i H' H'' ws, Tps H' H'' → R i H' ws → R i H'' ws) (len : ∀ i H' ws, R i H' ws → ws.length ≤ i) (r0 : ∀ H', R 0 H' [])
    (hs : ∀ i x y T H' (N : Hp → Prop) acc, xs[i]? = some x → ys[i]? = some y → Same H1 H' → H' T = some (.tup [x, y]) → H' D = some (.lst acc) → acc.length < sizeLine → R i H' acc → (∀ H'', Same H' H'' → R (i + 1) H'' acc → N H'') → (∀ H'' y, Same H' H'' → R (i + 1) H'' (acc ++ [y]) → ∃ acc', H'' D = some (.lst acc') ∧ acc'.length < sizeLine ∧ N (upd H'' D (.lst (acc' ++ [y])))) →
      g (.ref T) (wipe σ vs) H' fun σ2 H2 => wipe σ2 vs = wipe σ vs ∧ tt σ2 H2 fun b H3 => if b = true then te σ2 H3 fun y H4 => ∃ acc, H4 D = some (.lst acc) ∧ acc.length < sizeLine ∧ N (upd H4 D (.lst (acc ++ [y]))) else N H3)
    (hd : ∀ i H' ws, i ≤ xs.length → Same H1 H' → H' D = some (.lst ws) → R i H' ws → Qd H') :
    ∃ W : Nat → Nat → Hp → Prop, (∃ m, W 0 m (upd H1 D (.lst []))) ∧ ∀ i m H, W i m H →
      ((RZ.ItzT K a b).stop i H ∧ Qd H) ∨ ((RZ.ItzT K a b).go i H ∧ ∃ Nx : Hp → Prop, (∀ H', Nx H' → ∃ m', m' < m ∧ W (i + 1) m' H') ∧ ∀ x H', (RZ.ItzT K a b).yld i H x H' → g x (wipe σ vs) H' fun σ2 H2 => wipe σ2 vs = wipe σ vs ∧ tt σ2 H2 fun b H3 =>
        if b = true then te σ2 H3 fun y H4 => ∃ acc, H4 D = some (.lst acc) ∧ acc.length < sizeLine ∧ Nx (upd H4 D (.lst (acc ++ [y]))) else Nx H3) := by
  refine ⟨fun i m H => m = xs.length - i ∧ i ≤ xs.length ∧ Same H1 H ∧ ∃ ws, H D = some (.lst ws) ∧ R i H ws, ⟨_, rfl, Nat.zero_le _, same_new nD, [], upd_same, r0 _⟩, ?_⟩
  rintro i m H ⟨rfl, hi, sm, ws, eD, r⟩
  have q1 := ha H sm
  have q2 := hb H sm
  by_cases c : i < xs.length ∧ i < ys.length
  · refine .inr ⟨⟨xs, ys, xs[i]'c.1, ys[i]'c.2, q1, q2, List.getElem?_eq_getElem c.1, List.getElem?_eq_getElem c.2⟩, (fun H => i + 1 ≤ xs.length ∧ Same H1 H ∧ ∃ ws, H D = some (.lst ws) ∧ R (i + 1) H ws), fun H' p' => ⟨xs.length - (i + 1), by omega, rfl, p'⟩, fun v H' hy => ?_⟩
    obtain ⟨T, x, y, rfl, nT, rfl, f1, f2⟩ := hy
    have sT := same_new (o := .tup [x, y]) nT
    have lw := len i H ws r
    have sz : ws.length < sizeLine := few_line (by omega)
    refine hs i x y T _ _ ws (f1 xs q1) (f2 ys q2) (sm.trans sT) upd_same (sT _ _ eD) sz (mono _ _ _ _ (Tps.same sT) r) (fun H'' s r2 => ⟨c.1, sm.trans (sT.trans s), ws, s _ _ (sT _ _ eD), r2⟩) (fun H'' y s r2 => ?_)
    exact ⟨ws, s _ _ (sT _ _ eD), sz, c.1, same_off nD (sm.trans (sT.trans s)), _, upd_same, mono _ _ _ _ (Tps.lst (s _ _ (sT _ _ eD))) r2⟩
  · exact .inl ⟨⟨xs, ys, q1, q2, by omega⟩, hd i H ws hi sm eD r⟩
/-! ### the law's comparison: equal values are the same -/
def sp_same0 : Sp := fun _ _ _ _ => False
theorem ok_same0 {f : Addr} {fd : FuncData} {a b : Str} : FnOk P w K mg base CX0 0 f fd [a, b] sp_same0 := ⟨fun _ _ _ _ h => h.elim, fun _ _ _ _ _ _ _ _ _ _ _ _ _ h => h.elim⟩
def sp_same1 : Sp := fun vs H Q _ => ∃ i : Int, vs = [.int i, .int i] ∧ Q (.bl true) H
theorem ok_same1 (T : Tx K mg f_is_number f_is_position f_is_tuple_of f_is_interval f_ascending_error f_targets_error f_is_pieces f_interval_text f_joined_texts f_intervals_text f_demand_text f_parse_number f_parse_interval f_edit_version f_edit_answer f_state_answer f_count_answer f_answer_line f_without_item f_with_interval f_without_interval f_edited_state f_helpful_piece f_law_deck f_law_draw f_law_same f_law_small f_law_odd f_law_text f_law_lines f_law f_Shell_init f_Shell_execute f_Plan_init f_Plan_add_target f_Plan_add_piece f_Plan_remove_target f_Plan_remove_piece f_Plan_undo f_Plan_targets f_Plan_pieces f_Plan_needed f_Plan_solution f_Plan_missing f_Plan_changes f_Plan_edit f_Plan_record f_Plan_require_idle f_Plan_state_at f_Plan_len f_Plan_eq C_Shell C_Plan X_NothingToUndo X_Busy X_TooManyEdits X_Duplicate X_TooMany X_Unknown X_TooWide d_is_number d_is_position d_is_tuple_of d_is_interval d_ascending_error d_targets_error d_is_pieces d_interval_text d_joined_texts d_intervals_text d_demand_text d_parse_number d_parse_interval d_edit_version d_edit_answer d_state_answer d_count_answer d_answer_line d_without_item d_with_interval d_without_interval d_edited_state d_helpful_piece d_law_deck d_law_draw d_law_same d_law_small d_law_odd d_law_text d_law_lines d_law d_Shell_init d_Shell_execute d_Plan_init d_Plan_add_target d_Plan_add_piece d_Plan_remove_target d_Plan_remove_piece d_Plan_undo d_Plan_targets d_Plan_pieces d_Plan_needed d_Plan_solution d_Plan_missing d_Plan_changes d_Plan_edit d_Plan_record d_Plan_require_idle d_Plan_state_at d_Plan_len d_Plan_eq t_LAST_POSITION t_MAX_TARGETS t_MAX_PIECES t_MAX_BLOCKS t_MAX_EDITS t_BATCH) : FnOk P w K mg base CX0 1 f_law_same d_law_same ["_law_found", "_law_due"] sp_same1 := by
  have ok_law_same : Tx K mg f_is_number f_is_position f_is_tuple_of f_is_interval f_ascending_error f_targets_error f_is_pieces f_interval_text f_joined_texts f_intervals_text f_demand_text f_parse_number f_parse_interval f_edit_version f_edit_answer f_state_answer f_count_answer f_answer_line f_without_item f_with_interval f_without_interval f_edited_state f_helpful_piece f_law_deck f_law_draw f_law_same f_law_small f_law_odd f_law_text f_law_lines f_law f_Shell_init f_Shell_execute f_Plan_init f_Plan_add_target f_Plan_add_piece f_Plan_remove_target f_Plan_remove_piece f_Plan_undo f_Plan_targets f_Plan_pieces f_Plan_needed f_Plan_solution f_Plan_missing f_Plan_changes f_Plan_edit f_Plan_record f_Plan_require_idle f_Plan_state_at f_Plan_len f_Plan_eq C_Shell C_Plan X_NothingToUndo X_Busy X_TooManyEdits X_Duplicate X_TooMany X_Unknown X_TooWide d_is_number d_is_position d_is_tuple_of d_is_interval d_ascending_error d_targets_error d_is_pieces d_interval_text d_joined_texts d_intervals_text d_demand_text d_parse_number d_parse_interval d_edit_version d_edit_answer d_state_answer d_count_answer d_answer_line d_without_item d_with_interval d_without_interval d_edited_state d_helpful_piece d_law_deck d_law_draw d_law_same d_law_small d_law_odd d_law_text d_law_lines d_law d_Shell_init d_Shell_execute d_Plan_init d_Plan_add_target d_Plan_add_piece d_Plan_remove_target d_Plan_remove_piece d_Plan_undo d_Plan_targets d_Plan_pieces d_Plan_needed d_Plan_solution d_Plan_missing d_Plan_changes d_Plan_edit d_Plan_record d_Plan_require_idle d_Plan_state_at d_Plan_len d_Plan_eq t_LAST_POSITION t_MAX_TARGETS t_MAX_PIECES t_MAX_BLOCKS t_MAX_EDITS t_BATCH → FnOk P w K mg base CX0 0 f_law_same d_law_same ["_law_found", "_law_due"] sp_same0 := fun _ => ok_same0
  refine T.F_law_same.ok sc_law_same (fun vs H Q E h => ?_) (fun cdv A outer s H vs Q E hr h => ?_)
  · obtain ⟨i, rfl, _⟩ := h
    rfl
  · obtain ⟨i, rfl, q⟩ := h
    refine ⟨_, (pss_cons (ps_if (pt_val (pe_callB call_isi (by rfl) T.z_isinstance (by decide +kernel) (pa_cons (pv 1) (pa_cons (pe_bltn (v := .ty "tuple") (u := .type "tuple") (by rfl) T.z_tuple (by decide +kernel) rfl) pa_nil))))
      (pss_cons (ps_if (PW.pt (pw_or (pt_not (pt_val (pe_callB call_isi (by rfl) T.z_isinstance (by decide +kernel) (pa_cons (pv 0) (pa_cons (pe_bltn (v := .ty "tuple") (u := .type "tuple") (by rfl) T.z_tuple (by decide +kernel) rfl) pa_nil))))) (pw_or1 (pt_cmpR op_ne (pe_callB call_len_seq (by rfl) T.z_len PySem.boot_len (pa_cons (pv 0) pa_nil)) (pe_callB call_len_seq (by rfl) T.z_len PySem.boot_len (pa_cons (pv 1) pa_nil)) (nomark _)))))
      (pss_one (ps_ret pe_bl))
      pss_nil)
      (pss_one (ps_ret (pe_cmpR (op_eqL hr.units0) (pe_lc (own := [("_law_one", 2), ("_law_other", 3)]) (g := (gTup K 2 (gCons (gName 2) (gCons (gName 3) gNil)))) (by rfl) sc_law_same.nd (RZ.pi_zipA (by rfl) T.z_zip (pa_cons (pv 0) (pa_cons (pv 1) pa_nil))) (blkOk_by (own := [("_law_one", 2), ("_law_other", 3)]) (N := N_law_same) (sc := defScope s_law_same) (by decide +kernel)) (fun _ _ _ _ _ => (pg_tup rfl (pgs_cons (pg_name (i := 2) sc_law_same.nd rfl (Or.inl rfl)) (pgs_cons (pg_name (i := 3) sc_law_same.nd rfl (Or.inl rfl)) pgs_nil)))) (fun _ _ _ _ _ => pts_one (pt_not (pt_val (pe_call (ok_law_same T) (hr.mono (by decide)) (by rfl) T.g_law_same T.F_law_same.kp T.b_law_same .nil pass0 (pa_cons (pv 2) (pa_cons (pv 3) pa_nil)))))) (fun _ _ _ _ _ => pe_int)) (pe_lst pa_nil) (nomark _)))))
      pss_nil)
      (pss_cons (ps_if (pt_cmpR op_isN (pv 1) pe_non (nomark _))
      (pss_one (ps_ret (pe_cmpR op_isN (pv 0) pe_non (nomark _))))
      pss_nil)
      (pss_cons (ps_if (pt_val (pe_callB call_isi (by rfl) T.z_isinstance (by decide +kernel) (pa_cons (pv 1) (pa_cons (pe_bltn (v := .ty "str") (u := .type "str") (by rfl) T.z_str (by decide +kernel) rfl) pa_nil))))
      (pss_one (ps_ret (pe_and (pe_callB call_isi (by rfl) T.z_isinstance (by decide +kernel) (pa_cons (pv 0) (pa_cons (pe_bltn (v := .ty "str") (u := .type "str") (by rfl) T.z_str (by decide +kernel) rfl) pa_nil))) (pe_one (pe_cmpR op_eq (pv 0) (pv 1) (nomark _))))))
      pss_nil)
      (pss_one (ps_ret (pe_and (pe_callB call_isi (by rfl) T.z_isinstance (by decide +kernel) (pa_cons (pv 0) (pa_cons (pe_bltn (v := .ty "int") (u := .type "int") (by rfl) T.z_int (by decide +kernel) rfl) pa_nil))) (pe_and (pe_cmpR op_eq (pe_callB call_isi (by rfl) T.z_isinstance (by decide +kernel) (pa_cons (pv 0) (pa_cons (pe_bltn (v := .ty "bool") (u := .type "bool") (by rfl) T.z_bool (by decide +kernel) rfl) pa_nil))) (pe_callB call_isi (by rfl) T.z_isinstance (by decide +kernel) (pa_cons (pv 1) (pa_cons (pe_bltn (v := .ty "bool") (u := .type "bool") (by rfl) T.z_bool (by decide +kernel) rfl) pa_nil))) (nomark _)) (pe_one (pe_cmpR op_eq (pv 0) (pv 1) (nomark _)))))))))), ?_⟩
    refine ⟨.int i, rfl, .int i, .ty "tuple", _, _, _, rfl, .ty "tuple", .base (.int i), kit_ty (a := "int") (b := "tuple") (r := false) (by decide +kernel), _, rfl, iteF ?_⟩
    refine ⟨.int i, rfl, rfl, _, rfl, iteF ?_⟩
    refine ⟨.int i, rfl, .int i, .ty "str", _, _, _, rfl, .ty "str", .base (.int i), kit_ty (a := "int") (b := "str") (r := false) (by decide +kernel), _, rfl, iteF ?_⟩
    refine ⟨.int i, rfl, .int i, .ty "int", _, _, _, rfl, .ty "int", .base (.int i), kit_ty (a := "int") (b := "int") (r := true) (by decide +kernel), _, rfl, iteT ?_⟩
    refine ⟨.int i, rfl, .int i, .ty "bool", _, _, _, rfl, .ty "bool", .base (.int i), kit_ty (a := "int") (b := "bool") (r := false) (by decide +kernel), .int i, rfl, .int i, .ty "bool", _, _, _, rfl, .ty "bool", .base (.int i), kit_ty (a := "int") (b := "bool") (r := false) (by decide +kernel), rfl, _, rfl, iteT ?_⟩
    refine ⟨.int i, rfl, .int i, rfl, rfl, ?_⟩
    rw [decide_eq_true rfl]
    exact q
def sp_same2 : Sp := fun vs H Q _ => ∃ (a b : Addr) (x y : Int), vs = [.ref a, .ref b] ∧ H a = some (.tup [.int x, .int y]) ∧ H b = some (.tup [.int x, .int y]) ∧ ∀ H', Same H H' → Q (.bl true) H'
theorem ok_same2 (T : Tx K mg f_is_number f_is_position f_is_tuple_of f_is_interval f_ascending_error f_targets_error f_is_pieces f_interval_text f_joined_texts f_intervals_text f_demand_text f_parse_number f_parse_interval f_edit_version f_edit_answer f_state_answer f_count_answer f_answer_line f_without_item f_with_interval f_without_interval f_edited_state f_helpful_piece f_law_deck f_law_draw f_law_same f_law_small f_law_odd f_law_text f_law_lines f_law f_Shell_init f_Shell_execute f_Plan_init f_Plan_add_target f_Plan_add_piece f_Plan_remove_target f_Plan_remove_piece f_Plan_undo f_Plan_targets f_Plan_pieces f_Plan_needed f_Plan_solution f_Plan_missing f_Plan_changes f_Plan_edit f_Plan_record f_Plan_require_idle f_Plan_state_at f_Plan_len f_Plan_eq C_Shell C_Plan X_NothingToUndo X_Busy X_TooManyEdits X_Duplicate X_TooMany X_Unknown X_TooWide d_is_number d_is_position d_is_tuple_of d_is_interval d_ascending_error d_targets_error d_is_pieces d_interval_text d_joined_texts d_intervals_text d_demand_text d_parse_number d_parse_interval d_edit_version d_edit_answer d_state_answer d_count_answer d_answer_line d_without_item d_with_interval d_without_interval d_edited_state d_helpful_piece d_law_deck d_law_draw d_law_same d_law_small d_law_odd d_law_text d_law_lines d_law d_Shell_init d_Shell_execute d_Plan_init d_Plan_add_target d_Plan_add_piece d_Plan_remove_target d_Plan_remove_piece d_Plan_undo d_Plan_targets d_Plan_pieces d_Plan_needed d_Plan_solution d_Plan_missing d_Plan_changes d_Plan_edit d_Plan_record d_Plan_require_idle d_Plan_state_at d_Plan_len d_Plan_eq t_LAST_POSITION t_MAX_TARGETS t_MAX_PIECES t_MAX_BLOCKS t_MAX_EDITS t_BATCH) : FnOk P w K mg base CX0 2 f_law_same d_law_same ["_law_found", "_law_due"] sp_same2 := by
  have ok_law_same := fun T : Tx K mg f_is_number f_is_position f_is_tuple_of f_is_interval f_ascending_error f_targets_error f_is_pieces f_interval_text f_joined_texts f_intervals_text f_demand_text f_parse_number f_parse_interval f_edit_version f_edit_answer f_state_answer f_count_answer f_answer_line f_without_item f_with_interval f_without_interval f_edited_state f_helpful_piece f_law_deck f_law_draw f_law_same f_law_small f_law_odd f_law_text f_law_lines f_law f_Shell_init f_Shell_execute f_Plan_init f_Plan_add_target f_Plan_add_piece f_Plan_remove_target f_Plan_remove_piece f_Plan_undo f_Plan_targets f_Plan_pieces f_Plan_needed f_Plan_solution f_Plan_missing f_Plan_changes f_Plan_edit f_Plan_record f_Plan_require_idle f_Plan_state_at f_Plan_len f_Plan_eq C_Shell C_Plan X_NothingToUndo X_Busy X_TooManyEdits X_Duplicate X_TooMany X_Unknown X_TooWide d_is_number d_is_position d_is_tuple_of d_is_interval d_ascending_error d_targets_error d_is_pieces d_interval_text d_joined_texts d_intervals_text d_demand_text d_parse_number d_parse_interval d_edit_version d_edit_answer d_state_answer d_count_answer d_answer_line d_without_item d_with_interval d_without_interval d_edited_state d_helpful_piece d_law_deck d_law_draw d_law_same d_law_small d_law_odd d_law_text d_law_lines d_law d_Shell_init d_Shell_execute d_Plan_init d_Plan_add_target d_Plan_add_piece d_Plan_remove_target d_Plan_remove_piece d_Plan_undo d_Plan_targets d_Plan_pieces d_Plan_needed d_Plan_solution d_Plan_missing d_Plan_changes d_Plan_edit d_Plan_record d_Plan_require_idle d_Plan_state_at d_Plan_len d_Plan_eq t_LAST_POSITION t_MAX_TARGETS t_MAX_PIECES t_MAX_BLOCKS t_MAX_EDITS t_BATCH => ok_same1 (P := P) (w := w) (base := base) T
  refine T.F_law_same.ok sc_law_same (fun vs H Q E h => ?_) (fun cdv A outer s H vs Q E hr h => ?_)
  · obtain ⟨a, b, x, y, rfl, _⟩ := h
    rfl
  · obtain ⟨a, b, x, y, rfl, ha, hb, q⟩ := h
    refine ⟨_, (pss_cons (ps_if (pt_val (pe_callB call_isi (by rfl) T.z_isinstance (by decide +kernel) (pa_cons (pv 1) (pa_cons (pe_bltn (v := .ty "tuple") (u := .type "tuple") (by rfl) T.z_tuple (by decide +kernel) rfl) pa_nil))))
      (pss_cons (ps_if (PW.pt (pw_or (pt_not (pt_val (pe_callB call_isi (by rfl) T.z_isinstance (by decide +kernel) (pa_cons (pv 0) (pa_cons (pe_bltn (v := .ty "tuple") (u := .type "tuple") (by rfl) T.z_tuple (by decide +kernel) rfl) pa_nil))))) (pw_or1 (pt_cmpR op_ne (pe_callB call_len_seq (by rfl) T.z_len PySem.boot_len (pa_cons (pv 0) pa_nil)) (pe_callB call_len_seq (by rfl) T.z_len PySem.boot_len (pa_cons (pv 1) pa_nil)) (nomark _)))))
      (pss_one (ps_ret pe_bl))
      pss_nil)
      (pss_one (ps_ret (pe_cmpR (op_eqL hr.units0) (pe_lc (own := [("_law_one", 2), ("_law_other", 3)]) (g := (gTup K 2 (gCons (gName 2) (gCons (gName 3) gNil)))) (by rfl) sc_law_same.nd (RZ.pi_zipA (by rfl) T.z_zip (pa_cons (pv 0) (pa_cons (pv 1) pa_nil))) (blkOk_by (own := [("_law_one", 2), ("_law_other", 3)]) (N := N_law_same) (sc := defScope s_law_same) (by decide +kernel)) (fun _ _ _ _ _ => (pg_tup rfl (pgs_cons (pg_name (i := 2) sc_law_same.nd rfl (Or.inl rfl)) (pgs_cons (pg_name (i := 3) sc_law_same.nd rfl (Or.inl rfl)) pgs_nil)))) (fun _ _ _ _ _ => pts_one (pt_not (pt_val (pe_call (ok_law_same T) (hr.mono (by decide)) (by rfl) T.g_law_same T.F_law_same.kp T.b_law_same .nil pass0 (pa_cons (pv 2) (pa_cons (pv 3) pa_nil)))))) (fun _ _ _ _ _ => pe_int)) (pe_lst pa_nil) (nomark _)))))
      pss_nil)
      (pss_cons (ps_if (pt_cmpR op_isN (pv 1) pe_non (nomark _))
      (pss_one (ps_ret (pe_cmpR op_isN (pv 0) pe_non (nomark _))))
      pss_nil)
      (pss_cons (ps_if (pt_val (pe_callB call_isi (by rfl) T.z_isinstance (by decide +kernel) (pa_cons (pv 1) (pa_cons (pe_bltn (v := .ty "str") (u := .type "str") (by rfl) T.z_str (by decide +kernel) rfl) pa_nil))))
      (pss_one (ps_ret (pe_and (pe_callB call_isi (by rfl) T.z_isinstance (by decide +kernel) (pa_cons (pv 0) (pa_cons (pe_bltn (v := .ty "str") (u := .type "str") (by rfl) T.z_str (by decide +kernel) rfl) pa_nil))) (pe_one (pe_cmpR op_eq (pv 0) (pv 1) (nomark _))))))
      pss_nil)
      (pss_one (ps_ret (pe_and (pe_callB call_isi (by rfl) T.z_isinstance (by decide +kernel) (pa_cons (pv 0) (pa_cons (pe_bltn (v := .ty "int") (u := .type "int") (by rfl) T.z_int (by decide +kernel) rfl) pa_nil))) (pe_and (pe_cmpR op_eq (pe_callB call_isi (by rfl) T.z_isinstance (by decide +kernel) (pa_cons (pv 0) (pa_cons (pe_bltn (v := .ty "bool") (u := .type "bool") (by rfl) T.z_bool (by decide +kernel) rfl) pa_nil))) (pe_callB call_isi (by rfl) T.z_isinstance (by decide +kernel) (pa_cons (pv 1) (pa_cons (pe_bltn (v := .ty "bool") (u := .type "bool") (by rfl) T.z_bool (by decide +kernel) rfl) pa_nil))) (nomark _)) (pe_one (pe_cmpR op_eq (pv 0) (pv 1) (nomark _)))))))))), ?_⟩
    refine ⟨.ref b, rfl, .ref b, .ty "tuple", _, _, _, rfl, .ty "tuple", .base (.tup hb), kit_ty (a := "tuple") (b := "tuple") (r := true) (by decide +kernel), _, rfl, iteT ?_⟩
    refine ⟨.ref a, rfl, .ref a, .ty "tuple", _, _, _, rfl, .ty "tuple", .base (.tup ha), kit_ty (a := "tuple") (b := "tuple") (r := true) (by decide +kernel), _, rfl, iteF ?_⟩
    refine ⟨.ref a, rfl, a, _, rfl, .inr (SqT.of ha), .ref b, rfl, b, _, rfl, .inr (SqT.of hb), rfl, _, rfl, iteF ?_⟩
    refine ⟨.ref a, rfl, .ref b, rfl, a, b, _, _, rfl, .inr ⟨SqT.of ha, SqT.of hb, fun D nD => ?_⟩⟩
    refine lcZ (K := K) (a := a) (b := b) (xs := [.int x, .int y]) (ys := [.int x, .int y]) (fun j H' ws => ws = []) nD (fun H' s => SqT.of (s _ _ ha)) (fun H' s => SqT.of (s _ _ hb)) (by show 2 < 1000; decide) (fun _ _ _ _ _ h => h) (fun i H' ws h => by rw [h]; exact Nat.zero_le _) (fun _ => rfl) ?_ ?_
    · rintro j u v TT H' N acc hu hv sm eT eD sz r no yes
      have euv : ∃ k : Int, u = .int k ∧ v = .int k := by
        match j, hu, hv with
        | 0, hu, hv =>
          cases hu
          cases hv
          exact ⟨x, rfl, rfl⟩
        | 1, hu, hv =>
          cases hu
          cases hv
          exact ⟨y, rfl, rfl⟩
        | j + 2, hu, _ => simp at hu
      obtain ⟨k, rfl, rfl⟩ := euv
      refine ⟨TT, _, rfl, SqT.of eT, rfl, .int k, [.int k], rfl, .int k, [], rfl, rfl, rfl, .int k, rfl, .int k, rfl, k, rfl, _, rfl, iteF ?_⟩
      exact no H' (Same.refl _) r
    · rintro j H' ws jl sm eD r
      subst r
      refine ⟨by show 0 ≤ sizeLine; decide, fun z nz => ?_⟩
      have sz := same_new (o := .lst []) nz
      exact ⟨D, z, [], rfl, rfl, SqL.of (sz _ _ eD), SqL.of upd_same, q _ (sm.trans sz)⟩
def sp_law_same : Sp := fun vs H Q _ => ∃ (a b : Addr) (us ws : List V) (ps : List (Int × Int)), vs = [.ref a, .ref b] ∧ H a = some (.tup us) ∧ H b = some (.tup ws) ∧ Ivs H us ps ∧ Ivs H ws ps ∧ ps.length < 1000 ∧ ∀ H', Same H H' → Q (.bl true) H'
theorem ok_law_same (T : Tx K mg f_is_number f_is_position f_is_tuple_of f_is_interval f_ascending_error f_targets_error f_is_pieces f_interval_text f_joined_texts f_intervals_text f_demand_text f_parse_number f_parse_interval f_edit_version f_edit_answer f_state_answer f_count_answer f_answer_line f_without_item f_with_interval f_without_interval f_edited_state f_helpful_piece f_law_deck f_law_draw f_law_same f_law_small f_law_odd f_law_text f_law_lines f_law f_Shell_init f_Shell_execute f_Plan_init f_Plan_add_target f_Plan_add_piece f_Plan_remove_target f_Plan_remove_piece f_Plan_undo f_Plan_targets f_Plan_pieces f_Plan_needed f_Plan_solution f_Plan_missing f_Plan_changes f_Plan_edit f_Plan_record f_Plan_require_idle f_Plan_state_at f_Plan_len f_Plan_eq C_Shell C_Plan X_NothingToUndo X_Busy X_TooManyEdits X_Duplicate X_TooMany X_Unknown X_TooWide d_is_number d_is_position d_is_tuple_of d_is_interval d_ascending_error d_targets_error d_is_pieces d_interval_text d_joined_texts d_intervals_text d_demand_text d_parse_number d_parse_interval d_edit_version d_edit_answer d_state_answer d_count_answer d_answer_line d_without_item d_with_interval d_without_interval d_edited_state d_helpful_piece d_law_deck d_law_draw d_law_same d_law_small d_law_odd d_law_text d_law_lines d_law d_Shell_init d_Shell_execute d_Plan_init d_Plan_add_target d_Plan_add_piece d_Plan_remove_target d_Plan_remove_piece d_Plan_undo d_Plan_targets d_Plan_pieces d_Plan_needed d_Plan_solution d_Plan_missing d_Plan_changes d_Plan_edit d_Plan_record d_Plan_require_idle d_Plan_state_at d_Plan_len d_Plan_eq t_LAST_POSITION t_MAX_TARGETS t_MAX_PIECES t_MAX_BLOCKS t_MAX_EDITS t_BATCH) : FnOk P w K mg base CX0 3 f_law_same d_law_same ["_law_found", "_law_due"] sp_law_same := by
  have ok_law_same := fun T : Tx K mg f_is_number f_is_position f_is_tuple_of f_is_interval f_ascending_error f_targets_error f_is_pieces f_interval_text f_joined_texts f_intervals_text f_demand_text f_parse_number f_parse_interval f_edit_version f_edit_answer f_state_answer f_count_answer f_answer_line f_without_item f_with_interval f_without_interval f_edited_state f_helpful_piece f_law_deck f_law_draw f_law_same f_law_small f_law_odd f_law_text f_law_lines f_law f_Shell_init f_Shell_execute f_Plan_init f_Plan_add_target f_Plan_add_piece f_Plan_remove_target f_Plan_remove_piece f_Plan_undo f_Plan_targets f_Plan_pieces f_Plan_needed f_Plan_solution f_Plan_missing f_Plan_changes f_Plan_edit f_Plan_record f_Plan_require_idle f_Plan_state_at f_Plan_len f_Plan_eq C_Shell C_Plan X_NothingToUndo X_Busy X_TooManyEdits X_Duplicate X_TooMany X_Unknown X_TooWide d_is_number d_is_position d_is_tuple_of d_is_interval d_ascending_error d_targets_error d_is_pieces d_interval_text d_joined_texts d_intervals_text d_demand_text d_parse_number d_parse_interval d_edit_version d_edit_answer d_state_answer d_count_answer d_answer_line d_without_item d_with_interval d_without_interval d_edited_state d_helpful_piece d_law_deck d_law_draw d_law_same d_law_small d_law_odd d_law_text d_law_lines d_law d_Shell_init d_Shell_execute d_Plan_init d_Plan_add_target d_Plan_add_piece d_Plan_remove_target d_Plan_remove_piece d_Plan_undo d_Plan_targets d_Plan_pieces d_Plan_needed d_Plan_solution d_Plan_missing d_Plan_changes d_Plan_edit d_Plan_record d_Plan_require_idle d_Plan_state_at d_Plan_len d_Plan_eq t_LAST_POSITION t_MAX_TARGETS t_MAX_PIECES t_MAX_BLOCKS t_MAX_EDITS t_BATCH => ok_same2 (P := P) (w := w) (base := base) T
  refine T.F_law_same.ok sc_law_same (fun vs H Q E h => ?_) (fun cdv A outer s H vs Q E hr h => ?_)
  · obtain ⟨a, b, us, ws, ps, rfl, _⟩ := h
    rfl
  · obtain ⟨a, b, us, ws, ps, rfl, ha, hb, iv1, iv2, few, q⟩ := h
    have l1 := iv1.length
    have l2 := iv2.length
    refine ⟨_, (pss_cons (ps_if (pt_val (pe_callB call_isi (by rfl) T.z_isinstance (by decide +kernel) (pa_cons (pv 1) (pa_cons (pe_bltn (v := .ty "tuple") (u := .type "tuple") (by rfl) T.z_tuple (by decide +kernel) rfl) pa_nil))))
      (pss_cons (ps_if (PW.pt (pw_or (pt_not (pt_val (pe_callB call_isi (by rfl) T.z_isinstance (by decide +kernel) (pa_cons (pv 0) (pa_cons (pe_bltn (v := .ty "tuple") (u := .type "tuple") (by rfl) T.z_tuple (by decide +kernel) rfl) pa_nil))))) (pw_or1 (pt_cmpR op_ne (pe_callB call_len_seq (by rfl) T.z_len PySem.boot_len (pa_cons (pv 0) pa_nil)) (pe_callB call_len_seq (by rfl) T.z_len PySem.boot_len (pa_cons (pv 1) pa_nil)) (nomark _)))))
      (pss_one (ps_ret pe_bl))
      pss_nil)
      (pss_one (ps_ret (pe_cmpR (op_eqL hr.units0) (pe_lc (own := [("_law_one", 2), ("_law_other", 3)]) (g := (gTup K 2 (gCons (gName 2) (gCons (gName 3) gNil)))) (by rfl) sc_law_same.nd (RZ.pi_zipA (by rfl) T.z_zip (pa_cons (pv 0) (pa_cons (pv 1) pa_nil))) (blkOk_by (own := [("_law_one", 2), ("_law_other", 3)]) (N := N_law_same) (sc := defScope s_law_same) (by decide +kernel)) (fun _ _ _ _ _ => (pg_tup rfl (pgs_cons (pg_name (i := 2) sc_law_same.nd rfl (Or.inl rfl)) (pgs_cons (pg_name (i := 3) sc_law_same.nd rfl (Or.inl rfl)) pgs_nil)))) (fun _ _ _ _ _ => pts_one (pt_not (pt_val (pe_call (ok_law_same T) (hr.mono (by decide)) (by rfl) T.g_law_same T.F_law_same.kp T.b_law_same .nil pass0 (pa_cons (pv 2) (pa_cons (pv 3) pa_nil)))))) (fun _ _ _ _ _ => pe_int)) (pe_lst pa_nil) (nomark _)))))
      pss_nil)
      (pss_cons (ps_if (pt_cmpR op_isN (pv 1) pe_non (nomark _))
      (pss_one (ps_ret (pe_cmpR op_isN (pv 0) pe_non (nomark _))))
      pss_nil)
      (pss_cons (ps_if (pt_val (pe_callB call_isi (by rfl) T.z_isinstance (by decide +kernel) (pa_cons (pv 1) (pa_cons (pe_bltn (v := .ty "str") (u := .type "str") (by rfl) T.z_str (by decide +kernel) rfl) pa_nil))))
      (pss_one (ps_ret (pe_and (pe_callB call_isi (by rfl) T.z_isinstance (by decide +kernel) (pa_cons (pv 0) (pa_cons (pe_bltn (v := .ty "str") (u := .type "str") (by rfl) T.z_str (by decide +kernel) rfl) pa_nil))) (pe_one (pe_cmpR op_eq (pv 0) (pv 1) (nomark _))))))
      pss_nil)
      (pss_one (ps_ret (pe_and (pe_callB call_isi (by rfl) T.z_isinstance (by decide +kernel) (pa_cons (pv 0) (pa_cons (pe_bltn (v := .ty "int") (u := .type "int") (by rfl) T.z_int (by decide +kernel) rfl) pa_nil))) (pe_and (pe_cmpR op_eq (pe_callB call_isi (by rfl) T.z_isinstance (by decide +kernel) (pa_cons (pv 0) (pa_cons (pe_bltn (v := .ty "bool") (u := .type "bool") (by rfl) T.z_bool (by decide +kernel) rfl) pa_nil))) (pe_callB call_isi (by rfl) T.z_isinstance (by decide +kernel) (pa_cons (pv 1) (pa_cons (pe_bltn (v := .ty "bool") (u := .type "bool") (by rfl) T.z_bool (by decide +kernel) rfl) pa_nil))) (nomark _)) (pe_one (pe_cmpR op_eq (pv 0) (pv 1) (nomark _)))))))))), ?_⟩
    refine ⟨.ref b, rfl, .ref b, .ty "tuple", _, _, _, rfl, .ty "tuple", .base (.tup hb), kit_ty (a := "tuple") (b := "tuple") (r := true) (by decide +kernel), _, rfl, iteT ?_⟩
    refine ⟨.ref a, rfl, .ref a, .ty "tuple", _, _, _, rfl, .ty "tuple", .base (.tup ha), kit_ty (a := "tuple") (b := "tuple") (r := true) (by decide +kernel), _, rfl, iteF ?_⟩
    refine ⟨.ref a, rfl, a, _, rfl, .inr (SqT.of ha), .ref b, rfl, b, _, rfl, .inr (SqT.of hb), rfl, _, rfl, ?_⟩
    rw [l1, l2, decide_eq_true rfl]
    refine iteF ?_
    refine ⟨.ref a, rfl, .ref b, rfl, a, b, _, _, rfl, .inr ⟨SqT.of ha, SqT.of hb, fun D nD => ?_⟩⟩
    refine lcZ (K := K) (a := a) (b := b) (xs := us) (ys := ws) (fun j H' ws => ws = []) nD (fun H' s => SqT.of (s _ _ ha)) (fun H' s => SqT.of (s _ _ hb)) (by omega) (fun _ _ _ _ _ h => h) (fun i H' ws h => by rw [h]; exact Nat.zero_le _) (fun _ => rfl) ?_ ?_
    · rintro j u v TT H' N acc hu hv sm eT eD sz r no yes
      obtain ⟨b1, x1, y1, rfl, ep1, hb1⟩ := iv1.get hu
      obtain ⟨b2, x2, y2, rfl, ep2, hb2⟩ := iv2.get hv
      rw [ep1] at ep2
      cases ep2
      refine ⟨TT, _, rfl, SqT.of eT, rfl, .ref b1, [.ref b2], rfl, .ref b2, [], rfl, rfl, rfl, .ref b1, rfl, .ref b2, rfl, b1, b2, x1, y1, rfl, sm _ _ hb1, sm _ _ hb2, fun H2 s2 => ⟨_, rfl, iteF ?_⟩⟩
      exact no H2 s2 r
    · rintro j H' ws jl sm eD r
      subst r
      refine ⟨by show 0 ≤ sizeLine; decide, fun z nz => ?_⟩
      have sz := same_new (o := .lst []) nz
      exact ⟨D, z, [], rfl, rfl, SqL.of (sz _ _ eD), SqL.of upd_same, q _ (sm.trans sz)⟩
/-! ### drawn targets, moved targets -/
structure Sml (span : Int) (ps : List (Int × Int)) : Prop where
  asc : ps.Pairwise ltP
  ok : ∀ q ∈ ps, (0 ≤ q.1 ∧ q.1 ≤ q.2) ∧ q.2 < span
def sp_law_small : Sp := fun vs H Q _ => ∃ (d c : Addr) (n most span : Int), vs = [.ref d, .int most, .int span] ∧ Dk H d c n ∧ 0 ≤ n ∧ n < 999000 ∧ 0 ≤ most ∧ most ≤ 30 ∧ 1 ≤ span ∧ span ≤ 100 ∧
  ∀ H' t us ps m, Kp d c H H' → Dk H' d c m → n ≤ m → m ≤ n + 1 + 2 * most → H' t = some (.tup us) → Ivs H' us ps → Sml span ps → (ps.length : Int) ≤ most → Q (.ref t) H'
theorem ok_law_small (T : Tx K mg f_is_number f_is_position f_is_tuple_of f_is_interval f_ascending_error f_targets_error f_is_pieces f_interval_text f_joined_texts f_intervals_text f_demand_text f_parse_number f_parse_interval f_edit_version f_edit_answer f_state_answer f_count_answer f_answer_line f_without_item f_with_interval f_without_interval f_edited_state f_helpful_piece f_law_deck f_law_draw f_law_same f_law_small f_law_odd f_law_text f_law_lines f_law f_Shell_init f_Shell_execute f_Plan_init f_Plan_add_target f_Plan_add_piece f_Plan_remove_target f_Plan_remove_piece f_Plan_undo f_Plan_targets f_Plan_pieces f_Plan_needed f_Plan_solution f_Plan_missing f_Plan_changes f_Plan_edit f_Plan_record f_Plan_require_idle f_Plan_state_at f_Plan_len f_Plan_eq C_Shell C_Plan X_NothingToUndo X_Busy X_TooManyEdits X_Duplicate X_TooMany X_Unknown X_TooWide d_is_number d_is_position d_is_tuple_of d_is_interval d_ascending_error d_targets_error d_is_pieces d_interval_text d_joined_texts d_intervals_text d_demand_text d_parse_number d_parse_interval d_edit_version d_edit_answer d_state_answer d_count_answer d_answer_line d_without_item d_with_interval d_without_interval d_edited_state d_helpful_piece d_law_deck d_law_draw d_law_same d_law_small d_law_odd d_law_text d_law_lines d_law d_Shell_init d_Shell_execute d_Plan_init d_Plan_add_target d_Plan_add_piece d_Plan_remove_target d_Plan_remove_piece d_Plan_undo d_Plan_targets d_Plan_pieces d_Plan_needed d_Plan_solution d_Plan_missing d_Plan_changes d_Plan_edit d_Plan_record d_Plan_require_idle d_Plan_state_at d_Plan_len d_Plan_eq t_LAST_POSITION t_MAX_TARGETS t_MAX_PIECES t_MAX_BLOCKS t_MAX_EDITS t_BATCH) : FnOk P w K mg base CX0 2 f_law_small d_law_small ["_law_deck_here", "_law_most", "_law_span"] sp_law_small := by
  refine T.F_law_small.ok sc_law_small (fun vs H Q E h => ?_) (fun cdv A outer s H vs Q E hr h => ?_)
  · obtain ⟨d, c, n, most, span, rfl, _⟩ := h
    rfl
  · obtain ⟨d, c, n, most, span, rfl, dk, n0, n1, m0, m1, s0, s1, q⟩ := h
    refine ⟨_, (pss_cons (ps_set (i := 3) sc_law_small.nd rfl (Or.inl rfl) (pe_lst pa_nil))
      (pss_cons (ps_for PassesOwn.never rfl (pi_range1 (by rfl) T.z_range (pa_cons (pe_call (ok_law_draw T) (hr.mono (by decide)) (by rfl) T.g_law_draw T.F_law_draw.kp T.b_law_draw .nil pass0 (pa_cons (pv 0) (pa_cons (pe_op op_add (pv 1) pe_int) pa_nil))) pa_nil)) (pg_name (i := 4) sc_law_small.nd rfl (Or.inl rfl))
      (pss_cons (ps_set (i := 5) sc_law_small.nd rfl (Or.inl rfl) (pe_call (ok_law_draw T) (hr.mono (by decide)) (by rfl) T.g_law_draw T.F_law_draw.kp T.b_law_draw .nil pass0 (pa_cons (pv 0) (pa_cons (pv 2) pa_nil))))
      (pss_one (ps_expr (pe_bm PySem.F.plainAttrs_list PySem.F.slot_list_append PySem.F.type_list_append mt_append (pv 3) (pa_cons (pe_tup (pa_cons (pv 5) (pa_cons (pe_op op_add (pv 5) (pe_call (ok_law_draw T) (hr.mono (by decide)) (by rfl) T.g_law_draw T.F_law_draw.kp T.b_law_draw .nil pass0 (pa_cons (pv 0) (pa_cons (pe_op op_sub (pv 2) (pv 5)) pa_nil)))) pa_nil))) pa_nil))))))
      (pss_one (ps_ret (pe_callTy call_tuple_of (by rfl) T.z_tuple (by decide +kernel) (pa_cons (pe_callB (cr_sortedT rfl) (by rfl) T.z_sorted (by decide +kernel) (pa_cons (pe_callTy (cr_setOfT rfl hr.units) (by rfl) T.z_set (by decide +kernel) (pa_cons (pv 3) pa_nil)) pa_nil)) pa_nil)))))), ?_⟩
    refine ⟨by show 0 ≤ sizeLine; decide, fun l nl => ?_⟩
    have offl := dk.off nl
    have sl := same_new (o := .lst []) nl
    have el := upd_same (H := H) (a := l) (o := .lst [])
    have dkl := dk.kept sl
    generalize upd H l (.lst []) = Hl at *
    refine ⟨.ref d, rfl, .int most, rfl, _, _, rfl, rfl, d, c, n, most + 1, rfl, dkl, n0, by omega, by omega, by omega, fun H1 r kp1 dk1 r0 r1 => ?_⟩
    have kpA : Kp d c H H1 := (Kp.same sl).trans kp1
    refine ⟨r, rfl, by omega, by omega, for_range (n := r.toNat) (D := ⟨_, _, fun _ _ => True, fun _ _ => True⟩) (fun i σ H' => (Kp d c H H' ∧ Dk H' d c (n + 1 + 2 * i)) ∧ (∃ ws ps, H' l = some (.lst ws) ∧ Ivs H' ws ps ∧ ps.length = i ∧ ∀ q ∈ ps, (0 ≤ q.1 ∧ q.1 ≤ q.2) ∧ q.2 < span) ∧ ∃ y4 y5, σ = [some (.ref d), some (.int most), some (.int span), some (.ref l), y4, y5])
      ⟨⟨kpA, dk1.eq (by simp)⟩, ⟨[], [], kp1.keep offl el, .nil, rfl, fun q hq => nomatch hq⟩, _, _, rfl⟩ ?_ ?_⟩
    · rintro i σ H2 hi ⟨⟨kp2, dk2⟩, ⟨ws, ps, el2, iv, pl, ok⟩, y4, y5, rfl⟩
      refine ⟨.ref d, rfl, .int span, rfl, d, c, _, span, rfl, dk2, by omega, by omega, by omega, by omega, fun H3 lo kp3 dk3 lo0 lo1 => ?_⟩
      have el3 := kp3.keep offl el2
      refine ⟨.ref l, rfl, .inl ⟨rfl, _, SqL.of el3⟩, .int lo, rfl, .int lo, rfl, .ref d, rfl, .int span, rfl, .int lo, rfl, _, _, rfl, rfl, d, c, _, span - lo, rfl, dk3, by omega, by omega, by omega, by omega, fun H4 r4 kp4 dk4 r40 r41 => ?_⟩
      refine ⟨_, _, rfl, rfl, by show 2 ≤ sizeLine; decide, fun t nt => ?_⟩
      have st := same_new (o := .tup [.int lo, .int (lo + r4)]) nt
      have et := upd_same (H := H4) (a := t) (o := .tup [.int lo, .int (lo + r4)])
      have el5 := st _ _ (kp4.keep offl el3)
      have dk5 := dk4.kept st
      have t25 : Tps H2 (upd H4 t (.tup [.int lo, .int (lo + r4)])) := (kp3.tps dk2).trans ((kp4.tps dk3).trans (Tps.same st))
      have kp25 : Kp d c H (upd H4 t (.tup [.int lo, .int (lo + r4)])) := kp2.trans (kp3.trans (kp4.trans (Kp.same st)))
      generalize upd H4 t (.tup [.int lo, .int (lo + r4)]) = H5 at *
      refine ⟨l, _, _, rfl, rfl, el5, few_line (by rw [iv.length]; omega), ⟨fun b o n1 n2 e => ?_, (dk5.upd offl).eq (by omega)⟩, ⟨_, ps ++ [(lo, lo + r4)], upd_same, ((iv.tps t25).snoc et).tps (Tps.lst el5), by rw [List.length_append, pl]; rfl, fun q hq => ?_⟩, _, _, rfl⟩
      · rw [upd_ne (ne_of_none e nl)]
        exact kp25 b o n1 n2 e
      · rcases List.mem_append.mp hq with hq | hq
        · exact ok q hq
        · rw [List.mem_singleton.mp hq]
          exact ⟨⟨lo0, by show lo ≤ lo + r4; omega⟩, by show lo + r4 < span; omega⟩
    · rintro σ H6 ⟨⟨kp6, dk6⟩, ⟨ws, ps, el6, iv, pl, ok⟩, y4, y5, rfl⟩
      refine ⟨.ref l, rfl, ?_⟩
      dsimp only [tNil]
      refine sorted_set_pairs (SqL.of el6) iv (by omega) (fun q hq => by have := ok q hq; omega) (fun H7 p us' ps' s7 np ep iv' asc mem => ?_)
      refine ⟨p, us', rfl, .inl ⟨SqL.of ep, fun t nt => ?_⟩⟩
      have s8 := same_new (o := .tup us') nt
      have nd : ps'.length ≤ ps.length := by
        have ndp : ps'.Nodup := asc.imp fun {a b} h e => by
          subst e
          rcases h with h | h <;> omega
        exact nodup_le ndp fun x hx => (mem x).mp hx
      exact q _ t us' ps' _ (kp6.trans (Kp.same (s7.trans s8))) (dk6.kept (s7.trans s8)) (by omega) (by omega) upd_same (iv'.same s8) ⟨asc, fun q hq => ok q ((mem q).mp hq)⟩ (by omega)
theorem map_take_snoc {α β : Type} {ns : List α} {i : Nat} {n : α} {f : α → β} (h : ns[i]? = some n) : (ns.take (i + 1)).map f = (ns.take i).map f ++ [f n] := by
  rw [List.take_add_one, h, List.map_append]
  rfl

theorem sorted_set_pairsT {K : PySem.W.Frag} {P : Program} {w : World} {H : Hp} {l : Addr} {us : List V} {ps : List (Int × Int)} {Q : VK} (hl : H l = some (.tup us)) (iv : Ivs H us ps) (few : ps.length < 64) (bd : ∀ q ∈ ps, (0 ≤ q.1 ∧ q.1 < 10 ^ 13) ∧ 0 ≤ q.2 ∧ q.2 < 10 ^ 13)
    (fin : ∀ H' p us' ps', Same H H' → H p = none → H' p = some (.lst us') → Ivs H' us' ps' → ps'.Pairwise ltP → (∀ q, q ∈ ps' ↔ q ∈ ps) → Q (.ref p) H') :
    rSetOfTT K P w [.ref l] H (fun x H1 => rSortedT K P w [x] H1 Q) := by
  obtain ⟨ks, rfl, e2, e3⟩ := iv.keys
  -- the same keys, in a list that nobody holds: what follows is as there
  have lk : ks.length = ps.length := by
    have z := congrArg List.length e2
    rw [List.length_map, List.length_map] at z
    exact z
  refine ⟨l, ks, rfl, SqT.of hl, fun p hp => ?_, by omega, fun a L na h1 h2 => ?_⟩
  · obtain ⟨x, y, e, e1⟩ := e3 p hp
    rw [e]
    exact SqT.of e1
  exact sorted_keys e2 e3 na h1 h2 bd fin

/-! ### sorted(t), t a tuple of pairs of ints -/
section
variable {prog : Program} {w : World} {A : Around} {E : Value → Shared → Prop} {s : Shared}
/-- the items of a tuple, gathered in a new list -/
theorem collectT {Q : List Value → Shared → Prop} {t : Addr} {o : Obj} {xs : Array Value} {n : Nat} (ho : s.heap.get? t = some o) (hc : o.cls = .type "tuple") (hd : o.data = .seq xs n) (sz : xs.size ≤ sizeLine)
    (fin : ∀ g, s.heap.objs.size ≤ g.objs.size → (∀ b u, s.heap.get? b = some u → g.get? b = some u) → Q xs.toList { s with heap := g }) : wpAny (model prog w) A (collect (.ref t)) Q E s := by
  obtain ⟨g0, eg0⟩ : ∃ g0, s.heap.push { cls := .type "list", data := .seq ([] : List Value).toArray } = g0 := ⟨_, rfl⟩
  have n0 : g0.get? s.heap.objs.size = some { cls := .type "list", data := .seq #[] 0 } := by
    rw [← eg0]
    exact Heap.get?_push_size _ rfl
  have z0 : g0.objs.size = s.heap.objs.size + 1 := by
    rw [← eg0]
    exact Heap.size_push ..
  have k0 : ∀ b u, s.heap.get? b = some u → g0.get? b = some u := fun b u e => by
    rw [← eg0]
    exact Heap.get?_push_of_some _ e
  have n1 := Heap.get?_update_self (Obj.mapSeq (· ++ xs)) n0 rfl
  have last : ∀ s' : Shared, s' = { s with heap := g0.update s.heap.objs.size (Obj.mapSeq (· ++ xs)) } → wpAny (model prog w) A (match Value.ref s.heap.objs.size with
      | Value.ref a => do
        match (← load a).data with
          | Data.seq ys _ => pure ys.toList
          | _ => unsupported "internal:collect"
      | _ => unsupported "internal:collect") Q E s' := fun s' es => by
    rw [es]
    refine wpAny_bind (m := load s.heap.objs.size) (wpAny_load n1 (wpAny_pure ?_))
    show Q ((#[] : Array Value) ++ xs).toList _
    rw [show ((#[] : Array Value) ++ xs).toList = xs.toList by simp]
    refine fin _ (by rw [Heap.size_update, z0]; omega) fun b u e => ?_
    exact (Heap.get?_update_other _ _ (Nat.ne_of_gt (Heap.lt_size e))).trans (k0 b u e)
  unfold collect
  refine wpAny_bind (wpAny_runValue (codeAny_builtin (b := _) F.entry_proto_collect ?_))
  rw [Around.under_plainId (F.plain_proto_collect) _]
  show wpAny _ A.in1 (newList [] >>= fun l => again (.builtin "list.__iadd__" ⟨[l, .ref t], []⟩)) _ _ s
  refine wpAny_bind (wpAny_newObj_type (wpAny_pure ⟨plainId_quiet (F.plain_list_iadd) _, codeAny_builtin (b := _) F.entry_list_iadd ?_⟩))
  rw [Around.under_plainId (F.plain_list_iadd) _, eg0]
  show wpAny _ A.in1 (Builtin.List.listExtendWith (Value.ref s.heap.objs.size) (.ref t) (.ref s.heap.objs.size)) _ _ _
  refine wpAny_mono (wpAny_extend_seq (hsz := sz) (A := A) (R := fun r s' => r = .ok (.ret (.ref s.heap.objs.size)) ∧ s' = { s with heap := g0.update s.heap.objs.size (Obj.mapSeq (· ++ xs)) }) (s := { s with heap := g0 }) _ t _ 0 (.inr rfl) n0 (k0 _ _ ho) hc hd ⟨rfl, rfl⟩) (fun f s' h => ?_) (fun e s' h => absurd h.1 (by simp))
  cases f with
  | done f =>
    obtain ⟨e, h2⟩ := h
    cases e
    exact last s' h2
  | again c => exact ⟨h.1, codeAny_mono h.2 fun r s2 hr => by obtain ⟨rfl, h2⟩ := hr; exact last s2 h2⟩
theorem sortedTup {l : Addr} {vs : List Value} {k : Value → Int × Int} {Q : Value → Shared → Prop} (isT : IsTup s.heap l vs.toArray) (sz : vs.length ≤ sizeLine) (prs : ∀ v ∈ vs, Srt.IsPair s.heap v (k v).1 (k v).2)
    (fin : ∀ (h' : Heap) (d : Addr) (out : List Value), SrtO.Srtd (fun v u => SrtO.lexB (k v) (k u)) out → out.Perm vs → (∀ b o, s.heap.get? b = some o → h'.get? b = some o) → s.heap.objs.size ≤ d → (∃ n, h'.get? d = some (seqObj "list" out.toArray n)) → Q (.ref d) { s with heap := h' }) :
    wpAny (model prog w) A (call (.builtin "sorted") [.ref l]) Q E s := by
  refine Calls.call_function_entry kind_sorted (plain_sorted) entry_sorted (args_sorted1 _) ?_
  unfold Builtin.«sorted»
  refine wpAny_bind (m := checkCount "sorted" 1 1 _) (wpAny_pure (wpAny_bind ?_))
  obtain ⟨o, ho, hc, n, hd⟩ := isT
  refine collectT ho hc hd (by rw [List.size_toArray]; exact sz) (fun h1 big k1 => ?_)
  rw [List.toList_toArray]
  refine wpAny_bind (wpAny_newList ?_ sz)
  have own : (h1.push (seqObj "list" vs.toArray 0)).get? h1.objs.size = some (seqObj "list" vs.toArray 0) := Heap.get?_push_size _ rfl
  have keep : ∀ b o, s.heap.get? b = some o → b ≠ h1.objs.size ∧ b < (h1.push (seqObj "list" vs.toArray 0)).objs.size ∧ (h1.push (seqObj "list" vs.toArray 0)).get? b = some o := fun b o e => by
    have lt : b < h1.objs.size := Heap.lt_size (k1 b o e)
    exact ⟨Nat.ne_of_lt lt, by rw [Heap.size_push]; exact Nat.lt_succ_of_lt lt, Heap.get?_push_of_some _ (k1 b o e)⟩
  show wpAny _ _ _ _ _ { s with heap := h1.push (seqObj "list" vs.toArray 0) }
  refine wpAny_bind (wpAny_holding (wpAny_call_entry slot_list_sort ⟨_, own, rfl⟩ entry_list_sort (SrtO.list_sort_ord (SrtO.swo_lex k) own sz (fun h2 => ?_) fun out hs hb => ⟨_, rfl, ?_⟩) (args_list_sort _)))
  · refine SrtO.pairs_sortableO (s := { s with heap := h1.push (seqObj "list" vs.toArray 0) }) (by omega) (fun v hm => (prs v hm).keeps fun b o e _ => (keep b o e).2.2) fun o' e' => ?_
    have z : some o' = some (seqObj "list" vs.toArray 0) := e'.symm.trans own
    cases z
    exact fun c => absurd (Value.type.inj c) (by decide)
  · refine wpAny_pure ⟨_, rfl, fin _ _ out hs hb.perm (fun b o e => ?_) big (sortedHeap_at own)⟩
    have z := keep b o e
    rw [sortedHeap_old z.1 z.2.1]
    exact z.2.2
end
def rSortTP (K : PySem.W.Frag) : List V → Hp → VK → Prop := fun vs H Q => ∃ (a : Addr) (us : List V) (ps : List (Int × Int)), vs = [V.ref a] ∧ SqT K H a us ∧ Ivs H us ps ∧
  ∀ H' p us' ps', Same H H' → H p = none → H' p = some (.lst us') → Ivs H' us' ps' → ps'.Pairwise leP → ps'.Perm ps → Q (.ref p) H'
theorem Ivs.mem1 {H : Hp} {vs : List V} {ps : List (Int × Int)} (h : Ivs H vs ps) {v : V} (hv : v ∈ vs) : ∃ a q, q ∈ ps ∧ v = .ref a ∧ H a = some (.tup [.int q.1, .int q.2]) := by
  obtain ⟨i, ei⟩ := List.getElem?_of_mem hv
  obtain ⟨a, x, y, e, ep, ea⟩ := h.get ei
  exact ⟨a, (x, y), List.mem_of_getElem? ep, e, ea⟩
noncomputable def pairAt (H : Hp) (v : V) : Int × Int := Classical.epsilon fun q => ∃ a, v = .ref a ∧ H a = some (.tup [.int q.1, .int q.2])
theorem pairAt_eq {H : Hp} {a : Addr} {x y : Int} (h : H a = some (.tup [.int x, .int y])) : pairAt H (.ref a) = (x, y) := by
  have e : ∃ q : Int × Int, ∃ b, V.ref a = .ref b ∧ H b = some (.tup [.int q.1, .int q.2]) := ⟨(x, y), a, rfl, h⟩
  obtain ⟨b, e1, e2⟩ := Classical.epsilon_spec e
  cases e1
  have e2 : H a = some (.tup [.int (pairAt H (.ref a)).1, .int (pairAt H (.ref a)).2]) := e2
  rw [h] at e2
  have z := Option.some.inj e2
  injection z with z
  injection z with z1 z2
  injection z2 with z2 _
  injection z1 with z1
  injection z2 with z2
  exact Prod.ext z1.symm z2.symm
theorem Ivs.pairAt {H : Hp} {vs : List V} {ps : List (Int × Int)} (h : Ivs H vs ps) : vs.map (pairAt H) = ps := by
  induction h with
  | nil => rfl
  | cons e _ ih => rw [List.map_cons, ih, pairAt_eq e]
theorem Ivs.perm1 {H : Hp} {xs ys : List V} (pm : ys.Perm xs) : ∀ {ps : List (Int × Int)}, Ivs H xs ps → ∃ ps', Ivs H ys ps' ∧ ps'.Perm ps := by
  induction pm with
  | nil =>
    intro ps h
    exact ⟨ps, h, .refl _⟩
  | cons x _ ih =>
    intro ps h
    cases h with
    | cons e h =>
      obtain ⟨ps', h', p'⟩ := ih h
      exact ⟨_ :: ps', .cons e h', p'.cons _⟩
  | swap x y l =>
    intro ps h
    cases h with
    | cons e h =>
      cases h with
      | cons e2 h => exact ⟨_, .cons e2 (.cons e h), .swap _ _ _⟩
  | trans _ _ ih1 ih2 =>
    intro ps h
    obtain ⟨p2, h2, q2⟩ := ih2 h
    obtain ⟨p1, h1, q1⟩ := ih1 h2
    exact ⟨p1, h1, q1.trans q2⟩
theorem cr_sortTP {X : Cx} : CallR X (.builtin "sorted") (rSortTP X.K) := by
  intro pins s σ H vs us0 Q I r h
  obtain ⟨a, us, ps, rfl, hs, iv, q⟩ := h
  obtain ⟨its, rv, isT, sz⟩ := I.tuple hs
  obtain ⟨u, rfl, ru⟩ := vals1 r
  obtain rfl : u = Value.ref a := ru
  obtain ⟨e1, e2⟩ := refs_back rv fun x m => by
    obtain ⟨t, q, _, e, _⟩ := iv.mem1 m
    exact ⟨t, e⟩
  refine sortedTup (k := fun u => pairAt H (backV u)) isT (by rw [← rv.length]; exact sz) (fun v hv => ?_) fun h' d out h1 pmo kp hd hn => ?_
  · obtain ⟨t, rfl⟩ := e2 v hv
    have hm : V.ref t ∈ us := by rw [e1]; exact List.mem_map.mpr ⟨_, hv, rfl⟩
    obtain ⟨t', pq, _, e, ht⟩ := iv.mem1 hm
    cases e
    obtain ⟨_, its2, r2, o, ho, hc, n, hd⟩ := I.hok _ _ ht
    obtain ⟨u1, u2, rfl, ri, rj⟩ := vals2 r2
    obtain ⟨t1, rfl⟩ := ri
    obtain ⟨t2, rfl⟩ := rj
    show Srt.IsPair _ _ (pairAt H (.ref t)).1 (pairAt H (.ref t)).2
    rw [pairAt_eq ht]
    exact ⟨t, o, t1, t2, n, rfl, ho, hc, hd⟩
  · have h3 : ∀ u ∈ out, ∃ a, u = Value.ref a := fun u hu => e2 u (pmo.mem_iff.mp hu)
    obtain ⟨n, hn⟩ := hn
    have pm : (out.map backV).Perm us := by
      rw [e1]
      exact pmo.map backV
    obtain ⟨qs, ivq, pmq⟩ := Ivs.perm1 pm iv
    have fr : H d = none := I.hok.fresh hd
    have s1 : Same H (upd H d (.lst (out.map backV))) := same_new fr
    have asc : qs.Pairwise leP := by
      rw [← ivq.pairAt]
      refine List.pairwise_map.mpr (List.pairwise_map.mpr (List.Pairwise.imp (fun {x y} z => ?_) h1))
      have z := SrtO.lexB_no.mp z
      unfold leP
      omega
    refine ⟨.ref d, upd H d (.lst (out.map backV)), I.laid (t' := s.toks) kp hd ⟨?_, out, n, vals_back h3, hn⟩, rfl, q _ d _ qs s1 fr upd_same (ivq.same s1) asc pmq⟩
    rw [pm.length_eq]
    exact sz

/-! ### comprehensions over a range that change nothing but make new objects -/
theorem lcR {lo : Int} {n : Nat} {g : TG} {tt : TT} {te : TE} {vs : List Nat} {σ : L2.St} {H1 : Hp} {D : Addr} {Qd : Hp → Prop} (R : Nat → Hp → List V → Prop) (nD : H1 D = none) (few : n < 1000)
    (mono : ∀ i H' H'' ws, Tps H' H'' → R i H' ws → R i H'' ws) (len : ∀ i H' ws, R i H' ws → ws.length ≤ i) (r0 : ∀ H', R 0 H' [])
    (hs : ∀ i H' (N : Hp → Prop) acc, i < n → Same H1 H' → H' D = some (.lst acc) → acc.length < sizeLine → R i H' acc → (∀ H'', Same H' H'' → R (i + 1) H'' acc → N H'') → (∀ H'' y, Same H' H'' → R (i + 1) H'' (acc ++ [y]) → ∃ acc', H'' D = some (.lst acc') ∧ acc'.length < sizeLine ∧ N (upd H'' D (.lst (acc' ++ [y])))) →
      g (.int (lo + i)) (wipe σ vs) H' fun σ2 H2 => wipe σ2 vs = wipe σ vs ∧ tt σ2 H2 fun b H3 => if b = true then te σ2 H3 fun y H4 => ∃ acc, H4 D = some (.lst acc) ∧ acc.length < sizeLine ∧ N (upd H4 D (.lst (acc ++ [y]))) else N H3)
    (hd : ∀ H' ws, Same H1 H' → H' D = some (.lst ws) → R n H' ws → Qd H') :
    ∃ W : Nat → Nat → Hp → Prop, (∃ m, W 0 m (upd H1 D (.lst []))) ∧ ∀ i m H, W i m H →
      ((Itr lo n).stop i H ∧ Qd H) ∨ ((Itr lo n).go i H ∧ ∃ Nx : Hp → Prop, (∀ H', Nx H' → ∃ m', m' < m ∧ W (i + 1) m' H') ∧ ∀ x H', (Itr lo n).yld i H x H' → g x (wipe σ vs) H' fun σ2 H2 => wipe σ2 vs = wipe σ vs ∧ tt σ2 H2 fun b H3 =>
        if b = true then te σ2 H3 fun y H4 => ∃ acc, H4 D = some (.lst acc) ∧ acc.length < sizeLine ∧ Nx (upd H4 D (.lst (acc ++ [y]))) else Nx H3) := by
  refine lc_range (lo := lo) (n := n) (fun i H' => Same H1 H' ∧ ∃ ws, H' D = some (.lst ws) ∧ R i H' ws) ⟨same_new nD, [], upd_same, r0 _⟩ ?_ ?_
  · rintro i H' hi ⟨sm, ws, eD, r⟩
    have lw := len i H' ws r
    have sz : ws.length < sizeLine := few_line (by omega)
    refine hs i H' _ ws hi sm eD sz r (fun H'' s r2 => ⟨sm.trans s, ws, s _ _ eD, r2⟩) (fun H'' y s r2 => ?_)
    exact ⟨ws, s _ _ eD, sz, same_off nD (sm.trans s), _, upd_same, mono _ _ _ _ (Tps.lst (s _ _ eD)) r2⟩
  · rintro H' ⟨sm, ws, eD, r⟩
    exact hd H' ws sm eD r

/-! ### sorted(list of pairs) -/
theorem Ivs.perm {H : Hp} {xs ys : List V} (pm : ys.Perm xs) : ∀ {ps : List (Int × Int)}, Ivs H xs ps → ∃ ps', Ivs H ys ps' ∧ ps'.Perm ps := by
  induction pm with
  | nil =>
    intro ps h
    exact ⟨ps, h, .refl _⟩
  | cons x _ ih =>
    intro ps h
    cases h with
    | cons e h =>
      obtain ⟨ps', h', p'⟩ := ih h
      exact ⟨_ :: ps', .cons e h', p'.cons _⟩
  | swap x y l =>
    intro ps h
    cases h with
    | cons e h =>
      cases h with
      | cons e2 h => exact ⟨_, .cons e2 (.cons e h), .swap _ _ _⟩
  | trans _ _ ih1 ih2 =>
    intro ps h
    obtain ⟨p2, h2, q2⟩ := ih2 h
    obtain ⟨p1, h1, q1⟩ := ih1 h2
    exact ⟨p1, h1, q1.trans q2⟩
theorem Ivs.pair {H : Hp} {R : V → V → Prop} {S : Int × Int → Int × Int → Prop} (rs : ∀ a b x y u v, H a = some (.tup [.int x, .int y]) → H b = some (.tup [.int u, .int v]) → R (.ref a) (.ref b) → S (x, y) (u, v)) {vs : List V} {ps : List (Int × Int)} (h : Ivs H vs ps) (pw : vs.Pairwise R) : ps.Pairwise S := by
  induction h with
  | nil => exact .nil
  | cons e h ih =>
    have p := List.pairwise_cons.mp pw
    refine List.pairwise_cons.mpr ⟨fun q hq => ?_, ih p.2⟩
    obtain ⟨b, hb, eb⟩ := h.tpsMem hq
    exact rs _ b _ _ q.1 q.2 e eb (p.1 _ hb)
theorem Ivs.mem {H : Hp} {vs : List V} {ps : List (Int × Int)} (h : Ivs H vs ps) {v : V} (hv : v ∈ vs) : ∃ a q, q ∈ ps ∧ v = .ref a ∧ H a = some (.tup [.int q.1, .int q.2]) := by
  obtain ⟨i, ei⟩ := List.getElem?_of_mem hv
  obtain ⟨a, x, y, e, ep, ea⟩ := h.get ei
  exact ⟨a, (x, y), List.mem_of_getElem? ep, e, ea⟩
theorem bd2 {z : Int × Int} (b : (0 ≤ z.1 ∧ z.1 < 10 ^ 13) ∧ 0 ≤ z.2 ∧ z.2 < 10 ^ 13) : TS.Bd (10 ^ 13) [z.1, z.2] := fun m hm => by
  rcases List.mem_cons.mp hm with rfl | hm
  · exact b.1
  · rw [List.mem_singleton.mp hm]
    exact b.2
theorem sort_pairs {K : PySem.W.Frag} {H : Hp} {l : Addr} {us : List V} {ps : List (Int × Int)} {Q : VK} (hl : SqL K H l us) (iv : Ivs H us ps) (few : ps.length < 64) (bd : ∀ q ∈ ps, (0 ≤ q.1 ∧ q.1 < 10 ^ 13) ∧ 0 ≤ q.2 ∧ q.2 < 10 ^ 13)
    (fin : ∀ H' p us' ps', Same H H' → H p = none → H' p = some (.lst us') → Ivs H' us' ps' → ps'.Pairwise leP → ps'.Perm ps → Q (.ref p) H') :
    rSortU K 2 (10 ^ 13) [.ref l] H Q := by
  refine ⟨l, us, rfl, hl, by rw [iv.length]; exact few, fun x hx => ?_, fun ys p2 pm pw np2 => ?_⟩
  · obtain ⟨b, qq, hqq, e, eb⟩ := iv.mem hx
    exact ⟨[qq.1, qq.2], ⟨b, e, SqT.of eb⟩, rfl, bd2 (bd qq hqq)⟩
  obtain ⟨gs, ivg, pmg⟩ := Ivs.perm pm iv
  have z : gs.Pairwise (fun a b => TS.code (10 ^ 13) [a.1, a.2] ≤ TS.code (10 ^ 13) [b.1, b.2]) := Ivs.pair (S := fun a b => TS.code (10 ^ 13) [a.1, a.2] ≤ TS.code (10 ^ 13) [b.1, b.2]) (fun a b x y u v ea eb h => h [x, y] [u, v] ⟨a, rfl, SqT.of ea⟩ ⟨b, rfl, SqT.of eb⟩) ivg pw
  have s2 := same_new (o := .lst ys) np2
  refine fin _ p2 ys gs s2 np2 upd_same (ivg.same s2) (z.imp_of_mem fun {x y} hx hy h => ?_) pmg
  exact code_lex (bd2 (bd x (pmg.mem_iff.mp hx))) (bd2 (bd y (pmg.mem_iff.mp hy))) h

theorem shaped_pairs (ps : List (Int × Int)) : SeqAt.shaped (.tuple (ps.map pairD)) = true := by
  have h1 : ∀ ps : List (Int × Int), PyData.canLayAll0 (ps.map pairD) = true := by
    intro ps
    induction ps with
    | nil => rfl
    | cons n r ih => exact ih
  have h2 : ∀ ps : List (Int × Int), PyData.depthAll (ps.map pairD) ≤ 1 := by
    intro ps
    induction ps with
    | nil => exact Nat.zero_le _
    | cons n r ih =>
      show max 1 (PyData.depthAll (r.map pairD)) ≤ 1
      omega
  unfold SeqAt.shaped
  rw [show PyData.canLay0 (.tuple (ps.map pairD)) = PyData.canLayAll0 (ps.map pairD) from rfl, h1 ps]
  show decide (PyData.depthAll (ps.map pairD) + 1 ≤ 64) = true
  exact decide_eq_true (by have := h2 ps; omega)
theorem eqv_self (ps : List (Int × Int)) : PyData.eqv (.tuple (ps.map pairD)) (.tuple (ps.map pairD)) = true := by
  show PyData.eqvAll (ps.map pairD) (ps.map pairD) = true
  induction ps with
  | nil => rfl
  | cons q r ih =>
    show (((q.1 == q.1) && ((q.2 == q.2) && true)) && PyData.eqvAll (r.map pairD) (r.map pairD)) = true
    rw [ih, beq_self_eq_true, beq_self_eq_true]
    rfl

/-! ### small facts that plans want -/
theorem kit_tupT {K : PySem.W.Frag} : PySem.W.kitOne K (.type "tuple") (.type "tuple") = some true := kit_ty (a := "tuple") (b := "tuple") (r := true) (by decide +kernel)
theorem kit_intI {K : PySem.W.Frag} : PySem.W.kitOne K (.type "int") (.type "int") = some true := kit_ty (a := "int") (b := "int") (r := true) (by decide +kernel)
theorem kit_intB {K : PySem.W.Frag} : PySem.W.kitOne K (.type "int") (.type "bool") = some false := kit_ty (a := "int") (b := "bool") (r := false) (by decide +kernel)
theorem leP_nd {ps : List (Int × Int)} (h : ps.Pairwise leP) (nd : ps.Nodup) : ps.Pairwise ltP := by
  have z := h.and nd
  refine z.imp fun {a b} z => ?_
  rcases z.1 with k | ⟨k1, k2⟩
  · exact .inl k
  · refine .inr ⟨k1, ?_⟩
    rcases Int.lt_or_eq_of_le k2 with w | w
    · exact w
    · exact absurd (Prod.ext k1 w) z.2

theorem ltP_uniq {ps qs : List (Int × Int)} (h1 : ps.Pairwise ltP) (h2 : qs.Pairwise ltP) (m : ∀ q, q ∈ ps ↔ q ∈ qs) : ps = qs := by
  have nd : ∀ {l : List (Int × Int)}, l.Pairwise ltP → l.Nodup := fun h => h.imp fun {a b} h e => by
    subst e
    rcases h with h | h <;> omega
  have le : ∀ {l : List (Int × Int)}, l.Pairwise ltP → l.Pairwise leP := fun h => h.imp fun {a b} h => by
    rcases h with h | ⟨h, k⟩
    · exact .inl h
    · exact .inr ⟨h, by omega⟩
  exact leP_uniq (le h1) (le h2) ((List.perm_ext_iff_of_nodup (nd h1) (nd h2)).mpr m)
theorem atI_end {xs : List V} {v : V} (h : xs[xs.length - 1]? = some v) : atI xs (-1) = some v := by
  have ne : xs ≠ [] := fun e => by
    rw [e] at h
    cases h
  have e := List.dropLast_concat_getLast ne
  rw [List.getLast_eq_getElem] at e
  rw [List.getElem?_eq_getElem (by have := List.length_pos_iff.mpr ne; omega)] at h
  rw [Option.some.inj h] at e
  rw [← e]
  exact atI_last _ _

theorem eqv_pair (x y u v : Int) : PyData.eqv (.tuple [.int x, .int y]) (.tuple [.int u, .int v]) = decide ((x, y) = (u, v)) := by
  show ((x == u) && ((y == v) && true)) = decide ((x, y) = (u, v))
  rw [Bool.and_true, Bool.eq_iff_iff, Bool.and_eq_true, beq_iff_eq, beq_iff_eq, decide_eq_true_iff, Prod.mk.injEq]

def wo (ps : List (Int × Int)) (q : Int × Int) : List (Int × Int) := ps.filter fun x => !decide (x = q)
theorem wo_len (ps : List (Int × Int)) (q : Int × Int) : (wo ps q).length ≤ ps.length := List.length_filter_le _ _
theorem wo_sub {ps : List (Int × Int)} {q x : Int × Int} (h : x ∈ wo ps q) : x ∈ ps := (List.mem_filter.mp h).1
def sp_without_item : Sp := fun vs H Q _ => ∃ (a t : Addr) (us : List V) (ps : List (Int × Int)) (x y : Int), vs = [.ref a, .ref t] ∧ H a = some (.tup us) ∧ Ivs H us ps ∧ ps.length < 1000 ∧ H t = some (.tup [.int x, .int y]) ∧
  ∀ H' p ws, Same H H' → H' p = some (.tup ws) → Ivs H' ws (wo ps (x, y)) → Q (.ref p) H'
theorem ok_without_item (T : Tx K mg f_is_number f_is_position f_is_tuple_of f_is_interval f_ascending_error f_targets_error f_is_pieces f_interval_text f_joined_texts f_intervals_text f_demand_text f_parse_number f_parse_interval f_edit_version f_edit_answer f_state_answer f_count_answer f_answer_line f_without_item f_with_interval f_without_interval f_edited_state f_helpful_piece f_law_deck f_law_draw f_law_same f_law_small f_law_odd f_law_text f_law_lines f_law f_Shell_init f_Shell_execute f_Plan_init f_Plan_add_target f_Plan_add_piece f_Plan_remove_target f_Plan_remove_piece f_Plan_undo f_Plan_targets f_Plan_pieces f_Plan_needed f_Plan_solution f_Plan_missing f_Plan_changes f_Plan_edit f_Plan_record f_Plan_require_idle f_Plan_state_at f_Plan_len f_Plan_eq C_Shell C_Plan X_NothingToUndo X_Busy X_TooManyEdits X_Duplicate X_TooMany X_Unknown X_TooWide d_is_number d_is_position d_is_tuple_of d_is_interval d_ascending_error d_targets_error d_is_pieces d_interval_text d_joined_texts d_intervals_text d_demand_text d_parse_number d_parse_interval d_edit_version d_edit_answer d_state_answer d_count_answer d_answer_line d_without_item d_with_interval d_without_interval d_edited_state d_helpful_piece d_law_deck d_law_draw d_law_same d_law_small d_law_odd d_law_text d_law_lines d_law d_Shell_init d_Shell_execute d_Plan_init d_Plan_add_target d_Plan_add_piece d_Plan_remove_target d_Plan_remove_piece d_Plan_undo d_Plan_targets d_Plan_pieces d_Plan_needed d_Plan_solution d_Plan_missing d_Plan_changes d_Plan_edit d_Plan_record d_Plan_require_idle d_Plan_state_at d_Plan_len d_Plan_eq t_LAST_POSITION t_MAX_TARGETS t_MAX_PIECES t_MAX_BLOCKS t_MAX_EDITS t_BATCH) : FnOk P w K mg base CX0 1 f_without_item d_without_item ["items", "item"] sp_without_item := by
  refine T.F_without_item.ok sc_without_item (fun vs H Q E h => ?_) (fun cdv A outer s H vs Q E hr h => ?_)
  · obtain ⟨a, t, us, ps, x, y, rfl, _⟩ := h
    rfl
  · obtain ⟨a, t, us, ps, x, y, rfl, ha, iv, few, ht, q⟩ := h
    have lu := iv.length
    refine ⟨_, (pss_one (ps_ret (pe_callTy call_tuple_of (by rfl) T.z_tuple (by decide +kernel) (pa_cons (pe_lc (own := [("other", 2)]) (g := (gName 2)) (by rfl) sc_without_item.nd (pi_tup (pv 0)) (blkOk_by (own := [("other", 2)]) (N := N_without_item) (sc := defScope s_without_item) (by decide +kernel)) (fun _ _ _ _ _ => (pg_name (i := 2) sc_without_item.nd rfl (Or.inl rfl))) (fun _ _ _ _ _ => pts_one (pt_cmpR (show OpR _ (compareOp .NotEq) (rNeD K) from (op_neD hr.units)) (pv 2) (pv 1) (nomark _))) (fun _ _ _ _ _ => (pv 2))) pa_nil)))), ?_⟩
    refine ⟨.ref a, rfl, a, rfl, ⟨_, SqT.of ha⟩, fun D nD => ?_⟩
    refine lcT (K := K) (a := a) (xs := us) (fun j H' ws => Ivs H' ws ((ps.take j).filter fun z => !decide (z = (x, y)))) nD (fun H' s => SqT.of (s _ _ ha)) (by omega) (fun _ _ _ _ t r => r.tps t) (fun j H' ws r => ?_) (fun _ => .nil) ?_ ?_
    · rw [r.length]
      exact Nat.le_trans (List.length_filter_le _ _) (List.length_take_le _ _)
    · rintro j z H' N acc hj sj eA sz r no yes
      obtain ⟨b, u, v, rfl, exy, hb⟩ := iv.get hj
      refine ⟨rfl, .ref b, rfl, .ref t, rfl, _, _, dp2 (sj _ _ hb), dp2 (sj _ _ ht), rfl, rfl, _, rfl, ?_⟩
      rw [eqv_pair]
      refine ite2 (fun c => ?_) (fun c => ?_)
      · refine ⟨.ref b, rfl, yes H' _ (Same.refl _) ?_⟩
        rw [take_filter exy, if_pos c]
        exact r.snoc (sj _ _ hb)
      · refine no H' (Same.refl _) ?_
        rw [take_filter exy, if_neg c, List.append_nil]
        exact r
    · intro H1 ws s1 eD r
      rw [lu, List.take_length] at r
      refine ⟨D, ws, rfl, .inl ⟨SqL.of eD, fun p np => ?_⟩⟩
      exact q _ p ws (s1.trans (same_new np)) upd_same (r.same (same_new np))

/-! ### for i, x in enumerate(t) -/
theorem for_enumT {K : PySem.W.Frag} {a : Addr} {xs : List V} {g : TG} {tb : TS} {D : Ends} {σ : L2.St} {H : Hp} (Pv : Nat → L2.St → Hp → Prop) (h0 : Pv 0 σ H) (hq : ∀ i σ H, Pv i σ H → SqT K H a xs)
    (hs : ∀ (i : Nat) (x : V) (t : Addr) (σ : L2.St) (H : Hp), xs[i]? = some x → Pv i σ H → H t = none → g (.ref t) σ (upd H t (.tup [.int (i : Nat), x])) fun σ2 H2 => tb { D with nx := Pv (i + 1), ct := Pv (i + 1), bk := D.nx } σ2 H2) (hd : ∀ σ H, Pv xs.length σ H → D.nx σ H) :
    ∃ W : Nat → Nat → L2.St → Hp → Prop, (∃ m, W 0 m σ H) ∧ ∀ i m σ H, W i m σ H →
      ((IteT K a xs.length).stop i H ∧ D.nx σ H) ∨ ((IteT K a xs.length).go i H ∧ ∃ N : L2.St → Hp → Prop, (∀ σ' H', N σ' H' → ∃ m', m' < m ∧ W (i + 1) m' σ' H') ∧ ∀ v H', (IteT K a xs.length).yld i H v H' → g v σ H' fun σ2 H2 => tb { D with nx := N, ct := N, bk := D.nx } σ2 H2) := by
  refine ⟨fun i m σ H => i + m = xs.length ∧ Pv i σ H, ⟨xs.length, by omega, h0⟩, ?_⟩
  rintro i m σ H ⟨im, p⟩
  have hx := hq i σ H p
  by_cases c : i < xs.length
  · refine .inr ⟨⟨xs, xs[i], hx, List.getElem?_eq_getElem c, rfl⟩, Pv (i + 1), fun σ' H' p' => ⟨m - 1, by omega, by omega, p'⟩, ?_⟩
    rintro v H' ⟨t, x, rfl, nt, rfl, at_⟩
    exact hs i x t σ H (at_ xs hx) p nt
  · refine .inl ⟨⟨xs, hx, rfl, by omega⟩, hd σ H ?_⟩
    have : i = xs.length := by omega
    rw [← this]
    exact p

theorem any_pair (x y : Int) : ∀ ps : List (Int × Int), ((ps.map pairD).any fun z => PyData.eqv z (.tuple [.int x, .int y])) = decide ((x, y) ∈ ps)
  | [] => rfl
  | q :: ps => by
    rw [List.map_cons, List.any_cons, any_pair x y ps]
    show (PyData.eqv (.tuple [.int q.1, .int q.2]) (.tuple [.int x, .int y]) || _) = _
    rw [eqv_pair, Bool.eq_iff_iff, Bool.or_eq_true, decide_eq_true_iff, decide_eq_true_iff, decide_eq_true_iff, List.mem_cons]
    exact ⟨fun h => h.imp (fun z => z.symm) id, fun h => h.imp (fun z => z.symm) id⟩

/-! ### plans: states, edits -/
abbrev St2 := List (Int × Int) × List (Int × Int)
/-- an edit: added or removed; a piece or a target; the interval -/
structure Ed where
  add : Bool
  pc : Bool
  q : Int × Int
def wordOf (add pc : Bool) : Str := match add, pc with
  | true, false => "add_target"
  | true, true => "add_piece"
  | false, false => "remove_target"
  | false, true => "remove_piece"
def wordE (e : Ed) : Str := wordOf e.add e.pc
instance (a b : Int × Int) : Decidable (ltP a b) := by unfold ltP; infer_instance
def insI (q : Int × Int) : List (Int × Int) → List (Int × Int)
  | [] => [q]
  | p :: ps => if ltP q p then q :: p :: ps else p :: insI q ps
theorem mem_insI {q x : Int × Int} : ∀ {ps : List (Int × Int)}, x ∈ insI q ps ↔ x = q ∨ x ∈ ps
  | [] => by
    show x ∈ [q] ↔ _
    rw [List.mem_singleton]
    exact ⟨.inl, fun h => h.elim id fun h => nomatch h⟩
  | p :: ps => by
    show x ∈ (if ltP q p then q :: p :: ps else p :: insI q ps) ↔ _
    split
    · rw [List.mem_cons]
    · rw [List.mem_cons, mem_insI (ps := ps), List.mem_cons]
      constructor
      · rintro (h | h | h)
        · exact .inr (.inl h)
        · exact .inl h
        · exact .inr (.inr h)
      · rintro (h | h | h)
        · exact .inr (.inl h)
        · exact .inl h
        · exact .inr (.inr h)
theorem len_insI {q : Int × Int} : ∀ {ps : List (Int × Int)}, (insI q ps).length = ps.length + 1
  | [] => rfl
  | p :: ps => by
    show (if ltP q p then q :: p :: ps else p :: insI q ps).length = _
    split
    · rfl
    · rw [List.length_cons, len_insI (ps := ps), List.length_cons]
theorem ltP_trans {a b c : Int × Int} (h1 : ltP a b) (h2 : ltP b c) : ltP a c := by
  unfold ltP at *
  omega
theorem asc_insI {q : Int × Int} : ∀ {ps : List (Int × Int)}, ps.Pairwise ltP → q ∉ ps → (insI q ps).Pairwise ltP
  | [], _, _ => List.pairwise_cons.mpr ⟨(fun _ h => nomatch h), .nil⟩
  | p :: ps, h, n => by
    have h' := List.pairwise_cons.mp h
    show (if ltP q p then q :: p :: ps else p :: insI q ps).Pairwise ltP
    split
    · rename_i c
      refine List.pairwise_cons.mpr ⟨fun x hx => ?_, h⟩
      rcases List.mem_cons.mp hx with rfl | hx
      · exact c
      · exact ltP_trans c (h'.1 x hx)
    · rename_i c
      refine List.pairwise_cons.mpr ⟨fun x hx => ?_, asc_insI h'.2 fun z => n (List.mem_cons_of_mem _ z)⟩
      rcases mem_insI.mp hx with rfl | hx
      · have ne : x ≠ p := fun e => n (e ▸ List.mem_cons_self)
        unfold ltP at c ⊢
        rcases Int.lt_trichotomy p.1 x.1 with z | z | z
        · exact .inl z
        · rcases Int.lt_trichotomy p.2 x.2 with y | y | y
          · exact .inr ⟨z, y⟩
          · exact absurd (Prod.ext z y).symm ne
          · exact absurd (.inr ⟨z.symm, y⟩) c
        · exact absurd (.inl z) c
      · exact h'.1 x hx
def upI (add : Bool) (q : Int × Int) (ps : List (Int × Int)) : List (Int × Int) := if add = true then insI q ps else wo ps q
def stepS (S : St2) (e : Ed) : St2 := if e.pc = true then (S.1, upI e.add e.q S.2) else (upI e.add e.q S.1, S.2)
def sideS (pc : Bool) (S : St2) : List (Int × Int) := if pc = true then S.2 else S.1
/-- intervals as a plan holds them -/
structure SideOk (n : Nat) (ps : List (Int × Int)) : Prop where
  asc : ps.Pairwise ltP
  ok : ∀ q ∈ ps, (0 ≤ q.1 ∧ q.1 ≤ q.2) ∧ q.2 ≤ 1000000000000
  few : ps.length ≤ n
structure StOk (S : St2) : Prop where
  t : SideOk 24 S.1
  p : SideOk 30 S.2
/-- an edit that can be done -/
structure Can (S : St2) (e : Ed) : Prop where
  ok : (0 ≤ e.q.1 ∧ e.q.1 ≤ e.q.2) ∧ e.q.2 ≤ 1000000000000
  no : e.add = true → e.q ∉ sideS e.pc S ∧ (sideS e.pc S).length < (if e.pc = true then 30 else 24)
  yes : e.add = false → e.q ∈ sideS e.pc S
theorem ltP_ndp {ps : List (Int × Int)} (h : ps.Pairwise ltP) : ps.Nodup := h.imp fun {a b} h e => by
  subst e
  rcases h with h | h <;> omega
theorem SideOk.ins {n : Nat} {ps : List (Int × Int)} {q : Int × Int} (h : SideOk n ps) (ok : (0 ≤ q.1 ∧ q.1 ≤ q.2) ∧ q.2 ≤ 1000000000000) (nq : q ∉ ps) (l : ps.length < n) : SideOk n (insI q ps) :=
  ⟨asc_insI h.asc nq, fun x hx => (mem_insI.mp hx).elim (fun e => e ▸ ok) fun m => h.ok x m, by rw [len_insI]; exact l⟩
theorem SideOk.wo {n : Nat} {ps : List (Int × Int)} (h : SideOk n ps) (q : Int × Int) : SideOk n (wo ps q) :=
  ⟨h.asc.filter _, fun x hx => h.ok x (wo_sub hx), Nat.le_trans (wo_len ps q) h.few⟩
theorem StOk.step {S : St2} {e : Ed} (h : StOk S) (c : Can S e) : StOk (stepS S e) := by
  obtain ⟨add, pc, q⟩ := e
  cases pc with
  | true =>
    refine ⟨h.t, ?_⟩
    cases add with
    | true => exact h.p.ins c.ok (c.no rfl).1 (c.no rfl).2
    | false => exact h.p.wo q
  | false =>
    refine ⟨?_, h.p⟩
    cases add with
    | true => exact h.t.ins c.ok (c.no rfl).1 (c.no rfl).2
    | false => exact h.t.wo q
/-! ### plans in the heap -/
inductive Sts (H : Hp) : List V → List St2 → Prop where
  | nil : Sts H [] []
  | cons {t x y : Addr} {xs ys us : List V} {S : St2} {Ss : List St2} (e : H t = some (.tup [.ref x, .ref y])) (ex : H x = some (.tup xs)) (ix : Ivs H xs S.1) (ey : H y = some (.tup ys)) (iy : Ivs H ys S.2) (r : Sts H us Ss) : Sts H (.ref t :: us) (S :: Ss)
theorem Sts.tps {H H' : Hp} (s : Tps H H') {us : List V} {Ss : List St2} (h : Sts H us Ss) : Sts H' us Ss := by
  induction h with
  | nil => exact .nil
  | cons e ex ix ey iy _ ih => exact .cons (s _ _ e) (s _ _ ex) (ix.tps s) (s _ _ ey) (iy.tps s) ih
theorem Sts.length {H : Hp} {us : List V} {Ss : List St2} (h : Sts H us Ss) : us.length = Ss.length := by
  induction h with
  | nil => rfl
  | cons e ex ix ey iy _ ih => rw [List.length_cons, List.length_cons, ih]
theorem Sts.get {H : Hp} {us : List V} {Ss : List St2} (h : Sts H us Ss) : ∀ {i : Nat} {S : St2}, Ss[i]? = some S → ∃ t x y xs ys, us[i]? = some (.ref t) ∧ H t = some (.tup [.ref x, .ref y]) ∧ H x = some (.tup xs) ∧ Ivs H xs S.1 ∧ H y = some (.tup ys) ∧ Ivs H ys S.2 := by
  induction h with
  | nil => intro i S e; cases e
  | @cons t x y xs ys us S0 Ss e ex ix ey iy _ ih =>
    intro i S h
    cases i with
    | zero =>
      cases h
      exact ⟨t, x, y, xs, ys, rfl, e, ex, ix, ey, iy⟩
    | succ i => exact ih h
theorem Sts.snoc {H : Hp} {us : List V} {Ss : List St2} (h : Sts H us Ss) {t x y : Addr} {xs ys : List V} {S : St2} (e : H t = some (.tup [.ref x, .ref y])) (ex : H x = some (.tup xs)) (ix : Ivs H xs S.1) (ey : H y = some (.tup ys)) (iy : Ivs H ys S.2) : Sts H (us ++ [.ref t]) (Ss ++ [S]) := by
  induction h with
  | nil => exact .cons e ex ix ey iy .nil
  | cons e1 ex1 ix1 ey1 iy1 _ ih => exact .cons e1 ex1 ix1 ey1 iy1 ih
theorem Sts.init {H : Hp} {us : List V} {Ss : List St2} (h : Sts H us Ss) : Sts H us.dropLast Ss.dropLast := by
  induction h with
  | nil => exact .nil
  | cons e ex ix ey iy r ih =>
    cases r with
    | nil => exact .nil
    | cons e2 ex2 ix2 ey2 iy2 r2 => exact .cons e ex ix ey iy ih
inductive Eds (H : Hp) : List V → List Ed → Prop where
  | nil : Eds H [] []
  | cons {t a : Addr} {vs : List V} {e : Ed} {es : List Ed} (h : H t = some (.tup [.str (wordE e), .ref a])) (ha : H a = some (.tup [.int e.q.1, .int e.q.2])) (r : Eds H vs es) : Eds H (.ref t :: vs) (e :: es)
theorem Eds.tps {H H' : Hp} (s : Tps H H') {us : List V} {es : List Ed} (h : Eds H us es) : Eds H' us es := by
  induction h with
  | nil => exact .nil
  | cons e ex _ ih => exact .cons (s _ _ e) (s _ _ ex) ih
theorem Eds.length {H : Hp} {us : List V} {es : List Ed} (h : Eds H us es) : us.length = es.length := by
  induction h with
  | nil => rfl
  | cons e ex _ ih => rw [List.length_cons, List.length_cons, ih]
theorem Eds.snoc {H : Hp} {us : List V} {es : List Ed} (h : Eds H us es) {t a : Addr} {e : Ed} (h1 : H t = some (.tup [.str (wordE e), .ref a])) (h2 : H a = some (.tup [.int e.q.1, .int e.q.2])) : Eds H (us ++ [.ref t]) (es ++ [e]) := by
  induction h with
  | nil => exact .cons h1 h2 .nil
  | cons e1 ex1 _ ih => exact .cons e1 ex1 ih
theorem Eds.init {H : Hp} {us : List V} {es : List Ed} (h : Eds H us es) : Eds H us.dropLast es.dropLast := by
  induction h with
  | nil => exact .nil
  | cons e ex r ih =>
    cases r with
    | nil => exact .nil
    | cons e2 ex2 r2 => exact .cons e ex ih
theorem Eds.get {H : Hp} {us : List V} {es : List Ed} (h : Eds H us es) : ∀ {i : Nat} {v : V}, us[i]? = some v → ∃ t a e, v = .ref t ∧ es[i]? = some e ∧ H t = some (.tup [.str (wordE e), .ref a]) ∧ H a = some (.tup [.int e.q.1, .int e.q.2]) := by
  induction h with
  | nil => intro i v e; cases e
  | @cons t a vs e es h1 h2 _ ih =>
    intro i v hv
    cases i with
    | zero =>
      cases hv
      exact ⟨t, a, e, rfl, rfl, h1, h2⟩
    | succ i => exact ih hv
def edD (e : Ed) : PyData := .tuple [.str (wordE e), .tuple [.int e.q.1, .int e.q.2]]
theorem Eds.dp {K : PySem.W.Frag} {H : Hp} {us : List V} {es : List Ed} (h : Eds H us es) : DpAll K H us (es.map edD) := by
  induction h with
  | nil => exact .nil
  | cons e ex _ ih => exact .cons (.tup (SqT.of e) (.cons (.str _) (.cons (dp2 ex) .nil))) ih
/-- the attributes of a plan, in the order in which they are stored -/
def flP (a b : Addr) (z : Bool) : List (Str × V) := [("states", .ref a), ("done", .ref b), ("busy", .bl z)]
theorem kSD : ¬ (("states" : Str) = "done") := by decide +kernel
theorem kSB : ¬ (("states" : Str) = "busy") := by decide +kernel
theorem kDB : ¬ (("done" : Str) = "busy") := by decide +kernel
theorem flP_new (a b : Addr) (z : Bool) : putF "busy" (.bl z) (putF "done" (.ref b) (putF "states" (.ref a) [])) = flP a b z := by
  show putF "busy" (.bl z) (if ("states" : Str) = "done" then [(("states" : Str), V.ref b)] else (("states" : Str), V.ref a) :: putF "done" (V.ref b) []) = _
  rw [if_neg kSD]
  show (if ("states" : Str) = "busy" then _ else (("states" : Str), V.ref a) :: (if ("done" : Str) = "busy" then _ else (("done" : Str), V.ref b) :: putF "busy" (V.bl z) [])) = _
  rw [if_neg kSB, if_neg kDB]
  rfl
theorem flP_states (a b a' : Addr) (z : Bool) : putF "states" (.ref a') (flP a b z) = flP a' b z := by
  show (if ("states" : Str) = "states" then _ else _) = _
  rw [if_pos rfl]
  rfl
theorem flP_done (a b b' : Addr) (z : Bool) : putF "done" (.ref b') (flP a b z) = flP a b' z := by
  show (if ("states" : Str) = "done" then _ else (("states" : Str), V.ref a) :: (if ("done" : Str) = "done" then _ else _)) = _
  rw [if_neg kSD, if_pos rfl]
  rfl
theorem lk_states (a b : Addr) (z : Bool) : (flP a b z).lookup ("states" : Str) = some (.ref a) := by rw [← flP_new, lookup_putF, if_neg kSB, lookup_putF, if_neg kSD, lookup_putF, if_pos rfl]
theorem lk_done (a b : Addr) (z : Bool) : (flP a b z).lookup ("done" : Str) = some (.ref b) := by rw [← flP_new, lookup_putF, if_neg kDB, lookup_putF, if_pos rfl]
theorem lk_busy (a b : Addr) (z : Bool) : (flP a b z).lookup ("busy" : Str) = some (.bl z) := by rw [← flP_new, lookup_putF, if_pos rfl]
theorem lk_no (a b : Addr) (z : Bool) {m : Str} (h : (decide (m = "states") || decide (m = "done") || decide (m = "busy")) = false) : (flP a b z).lookup m = none := by
  rw [Bool.or_eq_false_iff, Bool.or_eq_false_iff] at h
  rw [← flP_new, lookup_putF, if_neg (of_decide_eq_false h.2), lookup_putF, if_neg (of_decide_eq_false h.1.2), lookup_putF, if_neg (of_decide_eq_false h.1.1)]
  rfl
/-- a plan stands at p, with the states Ss behind the edits Es -/
structure PlanAt (C : Addr) (H : Hp) (p : Addr) (Ss : List St2) (Es : List Ed) : Prop where
  ex : ∃ dx a b us vs, H p = some (.ins C dx (flP a b false)) ∧ H a = some (.tup us) ∧ Sts H us Ss ∧ H b = some (.tup vs) ∧ Eds H vs Es
  len : Ss.length = Es.length + 1
/-- nothing but p has changed -/
def But (p : Addr) (H H' : Hp) : Prop := ∀ b o, b ≠ p → H b = some o → H' b = some o
theorem But.trans {p : Addr} {H H1 H2 : Hp} (h1 : But p H H1) (h2 : But p H1 H2) : But p H H2 := fun b o n e => h2 b o n (h1 b o n e)
theorem But.same {p : Addr} {H H1 : Hp} (s : Same H H1) : But p H H1 := fun b o _ e => s b o e
theorem But.upd {p : Addr} {H : Hp} {o : HO} : But p H (upd H p o) := fun b u n e => by
  rw [upd_ne n]
  exact e
theorem But.tps {p C dx : Addr} {fs : List (Str × V)} {H H' : Hp} (h : But p H H') (e : H p = some (.ins C dx fs)) : Tps H H' := fun b xs hb => h b _ (ne_of hb e (fun z => by cases z)) hb
theorem PlanAt.tps {C p : Addr} {H H' : Hp} {Ss : List St2} {Es : List Ed} (P : PlanAt C H p Ss Es) (b : But p H H') : Tps H H' := by
  obtain ⟨dx, _, _, _, _, e, _⟩ := P.ex
  exact b.tps e
theorem PlanAt.lst {C p : Addr} {H H' : Hp} {Ss : List St2} {Es : List Ed} (P : PlanAt C H p Ss Es) (b : But p H H') {l : Addr} {us : List V} (h : H l = some (.lst us)) : H' l = some (.lst us) := by
  obtain ⟨dx, _, _, _, _, e, _⟩ := P.ex
  exact b l _ (ne_of h e (fun z => by cases z)) h
/-- carried over a change that keeps the instance and the tuples -/
theorem PlanAt.keep {C p : Addr} {H H' : Hp} {Ss : List St2} {Es : List Ed} (P : PlanAt C H p Ss Es) (t : Tps H H') (k : ∀ C dx fs, H p = some (.ins C dx fs) → H' p = some (.ins C dx fs)) : PlanAt C H' p Ss Es := by
  obtain ⟨⟨dx, a, b, us, vs, e, ea, sa, eb, sb⟩, l⟩ := P
  exact ⟨⟨dx, a, b, us, vs, k _ _ _ e, t _ _ ea, sa.tps t, t _ _ eb, sb.tps t⟩, l⟩
theorem PlanAt.same {C p : Addr} {H H' : Hp} {Ss : List St2} {Es : List Ed} (P : PlanAt C H p Ss Es) (s : Same H H') : PlanAt C H' p Ss Es := P.keep (Tps.same s) fun _ _ _ e => s _ _ e
/-! ### checks of intervals -/
def sp_is_number : Sp := fun vs H Q _ => ∃ i : Int, vs = [.int i] ∧ Q (.bl true) H
theorem ok_is_number (T : Tx K mg f_is_number f_is_position f_is_tuple_of f_is_interval f_ascending_error f_targets_error f_is_pieces f_interval_text f_joined_texts f_intervals_text f_demand_text f_parse_number f_parse_interval f_edit_version f_edit_answer f_state_answer f_count_answer f_answer_line f_without_item f_with_interval f_without_interval f_edited_state f_helpful_piece f_law_deck f_law_draw f_law_same f_law_small f_law_odd f_law_text f_law_lines f_law f_Shell_init f_Shell_execute f_Plan_init f_Plan_add_target f_Plan_add_piece f_Plan_remove_target f_Plan_remove_piece f_Plan_undo f_Plan_targets f_Plan_pieces f_Plan_needed f_Plan_solution f_Plan_missing f_Plan_changes f_Plan_edit f_Plan_record f_Plan_require_idle f_Plan_state_at f_Plan_len f_Plan_eq C_Shell C_Plan X_NothingToUndo X_Busy X_TooManyEdits X_Duplicate X_TooMany X_Unknown X_TooWide d_is_number d_is_position d_is_tuple_of d_is_interval d_ascending_error d_targets_error d_is_pieces d_interval_text d_joined_texts d_intervals_text d_demand_text d_parse_number d_parse_interval d_edit_version d_edit_answer d_state_answer d_count_answer d_answer_line d_without_item d_with_interval d_without_interval d_edited_state d_helpful_piece d_law_deck d_law_draw d_law_same d_law_small d_law_odd d_law_text d_law_lines d_law d_Shell_init d_Shell_execute d_Plan_init d_Plan_add_target d_Plan_add_piece d_Plan_remove_target d_Plan_remove_piece d_Plan_undo d_Plan_targets d_Plan_pieces d_Plan_needed d_Plan_solution d_Plan_missing d_Plan_changes d_Plan_edit d_Plan_record d_Plan_require_idle d_Plan_state_at d_Plan_len d_Plan_eq t_LAST_POSITION t_MAX_TARGETS t_MAX_PIECES t_MAX_BLOCKS t_MAX_EDITS t_BATCH) : FnOk P w K mg base CX0 1 f_is_number d_is_number ["value"] sp_is_number := by
  refine T.F_is_number.ok sc_is_number (fun vs H Q E h => ?_) (fun cdv A outer s H vs Q E hr h => ?_)
  · obtain ⟨i, rfl, _⟩ := h
    rfl
  · obtain ⟨i, rfl, q⟩ := h
    refine ⟨_, (pss_one (ps_ret (pe_and (pe_callB call_isi (by rfl) T.z_isinstance (by decide +kernel) (pa_cons (pv 0) (pa_cons (pe_bltn (v := .ty "int") (u := .type "int") (by rfl) T.z_int (by decide +kernel) rfl) pa_nil))) (pe_one (pe_not (pe_callB call_isi (by rfl) T.z_isinstance (by decide +kernel) (pa_cons (pv 0) (pa_cons (pe_bltn (v := .ty "bool") (u := .type "bool") (by rfl) T.z_bool (by decide +kernel) rfl) pa_nil)))))))), ?_⟩
    refine ⟨.int i, rfl, .int i, .ty "int", _, _, _, rfl, .ty "int", .base (.int i), kit_intI, _, rfl, iteT ?_⟩
    exact ⟨.int i, rfl, .int i, .ty "bool", _, _, _, rfl, .ty "bool", .base (.int i), kit_intB, _, rfl, q⟩
def sp_is_position : Sp := fun vs H Q _ => ∃ i : Int, vs = [.int i] ∧ (0 ≤ i ∧ i ≤ 1000000000000) ∧ Q (.bl true) H
theorem ok_is_position (T : Tx K mg f_is_number f_is_position f_is_tuple_of f_is_interval f_ascending_error f_targets_error f_is_pieces f_interval_text f_joined_texts f_intervals_text f_demand_text f_parse_number f_parse_interval f_edit_version f_edit_answer f_state_answer f_count_answer f_answer_line f_without_item f_with_interval f_without_interval f_edited_state f_helpful_piece f_law_deck f_law_draw f_law_same f_law_small f_law_odd f_law_text f_law_lines f_law f_Shell_init f_Shell_execute f_Plan_init f_Plan_add_target f_Plan_add_piece f_Plan_remove_target f_Plan_remove_piece f_Plan_undo f_Plan_targets f_Plan_pieces f_Plan_needed f_Plan_solution f_Plan_missing f_Plan_changes f_Plan_edit f_Plan_record f_Plan_require_idle f_Plan_state_at f_Plan_len f_Plan_eq C_Shell C_Plan X_NothingToUndo X_Busy X_TooManyEdits X_Duplicate X_TooMany X_Unknown X_TooWide d_is_number d_is_position d_is_tuple_of d_is_interval d_ascending_error d_targets_error d_is_pieces d_interval_text d_joined_texts d_intervals_text d_demand_text d_parse_number d_parse_interval d_edit_version d_edit_answer d_state_answer d_count_answer d_answer_line d_without_item d_with_interval d_without_interval d_edited_state d_helpful_piece d_law_deck d_law_draw d_law_same d_law_small d_law_odd d_law_text d_law_lines d_law d_Shell_init d_Shell_execute d_Plan_init d_Plan_add_target d_Plan_add_piece d_Plan_remove_target d_Plan_remove_piece d_Plan_undo d_Plan_targets d_Plan_pieces d_Plan_needed d_Plan_solution d_Plan_missing d_Plan_changes d_Plan_edit d_Plan_record d_Plan_require_idle d_Plan_state_at d_Plan_len d_Plan_eq t_LAST_POSITION t_MAX_TARGETS t_MAX_PIECES t_MAX_BLOCKS t_MAX_EDITS t_BATCH) : FnOk P w K mg base CX0 2 f_is_position d_is_position ["value"] sp_is_position := by
  refine T.F_is_position.ok sc_is_position (fun vs H Q E h => ?_) (fun cdv A outer s H vs Q E hr h => ?_)
  · obtain ⟨i, rfl, _⟩ := h
    rfl
  · obtain ⟨i, rfl, b, q⟩ := h
    refine ⟨_, (pss_one (ps_ret (pe_and (pe_call (ok_is_number T) (hr.mono (by decide)) (by rfl) T.g_is_number T.F_is_number.kp T.b_is_number .nil pass0 (pa_cons (pv 0) pa_nil)) (pe_one (pe_chain op_le op_le pe_int (pv 0) (pe_glob (v := .int 1000000000000) (by rfl) T.c_LAST_POSITION ⟨_, rfl⟩)))))), ?_⟩
    refine ⟨.int i, rfl, i, rfl, _, rfl, iteT ?_⟩
    refine ⟨.int i, rfl, _, _, rfl, rfl, _, rfl, ?_⟩
    rw [decide_eq_true b.1]
    refine iteT ⟨_, _, rfl, rfl, ?_⟩
    have q' : Q (.bl (decide (i ≤ 1000000000000))) H := by
      rw [decide_eq_true b.2]
      exact q
    exact q'
def sp_is_tuple_of : Sp := fun vs H Q _ => ∃ (a : Addr) (x y : V), vs = [.ref a, .int 2] ∧ H a = some (.tup [x, y]) ∧ Q (.bl true) H
theorem ok_is_tuple_of (T : Tx K mg f_is_number f_is_position f_is_tuple_of f_is_interval f_ascending_error f_targets_error f_is_pieces f_interval_text f_joined_texts f_intervals_text f_demand_text f_parse_number f_parse_interval f_edit_version f_edit_answer f_state_answer f_count_answer f_answer_line f_without_item f_with_interval f_without_interval f_edited_state f_helpful_piece f_law_deck f_law_draw f_law_same f_law_small f_law_odd f_law_text f_law_lines f_law f_Shell_init f_Shell_execute f_Plan_init f_Plan_add_target f_Plan_add_piece f_Plan_remove_target f_Plan_remove_piece f_Plan_undo f_Plan_targets f_Plan_pieces f_Plan_needed f_Plan_solution f_Plan_missing f_Plan_changes f_Plan_edit f_Plan_record f_Plan_require_idle f_Plan_state_at f_Plan_len f_Plan_eq C_Shell C_Plan X_NothingToUndo X_Busy X_TooManyEdits X_Duplicate X_TooMany X_Unknown X_TooWide d_is_number d_is_position d_is_tuple_of d_is_interval d_ascending_error d_targets_error d_is_pieces d_interval_text d_joined_texts d_intervals_text d_demand_text d_parse_number d_parse_interval d_edit_version d_edit_answer d_state_answer d_count_answer d_answer_line d_without_item d_with_interval d_without_interval d_edited_state d_helpful_piece d_law_deck d_law_draw d_law_same d_law_small d_law_odd d_law_text d_law_lines d_law d_Shell_init d_Shell_execute d_Plan_init d_Plan_add_target d_Plan_add_piece d_Plan_remove_target d_Plan_remove_piece d_Plan_undo d_Plan_targets d_Plan_pieces d_Plan_needed d_Plan_solution d_Plan_missing d_Plan_changes d_Plan_edit d_Plan_record d_Plan_require_idle d_Plan_state_at d_Plan_len d_Plan_eq t_LAST_POSITION t_MAX_TARGETS t_MAX_PIECES t_MAX_BLOCKS t_MAX_EDITS t_BATCH) : FnOk P w K mg base CX0 1 f_is_tuple_of d_is_tuple_of ["value", "length"] sp_is_tuple_of := by
  refine T.F_is_tuple_of.ok sc_is_tuple_of (fun vs H Q E h => ?_) (fun cdv A outer s H vs Q E hr h => ?_)
  · obtain ⟨a, x, y, rfl, _⟩ := h
    rfl
  · obtain ⟨a, x, y, rfl, ha, q⟩ := h
    refine ⟨_, (pss_one (ps_ret (pe_and (pe_callB call_isi (by rfl) T.z_isinstance (by decide +kernel) (pa_cons (pv 0) (pa_cons (pe_bltn (v := .ty "tuple") (u := .type "tuple") (by rfl) T.z_tuple (by decide +kernel) rfl) pa_nil))) (pe_one (pe_cmpR op_eq (pe_callB call_len_seq (by rfl) T.z_len PySem.boot_len (pa_cons (pv 0) pa_nil)) (pv 1) (nomark _)))))), ?_⟩
    refine ⟨.ref a, rfl, .ref a, .ty "tuple", _, _, _, rfl, .ty "tuple", .base (.tup ha), kit_tupT, _, rfl, iteT ?_⟩
    exact ⟨.ref a, rfl, a, _, rfl, .inr (SqT.of ha), .int 2, rfl, rfl, q⟩
def sp_is_interval : Sp := fun vs H Q _ => ∃ (a : Addr) (x y : Int), vs = [.ref a] ∧ H a = some (.tup [.int x, .int y]) ∧ ((0 ≤ x ∧ x ≤ y) ∧ y ≤ 1000000000000) ∧ Q (.bl true) H
theorem ok_is_interval (T : Tx K mg f_is_number f_is_position f_is_tuple_of f_is_interval f_ascending_error f_targets_error f_is_pieces f_interval_text f_joined_texts f_intervals_text f_demand_text f_parse_number f_parse_interval f_edit_version f_edit_answer f_state_answer f_count_answer f_answer_line f_without_item f_with_interval f_without_interval f_edited_state f_helpful_piece f_law_deck f_law_draw f_law_same f_law_small f_law_odd f_law_text f_law_lines f_law f_Shell_init f_Shell_execute f_Plan_init f_Plan_add_target f_Plan_add_piece f_Plan_remove_target f_Plan_remove_piece f_Plan_undo f_Plan_targets f_Plan_pieces f_Plan_needed f_Plan_solution f_Plan_missing f_Plan_changes f_Plan_edit f_Plan_record f_Plan_require_idle f_Plan_state_at f_Plan_len f_Plan_eq C_Shell C_Plan X_NothingToUndo X_Busy X_TooManyEdits X_Duplicate X_TooMany X_Unknown X_TooWide d_is_number d_is_position d_is_tuple_of d_is_interval d_ascending_error d_targets_error d_is_pieces d_interval_text d_joined_texts d_intervals_text d_demand_text d_parse_number d_parse_interval d_edit_version d_edit_answer d_state_answer d_count_answer d_answer_line d_without_item d_with_interval d_without_interval d_edited_state d_helpful_piece d_law_deck d_law_draw d_law_same d_law_small d_law_odd d_law_text d_law_lines d_law d_Shell_init d_Shell_execute d_Plan_init d_Plan_add_target d_Plan_add_piece d_Plan_remove_target d_Plan_remove_piece d_Plan_undo d_Plan_targets d_Plan_pieces d_Plan_needed d_Plan_solution d_Plan_missing d_Plan_changes d_Plan_edit d_Plan_record d_Plan_require_idle d_Plan_state_at d_Plan_len d_Plan_eq t_LAST_POSITION t_MAX_TARGETS t_MAX_PIECES t_MAX_BLOCKS t_MAX_EDITS t_BATCH) : FnOk P w K mg base CX0 3 f_is_interval d_is_interval ["value"] sp_is_interval := by
  refine T.F_is_interval.ok sc_is_interval (fun vs H Q E h => ?_) (fun cdv A outer s H vs Q E hr h => ?_)
  · obtain ⟨a, x, y, rfl, _⟩ := h
    rfl
  · obtain ⟨a, x, y, rfl, ha, b, q⟩ := h
    refine ⟨_, (pss_cons (ps_if (pt_not (pt_val (pe_call (ok_is_tuple_of T) (hr.mono (by decide)) (by rfl) T.g_is_tuple_of T.F_is_tuple_of.kp T.b_is_tuple_of .nil pass0 (pa_cons (pv 0) (pa_cons pe_int pa_nil)))))
      (pss_one (ps_ret pe_bl))
      pss_nil)
      (pss_cons (ps_asg (pv 0) (pg_tup rfl (pgs_cons (pg_name (i := 1) sc_is_interval.nd rfl (Or.inl rfl)) (pgs_cons (pg_name (i := 2) sc_is_interval.nd rfl (Or.inl rfl)) pgs_nil))))
      (pss_one (ps_ret (pe_and (pe_call (ok_is_position T) (hr.mono (by decide)) (by rfl) T.g_is_position T.F_is_position.kp T.b_is_position .nil pass0 (pa_cons (pv 1) pa_nil)) (pe_and (pe_call (ok_is_position T) (hr.mono (by decide)) (by rfl) T.g_is_position T.F_is_position.kp T.b_is_position .nil pass0 (pa_cons (pv 2) pa_nil)) (pe_one (pe_cmpR op_le (pv 1) (pv 2) (nomark _))))))))), ?_⟩
    refine ⟨.ref a, rfl, a, .int x, .int y, rfl, ha, _, rfl, iteF ?_⟩
    refine ⟨.ref a, rfl, a, _, rfl, SqT.of ha, rfl, .int x, [.int y], rfl, .int y, [], rfl, rfl, ?_⟩
    refine ⟨.int x, rfl, x, rfl, by omega, _, rfl, iteT ?_⟩
    refine ⟨.int y, rfl, y, rfl, by omega, _, rfl, iteT ?_⟩
    refine ⟨.int x, rfl, .int y, rfl, _, _, rfl, rfl, ?_⟩
    have q' : Q (.bl (decide (x ≤ y))) H := by
      rw [decide_eq_true b.1.2]
      exact q
    exact q'
def sp_asc : Sp := fun vs H Q _ => ∃ (a : Addr) (us : List V) (ps : List (Int × Int)) (n : Nat), vs = [.ref a, .int n] ∧ H a = some (.tup us) ∧ Ivs H us ps ∧ SideOk n ps ∧ n ≤ 30 ∧ ∀ H', Same H H' → Q .non H'
theorem ok_ascending_error (T : Tx K mg f_is_number f_is_position f_is_tuple_of f_is_interval f_ascending_error f_targets_error f_is_pieces f_interval_text f_joined_texts f_intervals_text f_demand_text f_parse_number f_parse_interval f_edit_version f_edit_answer f_state_answer f_count_answer f_answer_line f_without_item f_with_interval f_without_interval f_edited_state f_helpful_piece f_law_deck f_law_draw f_law_same f_law_small f_law_odd f_law_text f_law_lines f_law f_Shell_init f_Shell_execute f_Plan_init f_Plan_add_target f_Plan_add_piece f_Plan_remove_target f_Plan_remove_piece f_Plan_undo f_Plan_targets f_Plan_pieces f_Plan_needed f_Plan_solution f_Plan_missing f_Plan_changes f_Plan_edit f_Plan_record f_Plan_require_idle f_Plan_state_at f_Plan_len f_Plan_eq C_Shell C_Plan X_NothingToUndo X_Busy X_TooManyEdits X_Duplicate X_TooMany X_Unknown X_TooWide d_is_number d_is_position d_is_tuple_of d_is_interval d_ascending_error d_targets_error d_is_pieces d_interval_text d_joined_texts d_intervals_text d_demand_text d_parse_number d_parse_interval d_edit_version d_edit_answer d_state_answer d_count_answer d_answer_line d_without_item d_with_interval d_without_interval d_edited_state d_helpful_piece d_law_deck d_law_draw d_law_same d_law_small d_law_odd d_law_text d_law_lines d_law d_Shell_init d_Shell_execute d_Plan_init d_Plan_add_target d_Plan_add_piece d_Plan_remove_target d_Plan_remove_piece d_Plan_undo d_Plan_targets d_Plan_pieces d_Plan_needed d_Plan_solution d_Plan_missing d_Plan_changes d_Plan_edit d_Plan_record d_Plan_require_idle d_Plan_state_at d_Plan_len d_Plan_eq t_LAST_POSITION t_MAX_TARGETS t_MAX_PIECES t_MAX_BLOCKS t_MAX_EDITS t_BATCH) : FnOk P w K mg base CX0 4 f_ascending_error d_ascending_error ["value", "most"] sp_asc := by
  refine T.F_ascending_error.ok sc_ascending_error (fun vs H Q E h => ?_) (fun cdv A outer s H vs Q E hr h => ?_)
  · obtain ⟨a, us, ps, n, rfl, _⟩ := h
    rfl
  · obtain ⟨a, us, ps, n, rfl, ha, iv, sd, ln, q⟩ := h
    refine ⟨_, (pss_cons (ps_if (PW.pt (pw_or (pt_not (pt_val (pe_callB call_isi (by rfl) T.z_isinstance (by decide +kernel) (pa_cons (pv 0) (pa_cons (pe_bltn (v := .ty "tuple") (u := .type "tuple") (by rfl) T.z_tuple (by decide +kernel) rfl) pa_nil))))) (pw_or1 (pt_cmpR op_gt (pe_callB call_len_seq (by rfl) T.z_len PySem.boot_len (pa_cons (pv 0) pa_nil)) (pv 1) (nomark _)))))
      (pss_one (ps_ret (pe_tup (pa_cons pe_non (pa_cons pe_str pa_nil)))))
      pss_nil)
      (pss_cons (ps_for PassesOwn.never rfl (pi_enumT (by rfl) T.z_enumerate (pa_cons (pv 0) pa_nil)) (pg_tup rfl (pgs_cons (pg_name (i := 2) sc_ascending_error.nd rfl (Or.inl rfl)) (pgs_cons (pg_name (i := 3) sc_ascending_error.nd rfl (Or.inl rfl)) pgs_nil)))
      (pss_cons (ps_if (pt_not (pt_val (pe_call (ok_is_interval T) (hr.mono (by decide)) (by rfl) T.g_is_interval T.F_is_interval.kp T.b_is_interval .nil pass0 (pa_cons (pv 3) pa_nil))))
      (pss_one (ps_ret (pe_tup (pa_cons (pv 2) (pa_cons pe_str pa_nil)))))
      pss_nil)
      (pss_one (ps_if (PW.pt (pw_and (pt_cmpR op_gt (pv 2) pe_int (nomark _)) (pw_and1 (pt_cmpR (op_leT hr.units0) (pv 3) (pe_ix ix_tup (pv 0) (pe_op op_sub (pv 2) pe_int) (fun _ _ => rfl)) (nomark _)))))
      (pss_one (ps_ret (pe_tup (pa_cons (pv 2) (pa_cons pe_str pa_nil)))))
      pss_nil))))
      (pss_one (ps_ret pe_non)))), ?_⟩
    have lu := iv.length
    have few := sd.few
    refine ⟨.ref a, rfl, .ref a, .ty "tuple", _, _, _, rfl, .ty "tuple", .base (.tup ha), kit_tupT, _, rfl, iteF ?_⟩
    refine ⟨.ref a, rfl, a, us, rfl, .inr (SqT.of ha), .int n, rfl, _, _, rfl, rfl, _, rfl, ite2 (fun z => absurd (of_decide_eq_true z) (by omega)) (fun _ => ?_)⟩
    refine ⟨.ref a, rfl, a, us, rfl, SqT.of ha, ?_⟩
    refine for_enumT (K := K) (a := a) (xs := us) (D := ⟨_, _, fun _ _ => True, fun _ _ => True⟩) (fun j σ H' => Same H H' ∧ ∃ y1 y2, σ = [some (.ref a), some (.int n), y1, y2])
      ⟨Same.refl _, _, _, rfl⟩ (fun j σ H' h => SqT.of (h.1 _ _ ha)) ?_ ?_
    · rintro k z TT σ H3 hz ⟨s3, y1, y2, rfl⟩ nT
      obtain ⟨b, x, y, rfl, ep, hb⟩ := iv.get hz
      have sT := same_new (o := .tup [.int (k : Nat), .ref b]) nT
      have eT := upd_same (H := H3) (a := TT) (o := .tup [.int (k : Nat), .ref b])
      generalize upd H3 TT (.tup [.int (k : Nat), .ref b]) = H4 at *
      have s4 := s3.trans sT
      have hb4 := s4 _ _ hb
      have ok := sd.ok _ (List.mem_of_getElem? ep)
      refine ⟨TT, _, rfl, SqT.of eT, rfl, .int (k : Nat), [.ref b], rfl, .ref b, [], rfl, rfl, ?_⟩
      refine ⟨.ref b, rfl, b, x, y, rfl, hb4, ok, _, rfl, iteF ?_⟩
      refine ⟨.int (k : Nat), rfl, _, _, rfl, rfl, _, rfl, ite2 (fun k0 => ?_) (fun _ => ⟨s4, _, _, rfl⟩)⟩
      have k1 := of_decide_eq_true k0
      have zl := (List.getElem?_eq_some_iff.mp hz).1
      have up := List.getElem?_eq_getElem (l := us) (i := k - 1) (by omega)
      obtain ⟨c, u, v, ec, ec2, hc⟩ := iv.get up
      rw [ec] at up
      have lt : ltP (u, v) (x, y) := by
        obtain ⟨z1, w1⟩ := List.getElem?_eq_some_iff.mp ec2
        obtain ⟨z2, w2⟩ := List.getElem?_eq_some_iff.mp ep
        have z := List.pairwise_iff_getElem.mp sd.asc (k - 1) k z1 z2 (by omega)
        rw [w1, w2] at z
        exact z
      refine ⟨.ref b, rfl, .ref a, rfl, .int (k : Nat), rfl, _, _, rfl, rfl, a, us, _, .ref c, rfl, rfl, SqT.of (s4 _ _ ha), (by rw [show (k : Int) - 1 = ((k - 1 : Nat) : Int) by omega]; exact atI_nat up), b, c, [x, y], [u, v], rfl, rfl, SqT.of hb4, SqT.of (s4 _ _ hc), _, rfl, ite2 (fun e => ?_) (fun _ => ⟨s4, _, _, rfl⟩)⟩
      exfalso
      have e : (if decide (x = u) = true then (if decide (y = v) = true then true else decide (y ≤ v)) else decide (x ≤ u)) = true := e
      unfold ltP at lt
      by_cases c1 : x = u
      · rw [if_pos (decide_eq_true c1)] at e
        by_cases c2 : y = v
        · omega
        · rw [if_neg (by rw [decide_eq_false c2]; decide)] at e
          have := of_decide_eq_true e
          omega
      · rw [if_neg (by rw [decide_eq_false c1]; decide)] at e
        have := of_decide_eq_true e
        omega
    · rintro σ H3 ⟨s3, y1, y2, rfl⟩
      exact q H3 s3
def sp_terr : Sp := fun vs H Q _ => ∃ (a : Addr) (us : List V) (ps : List (Int × Int)), vs = [.ref a] ∧ H a = some (.tup us) ∧ Ivs H us ps ∧ SideOk 24 ps ∧ ∀ H', Same H H' → Q .non H'
theorem ok_targets_error (T : Tx K mg f_is_number f_is_position f_is_tuple_of f_is_interval f_ascending_error f_targets_error f_is_pieces f_interval_text f_joined_texts f_intervals_text f_demand_text f_parse_number f_parse_interval f_edit_version f_edit_answer f_state_answer f_count_answer f_answer_line f_without_item f_with_interval f_without_interval f_edited_state f_helpful_piece f_law_deck f_law_draw f_law_same f_law_small f_law_odd f_law_text f_law_lines f_law f_Shell_init f_Shell_execute f_Plan_init f_Plan_add_target f_Plan_add_piece f_Plan_remove_target f_Plan_remove_piece f_Plan_undo f_Plan_targets f_Plan_pieces f_Plan_needed f_Plan_solution f_Plan_missing f_Plan_changes f_Plan_edit f_Plan_record f_Plan_require_idle f_Plan_state_at f_Plan_len f_Plan_eq C_Shell C_Plan X_NothingToUndo X_Busy X_TooManyEdits X_Duplicate X_TooMany X_Unknown X_TooWide d_is_number d_is_position d_is_tuple_of d_is_interval d_ascending_error d_targets_error d_is_pieces d_interval_text d_joined_texts d_intervals_text d_demand_text d_parse_number d_parse_interval d_edit_version d_edit_answer d_state_answer d_count_answer d_answer_line d_without_item d_with_interval d_without_interval d_edited_state d_helpful_piece d_law_deck d_law_draw d_law_same d_law_small d_law_odd d_law_text d_law_lines d_law d_Shell_init d_Shell_execute d_Plan_init d_Plan_add_target d_Plan_add_piece d_Plan_remove_target d_Plan_remove_piece d_Plan_undo d_Plan_targets d_Plan_pieces d_Plan_needed d_Plan_solution d_Plan_missing d_Plan_changes d_Plan_edit d_Plan_record d_Plan_require_idle d_Plan_state_at d_Plan_len d_Plan_eq t_LAST_POSITION t_MAX_TARGETS t_MAX_PIECES t_MAX_BLOCKS t_MAX_EDITS t_BATCH) : FnOk P w K mg base CX0 5 f_targets_error d_targets_error ["value"] sp_terr := by
  refine T.F_targets_error.ok sc_targets_error (fun vs H Q E h => ?_) (fun cdv A outer s H vs Q E hr h => ?_)
  · obtain ⟨a, us, ps, rfl, _⟩ := h
    rfl
  · obtain ⟨a, us, ps, rfl, ha, iv, sd, q⟩ := h
    refine ⟨_, (pss_one (ps_ret (pe_call (ok_ascending_error T) (hr.mono (by decide)) (by rfl) T.g_ascending_error T.F_ascending_error.kp T.b_ascending_error .nil pass0 (pa_cons (pv 0) (pa_cons (pe_glob (v := .int 24) (by rfl) T.c_MAX_TARGETS ⟨_, rfl⟩) pa_nil))))), ?_⟩
    exact ⟨.ref a, rfl, a, us, ps, 24, rfl, ha, iv, sd, by decide, q⟩
def sp_isp : Sp := fun vs H Q _ => ∃ (a : Addr) (us : List V) (ps : List (Int × Int)), vs = [.ref a] ∧ H a = some (.tup us) ∧ Ivs H us ps ∧ SideOk 30 ps ∧ ∀ H', Same H H' → Q (.bl true) H'
theorem ok_is_pieces (T : Tx K mg f_is_number f_is_position f_is_tuple_of f_is_interval f_ascending_error f_targets_error f_is_pieces f_interval_text f_joined_texts f_intervals_text f_demand_text f_parse_number f_parse_interval f_edit_version f_edit_answer f_state_answer f_count_answer f_answer_line f_without_item f_with_interval f_without_interval f_edited_state f_helpful_piece f_law_deck f_law_draw f_law_same f_law_small f_law_odd f_law_text f_law_lines f_law f_Shell_init f_Shell_execute f_Plan_init f_Plan_add_target f_Plan_add_piece f_Plan_remove_target f_Plan_remove_piece f_Plan_undo f_Plan_targets f_Plan_pieces f_Plan_needed f_Plan_solution f_Plan_missing f_Plan_changes f_Plan_edit f_Plan_record f_Plan_require_idle f_Plan_state_at f_Plan_len f_Plan_eq C_Shell C_Plan X_NothingToUndo X_Busy X_TooManyEdits X_Duplicate X_TooMany X_Unknown X_TooWide d_is_number d_is_position d_is_tuple_of d_is_interval d_ascending_error d_targets_error d_is_pieces d_interval_text d_joined_texts d_intervals_text d_demand_text d_parse_number d_parse_interval d_edit_version d_edit_answer d_state_answer d_count_answer d_answer_line d_without_item d_with_interval d_without_interval d_edited_state d_helpful_piece d_law_deck d_law_draw d_law_same d_law_small d_law_odd d_law_text d_law_lines d_law d_Shell_init d_Shell_execute d_Plan_init d_Plan_add_target d_Plan_add_piece d_Plan_remove_target d_Plan_remove_piece d_Plan_undo d_Plan_targets d_Plan_pieces d_Plan_needed d_Plan_solution d_Plan_missing d_Plan_changes d_Plan_edit d_Plan_record d_Plan_require_idle d_Plan_state_at d_Plan_len d_Plan_eq t_LAST_POSITION t_MAX_TARGETS t_MAX_PIECES t_MAX_BLOCKS t_MAX_EDITS t_BATCH) : FnOk P w K mg base CX0 5 f_is_pieces d_is_pieces ["value"] sp_isp := by
  refine T.F_is_pieces.ok sc_is_pieces (fun vs H Q E h => ?_) (fun cdv A outer s H vs Q E hr h => ?_)
  · obtain ⟨a, us, ps, rfl, _⟩ := h
    rfl
  · obtain ⟨a, us, ps, rfl, ha, iv, sd, q⟩ := h
    refine ⟨_, (pss_one (ps_ret (pe_cmpR op_isN (pe_call (ok_ascending_error T) (hr.mono (by decide)) (by rfl) T.g_ascending_error T.F_ascending_error.kp T.b_ascending_error .nil pass0 (pa_cons (pv 0) (pa_cons (pe_glob (v := .int 30) (by rfl) T.c_MAX_PIECES ⟨_, rfl⟩) pa_nil))) pe_non (nomark _)))), ?_⟩
    exact ⟨.ref a, rfl, a, us, ps, 30, rfl, ha, iv, sd, by decide, fun H' s => ⟨rfl, q H' s⟩⟩
/-! ### edits -/
theorem perm_leP_lt {ps ps' : List (Int × Int)} (h : ps'.Pairwise leP) (pm : ps'.Perm ps) (nd : ps.Nodup) : ps'.Pairwise ltP := leP_nd h (pm.nodup_iff.mpr nd)
def sp_with : Sp := fun vs H Q _ => ∃ (a t : Addr) (us : List V) (ps : List (Int × Int)) (x y : Int) (n : Nat), vs = [.ref a, .ref t, .int n] ∧ H a = some (.tup us) ∧ Ivs H us ps ∧ SideOk n ps ∧ n ≤ 30 ∧ H t = some (.tup [.int x, .int y]) ∧ ((0 ≤ x ∧ x ≤ y) ∧ y ≤ 1000000000000) ∧ (x, y) ∉ ps ∧ ps.length < n ∧
  ∀ H' p ws, Same H H' → H' p = some (.tup ws) → Ivs H' ws (insI (x, y) ps) → Q (.ref p) H'
theorem ok_with_interval (T : Tx K mg f_is_number f_is_position f_is_tuple_of f_is_interval f_ascending_error f_targets_error f_is_pieces f_interval_text f_joined_texts f_intervals_text f_demand_text f_parse_number f_parse_interval f_edit_version f_edit_answer f_state_answer f_count_answer f_answer_line f_without_item f_with_interval f_without_interval f_edited_state f_helpful_piece f_law_deck f_law_draw f_law_same f_law_small f_law_odd f_law_text f_law_lines f_law f_Shell_init f_Shell_execute f_Plan_init f_Plan_add_target f_Plan_add_piece f_Plan_remove_target f_Plan_remove_piece f_Plan_undo f_Plan_targets f_Plan_pieces f_Plan_needed f_Plan_solution f_Plan_missing f_Plan_changes f_Plan_edit f_Plan_record f_Plan_require_idle f_Plan_state_at f_Plan_len f_Plan_eq C_Shell C_Plan X_NothingToUndo X_Busy X_TooManyEdits X_Duplicate X_TooMany X_Unknown X_TooWide d_is_number d_is_position d_is_tuple_of d_is_interval d_ascending_error d_targets_error d_is_pieces d_interval_text d_joined_texts d_intervals_text d_demand_text d_parse_number d_parse_interval d_edit_version d_edit_answer d_state_answer d_count_answer d_answer_line d_without_item d_with_interval d_without_interval d_edited_state d_helpful_piece d_law_deck d_law_draw d_law_same d_law_small d_law_odd d_law_text d_law_lines d_law d_Shell_init d_Shell_execute d_Plan_init d_Plan_add_target d_Plan_add_piece d_Plan_remove_target d_Plan_remove_piece d_Plan_undo d_Plan_targets d_Plan_pieces d_Plan_needed d_Plan_solution d_Plan_missing d_Plan_changes d_Plan_edit d_Plan_record d_Plan_require_idle d_Plan_state_at d_Plan_len d_Plan_eq t_LAST_POSITION t_MAX_TARGETS t_MAX_PIECES t_MAX_BLOCKS t_MAX_EDITS t_BATCH) : FnOk P w K mg base CX0 4 f_with_interval d_with_interval ["intervals", "value", "bound"] sp_with := by
  refine T.F_with_interval.ok sc_with_interval (fun vs H Q E h => ?_) (fun cdv A outer s H vs Q E hr h => ?_)
  · obtain ⟨a, t, us, ps, x, y, n, rfl, _⟩ := h
    rfl
  · obtain ⟨a, t, us, ps, x, y, n, rfl, ha, iv, sd, ln, ht, ok, nin, lt, q⟩ := h
    refine ⟨_, (pss_cons (ps_if (pt_not (pt_val (pe_call (ok_is_interval T) (hr.mono (by decide)) (by rfl) T.g_is_interval T.F_is_interval.kp T.b_is_interval .nil pass0 (pa_cons (pv 1) pa_nil))))
      (pss_one ps_never)
      pss_nil)
      (pss_cons (ps_if (pt_cmpR (op_inT (units65 hr)) (pv 1) (pv 0) (by rfl))
      (pss_one ps_never)
      pss_nil)
      (pss_cons (ps_if (pt_cmpR op_ge (pe_callB call_len_seq (by rfl) T.z_len PySem.boot_len (pa_cons (pv 0) pa_nil)) (pv 2) (nomark _))
      (pss_one ps_never)
      pss_nil)
      (pss_one (ps_ret (pe_callTy call_tuple_of (by rfl) T.z_tuple (by decide +kernel) (pa_cons (pe_callB cr_sortTP (by rfl) T.z_sorted (by decide +kernel) (pa_cons (pe_op op_catA (pv 0) (pe_tup (pa_cons (pv 1) pa_nil))) pa_nil)) pa_nil))))))), ?_⟩
    have lu := iv.length
    refine ⟨.ref t, rfl, t, x, y, rfl, ht, ok, _, rfl, iteF ?_⟩
    refine ⟨.ref t, rfl, .ref a, rfl, _, ps.map pairD, dp2 ht, .tup (SqT.of ha) iv.dp, rfl, shaped_pairs _, _, rfl, ?_⟩
    rw [any_pair, decide_eq_false nin]
    refine iteF ?_
    refine ⟨.ref a, rfl, a, us, rfl, .inr (SqT.of ha), .int n, rfl, _, _, rfl, rfl, _, rfl, ite2 (fun z => absurd (of_decide_eq_true z) (by omega)) (fun _ => ?_)⟩
    refine ⟨.ref a, rfl, .ref t, rfl, by show 1 ≤ sizeLine; decide, fun e ne => ?_⟩
    have s1 := same_new (o := .tup [.ref t]) ne
    have ee := upd_same (H := H) (a := e) (o := .tup [.ref t])
    generalize upd H e (.tup [.ref t]) = H1 at *
    refine catA_any (s1 _ _ ha) ee (by rw [show sizeLine = 16777216 by decide]; show us.length + 1 ≤ _; omega) (fun H2 c s2 ec => ?_)
    have s12 := s1.trans s2
    refine ⟨c, _, _, rfl, SqT.of ec, (iv.same s12).append (.cons (s12 _ _ ht) .nil), fun H3 l us' ps' s3 nl el ivl srt pm => ?_⟩
    refine ⟨l, us', rfl, .inl ⟨SqL.of el, fun p np => ?_⟩⟩
    have s4 := same_new (o := .tup us') np
    have nd : (ps ++ [(x, y)]).Nodup := List.nodup_append.mpr ⟨ltP_ndp sd.asc, List.nodup_cons.mpr ⟨(fun h => nomatch h), List.nodup_nil⟩, fun z hz w hw e => nin (by
      rw [List.mem_singleton.mp hw] at e
      exact e ▸ hz)⟩
    have eq : ps' = insI (x, y) ps := ltP_uniq (perm_leP_lt srt pm nd) (asc_insI sd.asc nin) fun z => by
      rw [pm.mem_iff, mem_insI, List.mem_append, List.mem_singleton]
      exact or_comm
    refine q _ p us' ((s12.trans s3).trans s4) upd_same ?_
    rw [← eq]
    exact ivl.same s4
def sp_without : Sp := fun vs H Q _ => ∃ (a t : Addr) (us : List V) (ps : List (Int × Int)) (x y : Int), vs = [.ref a, .ref t] ∧ H a = some (.tup us) ∧ Ivs H us ps ∧ ps.length < 1000 ∧ H t = some (.tup [.int x, .int y]) ∧ ((0 ≤ x ∧ x ≤ y) ∧ y ≤ 1000000000000) ∧ (x, y) ∈ ps ∧
  ∀ H' p ws, Same H H' → H' p = some (.tup ws) → Ivs H' ws (wo ps (x, y)) → Q (.ref p) H'
theorem ok_without_interval (T : Tx K mg f_is_number f_is_position f_is_tuple_of f_is_interval f_ascending_error f_targets_error f_is_pieces f_interval_text f_joined_texts f_intervals_text f_demand_text f_parse_number f_parse_interval f_edit_version f_edit_answer f_state_answer f_count_answer f_answer_line f_without_item f_with_interval f_without_interval f_edited_state f_helpful_piece f_law_deck f_law_draw f_law_same f_law_small f_law_odd f_law_text f_law_lines f_law f_Shell_init f_Shell_execute f_Plan_init f_Plan_add_target f_Plan_add_piece f_Plan_remove_target f_Plan_remove_piece f_Plan_undo f_Plan_targets f_Plan_pieces f_Plan_needed f_Plan_solution f_Plan_missing f_Plan_changes f_Plan_edit f_Plan_record f_Plan_require_idle f_Plan_state_at f_Plan_len f_Plan_eq C_Shell C_Plan X_NothingToUndo X_Busy X_TooManyEdits X_Duplicate X_TooMany X_Unknown X_TooWide d_is_number d_is_position d_is_tuple_of d_is_interval d_ascending_error d_targets_error d_is_pieces d_interval_text d_joined_texts d_intervals_text d_demand_text d_parse_number d_parse_interval d_edit_version d_edit_answer d_state_answer d_count_answer d_answer_line d_without_item d_with_interval d_without_interval d_edited_state d_helpful_piece d_law_deck d_law_draw d_law_same d_law_small d_law_odd d_law_text d_law_lines d_law d_Shell_init d_Shell_execute d_Plan_init d_Plan_add_target d_Plan_add_piece d_Plan_remove_target d_Plan_remove_piece d_Plan_undo d_Plan_targets d_Plan_pieces d_Plan_needed d_Plan_solution d_Plan_missing d_Plan_changes d_Plan_edit d_Plan_record d_Plan_require_idle d_Plan_state_at d_Plan_len d_Plan_eq t_LAST_POSITION t_MAX_TARGETS t_MAX_PIECES t_MAX_BLOCKS t_MAX_EDITS t_BATCH) : FnOk P w K mg base CX0 4 f_without_interval d_without_interval ["intervals", "value"] sp_without := by
  refine T.F_without_interval.ok sc_without_interval (fun vs H Q E h => ?_) (fun cdv A outer s H vs Q E hr h => ?_)
  · obtain ⟨a, t, us, ps, x, y, rfl, _⟩ := h
    rfl
  · obtain ⟨a, t, us, ps, x, y, rfl, ha, iv, few, ht, ok, hin, q⟩ := h
    refine ⟨_, (pss_cons (ps_if (PW.pt (pw_or (pt_not (pt_val (pe_call (ok_is_interval T) (hr.mono (by decide)) (by rfl) T.g_is_interval T.F_is_interval.kp T.b_is_interval .nil pass0 (pa_cons (pv 1) pa_nil)))) (pw_or1 (pt_cmpR (op_notInT (units65 hr)) (pv 1) (pv 0) (by rfl)))))
      (pss_one ps_never)
      pss_nil)
      (pss_one (ps_ret (pe_call (ok_without_item T) (hr.mono (by decide)) (by rfl) T.g_without_item T.F_without_item.kp T.b_without_item .nil pass0 (pa_cons (pv 0) (pa_cons (pv 1) pa_nil)))))), ?_⟩
    refine ⟨.ref t, rfl, t, x, y, rfl, ht, ok, _, rfl, iteF ?_⟩
    refine ⟨.ref t, rfl, .ref a, rfl, _, ps.map pairD, dp2 ht, .tup (SqT.of ha) iv.dp, rfl, shaped_pairs _, _, rfl, ?_⟩
    rw [any_pair, decide_eq_true hin]
    refine iteF ?_
    exact ⟨.ref a, rfl, .ref t, rfl, a, t, us, ps, x, y, rfl, ha, iv, few, ht, q⟩
theorem wneq {a b : Str} (h : a ≠ b) : ¬ (decide (V.str a = V.str b) = true) := fun e => h (V.str.inj (of_decide_eq_true e))
def sp_edited : Sp := fun vs H Q _ => ∃ (s t x y : Addr) (xs ys : List V) (S : St2) (e : Ed), vs = [.ref s, .str (wordE e), .ref t] ∧ H s = some (.tup [.ref x, .ref y]) ∧ H x = some (.tup xs) ∧ Ivs H xs S.1 ∧ H y = some (.tup ys) ∧ Ivs H ys S.2 ∧ StOk S ∧ H t = some (.tup [.int e.q.1, .int e.q.2]) ∧ Can S e ∧
  ∀ H' r x' y' xs' ys', Same H H' → H' r = some (.tup [.ref x', .ref y']) → H' x' = some (.tup xs') → Ivs H' xs' (stepS S e).1 → H' y' = some (.tup ys') → Ivs H' ys' (stepS S e).2 → Q (.ref r) H'
theorem ok_edited_state (T : Tx K mg f_is_number f_is_position f_is_tuple_of f_is_interval f_ascending_error f_targets_error f_is_pieces f_interval_text f_joined_texts f_intervals_text f_demand_text f_parse_number f_parse_interval f_edit_version f_edit_answer f_state_answer f_count_answer f_answer_line f_without_item f_with_interval f_without_interval f_edited_state f_helpful_piece f_law_deck f_law_draw f_law_same f_law_small f_law_odd f_law_text f_law_lines f_law f_Shell_init f_Shell_execute f_Plan_init f_Plan_add_target f_Plan_add_piece f_Plan_remove_target f_Plan_remove_piece f_Plan_undo f_Plan_targets f_Plan_pieces f_Plan_needed f_Plan_solution f_Plan_missing f_Plan_changes f_Plan_edit f_Plan_record f_Plan_require_idle f_Plan_state_at f_Plan_len f_Plan_eq C_Shell C_Plan X_NothingToUndo X_Busy X_TooManyEdits X_Duplicate X_TooMany X_Unknown X_TooWide d_is_number d_is_position d_is_tuple_of d_is_interval d_ascending_error d_targets_error d_is_pieces d_interval_text d_joined_texts d_intervals_text d_demand_text d_parse_number d_parse_interval d_edit_version d_edit_answer d_state_answer d_count_answer d_answer_line d_without_item d_with_interval d_without_interval d_edited_state d_helpful_piece d_law_deck d_law_draw d_law_same d_law_small d_law_odd d_law_text d_law_lines d_law d_Shell_init d_Shell_execute d_Plan_init d_Plan_add_target d_Plan_add_piece d_Plan_remove_target d_Plan_remove_piece d_Plan_undo d_Plan_targets d_Plan_pieces d_Plan_needed d_Plan_solution d_Plan_missing d_Plan_changes d_Plan_edit d_Plan_record d_Plan_require_idle d_Plan_state_at d_Plan_len d_Plan_eq t_LAST_POSITION t_MAX_TARGETS t_MAX_PIECES t_MAX_BLOCKS t_MAX_EDITS t_BATCH) : FnOk P w K mg base CX0 5 f_edited_state d_edited_state ["state", "word", "value"] sp_edited := by
  refine T.F_edited_state.ok sc_edited_state (fun vs H Q E h => ?_) (fun cdv A outer s H vs Q E hr h => ?_)
  · obtain ⟨s, t, x, y, xs, ys, S, e, rfl, _⟩ := h
    rfl
  · obtain ⟨s, t, x, y, xs, ys, S, e, rfl, hs, hx, ix, hy, iy, so, ht, can, q⟩ := h
    refine ⟨_, (pss_cons (ps_asg (pv 0) (pg_tup rfl (pgs_cons (pg_name (i := 3) sc_edited_state.nd rfl (Or.inl rfl)) (pgs_cons (pg_name (i := 4) sc_edited_state.nd rfl (Or.inl rfl)) pgs_nil))))
      (pss_cons (ps_if (pt_cmpR op_eq (pv 1) pe_str (nomark _))
      (pss_one (ps_ret (pe_tup (pa_cons (pe_call (ok_with_interval T) (hr.mono (by decide)) (by rfl) T.g_with_interval T.F_with_interval.kp T.b_with_interval .nil pass0 (pa_cons (pv 3) (pa_cons (pv 2) (pa_cons (pe_glob (v := .int 24) (by rfl) T.c_MAX_TARGETS ⟨_, rfl⟩) pa_nil)))) (pa_cons (pv 4) pa_nil)))))
      pss_nil)
      (pss_cons (ps_if (pt_cmpR op_eq (pv 1) pe_str (nomark _))
      (pss_one (ps_ret (pe_tup (pa_cons (pv 3) (pa_cons (pe_call (ok_with_interval T) (hr.mono (by decide)) (by rfl) T.g_with_interval T.F_with_interval.kp T.b_with_interval .nil pass0 (pa_cons (pv 4) (pa_cons (pv 2) (pa_cons (pe_glob (v := .int 30) (by rfl) T.c_MAX_PIECES ⟨_, rfl⟩) pa_nil)))) pa_nil)))))
      pss_nil)
      (pss_cons (ps_if (pt_cmpR op_eq (pv 1) pe_str (nomark _))
      (pss_one (ps_ret (pe_tup (pa_cons (pe_call (ok_without_interval T) (hr.mono (by decide)) (by rfl) T.g_without_interval T.F_without_interval.kp T.b_without_interval .nil pass0 (pa_cons (pv 3) (pa_cons (pv 2) pa_nil))) (pa_cons (pv 4) pa_nil)))))
      pss_nil)
      (pss_one (ps_ret (pe_tup (pa_cons (pv 3) (pa_cons (pe_call (ok_without_interval T) (hr.mono (by decide)) (by rfl) T.g_without_interval T.F_without_interval.kp T.b_without_interval .nil pass0 (pa_cons (pv 4) (pa_cons (pv 2) pa_nil))) pa_nil))))))))), ?_⟩
    refine ⟨.ref s, rfl, s, _, rfl, SqT.of hs, rfl, .ref x, [.ref y], rfl, .ref y, [], rfl, rfl, ?_⟩
    obtain ⟨add, pc, qq⟩ := e
    have ft := so.t.few
    have fp := so.p.few
    have w1 : ¬ (("add_piece" : Str) = "add_target") := by decide +kernel
    have w2 : ¬ (("remove_target" : Str) = "add_target") := by decide +kernel
    have w3 : ¬ (("remove_piece" : Str) = "add_target") := by decide +kernel
    have w4 : ¬ (("remove_target" : Str) = "add_piece") := by decide +kernel
    have w5 : ¬ (("remove_piece" : Str) = "add_piece") := by decide +kernel
    have w6 : ¬ (("remove_piece" : Str) = "remove_target") := by decide +kernel
    cases add with
    | true =>
      have no := can.no rfl
      cases pc with
      | false =>
        refine ⟨_, rfl, rfl, _, rfl, ite2 (fun _ => ?_) (fun z => absurd (decide_eq_true rfl) z)⟩
        refine ⟨.ref x, rfl, .ref t, rfl, x, t, xs, S.1, qq.1, qq.2, 24, rfl, hx, ix, so.t, by decide, ht, can.ok, no.1, no.2, fun H1 p ws s1 ep iv => ?_⟩
        refine ⟨.ref y, rfl, by show 2 ≤ sizeLine; decide, fun r nr => ?_⟩
        have s2 := same_new (o := .tup [.ref p, .ref y]) nr
        have s12 := s1.trans s2
        exact q _ r p y ws ys s12 upd_same (s2 _ _ ep) (iv.same s2) (s12 _ _ hy) (iy.same s12)
      | true =>
        refine ⟨_, rfl, rfl, _, rfl, ite2 (fun z => absurd z (wneq w1)) (fun _ => ?_)⟩
        refine ⟨_, rfl, rfl, _, rfl, ite2 (fun _ => ?_) (fun z => absurd (decide_eq_true rfl) z)⟩
        refine ⟨.ref x, rfl, .ref y, rfl, .ref t, rfl, y, t, ys, S.2, qq.1, qq.2, 30, rfl, hy, iy, so.p, by decide, ht, can.ok, no.1, no.2, fun H1 p ws s1 ep iv => ?_⟩
        refine ⟨by show 2 ≤ sizeLine; decide, fun r nr => ?_⟩
        have s2 := same_new (o := .tup [.ref x, .ref p]) nr
        have s12 := s1.trans s2
        exact q _ r x p xs ws s12 upd_same (s12 _ _ hx) (ix.same s12) (s2 _ _ ep) (iv.same s2)
    | false =>
      have yes := can.yes rfl
      cases pc with
      | false =>
        refine ⟨_, rfl, rfl, _, rfl, ite2 (fun z => absurd z (wneq w2)) (fun _ => ?_)⟩
        refine ⟨_, rfl, rfl, _, rfl, ite2 (fun z => absurd z (wneq w4)) (fun _ => ?_)⟩
        refine ⟨_, rfl, rfl, _, rfl, ite2 (fun _ => ?_) (fun z => absurd (decide_eq_true rfl) z)⟩
        refine ⟨.ref x, rfl, .ref t, rfl, x, t, xs, S.1, qq.1, qq.2, rfl, hx, ix, by omega, ht, can.ok, yes, fun H1 p ws s1 ep iv => ?_⟩
        refine ⟨.ref y, rfl, by show 2 ≤ sizeLine; decide, fun r nr => ?_⟩
        have s2 := same_new (o := .tup [.ref p, .ref y]) nr
        have s12 := s1.trans s2
        exact q _ r p y ws ys s12 upd_same (s2 _ _ ep) (iv.same s2) (s12 _ _ hy) (iy.same s12)
      | true =>
        refine ⟨_, rfl, rfl, _, rfl, ite2 (fun z => absurd z (wneq w3)) (fun _ => ?_)⟩
        refine ⟨_, rfl, rfl, _, rfl, ite2 (fun z => absurd z (wneq w5)) (fun _ => ?_)⟩
        refine ⟨_, rfl, rfl, _, rfl, ite2 (fun z => absurd z (wneq w6)) (fun _ => ?_)⟩
        refine ⟨.ref x, rfl, .ref y, rfl, .ref t, rfl, y, t, ys, S.2, qq.1, qq.2, rfl, hy, iy, by omega, ht, can.ok, yes, fun H1 p ws s1 ep iv => ?_⟩
        refine ⟨by show 2 ≤ sizeLine; decide, fun r nr => ?_⟩
        have s2 := same_new (o := .tup [.ref x, .ref p]) nr
        have s12 := s1.trans s2
        exact q _ r x p xs ws s12 upd_same (s12 _ _ hx) (ix.same s12) (s2 _ _ ep) (iv.same s2)
/-! ### the methods -/
def sp_init (C : Addr) : Sp := fun vs H Q _ => ∃ (p dx x y : Addr) (xs ys : List V) (S : St2), vs = [.ref p, .ref x, .ref y] ∧ H p = some (.ins C dx []) ∧ H x = some (.tup xs) ∧ Ivs H xs S.1 ∧ H y = some (.tup ys) ∧ Ivs H ys S.2 ∧ StOk S ∧
  ∀ H', But p H H' → PlanAt C H' p [S] [] → Q .non H'
theorem ok_Plan_init (T : Tx K mg f_is_number f_is_position f_is_tuple_of f_is_interval f_ascending_error f_targets_error f_is_pieces f_interval_text f_joined_texts f_intervals_text f_demand_text f_parse_number f_parse_interval f_edit_version f_edit_answer f_state_answer f_count_answer f_answer_line f_without_item f_with_interval f_without_interval f_edited_state f_helpful_piece f_law_deck f_law_draw f_law_same f_law_small f_law_odd f_law_text f_law_lines f_law f_Shell_init f_Shell_execute f_Plan_init f_Plan_add_target f_Plan_add_piece f_Plan_remove_target f_Plan_remove_piece f_Plan_undo f_Plan_targets f_Plan_pieces f_Plan_needed f_Plan_solution f_Plan_missing f_Plan_changes f_Plan_edit f_Plan_record f_Plan_require_idle f_Plan_state_at f_Plan_len f_Plan_eq C_Shell C_Plan X_NothingToUndo X_Busy X_TooManyEdits X_Duplicate X_TooMany X_Unknown X_TooWide d_is_number d_is_position d_is_tuple_of d_is_interval d_ascending_error d_targets_error d_is_pieces d_interval_text d_joined_texts d_intervals_text d_demand_text d_parse_number d_parse_interval d_edit_version d_edit_answer d_state_answer d_count_answer d_answer_line d_without_item d_with_interval d_without_interval d_edited_state d_helpful_piece d_law_deck d_law_draw d_law_same d_law_small d_law_odd d_law_text d_law_lines d_law d_Shell_init d_Shell_execute d_Plan_init d_Plan_add_target d_Plan_add_piece d_Plan_remove_target d_Plan_remove_piece d_Plan_undo d_Plan_targets d_Plan_pieces d_Plan_needed d_Plan_solution d_Plan_missing d_Plan_changes d_Plan_edit d_Plan_record d_Plan_require_idle d_Plan_state_at d_Plan_len d_Plan_eq t_LAST_POSITION t_MAX_TARGETS t_MAX_PIECES t_MAX_BLOCKS t_MAX_EDITS t_BATCH) : FnOk P w K mg base CX0 6 f_Plan_init d_Plan_init ["self", "targets", "pieces"] (sp_init C_Plan) := by
  refine T.F_Plan_init.ok sc_Plan_init (fun vs H Q E h => ?_) (fun cdv A outer s H vs Q E hr h => ?_)
  · obtain ⟨p, dx, x, y, xs, ys, S, rfl, _⟩ := h
    rfl
  · obtain ⟨p, dx, x, y, xs, ys, S, rfl, hp, hx, ix, hy, iy, so, q⟩ := h
    refine ⟨_, (pss_cons (ps_set (i := 3) sc_Plan_init.nd rfl (Or.inl rfl) (pe_call (ok_targets_error T) (hr.mono (by decide)) (by rfl) T.g_targets_error T.F_targets_error.kp T.b_targets_error .nil pass0 (pa_cons (pv 1) pa_nil)))
      (pss_cons (ps_if (pt_cmpR op_notN (pv 3) pe_non (nomark _))
      (pss_one ps_never)
      pss_nil)
      (pss_cons (ps_if (pt_not (pt_val (pe_call (ok_is_pieces T) (hr.mono (by decide)) (by rfl) T.g_is_pieces T.F_is_pieces.kp T.b_is_pieces .nil pass0 (pa_cons (pv 2) pa_nil))))
      (pss_one ps_never)
      pss_nil)
      (pss_cons (ps_fld (pv 0) (pe_tup (pa_cons (pe_tup (pa_cons (pv 1) (pa_cons (pv 2) pa_nil))) pa_nil)) rfl)
      (pss_cons (ps_fld (pv 0) (pe_tup pa_nil) rfl)
      (pss_one (ps_fld (pv 0) pe_bl rfl))))))), ?_⟩
    refine ⟨.ref x, rfl, x, xs, S.1, rfl, hx, ix, so.t, fun H1 s1 => ?_⟩
    refine ⟨_, rfl, rfl, _, rfl, iteNS rfl ?_⟩
    refine ⟨.ref y, rfl, y, ys, S.2, rfl, s1 _ _ hy, iy.same s1, so.p, fun H2 s2 => ⟨_, rfl, iteF ?_⟩⟩
    have s12 := s1.trans s2
    refine ⟨.ref x, rfl, .ref y, rfl, by show 2 ≤ sizeLine; decide, fun t nt => ?_⟩
    have s3 := same_new (o := .tup [.ref x, .ref y]) nt
    have et := upd_same (H := H2) (a := t) (o := .tup [.ref x, .ref y])
    generalize upd H2 t (.tup [.ref x, .ref y]) = H3 at *
    refine ⟨by show 1 ≤ sizeLine; decide, fun a na => ?_⟩
    have s4 := same_new (o := .tup [.ref t]) na
    have ea := upd_same (H := H3) (a := a) (o := .tup [.ref t])
    generalize upd H3 a (.tup [.ref t]) = H4 at *
    have s24 := s3.trans s4
    have s14 := s12.trans s24
    have hp4 := s14 _ _ hp
    refine ⟨.ref p, rfl, p, C_Plan, dx, [], rfl, hp4, T.cl_Plan, T.n_Plan_states, by show 0 < 1000; decide, ?_⟩
    refine ⟨by show 0 ≤ sizeLine; decide, fun b nb => ?_⟩
    have nbp : b ≠ p := fun e => by
      rw [e, upd_same] at nb
      cases nb
    refine ⟨.ref p, rfl, p, C_Plan, dx, _, rfl, by rw [upd_ne nbp.symm, upd_same], T.cl_Plan, T.n_Plan_done, by show 1 < 1000; decide, ?_⟩
    refine ⟨.ref p, rfl, p, C_Plan, dx, _, rfl, upd_same, T.cl_Plan, T.n_Plan_busy, by rw [show putF "done" (V.ref b) (putF "states" (V.ref a) []) = [(("states" : Str), V.ref a), ("done", V.ref b)] from if_neg kSD]; show 2 < 1000; decide, ?_⟩
    rw [flP_new]
    have nb4 : H4 b = none := by
      rw [upd_ne nbp] at nb
      exact nb
    have fin : ∀ {c : Addr} {o : HO}, c ≠ p → H4 c = some o → upd (upd (upd (upd H4 p (.ins C_Plan dx (putF "states" (.ref a) []))) b (.tup [])) p (.ins C_Plan dx (putF "done" (.ref b) (putF "states" (.ref a) [])))) p (.ins C_Plan dx (flP a b false)) c = some o := fun {c o} n e => by
      rw [upd_ne n, upd_ne n, upd_ne (ne_of_none e nb4), upd_ne n]
      exact e
    have tp : Tps H4 (upd (upd (upd (upd H4 p (.ins C_Plan dx (putF "states" (.ref a) []))) b (.tup [])) p (.ins C_Plan dx (putF "done" (.ref b) (putF "states" (.ref a) [])))) p (.ins C_Plan dx (flP a b false))) := fun c us e => fin (ne_of e hp4 (fun z => by cases z)) e
    refine q _ (fun c o n e => fin n (s14 _ _ e)) ⟨⟨dx, a, b, _, _, upd_same, tp _ _ ea, ?_, by rw [upd_ne nbp, upd_ne nbp, upd_same], .nil⟩, rfl⟩
    exact .cons (tp _ _ (s4 _ _ et)) (tp _ _ (s14 _ _ hx)) ((ix.same s14).tps tp) (tp _ _ (s14 _ _ hy)) ((iy.same s14).tps tp) .nil
def sp_idle (C : Addr) : Sp := fun vs H Q _ => ∃ (p dx a b : Addr), vs = [.ref p] ∧ H p = some (.ins C dx (flP a b false)) ∧ Q .non H
theorem ok_Plan_require_idle (T : Tx K mg f_is_number f_is_position f_is_tuple_of f_is_interval f_ascending_error f_targets_error f_is_pieces f_interval_text f_joined_texts f_intervals_text f_demand_text f_parse_number f_parse_interval f_edit_version f_edit_answer f_state_answer f_count_answer f_answer_line f_without_item f_with_interval f_without_interval f_edited_state f_helpful_piece f_law_deck f_law_draw f_law_same f_law_small f_law_odd f_law_text f_law_lines f_law f_Shell_init f_Shell_execute f_Plan_init f_Plan_add_target f_Plan_add_piece f_Plan_remove_target f_Plan_remove_piece f_Plan_undo f_Plan_targets f_Plan_pieces f_Plan_needed f_Plan_solution f_Plan_missing f_Plan_changes f_Plan_edit f_Plan_record f_Plan_require_idle f_Plan_state_at f_Plan_len f_Plan_eq C_Shell C_Plan X_NothingToUndo X_Busy X_TooManyEdits X_Duplicate X_TooMany X_Unknown X_TooWide d_is_number d_is_position d_is_tuple_of d_is_interval d_ascending_error d_targets_error d_is_pieces d_interval_text d_joined_texts d_intervals_text d_demand_text d_parse_number d_parse_interval d_edit_version d_edit_answer d_state_answer d_count_answer d_answer_line d_without_item d_with_interval d_without_interval d_edited_state d_helpful_piece d_law_deck d_law_draw d_law_same d_law_small d_law_odd d_law_text d_law_lines d_law d_Shell_init d_Shell_execute d_Plan_init d_Plan_add_target d_Plan_add_piece d_Plan_remove_target d_Plan_remove_piece d_Plan_undo d_Plan_targets d_Plan_pieces d_Plan_needed d_Plan_solution d_Plan_missing d_Plan_changes d_Plan_edit d_Plan_record d_Plan_require_idle d_Plan_state_at d_Plan_len d_Plan_eq t_LAST_POSITION t_MAX_TARGETS t_MAX_PIECES t_MAX_BLOCKS t_MAX_EDITS t_BATCH) : FnOk P w K mg base CX0 1 f_Plan_require_idle d_Plan_require_idle ["self"] (sp_idle C_Plan) := by
  refine T.F_Plan_require_idle.ok sc_Plan_require_idle (fun vs H Q E h => ?_) (fun cdv A outer s H vs Q E hr h => ?_)
  · obtain ⟨p, dx, a, b, rfl, _⟩ := h
    rfl
  · obtain ⟨p, dx, a, b, rfl, hp, q⟩ := h
    refine ⟨_, (pss_one (ps_if (pt_val (pe_fld (pv 0) rfl))
      (pss_one ps_never)
      pss_nil)), ?_⟩
    exact ⟨.ref p, rfl, p, C_Plan, dx, _, _, rfl, hp, T.cl_Plan, T.n_Plan_busy, lk_busy _ _ _, _, rfl, iteF q⟩
def sp_edit (C : Addr) (R : Nat → V) (ws : Ed → List V) : Sp := fun vs H Q _ => ∃ (p t : Addr) (Ls : List St2) (S : St2) (Es : List Ed) (e : Ed), vs = (.ref p :: ws e) ++ [.ref t] ∧ PlanAt C H p (Ls ++ [S]) Es ∧ Es.length < 60 ∧ StOk S ∧ H t = some (.tup [.int e.q.1, .int e.q.2]) ∧ Can S e ∧
  ∀ H', But p H H' → PlanAt C H' p (Ls ++ [S] ++ [stepS S e]) (Es ++ [e]) → Q (R (Es.length + 1)) H'
def wE (e : Ed) : List V := [.str (wordE e)]
def sp_record (C : Addr) : Sp := sp_edit C (fun _ => .non) wE
theorem ok_Plan_record (T : Tx K mg f_is_number f_is_position f_is_tuple_of f_is_interval f_ascending_error f_targets_error f_is_pieces f_interval_text f_joined_texts f_intervals_text f_demand_text f_parse_number f_parse_interval f_edit_version f_edit_answer f_state_answer f_count_answer f_answer_line f_without_item f_with_interval f_without_interval f_edited_state f_helpful_piece f_law_deck f_law_draw f_law_same f_law_small f_law_odd f_law_text f_law_lines f_law f_Shell_init f_Shell_execute f_Plan_init f_Plan_add_target f_Plan_add_piece f_Plan_remove_target f_Plan_remove_piece f_Plan_undo f_Plan_targets f_Plan_pieces f_Plan_needed f_Plan_solution f_Plan_missing f_Plan_changes f_Plan_edit f_Plan_record f_Plan_require_idle f_Plan_state_at f_Plan_len f_Plan_eq C_Shell C_Plan X_NothingToUndo X_Busy X_TooManyEdits X_Duplicate X_TooMany X_Unknown X_TooWide d_is_number d_is_position d_is_tuple_of d_is_interval d_ascending_error d_targets_error d_is_pieces d_interval_text d_joined_texts d_intervals_text d_demand_text d_parse_number d_parse_interval d_edit_version d_edit_answer d_state_answer d_count_answer d_answer_line d_without_item d_with_interval d_without_interval d_edited_state d_helpful_piece d_law_deck d_law_draw d_law_same d_law_small d_law_odd d_law_text d_law_lines d_law d_Shell_init d_Shell_execute d_Plan_init d_Plan_add_target d_Plan_add_piece d_Plan_remove_target d_Plan_remove_piece d_Plan_undo d_Plan_targets d_Plan_pieces d_Plan_needed d_Plan_solution d_Plan_missing d_Plan_changes d_Plan_edit d_Plan_record d_Plan_require_idle d_Plan_state_at d_Plan_len d_Plan_eq t_LAST_POSITION t_MAX_TARGETS t_MAX_PIECES t_MAX_BLOCKS t_MAX_EDITS t_BATCH) : FnOk P w K mg base CX0 6 f_Plan_record d_Plan_record ["self", "word", "value"] (sp_record C_Plan) := by
  refine T.F_Plan_record.ok sc_Plan_record (fun vs H Q E h => ?_) (fun cdv A outer s H vs Q E hr h => ?_)
  · obtain ⟨p, t, Ls, S, Es, e, rfl, _⟩ := h
    rfl
  · obtain ⟨p, t, Ls, S, Es, e, rfl, P, few, so, ht, can, q⟩ := h
    refine ⟨_, (pss_cons (ps_if (pt_cmpR op_ge (pe_callB call_len_seq (by rfl) T.z_len PySem.boot_len (pa_cons (pe_fld (pv 0) rfl) pa_nil)) (pe_glob (v := .int 60) (by rfl) T.c_MAX_EDITS ⟨_, rfl⟩) (nomark _))
      (pss_one ps_never)
      pss_nil)
      (pss_cons (ps_set (i := 3) sc_Plan_record.nd rfl (Or.inl rfl) (pe_call (ok_edited_state T) (hr.mono (by decide)) (by rfl) T.g_edited_state T.F_edited_state.kp T.b_edited_state .nil pass0 (pa_cons (pe_ix ix_tup (pe_fld (pv 0) rfl) (pe_un un_neg pe_int) (fun _ _ => rfl)) (pa_cons (pv 1) (pa_cons (pv 2) pa_nil)))))
      (pss_cons (ps_fldaug (pv 0) (pe_tup (pa_cons (pv 3) pa_nil)) in_catA)
      (pss_one (ps_fldaug (pv 0) (pe_tup (pa_cons (pe_tup (pa_cons (pv 1) (pa_cons (pv 2) pa_nil))) pa_nil)) in_catA))))), ?_⟩
    obtain ⟨⟨dx, a, b, us, vs, hp, ha, sts, hb, eds⟩, pl⟩ := id P
    have lv := eds.length
    have lu := sts.length
    refine ⟨.ref p, rfl, p, C_Plan, dx, _, _, rfl, hp, T.cl_Plan, T.n_Plan_done, lk_done _ _ _, b, vs, rfl, .inr (SqT.of hb), _, _, rfl, rfl, _, rfl, ite2 (fun z => absurd (of_decide_eq_true z) (by omega)) (fun _ => ?_)⟩
    rw [List.length_append] at lu pl
    obtain ⟨s, x, y, xs, ys, eu, hs, hx, ix, hy, iy⟩ := sts.get (i := Ls.length) (S := S) (by rw [List.getElem?_append_right (Nat.le_refl _), Nat.sub_self]; rfl)
    have lu : us.length = Ls.length + 1 := lu
    refine ⟨.ref p, rfl, p, C_Plan, dx, _, _, rfl, hp, T.cl_Plan, T.n_Plan_states, lk_states _ _ _, 1, rfl, a, us, -1, .ref s, rfl, rfl, SqT.of ha, atI_end (by rw [lu]; exact eu), _, rfl, .ref t, rfl, ?_⟩
    refine ⟨s, t, x, y, xs, ys, S, e, rfl, hs, hx, ix, hy, iy, so, ht, can, fun H1 r x' y' xs' ys' s1 er ex' ix' ey' iy' => ?_⟩
    refine ⟨.ref p, rfl, p, C_Plan, dx, _, _, rfl, s1 _ _ hp, T.cl_Plan, T.n_Plan_states, lk_states _ _ _, .ref r, rfl, by show 1 ≤ sizeLine; decide, fun u nu => ?_⟩
    have s2 := same_new (o := .tup [.ref r]) nu
    have eu2 := upd_same (H := H1) (a := u) (o := .tup [.ref r])
    generalize upd H1 u (.tup [.ref r]) = H2 at *
    have s12 := s1.trans s2
    refine catA_any (s12 _ _ ha) eu2 (by rw [show sizeLine = 16777216 by decide]; show us.length + 1 ≤ _; omega) (fun H3 a2 s3 ea2 => ?_)
    have s13 := s12.trans s3
    refine ⟨dx, _, s13 _ _ hp, by show 3 < 1000; decide, ?_⟩
    rw [flP_states]
    have np3 : ∀ {c : Addr} {xs : List V}, H3 c = some (.tup xs) → c ≠ p := fun {c xs} h => ne_of h (s13 _ _ hp) (fun z => by cases z)
    generalize eH4 : upd H3 p (.ins C_Plan dx (flP a2 b false)) = H4
    have t4 : Tps H3 H4 := fun c xs h => by
      rw [← eH4, upd_ne (np3 h)]
      exact h
    have b4 : But p H3 H4 := eH4 ▸ But.upd
    have hp4 : H4 p = some (.ins C_Plan dx (flP a2 b false)) := by rw [← eH4, upd_same]
    refine ⟨.ref p, rfl, p, C_Plan, dx, _, _, rfl, hp4, T.cl_Plan, T.n_Plan_done, lk_done _ _ _, _, rfl, .ref t, rfl, by show 2 ≤ sizeLine; decide, fun w nw => ?_⟩
    have s5 := same_new (o := .tup [.str (wordE e), .ref t]) nw
    have ew := upd_same (H := H4) (a := w) (o := .tup [.str (wordE e), .ref t])
    generalize upd H4 w (.tup [.str (wordE e), .ref t]) = H5 at *
    refine ⟨by show 1 ≤ sizeLine; decide, fun w2 nw2 => ?_⟩
    have s6 := same_new (o := .tup [.ref w]) nw2
    have ew2 := upd_same (H := H5) (a := w2) (o := .tup [.ref w])
    generalize upd H5 w2 (.tup [.ref w]) = H6 at *
    have s46 := s5.trans s6
    have hb6 := s46 _ _ (t4 _ _ (s13 _ _ hb))
    refine catA_any hb6 ew2 (by rw [show sizeLine = 16777216 by decide]; show vs.length + 1 ≤ _; omega) (fun H7 b2 s7 eb2 => ?_)
    have s47 := s46.trans s7
    refine ⟨dx, _, s47 _ _ hp4, by show 3 < 1000; decide, ?_⟩
    rw [flP_done]
    have t7 : Tps H7 (upd H7 p (.ins C_Plan dx (flP a2 b2 false))) := fun c xs h => by
      rw [upd_ne (ne_of h (s47 _ _ hp4) (fun z => by cases z))]
      exact h
    have t37 : Tps H3 H7 := t4.trans (Tps.same s47)
    have t17 : Tps H1 H7 := (Tps.same (s2.trans s3)).trans t37
    have t07 : Tps H H7 := (Tps.same s1).trans t17
    refine q _ ((But.same s13).trans (b4.trans ((But.same s47).trans But.upd))) ⟨⟨dx, a2, b2, _, _, upd_same, t7 _ _ (t37 _ _ ea2), (sts.tps (t07.trans t7)).snoc (t7 _ _ (t17 _ _ er)) (t7 _ _ (t17 _ _ ex')) (ix'.tps (t17.trans t7)) (t7 _ _ (t17 _ _ ey')) (iy'.tps (t17.trans t7)), t7 _ _ eb2, (eds.tps (t07.trans t7)).snoc (t7 _ _ (s7 _ _ (s6 _ _ ew))) (t7 _ _ (t07 _ _ ht))⟩, ?_⟩
    rw [List.length_append, List.length_append, List.length_append, show [stepS S e].length = 1 from rfl, show [S].length = 1 from rfl, show [e].length = 1 from rfl]
    have pl : Ls.length + 1 = Es.length + 1 := pl
    omega
def sp_Plan_edit (C : Addr) : Sp := sp_edit C (fun n => .int n) wE
theorem ok_Plan_edit (T : Tx K mg f_is_number f_is_position f_is_tuple_of f_is_interval f_ascending_error f_targets_error f_is_pieces f_interval_text f_joined_texts f_intervals_text f_demand_text f_parse_number f_parse_interval f_edit_version f_edit_answer f_state_answer f_count_answer f_answer_line f_without_item f_with_interval f_without_interval f_edited_state f_helpful_piece f_law_deck f_law_draw f_law_same f_law_small f_law_odd f_law_text f_law_lines f_law f_Shell_init f_Shell_execute f_Plan_init f_Plan_add_target f_Plan_add_piece f_Plan_remove_target f_Plan_remove_piece f_Plan_undo f_Plan_targets f_Plan_pieces f_Plan_needed f_Plan_solution f_Plan_missing f_Plan_changes f_Plan_edit f_Plan_record f_Plan_require_idle f_Plan_state_at f_Plan_len f_Plan_eq C_Shell C_Plan X_NothingToUndo X_Busy X_TooManyEdits X_Duplicate X_TooMany X_Unknown X_TooWide d_is_number d_is_position d_is_tuple_of d_is_interval d_ascending_error d_targets_error d_is_pieces d_interval_text d_joined_texts d_intervals_text d_demand_text d_parse_number d_parse_interval d_edit_version d_edit_answer d_state_answer d_count_answer d_answer_line d_without_item d_with_interval d_without_interval d_edited_state d_helpful_piece d_law_deck d_law_draw d_law_same d_law_small d_law_odd d_law_text d_law_lines d_law d_Shell_init d_Shell_execute d_Plan_init d_Plan_add_target d_Plan_add_piece d_Plan_remove_target d_Plan_remove_piece d_Plan_undo d_Plan_targets d_Plan_pieces d_Plan_needed d_Plan_solution d_Plan_missing d_Plan_changes d_Plan_edit d_Plan_record d_Plan_require_idle d_Plan_state_at d_Plan_len d_Plan_eq t_LAST_POSITION t_MAX_TARGETS t_MAX_PIECES t_MAX_BLOCKS t_MAX_EDITS t_BATCH) : FnOk P w K mg base CX0 7 f_Plan_edit d_Plan_edit ["self", "word", "value"] (sp_Plan_edit C_Plan) := by
  refine T.F_Plan_edit.ok sc_Plan_edit (fun vs H Q E h => ?_) (fun cdv A outer s H vs Q E hr h => ?_)
  · obtain ⟨p, t, Ls, S, Es, e, rfl, _⟩ := h
    rfl
  · obtain ⟨p, t, Ls, S, Es, e, rfl, P, few, so, ht, can, q⟩ := h
    refine ⟨_, (pss_cons (ps_expr (pe_meth0 (pv 0) T.cl_Plan T.m_Plan_require_idle (ok_Plan_require_idle T) (hr.mono (by decide)) T.b_Plan_require_idle .nil pass0))
      (pss_cons (ps_expr (pe_meth (pv 0) T.cl_Plan T.m_Plan_record (ok_Plan_record T) (hr.mono (by decide)) T.b_Plan_record .nil pass0 (pa_cons (pv 1) (pa_cons (pv 2) pa_nil))))
      (pss_one (ps_ret (pe_callB call_len_seq (by rfl) T.z_len PySem.boot_len (pa_cons (pe_fld (pv 0) rfl) pa_nil)))))), ?_⟩
    obtain ⟨dx, a, b, us, vs, hp, _⟩ := id P.ex
    refine ⟨.ref p, rfl, p, dx, _, rfl, hp, lk_no _ _ _ (by decide +kernel), p, dx, a, b, rfl, hp, ?_⟩
    refine ⟨.ref p, rfl, p, dx, _, rfl, hp, lk_no _ _ _ (by decide +kernel), _, rfl, .ref t, rfl, p, t, Ls, S, Es, e, rfl, P, few, so, ht, can, fun H1 b1 P1 => ?_⟩
    obtain ⟨dx', a', b', us', vs', hp', ha', sts', hb', eds'⟩ := id P1.ex
    have lv := eds'.length
    refine ⟨.ref p, rfl, p, C_Plan, dx', _, _, rfl, hp', T.cl_Plan, T.n_Plan_done, lk_done _ _ _, b', vs', rfl, .inr (SqT.of hb'), ?_⟩
    have z := q H1 b1 P1
    rw [lv, List.length_append]
    exact z
def sp_do (C : Addr) (add pc : Bool) : Sp := fun vs H Q _ => ∃ (p t : Addr) (Ls : List St2) (S : St2) (Es : List Ed) (q : Int × Int), vs = [.ref p, .ref t] ∧ PlanAt C H p (Ls ++ [S]) Es ∧ Es.length < 60 ∧ StOk S ∧ H t = some (.tup [.int q.1, .int q.2]) ∧ Can S ⟨add, pc, q⟩ ∧
  ∀ H', But p H H' → PlanAt C H' p (Ls ++ [S] ++ [stepS S ⟨add, pc, q⟩]) (Es ++ [⟨add, pc, q⟩]) → Q (.int (Es.length + 1 : Nat)) H'
theorem ok_Plan_add_target (T : Tx K mg f_is_number f_is_position f_is_tuple_of f_is_interval f_ascending_error f_targets_error f_is_pieces f_interval_text f_joined_texts f_intervals_text f_demand_text f_parse_number f_parse_interval f_edit_version f_edit_answer f_state_answer f_count_answer f_answer_line f_without_item f_with_interval f_without_interval f_edited_state f_helpful_piece f_law_deck f_law_draw f_law_same f_law_small f_law_odd f_law_text f_law_lines f_law f_Shell_init f_Shell_execute f_Plan_init f_Plan_add_target f_Plan_add_piece f_Plan_remove_target f_Plan_remove_piece f_Plan_undo f_Plan_targets f_Plan_pieces f_Plan_needed f_Plan_solution f_Plan_missing f_Plan_changes f_Plan_edit f_Plan_record f_Plan_require_idle f_Plan_state_at f_Plan_len f_Plan_eq C_Shell C_Plan X_NothingToUndo X_Busy X_TooManyEdits X_Duplicate X_TooMany X_Unknown X_TooWide d_is_number d_is_position d_is_tuple_of d_is_interval d_ascending_error d_targets_error d_is_pieces d_interval_text d_joined_texts d_intervals_text d_demand_text d_parse_number d_parse_interval d_edit_version d_edit_answer d_state_answer d_count_answer d_answer_line d_without_item d_with_interval d_without_interval d_edited_state d_helpful_piece d_law_deck d_law_draw d_law_same d_law_small d_law_odd d_law_text d_law_lines d_law d_Shell_init d_Shell_execute d_Plan_init d_Plan_add_target d_Plan_add_piece d_Plan_remove_target d_Plan_remove_piece d_Plan_undo d_Plan_targets d_Plan_pieces d_Plan_needed d_Plan_solution d_Plan_missing d_Plan_changes d_Plan_edit d_Plan_record d_Plan_require_idle d_Plan_state_at d_Plan_len d_Plan_eq t_LAST_POSITION t_MAX_TARGETS t_MAX_PIECES t_MAX_BLOCKS t_MAX_EDITS t_BATCH) : FnOk P w K mg base CX0 8 f_Plan_add_target d_Plan_add_target ["self", "interval"] (sp_do C_Plan true false) := by
  refine T.F_Plan_add_target.ok sc_Plan_add_target (fun vs H Q E h => ?_) (fun cdv A outer s H vs Q E hr h => ?_)
  · obtain ⟨p, t, Ls, S, Es, z, rfl, _⟩ := h
    rfl
  · obtain ⟨p, t, Ls, S, Es, z, rfl, P, few, so, ht, can, q⟩ := h
    refine ⟨_, (pss_one (ps_ret (pe_meth (pv 0) T.cl_Plan T.m_Plan_edit (ok_Plan_edit T) (hr.mono (by decide)) T.b_Plan_edit .nil pass0 (pa_cons pe_str (pa_cons (pv 1) pa_nil))))), ?_⟩
    obtain ⟨dx, a, b, us, vs, hp, _⟩ := id P.ex
    exact ⟨.ref p, rfl, p, dx, _, rfl, hp, lk_no _ _ _ (by decide +kernel), .ref t, rfl, p, t, Ls, S, Es, _, rfl, P, few, so, ht, can, q⟩
theorem ok_Plan_add_piece (T : Tx K mg f_is_number f_is_position f_is_tuple_of f_is_interval f_ascending_error f_targets_error f_is_pieces f_interval_text f_joined_texts f_intervals_text f_demand_text f_parse_number f_parse_interval f_edit_version f_edit_answer f_state_answer f_count_answer f_answer_line f_without_item f_with_interval f_without_interval f_edited_state f_helpful_piece f_law_deck f_law_draw f_law_same f_law_small f_law_odd f_law_text f_law_lines f_law f_Shell_init f_Shell_execute f_Plan_init f_Plan_add_target f_Plan_add_piece f_Plan_remove_target f_Plan_remove_piece f_Plan_undo f_Plan_targets f_Plan_pieces f_Plan_needed f_Plan_solution f_Plan_missing f_Plan_changes f_Plan_edit f_Plan_record f_Plan_require_idle f_Plan_state_at f_Plan_len f_Plan_eq C_Shell C_Plan X_NothingToUndo X_Busy X_TooManyEdits X_Duplicate X_TooMany X_Unknown X_TooWide d_is_number d_is_position d_is_tuple_of d_is_interval d_ascending_error d_targets_error d_is_pieces d_interval_text d_joined_texts d_intervals_text d_demand_text d_parse_number d_parse_interval d_edit_version d_edit_answer d_state_answer d_count_answer d_answer_line d_without_item d_with_interval d_without_interval d_edited_state d_helpful_piece d_law_deck d_law_draw d_law_same d_law_small d_law_odd d_law_text d_law_lines d_law d_Shell_init d_Shell_execute d_Plan_init d_Plan_add_target d_Plan_add_piece d_Plan_remove_target d_Plan_remove_piece d_Plan_undo d_Plan_targets d_Plan_pieces d_Plan_needed d_Plan_solution d_Plan_missing d_Plan_changes d_Plan_edit d_Plan_record d_Plan_require_idle d_Plan_state_at d_Plan_len d_Plan_eq t_LAST_POSITION t_MAX_TARGETS t_MAX_PIECES t_MAX_BLOCKS t_MAX_EDITS t_BATCH) : FnOk P w K mg base CX0 8 f_Plan_add_piece d_Plan_add_piece ["self", "interval"] (sp_do C_Plan true true) := by
  refine T.F_Plan_add_piece.ok sc_Plan_add_piece (fun vs H Q E h => ?_) (fun cdv A outer s H vs Q E hr h => ?_)
  · obtain ⟨p, t, Ls, S, Es, z, rfl, _⟩ := h
    rfl
  · obtain ⟨p, t, Ls, S, Es, z, rfl, P, few, so, ht, can, q⟩ := h
    refine ⟨_, (pss_one (ps_ret (pe_meth (pv 0) T.cl_Plan T.m_Plan_edit (ok_Plan_edit T) (hr.mono (by decide)) T.b_Plan_edit .nil pass0 (pa_cons pe_str (pa_cons (pv 1) pa_nil))))), ?_⟩
    obtain ⟨dx, a, b, us, vs, hp, _⟩ := id P.ex
    exact ⟨.ref p, rfl, p, dx, _, rfl, hp, lk_no _ _ _ (by decide +kernel), .ref t, rfl, p, t, Ls, S, Es, _, rfl, P, few, so, ht, can, q⟩
theorem ok_Plan_remove_target (T : Tx K mg f_is_number f_is_position f_is_tuple_of f_is_interval f_ascending_error f_targets_error f_is_pieces f_interval_text f_joined_texts f_intervals_text f_demand_text f_parse_number f_parse_interval f_edit_version f_edit_answer f_state_answer f_count_answer f_answer_line f_without_item f_with_interval f_without_interval f_edited_state f_helpful_piece f_law_deck f_law_draw f_law_same f_law_small f_law_odd f_law_text f_law_lines f_law f_Shell_init f_Shell_execute f_Plan_init f_Plan_add_target f_Plan_add_piece f_Plan_remove_target f_Plan_remove_piece f_Plan_undo f_Plan_targets f_Plan_pieces f_Plan_needed f_Plan_solution f_Plan_missing f_Plan_changes f_Plan_edit f_Plan_record f_Plan_require_idle f_Plan_state_at f_Plan_len f_Plan_eq C_Shell C_Plan X_NothingToUndo X_Busy X_TooManyEdits X_Duplicate X_TooMany X_Unknown X_TooWide d_is_number d_is_position d_is_tuple_of d_is_interval d_ascending_error d_targets_error d_is_pieces d_interval_text d_joined_texts d_intervals_text d_demand_text d_parse_number d_parse_interval d_edit_version d_edit_answer d_state_answer d_count_answer d_answer_line d_without_item d_with_interval d_without_interval d_edited_state d_helpful_piece d_law_deck d_law_draw d_law_same d_law_small d_law_odd d_law_text d_law_lines d_law d_Shell_init d_Shell_execute d_Plan_init d_Plan_add_target d_Plan_add_piece d_Plan_remove_target d_Plan_remove_piece d_Plan_undo d_Plan_targets d_Plan_pieces d_Plan_needed d_Plan_solution d_Plan_missing d_Plan_changes d_Plan_edit d_Plan_record d_Plan_require_idle d_Plan_state_at d_Plan_len d_Plan_eq t_LAST_POSITION t_MAX_TARGETS t_MAX_PIECES t_MAX_BLOCKS t_MAX_EDITS t_BATCH) : FnOk P w K mg base CX0 8 f_Plan_remove_target d_Plan_remove_target ["self", "interval"] (sp_do C_Plan false false) := by
  refine T.F_Plan_remove_target.ok sc_Plan_remove_target (fun vs H Q E h => ?_) (fun cdv A outer s H vs Q E hr h => ?_)
  · obtain ⟨p, t, Ls, S, Es, z, rfl, _⟩ := h
    rfl
  · obtain ⟨p, t, Ls, S, Es, z, rfl, P, few, so, ht, can, q⟩ := h
    refine ⟨_, (pss_one (ps_ret (pe_meth (pv 0) T.cl_Plan T.m_Plan_edit (ok_Plan_edit T) (hr.mono (by decide)) T.b_Plan_edit .nil pass0 (pa_cons pe_str (pa_cons (pv 1) pa_nil))))), ?_⟩
    obtain ⟨dx, a, b, us, vs, hp, _⟩ := id P.ex
    exact ⟨.ref p, rfl, p, dx, _, rfl, hp, lk_no _ _ _ (by decide +kernel), .ref t, rfl, p, t, Ls, S, Es, _, rfl, P, few, so, ht, can, q⟩
theorem ok_Plan_remove_piece (T : Tx K mg f_is_number f_is_position f_is_tuple_of f_is_interval f_ascending_error f_targets_error f_is_pieces f_interval_text f_joined_texts f_intervals_text f_demand_text f_parse_number f_parse_interval f_edit_version f_edit_answer f_state_answer f_count_answer f_answer_line f_without_item f_with_interval f_without_interval f_edited_state f_helpful_piece f_law_deck f_law_draw f_law_same f_law_small f_law_odd f_law_text f_law_lines f_law f_Shell_init f_Shell_execute f_Plan_init f_Plan_add_target f_Plan_add_piece f_Plan_remove_target f_Plan_remove_piece f_Plan_undo f_Plan_targets f_Plan_pieces f_Plan_needed f_Plan_solution f_Plan_missing f_Plan_changes f_Plan_edit f_Plan_record f_Plan_require_idle f_Plan_state_at f_Plan_len f_Plan_eq C_Shell C_Plan X_NothingToUndo X_Busy X_TooManyEdits X_Duplicate X_TooMany X_Unknown X_TooWide d_is_number d_is_position d_is_tuple_of d_is_interval d_ascending_error d_targets_error d_is_pieces d_interval_text d_joined_texts d_intervals_text d_demand_text d_parse_number d_parse_interval d_edit_version d_edit_answer d_state_answer d_count_answer d_answer_line d_without_item d_with_interval d_without_interval d_edited_state d_helpful_piece d_law_deck d_law_draw d_law_same d_law_small d_law_odd d_law_text d_law_lines d_law d_Shell_init d_Shell_execute d_Plan_init d_Plan_add_target d_Plan_add_piece d_Plan_remove_target d_Plan_remove_piece d_Plan_undo d_Plan_targets d_Plan_pieces d_Plan_needed d_Plan_solution d_Plan_missing d_Plan_changes d_Plan_edit d_Plan_record d_Plan_require_idle d_Plan_state_at d_Plan_len d_Plan_eq t_LAST_POSITION t_MAX_TARGETS t_MAX_PIECES t_MAX_BLOCKS t_MAX_EDITS t_BATCH) : FnOk P w K mg base CX0 8 f_Plan_remove_piece d_Plan_remove_piece ["self", "interval"] (sp_do C_Plan false true) := by
  refine T.F_Plan_remove_piece.ok sc_Plan_remove_piece (fun vs H Q E h => ?_) (fun cdv A outer s H vs Q E hr h => ?_)
  · obtain ⟨p, t, Ls, S, Es, z, rfl, _⟩ := h
    rfl
  · obtain ⟨p, t, Ls, S, Es, z, rfl, P, few, so, ht, can, q⟩ := h
    refine ⟨_, (pss_one (ps_ret (pe_meth (pv 0) T.cl_Plan T.m_Plan_edit (ok_Plan_edit T) (hr.mono (by decide)) T.b_Plan_edit .nil pass0 (pa_cons pe_str (pa_cons (pv 1) pa_nil))))), ?_⟩
    obtain ⟨dx, a, b, us, vs, hp, _⟩ := id P.ex
    exact ⟨.ref p, rfl, p, dx, _, rfl, hp, lk_no _ _ _ (by decide +kernel), .ref t, rfl, p, t, Ls, S, Es, _, rfl, P, few, so, ht, can, q⟩
/-! ### queries -/
/-- a version: None, or a number; i the state's place -/
def IsVer (v : V) (n i : Nat) : Prop := (v = .non ∧ i = n) ∨ (v = .int i ∧ i ≤ n)
def sp_state_at (C : Addr) : Sp := fun vs H Q _ => ∃ (p : Addr) (v : V) (Ss : List St2) (Es : List Ed) (S : St2) (i : Nat), vs = [.ref p, v] ∧ PlanAt C H p Ss Es ∧ IsVer v Es.length i ∧ Ss[i]? = some S ∧
  ∀ t x y xs ys, H t = some (.tup [.ref x, .ref y]) → H x = some (.tup xs) → Ivs H xs S.1 → H y = some (.tup ys) → Ivs H ys S.2 → Q (.ref t) H
theorem ok_Plan_state_at (T : Tx K mg f_is_number f_is_position f_is_tuple_of f_is_interval f_ascending_error f_targets_error f_is_pieces f_interval_text f_joined_texts f_intervals_text f_demand_text f_parse_number f_parse_interval f_edit_version f_edit_answer f_state_answer f_count_answer f_answer_line f_without_item f_with_interval f_without_interval f_edited_state f_helpful_piece f_law_deck f_law_draw f_law_same f_law_small f_law_odd f_law_text f_law_lines f_law f_Shell_init f_Shell_execute f_Plan_init f_Plan_add_target f_Plan_add_piece f_Plan_remove_target f_Plan_remove_piece f_Plan_undo f_Plan_targets f_Plan_pieces f_Plan_needed f_Plan_solution f_Plan_missing f_Plan_changes f_Plan_edit f_Plan_record f_Plan_require_idle f_Plan_state_at f_Plan_len f_Plan_eq C_Shell C_Plan X_NothingToUndo X_Busy X_TooManyEdits X_Duplicate X_TooMany X_Unknown X_TooWide d_is_number d_is_position d_is_tuple_of d_is_interval d_ascending_error d_targets_error d_is_pieces d_interval_text d_joined_texts d_intervals_text d_demand_text d_parse_number d_parse_interval d_edit_version d_edit_answer d_state_answer d_count_answer d_answer_line d_without_item d_with_interval d_without_interval d_edited_state d_helpful_piece d_law_deck d_law_draw d_law_same d_law_small d_law_odd d_law_text d_law_lines d_law d_Shell_init d_Shell_execute d_Plan_init d_Plan_add_target d_Plan_add_piece d_Plan_remove_target d_Plan_remove_piece d_Plan_undo d_Plan_targets d_Plan_pieces d_Plan_needed d_Plan_solution d_Plan_missing d_Plan_changes d_Plan_edit d_Plan_record d_Plan_require_idle d_Plan_state_at d_Plan_len d_Plan_eq t_LAST_POSITION t_MAX_TARGETS t_MAX_PIECES t_MAX_BLOCKS t_MAX_EDITS t_BATCH) : FnOk P w K mg base CX0 2 f_Plan_state_at d_Plan_state_at ["self", "version"] (sp_state_at C_Plan) := by
  refine T.F_Plan_state_at.ok sc_Plan_state_at (fun vs H Q E h => ?_) (fun cdv A outer s H vs Q E hr h => ?_)
  · obtain ⟨p, v, Ss, Es, S, i, rfl, _⟩ := h
    rfl
  · obtain ⟨p, v, Ss, Es, S, i, rfl, P, ver, eS, q⟩ := h
    refine ⟨_, (pss_cons (ps_if (pt_cmpR op_isN (pv 1) pe_non (nomark _))
      (pss_one (ps_ret (pe_ix ix_tup (pe_fld (pv 0) rfl) (pe_un un_neg pe_int) (fun _ _ => rfl))))
      pss_nil)
      (pss_cons (ps_if (PW.pt (pw_or (pt_not (pt_val (pe_call (ok_is_number T) (hr.mono (by decide)) (by rfl) T.g_is_number T.F_is_number.kp T.b_is_number .nil pass0 (pa_cons (pv 1) pa_nil)))) (pw_or1 (pt_not (pt_chain op_le op_le pe_int (pv 1) (pe_callB call_len_seq (by rfl) T.z_len PySem.boot_len (pa_cons (pe_fld (pv 0) rfl) pa_nil)))))))
      (pss_one ps_never)
      pss_nil)
      (pss_one (ps_ret (pe_ix ix_tup (pe_fld (pv 0) rfl) (pv 1) (fun _ _ => rfl)))))), ?_⟩
    obtain ⟨⟨dx, a, b, us, vs, hp, ha, sts, hb, eds⟩, pl⟩ := id P
    have lv := eds.length
    have lu := sts.length
    obtain ⟨s, x, y, xs, ys, eu, hs, hx, ix, hy, iy⟩ := sts.get eS
    have q := q s x y xs ys hs hx ix hy iy
    rcases ver with ⟨rfl, rfl⟩ | ⟨rfl, li⟩
    · refine ⟨_, rfl, rfl, _, rfl, iteT ?_⟩
      exact ⟨.ref p, rfl, p, C_Plan, dx, _, _, rfl, hp, T.cl_Plan, T.n_Plan_states, lk_states _ _ _, 1, rfl, a, us, -1, .ref s, rfl, rfl, SqT.of ha, atI_end (by rw [lu, pl]; exact eu), q⟩
    · refine ⟨_, rfl, rfl, _, rfl, iteF ?_⟩
      refine ⟨_, rfl, i, rfl, _, rfl, iteF ?_⟩
      refine ⟨_, rfl, _, _, rfl, rfl, _, rfl, ?_⟩
      rw [decide_eq_true (show (0 : Int) ≤ (i : Int) by omega)]
      refine iteT ⟨.ref p, rfl, p, C_Plan, dx, _, _, rfl, hp, T.cl_Plan, T.n_Plan_done, lk_done _ _ _, b, vs, rfl, .inr (SqT.of hb), _, _, rfl, rfl, _, rfl, ?_⟩
      rw [decide_eq_true (show (i : Int) ≤ (vs.length : Int) by omega)]
      refine iteF ?_
      exact ⟨.ref p, rfl, p, C_Plan, dx, _, _, rfl, hp, T.cl_Plan, T.n_Plan_states, lk_states _ _ _, _, rfl, a, us, i, .ref s, rfl, rfl, SqT.of ha, atI_nat eu, q⟩
def sp_side (C : Addr) (pc : Bool) : Sp := fun vs H Q _ => ∃ (p : Addr) (v : V) (Ss : List St2) (Es : List Ed) (S : St2) (i : Nat), vs = [.ref p, v] ∧ PlanAt C H p Ss Es ∧ IsVer v Es.length i ∧ Ss[i]? = some S ∧
  ∀ x xs, H x = some (.tup xs) → Ivs H xs (sideS pc S) → Q (.ref x) H
theorem ok_Plan_targets (T : Tx K mg f_is_number f_is_position f_is_tuple_of f_is_interval f_ascending_error f_targets_error f_is_pieces f_interval_text f_joined_texts f_intervals_text f_demand_text f_parse_number f_parse_interval f_edit_version f_edit_answer f_state_answer f_count_answer f_answer_line f_without_item f_with_interval f_without_interval f_edited_state f_helpful_piece f_law_deck f_law_draw f_law_same f_law_small f_law_odd f_law_text f_law_lines f_law f_Shell_init f_Shell_execute f_Plan_init f_Plan_add_target f_Plan_add_piece f_Plan_remove_target f_Plan_remove_piece f_Plan_undo f_Plan_targets f_Plan_pieces f_Plan_needed f_Plan_solution f_Plan_missing f_Plan_changes f_Plan_edit f_Plan_record f_Plan_require_idle f_Plan_state_at f_Plan_len f_Plan_eq C_Shell C_Plan X_NothingToUndo X_Busy X_TooManyEdits X_Duplicate X_TooMany X_Unknown X_TooWide d_is_number d_is_position d_is_tuple_of d_is_interval d_ascending_error d_targets_error d_is_pieces d_interval_text d_joined_texts d_intervals_text d_demand_text d_parse_number d_parse_interval d_edit_version d_edit_answer d_state_answer d_count_answer d_answer_line d_without_item d_with_interval d_without_interval d_edited_state d_helpful_piece d_law_deck d_law_draw d_law_same d_law_small d_law_odd d_law_text d_law_lines d_law d_Shell_init d_Shell_execute d_Plan_init d_Plan_add_target d_Plan_add_piece d_Plan_remove_target d_Plan_remove_piece d_Plan_undo d_Plan_targets d_Plan_pieces d_Plan_needed d_Plan_solution d_Plan_missing d_Plan_changes d_Plan_edit d_Plan_record d_Plan_require_idle d_Plan_state_at d_Plan_len d_Plan_eq t_LAST_POSITION t_MAX_TARGETS t_MAX_PIECES t_MAX_BLOCKS t_MAX_EDITS t_BATCH) : FnOk P w K mg base CX0 3 f_Plan_targets d_Plan_targets ["self", "version"] (sp_side C_Plan false) := by
  refine T.F_Plan_targets.ok sc_Plan_targets (fun vs H Q E h => ?_) (fun cdv A outer s H vs Q E hr h => ?_)
  · obtain ⟨p, v, Ss, Es, S, i, rfl, _⟩ := h
    rfl
  · obtain ⟨p, v, Ss, Es, S, i, rfl, P, ver, eS, q⟩ := h
    refine ⟨_, (pss_one (ps_ret (pe_ix ix_tup (pe_meth (pv 0) T.cl_Plan T.m_Plan_state_at (ok_Plan_state_at T) (hr.mono (by decide)) T.b_Plan_state_at .nil pass0 (pa_cons (pv 1) pa_nil)) pe_int (fun _ _ => rfl)))), ?_⟩
    obtain ⟨dx, a, b, us, vs, hp, _⟩ := id P.ex
    refine ⟨.ref p, rfl, p, dx, _, rfl, hp, lk_no _ _ _ (by decide +kernel), _, rfl, p, v, Ss, Es, S, i, rfl, P, ver, eS, fun t x y xs ys ht hx ix hy iy => ?_⟩
    exact ⟨t, _, 0, .ref x, rfl, rfl, SqT.of ht, rfl, q x xs hx ix⟩
theorem ok_Plan_pieces (T : Tx K mg f_is_number f_is_position f_is_tuple_of f_is_interval f_ascending_error f_targets_error f_is_pieces f_interval_text f_joined_texts f_intervals_text f_demand_text f_parse_number f_parse_interval f_edit_version f_edit_answer f_state_answer f_count_answer f_answer_line f_without_item f_with_interval f_without_interval f_edited_state f_helpful_piece f_law_deck f_law_draw f_law_same f_law_small f_law_odd f_law_text f_law_lines f_law f_Shell_init f_Shell_execute f_Plan_init f_Plan_add_target f_Plan_add_piece f_Plan_remove_target f_Plan_remove_piece f_Plan_undo f_Plan_targets f_Plan_pieces f_Plan_needed f_Plan_solution f_Plan_missing f_Plan_changes f_Plan_edit f_Plan_record f_Plan_require_idle f_Plan_state_at f_Plan_len f_Plan_eq C_Shell C_Plan X_NothingToUndo X_Busy X_TooManyEdits X_Duplicate X_TooMany X_Unknown X_TooWide d_is_number d_is_position d_is_tuple_of d_is_interval d_ascending_error d_targets_error d_is_pieces d_interval_text d_joined_texts d_intervals_text d_demand_text d_parse_number d_parse_interval d_edit_version d_edit_answer d_state_answer d_count_answer d_answer_line d_without_item d_with_interval d_without_interval d_edited_state d_helpful_piece d_law_deck d_law_draw d_law_same d_law_small d_law_odd d_law_text d_law_lines d_law d_Shell_init d_Shell_execute d_Plan_init d_Plan_add_target d_Plan_add_piece d_Plan_remove_target d_Plan_remove_piece d_Plan_undo d_Plan_targets d_Plan_pieces d_Plan_needed d_Plan_solution d_Plan_missing d_Plan_changes d_Plan_edit d_Plan_record d_Plan_require_idle d_Plan_state_at d_Plan_len d_Plan_eq t_LAST_POSITION t_MAX_TARGETS t_MAX_PIECES t_MAX_BLOCKS t_MAX_EDITS t_BATCH) : FnOk P w K mg base CX0 3 f_Plan_pieces d_Plan_pieces ["self", "version"] (sp_side C_Plan true) := by
  refine T.F_Plan_pieces.ok sc_Plan_pieces (fun vs H Q E h => ?_) (fun cdv A outer s H vs Q E hr h => ?_)
  · obtain ⟨p, v, Ss, Es, S, i, rfl, _⟩ := h
    rfl
  · obtain ⟨p, v, Ss, Es, S, i, rfl, P, ver, eS, q⟩ := h
    refine ⟨_, (pss_one (ps_ret (pe_ix ix_tup (pe_meth (pv 0) T.cl_Plan T.m_Plan_state_at (ok_Plan_state_at T) (hr.mono (by decide)) T.b_Plan_state_at .nil pass0 (pa_cons (pv 1) pa_nil)) pe_int (fun _ _ => rfl)))), ?_⟩
    obtain ⟨dx, a, b, us, vs, hp, _⟩ := id P.ex
    refine ⟨.ref p, rfl, p, dx, _, rfl, hp, lk_no _ _ _ (by decide +kernel), _, rfl, p, v, Ss, Es, S, i, rfl, P, ver, eS, fun t x y xs ys ht hx ix hy iy => ?_⟩
    exact ⟨t, _, 1, .ref y, rfl, rfl, SqT.of ht, rfl, q y ys hy iy⟩
def sp_edits (C : Addr) : Sp := fun vs H Q _ => ∃ (p : Addr) (Ss : List St2) (Es : List Ed), vs = [.ref p] ∧ PlanAt C H p Ss Es ∧ ∀ b vs, H b = some (.tup vs) → Eds H vs Es → Q (.ref b) H
def sp_plen (C : Addr) : Sp := fun vs H Q _ => ∃ (p : Addr) (Ss : List St2) (Es : List Ed), vs = [.ref p] ∧ PlanAt C H p Ss Es ∧ Q (.int (Es.length : Nat)) H
theorem ok_Plan_len (T : Tx K mg f_is_number f_is_position f_is_tuple_of f_is_interval f_ascending_error f_targets_error f_is_pieces f_interval_text f_joined_texts f_intervals_text f_demand_text f_parse_number f_parse_interval f_edit_version f_edit_answer f_state_answer f_count_answer f_answer_line f_without_item f_with_interval f_without_interval f_edited_state f_helpful_piece f_law_deck f_law_draw f_law_same f_law_small f_law_odd f_law_text f_law_lines f_law f_Shell_init f_Shell_execute f_Plan_init f_Plan_add_target f_Plan_add_piece f_Plan_remove_target f_Plan_remove_piece f_Plan_undo f_Plan_targets f_Plan_pieces f_Plan_needed f_Plan_solution f_Plan_missing f_Plan_changes f_Plan_edit f_Plan_record f_Plan_require_idle f_Plan_state_at f_Plan_len f_Plan_eq C_Shell C_Plan X_NothingToUndo X_Busy X_TooManyEdits X_Duplicate X_TooMany X_Unknown X_TooWide d_is_number d_is_position d_is_tuple_of d_is_interval d_ascending_error d_targets_error d_is_pieces d_interval_text d_joined_texts d_intervals_text d_demand_text d_parse_number d_parse_interval d_edit_version d_edit_answer d_state_answer d_count_answer d_answer_line d_without_item d_with_interval d_without_interval d_edited_state d_helpful_piece d_law_deck d_law_draw d_law_same d_law_small d_law_odd d_law_text d_law_lines d_law d_Shell_init d_Shell_execute d_Plan_init d_Plan_add_target d_Plan_add_piece d_Plan_remove_target d_Plan_remove_piece d_Plan_undo d_Plan_targets d_Plan_pieces d_Plan_needed d_Plan_solution d_Plan_missing d_Plan_changes d_Plan_edit d_Plan_record d_Plan_require_idle d_Plan_state_at d_Plan_len d_Plan_eq t_LAST_POSITION t_MAX_TARGETS t_MAX_PIECES t_MAX_BLOCKS t_MAX_EDITS t_BATCH) : FnOk P w K mg base CX0 1 f_Plan_len d_Plan_len ["self"] (sp_plen C_Plan) := by
  refine T.F_Plan_len.ok sc_Plan_len (fun vs H Q E h => ?_) (fun cdv A outer s H vs Q E hr h => ?_)
  · obtain ⟨p, Ss, Es, rfl, _⟩ := h
    rfl
  · obtain ⟨p, Ss, Es, rfl, P, q⟩ := h
    refine ⟨_, (pss_one (ps_ret (pe_callB call_len_seq (by rfl) T.z_len PySem.boot_len (pa_cons (pe_fld (pv 0) rfl) pa_nil)))), ?_⟩
    obtain ⟨⟨dx, a, b, us, vs, hp, ha, sts, hb, eds⟩, pl⟩ := id P
    have lv := eds.length
    refine ⟨.ref p, rfl, p, C_Plan, dx, _, _, rfl, hp, T.cl_Plan, T.n_Plan_done, lk_done _ _ _, b, vs, rfl, .inr (SqT.of hb), ?_⟩
    rw [lv]
    exact q

/-! ### the deck and a plan (deck without a table) -/
theorem Dk.noti {H : Hp} {d c : Addr} {n : Int} (h : Dk H d c n) {p C dx : Addr} {fs : List (Str × V)} (e : H p = some (.ins C dx fs)) : Off d c p := by
  obtain ⟨ys, z, _⟩ := h.cells
  exact ⟨ne_of e h.top (fun z => by cases z), ne_of e z (fun z => by cases z)⟩
theorem Dk.butp {H H' : Hp} {d c : Addr} {n : Int} (h : Dk H d c n) {p C dx : Addr} {fs : List (Str × V)} (e : H p = some (.ins C dx fs)) (b : But p H H') : Dk H' d c n := by
  obtain ⟨ys, z, w⟩ := h.cells
  exact ⟨b _ _ (ne_of h.top e (fun z => by cases z)) h.top, ys, b _ _ (ne_of z e (fun z => by cases z)) z, w⟩

/-! ### what a value is -/
def tyD : PyData → String
  | .none => "NoneType"
  | .bool _ => "bool"
  | .int _ => "int"
  | .str _ => "str"
  | .list _ => "list"
  | .tuple _ => "tuple"
  | .dict _ => "dict"
theorem Dv.ty {K : PySem.W.Frag} {H : Hp} {v : V} {d : PyData} (h : Dv K H v d) : TyX K H v (.type (tyD d)) := by
  cases h with
  | non => exact .base .non
  | bl b => exact .base (.bl b)
  | int i => exact .base (.int i)
  | str x => exact .base (.str x)
  | lst e _ => exact .base (.lst e)
  | tup e _ => exact .base (.tup e)
  | dic e _ => exact .base (.dK e)
def intB : PyData → Bool
  | .bool _ => true
  | .int _ => true
  | _ => false
def boolB : PyData → Bool
  | .bool _ => true
  | _ => false
def tupB : PyData → Bool
  | .tuple _ => true
  | _ => false
theorem kit_int {K : PySem.W.Frag} (d : PyData) : PySem.W.kitOne K (.type (tyD d)) (.type "int") = some (intB d) := by
  cases d with
  | none => exact kit_ty (a := "NoneType") (b := "int") (r := false) (by decide +kernel)
  | bool _ => exact kit_ty (a := "bool") (b := "int") (r := true) (by decide +kernel)
  | int _ => exact kit_ty (a := "int") (b := "int") (r := true) (by decide +kernel)
  | str _ => exact kit_ty (a := "str") (b := "int") (r := false) (by decide +kernel)
  | list _ => exact kit_ty (a := "list") (b := "int") (r := false) (by decide +kernel)
  | tuple _ => exact kit_ty (a := "tuple") (b := "int") (r := false) (by decide +kernel)
  | dict _ => exact kit_ty (a := "dict") (b := "int") (r := false) (by decide +kernel)
theorem kit_bool {K : PySem.W.Frag} (d : PyData) : PySem.W.kitOne K (.type (tyD d)) (.type "bool") = some (boolB d) := by
  cases d with
  | none => exact kit_ty (a := "NoneType") (b := "bool") (r := false) (by decide +kernel)
  | bool _ => exact kit_ty (a := "bool") (b := "bool") (r := true) (by decide +kernel)
  | int _ => exact kit_ty (a := "int") (b := "bool") (r := false) (by decide +kernel)
  | str _ => exact kit_ty (a := "str") (b := "bool") (r := false) (by decide +kernel)
  | list _ => exact kit_ty (a := "list") (b := "bool") (r := false) (by decide +kernel)
  | tuple _ => exact kit_ty (a := "tuple") (b := "bool") (r := false) (by decide +kernel)
  | dict _ => exact kit_ty (a := "dict") (b := "bool") (r := false) (by decide +kernel)
theorem kit_tup {K : PySem.W.Frag} (d : PyData) : PySem.W.kitOne K (.type (tyD d)) (.type "tuple") = some (tupB d) := by
  cases d with
  | none => exact kit_ty (a := "NoneType") (b := "tuple") (r := false) (by decide +kernel)
  | bool _ => exact kit_ty (a := "bool") (b := "tuple") (r := false) (by decide +kernel)
  | int _ => exact kit_ty (a := "int") (b := "tuple") (r := false) (by decide +kernel)
  | str _ => exact kit_ty (a := "str") (b := "tuple") (r := false) (by decide +kernel)
  | list _ => exact kit_ty (a := "list") (b := "tuple") (r := false) (by decide +kernel)
  | tuple _ => exact kit_ty (a := "tuple") (b := "tuple") (r := true) (by decide +kernel)
  | dict _ => exact kit_ty (a := "dict") (b := "tuple") (r := false) (by decide +kernel)
def inB (lo hi : Int) : PyData → Bool
  | .int i => decide (lo ≤ i) && decide (i ≤ hi)
  | _ => false
def leB : PyData → PyData → Bool
  | .int x, .int y => decide (x ≤ y)
  | _, _ => false
def ivB : PyData → Bool
  | .tuple [a, b] => inB 0 1000000000000 a && (inB 0 1000000000000 b && leB a b)
  | _ => false
theorem Dv.asInt {K : PySem.W.Frag} {H : Hp} {v : V} {i : Int} (h : Dv K H v (.int i)) : v = .int i := by
  cases h
  rfl
theorem dv_same {K : PySem.W.Frag} {H H' : Hp} (s : Same H H') {v : V} {d : PyData} (h : Dv K H v d) : Dv K H' v d :=
  Dv.rec (K := K) (H := H) (motive_1 := fun v d _ => Dv K H' v d) (motive_2 := fun vs ds _ => DvAll K H' vs ds) .non (fun b => .bl b) (fun i => .int i) (fun x => .str x) (fun e _ q => .lst (s _ _ e) q) (fun e _ q => .tup (s _ _ e) q) (fun e _ q => .dic (s _ _ e) q) .nil (fun _ _ a b => .cons a b) h
theorem dvAll_same {K : PySem.W.Frag} {H H' : Hp} (s : Same H H') : ∀ {vs : List V} {ds : List PyData}, DvAll K H vs ds → DvAll K H' vs ds
  | _, _, .nil => .nil
  | _, _, .cons a b => .cons (dv_same s a) (dvAll_same s b)
theorem DvAll.get {K : PySem.W.Frag} {H : Hp} : ∀ {vs : List V} {ds : List PyData}, DvAll K H vs ds → ∀ {i : Nat} {v : V}, vs[i]? = some v → ∃ d, ds[i]? = some d ∧ Dv K H v d
  | _, _, .nil, _, _, e => by simp at e
  | _, _, .cons a b, 0, _, e => by
    cases e
    exact ⟨_, rfl, a⟩
  | _, _, .cons a b, i + 1, _, e => b.get (i := i) e
theorem DvAll.append {K : PySem.W.Frag} {H : Hp} : ∀ {vs us : List V} {ds es : List PyData}, DvAll K H vs ds → DvAll K H us es → DvAll K H (vs ++ us) (ds ++ es)
  | _, _, _, _, .nil, h => h
  | _, _, _, _, .cons a b, h => .cons a (b.append h)
theorem Dv.dp {K : PySem.W.Frag} {H : Hp} {v : V} {d : PyData} (h : Dv K H v d) : d.canLay0 = true → Dp K H v d := by
  refine Dv.rec (K := K) (H := H) (motive_1 := fun v d _ => d.canLay0 = true → Dp K H v d) (motive_2 := fun vs ds _ => PyData.canLayAll0 ds = true → DpAll K H vs ds) (fun _ => .non) (fun b _ => .bl b) (fun i _ => .int i) (fun x _ => .str x) (fun e _ q z => .lst (SqL.of e) (q z)) (fun e _ q z => .tup (SqT.of e) (q z)) (fun _ _ _ z => ?_) (fun _ => .nil) (fun _ _ a b z => ?_) h
  · cases z
  · have z' := Bool.and_eq_true_iff.mp z
    exact .cons (a z'.1) (b z'.2)
/-- a value that may be asked whether it is an interval: what stands in it, if it is a tuple, has no dicts -/
def PlainT (d : PyData) : Prop := ∀ ds, d = .tuple ds → PyData.canLayAll0 ds = true ∧ PyData.depthAll ds ≤ 60

/-! ### the program's own -/
def spv_is_number (K : PySem.W.Frag) : Sp := fun vs H Q _ => ∃ (v : V) (d : PyData), vs = [v] ∧ Dv K H v d ∧ Q (.bl (intB d && !boolB d)) H
theorem okv_is_number (T : Tx K mg f_is_number f_is_position f_is_tuple_of f_is_interval f_ascending_error f_targets_error f_is_pieces f_interval_text f_joined_texts f_intervals_text f_demand_text f_parse_number f_parse_interval f_edit_version f_edit_answer f_state_answer f_count_answer f_answer_line f_without_item f_with_interval f_without_interval f_edited_state f_helpful_piece f_law_deck f_law_draw f_law_same f_law_small f_law_odd f_law_text f_law_lines f_law f_Shell_init f_Shell_execute f_Plan_init f_Plan_add_target f_Plan_add_piece f_Plan_remove_target f_Plan_remove_piece f_Plan_undo f_Plan_targets f_Plan_pieces f_Plan_needed f_Plan_solution f_Plan_missing f_Plan_changes f_Plan_edit f_Plan_record f_Plan_require_idle f_Plan_state_at f_Plan_len f_Plan_eq C_Shell C_Plan X_NothingToUndo X_Busy X_TooManyEdits X_Duplicate X_TooMany X_Unknown X_TooWide d_is_number d_is_position d_is_tuple_of d_is_interval d_ascending_error d_targets_error d_is_pieces d_interval_text d_joined_texts d_intervals_text d_demand_text d_parse_number d_parse_interval d_edit_version d_edit_answer d_state_answer d_count_answer d_answer_line d_without_item d_with_interval d_without_interval d_edited_state d_helpful_piece d_law_deck d_law_draw d_law_same d_law_small d_law_odd d_law_text d_law_lines d_law d_Shell_init d_Shell_execute d_Plan_init d_Plan_add_target d_Plan_add_piece d_Plan_remove_target d_Plan_remove_piece d_Plan_undo d_Plan_targets d_Plan_pieces d_Plan_needed d_Plan_solution d_Plan_missing d_Plan_changes d_Plan_edit d_Plan_record d_Plan_require_idle d_Plan_state_at d_Plan_len d_Plan_eq t_LAST_POSITION t_MAX_TARGETS t_MAX_PIECES t_MAX_BLOCKS t_MAX_EDITS t_BATCH) : FnOk P w K mg base CX0 1 f_is_number d_is_number ["value"] (spv_is_number K) := by
  refine T.F_is_number.ok sc_is_number (fun vs H Q E h => ?_) (fun cdv A outer s H vs Q E hr h => ?_)
  · obtain ⟨v, d, rfl, _⟩ := h
    rfl
  · obtain ⟨v, d, rfl, hd, q⟩ := h
    refine ⟨_, (pss_one (ps_ret (pe_and (pe_callB call_isi (by rfl) T.z_isinstance (by decide +kernel) (pa_cons (pv 0) (pa_cons (pe_bltn (v := .ty "int") (u := .type "int") (by rfl) T.z_int (by decide +kernel) rfl) pa_nil))) (pe_one (pe_not (pe_callB call_isi (by rfl) T.z_isinstance (by decide +kernel) (pa_cons (pv 0) (pa_cons (pe_bltn (v := .ty "bool") (u := .type "bool") (by rfl) T.z_bool (by decide +kernel) rfl) pa_nil)))))))), ?_⟩
    refine ⟨v, rfl, v, .ty "int", _, _, _, rfl, .ty "int", hd.ty, kit_int d, _, rfl, ite2 (fun e => ?_) (fun e => ?_)⟩
    · refine ⟨v, rfl, v, .ty "bool", _, _, _, rfl, .ty "bool", hd.ty, kit_bool d, _, rfl, ?_⟩
      rw [e] at q
      exact q
    · rw [Bool.not_eq_true] at e
      rw [e] at q
      exact q
theorem num_int {d : PyData} (h : (intB d && !boolB d) = true) : ∃ i, d = .int i := by
  cases d with
  | int i => exact ⟨i, rfl⟩
  | _ => exact (Bool.false_ne_true h).elim
theorem num_no {d : PyData} {lo hi : Int} (h : (intB d && !boolB d) = false) : inB lo hi d = false := by
  cases d with
  | int i => exact Bool.noConfusion (show true = false from h)
  | _ => rfl
def spv_is_position (K : PySem.W.Frag) : Sp := fun vs H Q _ => ∃ (v : V) (d : PyData), vs = [v] ∧ Dv K H v d ∧ Q (.bl (inB 0 1000000000000 d)) H
theorem okv_is_position (T : Tx K mg f_is_number f_is_position f_is_tuple_of f_is_interval f_ascending_error f_targets_error f_is_pieces f_interval_text f_joined_texts f_intervals_text f_demand_text f_parse_number f_parse_interval f_edit_version f_edit_answer f_state_answer f_count_answer f_answer_line f_without_item f_with_interval f_without_interval f_edited_state f_helpful_piece f_law_deck f_law_draw f_law_same f_law_small f_law_odd f_law_text f_law_lines f_law f_Shell_init f_Shell_execute f_Plan_init f_Plan_add_target f_Plan_add_piece f_Plan_remove_target f_Plan_remove_piece f_Plan_undo f_Plan_targets f_Plan_pieces f_Plan_needed f_Plan_solution f_Plan_missing f_Plan_changes f_Plan_edit f_Plan_record f_Plan_require_idle f_Plan_state_at f_Plan_len f_Plan_eq C_Shell C_Plan X_NothingToUndo X_Busy X_TooManyEdits X_Duplicate X_TooMany X_Unknown X_TooWide d_is_number d_is_position d_is_tuple_of d_is_interval d_ascending_error d_targets_error d_is_pieces d_interval_text d_joined_texts d_intervals_text d_demand_text d_parse_number d_parse_interval d_edit_version d_edit_answer d_state_answer d_count_answer d_answer_line d_without_item d_with_interval d_without_interval d_edited_state d_helpful_piece d_law_deck d_law_draw d_law_same d_law_small d_law_odd d_law_text d_law_lines d_law d_Shell_init d_Shell_execute d_Plan_init d_Plan_add_target d_Plan_add_piece d_Plan_remove_target d_Plan_remove_piece d_Plan_undo d_Plan_targets d_Plan_pieces d_Plan_needed d_Plan_solution d_Plan_missing d_Plan_changes d_Plan_edit d_Plan_record d_Plan_require_idle d_Plan_state_at d_Plan_len d_Plan_eq t_LAST_POSITION t_MAX_TARGETS t_MAX_PIECES t_MAX_BLOCKS t_MAX_EDITS t_BATCH) : FnOk P w K mg base CX0 2 f_is_position d_is_position ["value"] (spv_is_position K) := by
  refine T.F_is_position.ok sc_is_position (fun vs H Q E h => ?_) (fun cdv A outer s H vs Q E hr h => ?_)
  · obtain ⟨v, d, rfl, _⟩ := h
    rfl
  · obtain ⟨v, d, rfl, hd, q⟩ := h
    refine ⟨_, (pss_one (ps_ret (pe_and (pe_call (okv_is_number T) (hr.mono (by decide)) (by rfl) T.g_is_number T.F_is_number.kp T.b_is_number .nil pass0 (pa_cons (pv 0) pa_nil)) (pe_one (pe_chain op_le op_le pe_int (pv 0) (pe_glob (v := .int 1000000000000) (by rfl) T.c_LAST_POSITION ⟨_, rfl⟩)))))), ?_⟩
    refine ⟨v, rfl, v, d, rfl, hd, _, rfl, ite2 (fun e => ?_) (fun e => ?_)⟩
    · obtain ⟨i, rfl⟩ := num_int e
      have ev := hd.asInt
      subst ev
      refine ⟨.int i, rfl, _, _, rfl, rfl, _, rfl, ite2 (fun e2 => ?_) (fun e2 => ?_)⟩
      · refine ⟨_, _, rfl, rfl, ?_⟩
        have q' : Q (.bl (decide (0 ≤ i) && decide (i ≤ 1000000000000))) H := q
        rw [e2] at q'
        exact q'
      · have q' : Q (.bl (decide (0 ≤ i) && decide (i ≤ 1000000000000))) H := q
        rw [Bool.not_eq_true] at e2
        rw [e2] at q'
        exact q'
    · rw [Bool.not_eq_true] at e
      rw [num_no e] at q
      exact q
def spv_is_interval (K : PySem.W.Frag) : Sp := fun vs H Q _ => ∃ (v : V) (d : PyData), vs = [v] ∧ Dv K H v d ∧ Q (.bl (ivB d)) H
theorem iv_not {d : PyData} (h : tupB d = false) : ivB d = false := by
  cases d with
  | tuple ds => cases h
  | _ => rfl
def tlB (n : Int) : PyData → Bool
  | .tuple ds => decide ((ds.length : Int) = n)
  | _ => false
def spv_is_tuple_of (K : PySem.W.Frag) : Sp := fun vs H Q _ => ∃ (v : V) (d : PyData) (n : Int), vs = [v, .int n] ∧ Dv K H v d ∧ Q (.bl (tlB n d)) H
theorem tl_not {n : Int} {d : PyData} (h : tupB d = false) : tlB n d = false := by
  cases d with
  | tuple ds => cases h
  | _ => rfl
theorem okv_is_tuple_of (T : Tx K mg f_is_number f_is_position f_is_tuple_of f_is_interval f_ascending_error f_targets_error f_is_pieces f_interval_text f_joined_texts f_intervals_text f_demand_text f_parse_number f_parse_interval f_edit_version f_edit_answer f_state_answer f_count_answer f_answer_line f_without_item f_with_interval f_without_interval f_edited_state f_helpful_piece f_law_deck f_law_draw f_law_same f_law_small f_law_odd f_law_text f_law_lines f_law f_Shell_init f_Shell_execute f_Plan_init f_Plan_add_target f_Plan_add_piece f_Plan_remove_target f_Plan_remove_piece f_Plan_undo f_Plan_targets f_Plan_pieces f_Plan_needed f_Plan_solution f_Plan_missing f_Plan_changes f_Plan_edit f_Plan_record f_Plan_require_idle f_Plan_state_at f_Plan_len f_Plan_eq C_Shell C_Plan X_NothingToUndo X_Busy X_TooManyEdits X_Duplicate X_TooMany X_Unknown X_TooWide d_is_number d_is_position d_is_tuple_of d_is_interval d_ascending_error d_targets_error d_is_pieces d_interval_text d_joined_texts d_intervals_text d_demand_text d_parse_number d_parse_interval d_edit_version d_edit_answer d_state_answer d_count_answer d_answer_line d_without_item d_with_interval d_without_interval d_edited_state d_helpful_piece d_law_deck d_law_draw d_law_same d_law_small d_law_odd d_law_text d_law_lines d_law d_Shell_init d_Shell_execute d_Plan_init d_Plan_add_target d_Plan_add_piece d_Plan_remove_target d_Plan_remove_piece d_Plan_undo d_Plan_targets d_Plan_pieces d_Plan_needed d_Plan_solution d_Plan_missing d_Plan_changes d_Plan_edit d_Plan_record d_Plan_require_idle d_Plan_state_at d_Plan_len d_Plan_eq t_LAST_POSITION t_MAX_TARGETS t_MAX_PIECES t_MAX_BLOCKS t_MAX_EDITS t_BATCH) : FnOk P w K mg base CX0 1 f_is_tuple_of d_is_tuple_of ["value", "length"] (spv_is_tuple_of K) := by
  refine T.F_is_tuple_of.ok sc_is_tuple_of (fun vs H Q E h => ?_) (fun cdv A outer s H vs Q E hr h => ?_)
  · obtain ⟨v, d, n, rfl, _⟩ := h
    rfl
  · obtain ⟨v, d, n, rfl, hd, q⟩ := h
    refine ⟨_, (pss_one (ps_ret (pe_and (pe_callB call_isi (by rfl) T.z_isinstance (by decide +kernel) (pa_cons (pv 0) (pa_cons (pe_bltn (v := .ty "tuple") (u := .type "tuple") (by rfl) T.z_tuple (by decide +kernel) rfl) pa_nil))) (pe_one (pe_cmpR op_eq (pe_callB call_len_seq (by rfl) T.z_len PySem.boot_len (pa_cons (pv 0) pa_nil)) (pv 1) (nomark _)))))), ?_⟩
    refine ⟨v, rfl, v, .ty "tuple", _, _, _, rfl, .ty "tuple", hd.ty, kit_tup d, _, rfl, ?_⟩
    cases tb : tupB d with
    | false =>
      refine iteF ?_
      rw [tl_not tb] at q
      exact q
    | true =>
      refine iteT ?_
      cases hd with
      | @tup a xs ds e all =>
        have len := all.length
        refine ⟨.ref a, rfl, a, xs, rfl, .inr (SqT.of e), .int n, rfl, rfl, ?_⟩
        have z : tlB n (.tuple ds) = decide (V.int (xs.length : Nat) = V.int n) := by
          show decide ((ds.length : Int) = n) = _
          rw [← len]
          by_cases y : ((xs.length : Nat) : Int) = n
          · rw [decide_eq_true y, decide_eq_true (by rw [y])]
          · rw [decide_eq_false y, decide_eq_false (fun z => y (V.int.inj z))]
        rw [z] at q
        exact q
      | _ => exact (Bool.false_ne_true tb).elim
theorem tl_two {d : PyData} (h : tlB 2 d = true) : ∃ a b, d = .tuple [a, b] := by
  match d, h with
  | .tuple [a, b], _ => exact ⟨a, b, rfl⟩
  | .tuple (x :: y :: z :: l), h =>
    have h' : ((x :: y :: z :: l).length : Int) = 2 := of_decide_eq_true (show decide (((x :: y :: z :: l).length : Int) = 2) = true from h)
    rw [List.length_cons, List.length_cons, List.length_cons] at h'
    omega
theorem iv_two {d : PyData} (h : ¬ tlB 2 d = true) : ivB d = false := by
  match d, h with
  | .tuple [a, b], h => exact absurd rfl h
  | .tuple [], _ => rfl
  | .tuple [_], _ => rfl
  | .tuple (_ :: _ :: _ :: l), _ => rfl
  | .none, _ => rfl
  | .bool _, _ => rfl
  | .int _, _ => rfl
  | .str _, _ => rfl
  | .list _, _ => rfl
  | .dict _, _ => rfl
theorem okv_is_interval (T : Tx K mg f_is_number f_is_position f_is_tuple_of f_is_interval f_ascending_error f_targets_error f_is_pieces f_interval_text f_joined_texts f_intervals_text f_demand_text f_parse_number f_parse_interval f_edit_version f_edit_answer f_state_answer f_count_answer f_answer_line f_without_item f_with_interval f_without_interval f_edited_state f_helpful_piece f_law_deck f_law_draw f_law_same f_law_small f_law_odd f_law_text f_law_lines f_law f_Shell_init f_Shell_execute f_Plan_init f_Plan_add_target f_Plan_add_piece f_Plan_remove_target f_Plan_remove_piece f_Plan_undo f_Plan_targets f_Plan_pieces f_Plan_needed f_Plan_solution f_Plan_missing f_Plan_changes f_Plan_edit f_Plan_record f_Plan_require_idle f_Plan_state_at f_Plan_len f_Plan_eq C_Shell C_Plan X_NothingToUndo X_Busy X_TooManyEdits X_Duplicate X_TooMany X_Unknown X_TooWide d_is_number d_is_position d_is_tuple_of d_is_interval d_ascending_error d_targets_error d_is_pieces d_interval_text d_joined_texts d_intervals_text d_demand_text d_parse_number d_parse_interval d_edit_version d_edit_answer d_state_answer d_count_answer d_answer_line d_without_item d_with_interval d_without_interval d_edited_state d_helpful_piece d_law_deck d_law_draw d_law_same d_law_small d_law_odd d_law_text d_law_lines d_law d_Shell_init d_Shell_execute d_Plan_init d_Plan_add_target d_Plan_add_piece d_Plan_remove_target d_Plan_remove_piece d_Plan_undo d_Plan_targets d_Plan_pieces d_Plan_needed d_Plan_solution d_Plan_missing d_Plan_changes d_Plan_edit d_Plan_record d_Plan_require_idle d_Plan_state_at d_Plan_len d_Plan_eq t_LAST_POSITION t_MAX_TARGETS t_MAX_PIECES t_MAX_BLOCKS t_MAX_EDITS t_BATCH) : FnOk P w K mg base CX0 3 f_is_interval d_is_interval ["value"] (spv_is_interval K) := by
  refine T.F_is_interval.ok sc_is_interval (fun vs H Q E h => ?_) (fun cdv A outer s H vs Q E hr h => ?_)
  · obtain ⟨v, d, rfl, _⟩ := h
    rfl
  · obtain ⟨v, d, rfl, hd, q⟩ := h
    refine ⟨_, (pss_cons (ps_if (pt_not (pt_val (pe_call (okv_is_tuple_of T) (hr.mono (by decide)) (by rfl) T.g_is_tuple_of T.F_is_tuple_of.kp T.b_is_tuple_of .nil pass0 (pa_cons (pv 0) (pa_cons pe_int pa_nil)))))
      (pss_one (ps_ret pe_bl))
      pss_nil)
      (pss_cons (ps_asg (pv 0) (pg_tup rfl (pgs_cons (pg_name (i := 1) sc_is_interval.nd rfl (Or.inl rfl)) (pgs_cons (pg_name (i := 2) sc_is_interval.nd rfl (Or.inl rfl)) pgs_nil))))
      (pss_one (ps_ret (pe_and (pe_call (okv_is_position T) (hr.mono (by decide)) (by rfl) T.g_is_position T.F_is_position.kp T.b_is_position .nil pass0 (pa_cons (pv 1) pa_nil)) (pe_and (pe_call (okv_is_position T) (hr.mono (by decide)) (by rfl) T.g_is_position T.F_is_position.kp T.b_is_position .nil pass0 (pa_cons (pv 2) pa_nil)) (pe_one (pe_cmpR op_le (pv 1) (pv 2) (nomark _))))))))), ?_⟩
    refine ⟨v, rfl, v, d, 2, rfl, hd, _, rfl, ?_⟩
    by_cases tb : tlB 2 d = true
    · rw [tb]
      refine iteF ?_
      obtain ⟨d1, d2, rfl⟩ := tl_two tb
      cases hd with
      | @tup a xs ds e all =>
        match xs, all, e, q with
          | [v1, v2], .cons h1 (.cons h2 .nil), e, q =>
            refine ⟨.ref a, rfl, a, _, rfl, SqT.of e, rfl, v1, [v2], rfl, v2, [], rfl, rfl, ?_⟩
            refine ⟨v1, rfl, v1, d1, rfl, h1, _, rfl, ite2 (fun e1 => ?_) (fun e1 => ?_)⟩
            · refine ⟨v2, rfl, v2, d2, rfl, h2, _, rfl, ite2 (fun e2 => ?_) (fun e2 => ?_)⟩
              · cases d1 with
                | int i =>
                  cases d2 with
                  | int j =>
                    have x1 := h1.asInt
                    have x2 := h2.asInt
                    subst x1 x2
                    refine ⟨.int i, rfl, .int j, rfl, _, _, rfl, rfl, ?_⟩
                    have q' : Q (.bl (inB 0 1000000000000 (.int i) && (inB 0 1000000000000 (.int j) && decide (i ≤ j)))) H := q
                    rw [e1, e2] at q'
                    exact q'
                  | _ => exact absurd e2 (by simp [inB])
                | _ => exact absurd e1 (by simp [inB])
              · have q' : Q (.bl (inB 0 1000000000000 d1 && (inB 0 1000000000000 d2 && leB d1 d2))) H := q
                rw [Bool.not_eq_true] at e2
                rw [e1, e2] at q'
                exact q'
            · have q' : Q (.bl (inB 0 1000000000000 d1 && (inB 0 1000000000000 d2 && leB d1 d2))) H := q
              rw [Bool.not_eq_true] at e1
              rw [e1] at q'
              exact q'
    · rw [iv_two tb] at q
      rw [Bool.not_eq_true] at tb
      rw [tb]
      exact iteT q

def sp_interval_text : Sp := fun vs H Q _ => ∃ (a : Addr) (q : Int × Int), vs = [.ref a] ∧ H a = some (.tup [.int q.1, .int q.2]) ∧ ((0 ≤ q.1 ∧ q.1 ≤ q.2) ∧ q.2 ≤ 1000000000000) ∧ Q (.str (ivT q)) H
theorem ok_interval_text (T : Tx K mg f_is_number f_is_position f_is_tuple_of f_is_interval f_ascending_error f_targets_error f_is_pieces f_interval_text f_joined_texts f_intervals_text f_demand_text f_parse_number f_parse_interval f_edit_version f_edit_answer f_state_answer f_count_answer f_answer_line f_without_item f_with_interval f_without_interval f_edited_state f_helpful_piece f_law_deck f_law_draw f_law_same f_law_small f_law_odd f_law_text f_law_lines f_law f_Shell_init f_Shell_execute f_Plan_init f_Plan_add_target f_Plan_add_piece f_Plan_remove_target f_Plan_remove_piece f_Plan_undo f_Plan_targets f_Plan_pieces f_Plan_needed f_Plan_solution f_Plan_missing f_Plan_changes f_Plan_edit f_Plan_record f_Plan_require_idle f_Plan_state_at f_Plan_len f_Plan_eq C_Shell C_Plan X_NothingToUndo X_Busy X_TooManyEdits X_Duplicate X_TooMany X_Unknown X_TooWide d_is_number d_is_position d_is_tuple_of d_is_interval d_ascending_error d_targets_error d_is_pieces d_interval_text d_joined_texts d_intervals_text d_demand_text d_parse_number d_parse_interval d_edit_version d_edit_answer d_state_answer d_count_answer d_answer_line d_without_item d_with_interval d_without_interval d_edited_state d_helpful_piece d_law_deck d_law_draw d_law_same d_law_small d_law_odd d_law_text d_law_lines d_law d_Shell_init d_Shell_execute d_Plan_init d_Plan_add_target d_Plan_add_piece d_Plan_remove_target d_Plan_remove_piece d_Plan_undo d_Plan_targets d_Plan_pieces d_Plan_needed d_Plan_solution d_Plan_missing d_Plan_changes d_Plan_edit d_Plan_record d_Plan_require_idle d_Plan_state_at d_Plan_len d_Plan_eq t_LAST_POSITION t_MAX_TARGETS t_MAX_PIECES t_MAX_BLOCKS t_MAX_EDITS t_BATCH) : FnOk P w K mg base CX0 1 f_interval_text d_interval_text ["interval"] sp_interval_text := by
  refine T.F_interval_text.ok sc_interval_text (fun vs H Q E h => ?_) (fun cdv A outer s H vs Q E hr h => ?_)
  · obtain ⟨a, p, rfl, _⟩ := h
    rfl
  · obtain ⟨a, p, rfl, ha, b, q⟩ := h
    refine ⟨_, (pss_cons (ps_asg (pv 0) (pg_tup rfl (pgs_cons (pg_name (i := 1) sc_interval_text.nd rfl (Or.inl rfl)) (pgs_cons (pg_name (i := 2) sc_interval_text.nd rfl (Or.inl rfl)) pgs_nil))))
      (pss_one (ps_ret (pe_joined (PJ.cons (pe_fmt (pv 1)) (PJ.cons pe_str (PJ.cons (pe_fmt (pv 2)) PJ.nil))))))), ?_⟩
    have sz : sizeLine = 16777216 := by decide
    have k1 : ("-" : Str).length = 1 := by decide +kernel
    have k0 : (Str.empty : Str).length = 0 := rfl
    have l1 : (Str.ofString (toString p.1)).length ≤ 13 := numS_len b.1.1 (by omega : p.1 ≤ 1000000000000)
    have l2 : (Str.ofString (toString p.2)).length ≤ 13 := numS_len (i := p.2) (by omega) b.2
    refine ⟨.ref a, rfl, a, _, rfl, SqT.of ha, rfl, .int p.1, [.int p.2], rfl, .int p.2, [], rfl, rfl, ?_⟩
    refine ⟨.int p.1, rfl, .inr ⟨_, rfl, log2_tr b.1.1 (by omega), ?_⟩⟩
    refine ⟨_, rfl, by rw [Str.length_append]; omega, ?_⟩
    refine ⟨_, rfl, by rw [Str.length_append, Str.length_append]; omega, ?_⟩
    refine ⟨.int p.2, rfl, .inr ⟨_, rfl, log2_tr (by omega) (by omega), ?_⟩⟩
    refine ⟨_, rfl, by rw [Str.length_append, Str.length_append, Str.length_append]; omega, ?_⟩
    rw [Str.empty_append]
    exact q
def sp_joined_texts : Sp := fun vs H Q _ => ∃ (l : Addr) (ys : List Str), vs = [.ref l] ∧ H l = some (.lst (ys.map V.str)) ∧ (ys.map (·.length)).sum + ys.length ≤ 16777216 ∧ Q (.str (if ys = [] then "none" else Txt.join " " ys)) H
theorem ok_joined_texts (T : Tx K mg f_is_number f_is_position f_is_tuple_of f_is_interval f_ascending_error f_targets_error f_is_pieces f_interval_text f_joined_texts f_intervals_text f_demand_text f_parse_number f_parse_interval f_edit_version f_edit_answer f_state_answer f_count_answer f_answer_line f_without_item f_with_interval f_without_interval f_edited_state f_helpful_piece f_law_deck f_law_draw f_law_same f_law_small f_law_odd f_law_text f_law_lines f_law f_Shell_init f_Shell_execute f_Plan_init f_Plan_add_target f_Plan_add_piece f_Plan_remove_target f_Plan_remove_piece f_Plan_undo f_Plan_targets f_Plan_pieces f_Plan_needed f_Plan_solution f_Plan_missing f_Plan_changes f_Plan_edit f_Plan_record f_Plan_require_idle f_Plan_state_at f_Plan_len f_Plan_eq C_Shell C_Plan X_NothingToUndo X_Busy X_TooManyEdits X_Duplicate X_TooMany X_Unknown X_TooWide d_is_number d_is_position d_is_tuple_of d_is_interval d_ascending_error d_targets_error d_is_pieces d_interval_text d_joined_texts d_intervals_text d_demand_text d_parse_number d_parse_interval d_edit_version d_edit_answer d_state_answer d_count_answer d_answer_line d_without_item d_with_interval d_without_interval d_edited_state d_helpful_piece d_law_deck d_law_draw d_law_same d_law_small d_law_odd d_law_text d_law_lines d_law d_Shell_init d_Shell_execute d_Plan_init d_Plan_add_target d_Plan_add_piece d_Plan_remove_target d_Plan_remove_piece d_Plan_undo d_Plan_targets d_Plan_pieces d_Plan_needed d_Plan_solution d_Plan_missing d_Plan_changes d_Plan_edit d_Plan_record d_Plan_require_idle d_Plan_state_at d_Plan_len d_Plan_eq t_LAST_POSITION t_MAX_TARGETS t_MAX_PIECES t_MAX_BLOCKS t_MAX_EDITS t_BATCH) : FnOk P w K mg base CX0 1 f_joined_texts d_joined_texts ["texts"] sp_joined_texts := by
  refine T.F_joined_texts.ok sc_joined_texts (fun vs H Q E h => ?_) (fun cdv A outer s H vs Q E hr h => ?_)
  · obtain ⟨l, ys, rfl, _⟩ := h
    rfl
  · obtain ⟨l, ys, rfl, hl, b, q⟩ := h
    refine ⟨_, (pss_one (ps_ret (pe_ifExp (pt_truth (pv 0) (by intro _; rfl)) (pe_join pe_str (pv 0)) pe_str))), ?_⟩
    have k1 : (" " : Str).length = 1 := by decide +kernel
    refine ⟨.ref l, rfl, _, .inl ⟨_, SqL.of hl, rfl⟩, ?_⟩
    cases ys with
    | nil => exact iteF q
    | cons y r =>
      refine iteT ⟨⟨_, rfl⟩, .ref l, rfl, _, l, y :: r, rfl, rfl, .inl (SqL.of hl), ?_, q⟩
      rw [k1]
      omega
def sp_intervals_text : Sp := fun vs H Q _ => ∃ (a : Addr) (us : List V) (ps : List (Int × Int)), vs = [.ref a] ∧ H a = some (.tup us) ∧ Ivs H us ps ∧ Vld0 ps ∧ ps.length < 1000 ∧ ∀ H', Same H H' → Q (.str (rowT ps)) H'
theorem ok_intervals_text (T : Tx K mg f_is_number f_is_position f_is_tuple_of f_is_interval f_ascending_error f_targets_error f_is_pieces f_interval_text f_joined_texts f_intervals_text f_demand_text f_parse_number f_parse_interval f_edit_version f_edit_answer f_state_answer f_count_answer f_answer_line f_without_item f_with_interval f_without_interval f_edited_state f_helpful_piece f_law_deck f_law_draw f_law_same f_law_small f_law_odd f_law_text f_law_lines f_law f_Shell_init f_Shell_execute f_Plan_init f_Plan_add_target f_Plan_add_piece f_Plan_remove_target f_Plan_remove_piece f_Plan_undo f_Plan_targets f_Plan_pieces f_Plan_needed f_Plan_solution f_Plan_missing f_Plan_changes f_Plan_edit f_Plan_record f_Plan_require_idle f_Plan_state_at f_Plan_len f_Plan_eq C_Shell C_Plan X_NothingToUndo X_Busy X_TooManyEdits X_Duplicate X_TooMany X_Unknown X_TooWide d_is_number d_is_position d_is_tuple_of d_is_interval d_ascending_error d_targets_error d_is_pieces d_interval_text d_joined_texts d_intervals_text d_demand_text d_parse_number d_parse_interval d_edit_version d_edit_answer d_state_answer d_count_answer d_answer_line d_without_item d_with_interval d_without_interval d_edited_state d_helpful_piece d_law_deck d_law_draw d_law_same d_law_small d_law_odd d_law_text d_law_lines d_law d_Shell_init d_Shell_execute d_Plan_init d_Plan_add_target d_Plan_add_piece d_Plan_remove_target d_Plan_remove_piece d_Plan_undo d_Plan_targets d_Plan_pieces d_Plan_needed d_Plan_solution d_Plan_missing d_Plan_changes d_Plan_edit d_Plan_record d_Plan_require_idle d_Plan_state_at d_Plan_len d_Plan_eq t_LAST_POSITION t_MAX_TARGETS t_MAX_PIECES t_MAX_BLOCKS t_MAX_EDITS t_BATCH) : FnOk P w K mg base CX0 2 f_intervals_text d_intervals_text ["intervals"] sp_intervals_text := by
  refine T.F_intervals_text.ok sc_intervals_text (fun vs H Q E h => ?_) (fun cdv A outer s H vs Q E hr h => ?_)
  · obtain ⟨a, us, ps, rfl, _⟩ := h
    rfl
  · obtain ⟨a, us, ps, rfl, ha, iv, ok, few, q⟩ := h
    refine ⟨_, (pss_one (ps_ret (pe_call (ok_joined_texts T) (hr.mono (by decide)) (by rfl) T.g_joined_texts T.F_joined_texts.kp T.b_joined_texts .nil pass0 (pa_cons (pe_lc (own := [("interval", 1)]) (g := (gName 1)) (tt := tYes) (by rfl) sc_intervals_text.nd (pi_tup (pv 0)) (blkOk_by (own := [("interval", 1)]) (N := N_intervals_text) (sc := defScope s_intervals_text) (by decide +kernel)) (fun _ _ _ _ _ => (pg_name (i := 1) sc_intervals_text.nd rfl (Or.inl rfl))) (fun _ _ _ _ _ => pts_nil) (fun _ _ _ _ _ => (pe_call (ok_interval_text T) (hr.mono (by decide)) (by rfl) T.g_interval_text T.F_interval_text.kp T.b_interval_text .nil pass0 (pa_cons (pv 1) pa_nil)))) pa_nil)))), ?_⟩
    refine ⟨.ref a, rfl, a, rfl, ⟨_, SqT.of ha⟩, fun D nD => ?_⟩
    refine lcT (K := K) (a := a) (xs := us) (fun j H' ws => ws = ((ps.take j).map ivT).map V.str) nD (fun H' s => SqT.of (s _ _ ha)) (by rw [iv.length]; omega) (fun _ _ _ _ _ h => h) (fun j H' ws h => by rw [h, List.length_map, List.length_map, List.length_take]; omega) (fun _ => rfl) ?_ ?_
    · rintro j v H' N acc hj sm eA sz r no yes
      obtain ⟨bb, x, y, rfl, ep, hb⟩ := iv.get hj
      refine ⟨rfl, .ref bb, rfl, bb, (x, y), rfl, sm _ _ hb, ok _ (List.mem_of_getElem? ep), yes _ _ (Same.refl _) ?_⟩
      rw [r, map_take_snoc ep, List.map_append]
      rfl
    · rintro H' ws sm eD r
      rw [iv.length, List.take_length] at r
      subst r
      have s27 := sum27 ok
      refine ⟨D, ps.map ivT, rfl, eD, by rw [List.length_map]; omega, ?_⟩
      have q' := q H' sm
      unfold rowT at q'
      cases ps with
      | nil => exact q'
      | cons p r => exact q'
/-! ### a number, an interval as the program reads them -/
def oV : Option Int → V
  | none => .non
  | some n => .int n
def oD : Option Int → PyData
  | none => .none
  | some n => .int n
theorem dv_oV {K : PySem.W.Frag} {H : Hp} (o : Option Int) : Dv K H (oV o) (oD o) := by
  cases o with
  | none => exact .non
  | some n => exact .int n
def OIv (H : Hp) (v : V) : Option (Int × Int) → Prop
  | none => v = .non
  | some q => ∃ t, v = .ref t ∧ H t = some (.tup [.int q.1, .int q.2])
theorem isdec_iff {x : Str} (h : low128 x) : Txt.isdecimal x = true ↔ TL.tl x ≠ [] ∧ Dig (TL.tl x) := by
  have key : ∀ c, c < 128 → (Unicode.isDecimal c = true ↔ 48 ≤ c ∧ c ≤ 57) := by decide +kernel
  unfold Txt.isdecimal
  rw [Bool.and_eq_true, decide_eq_true_iff, ← Array.all_toList, List.all_eq_true, TL.len_tl]
  constructor
  · rintro ⟨a, b⟩
    exact ⟨List.length_pos_iff.mp a, fun c hc => (key c (h c hc)).mp (b c hc)⟩
  · rintro ⟨a, b⟩
    exact ⟨List.length_pos_iff.mpr a, fun c hc => (key c (h c hc)).mpr (b c hc)⟩
theorem numS_eq {x : Str} {n : Nat} : numS (n : Int) = x ↔ TL.numL n = TL.tl x := by
  rw [← eq_of_tl, TL.tl_num]
theorem dig_lt : ∀ (n : Nat) (l : List Nat), l.length = n → Dig l → NumText.digitsVal l < 10 ^ l.length := by
  intro n
  induction n with
  | zero =>
    intro l hl _
    rw [List.length_eq_zero_iff.mp hl]
    decide
  | succ n ih =>
    intro l hl dg
    have ne : l ≠ [] := fun z => by
      rw [z] at hl
      cases hl
    obtain ⟨l', c, rfl⟩ : ∃ l' c, l = l' ++ [c] := ⟨l.dropLast, l.getLast ne, (List.dropLast_concat_getLast ne).symm⟩
    have hc := dg c (List.mem_append_right _ (List.mem_singleton.mpr rfl))
    have p1 : [c].length = 1 := rfl
    rw [List.length_append] at hl
    have a := ih l' (by omega) (fun x hx => dg x (List.mem_append_left _ hx))
    rw [digits_snoc, List.length_append, p1, Nat.pow_succ]
    omega
def sp_parse_number : Sp := fun vs H Q _ => ∃ x : Str, vs = [.str x] ∧ low128 x ∧ x.length ≤ 1000 ∧ Q (oV (numg (TL.tl x))) H
theorem ok_parse_number (T : Tx K mg f_is_number f_is_position f_is_tuple_of f_is_interval f_ascending_error f_targets_error f_is_pieces f_interval_text f_joined_texts f_intervals_text f_demand_text f_parse_number f_parse_interval f_edit_version f_edit_answer f_state_answer f_count_answer f_answer_line f_without_item f_with_interval f_without_interval f_edited_state f_helpful_piece f_law_deck f_law_draw f_law_same f_law_small f_law_odd f_law_text f_law_lines f_law f_Shell_init f_Shell_execute f_Plan_init f_Plan_add_target f_Plan_add_piece f_Plan_remove_target f_Plan_remove_piece f_Plan_undo f_Plan_targets f_Plan_pieces f_Plan_needed f_Plan_solution f_Plan_missing f_Plan_changes f_Plan_edit f_Plan_record f_Plan_require_idle f_Plan_state_at f_Plan_len f_Plan_eq C_Shell C_Plan X_NothingToUndo X_Busy X_TooManyEdits X_Duplicate X_TooMany X_Unknown X_TooWide d_is_number d_is_position d_is_tuple_of d_is_interval d_ascending_error d_targets_error d_is_pieces d_interval_text d_joined_texts d_intervals_text d_demand_text d_parse_number d_parse_interval d_edit_version d_edit_answer d_state_answer d_count_answer d_answer_line d_without_item d_with_interval d_without_interval d_edited_state d_helpful_piece d_law_deck d_law_draw d_law_same d_law_small d_law_odd d_law_text d_law_lines d_law d_Shell_init d_Shell_execute d_Plan_init d_Plan_add_target d_Plan_add_piece d_Plan_remove_target d_Plan_remove_piece d_Plan_undo d_Plan_targets d_Plan_pieces d_Plan_needed d_Plan_solution d_Plan_missing d_Plan_changes d_Plan_edit d_Plan_record d_Plan_require_idle d_Plan_state_at d_Plan_len d_Plan_eq t_LAST_POSITION t_MAX_TARGETS t_MAX_PIECES t_MAX_BLOCKS t_MAX_EDITS t_BATCH) : FnOk P w K mg base CX0 1 f_parse_number d_parse_number ["text"] sp_parse_number := by
  refine T.F_parse_number.ok sc_parse_number (fun vs H Q E h => ?_) (fun cdv A outer s H vs Q E hr h => ?_)
  · obtain ⟨x, rfl, _⟩ := h
    rfl
  · obtain ⟨x, rfl, lo, len, q⟩ := h
    refine ⟨_, (pss_cons (ps_if (PW.pt (pw_or (pt_not (pt_val (pe_m0 PySem.F.slot_str_isdecimal PySem.F.type_str_isdecimal mt_isdecimal (pv 0)))) (pw_or1 (pt_cmpR op_gt (pe_callB call_len_str (by rfl) T.z_len PySem.boot_len (pa_cons (pv 0) pa_nil)) (pe_callB call_len_str (by rfl) T.z_len PySem.boot_len (pa_cons (pe_callTy call_str_int (by rfl) T.z_str (by decide +kernel) (pa_cons (pe_glob (v := .int 1000000000000) (by rfl) T.c_LAST_POSITION ⟨_, rfl⟩) pa_nil)) pa_nil)) (nomark _)))))
      (pss_one (ps_ret pe_non))
      pss_nil)
      (pss_cons (ps_set (i := 1) sc_parse_number.nd rfl (Or.inl rfl) (pe_callTy call_int_str (by rfl) T.z_int (by decide +kernel) (pa_cons (pv 0) pa_nil)))
      (pss_one (ps_ret (pe_ifExp (pt_cmpR op_eq (pe_callTy call_str_int (by rfl) T.z_str (by decide +kernel) (pa_cons (pv 1) pa_nil)) (pv 0) (nomark _)) (pv 1) pe_non))))), ?_⟩
    have sz : sizeLine = 16777216 := by decide
    refine ⟨.str x, rfl, ⟨_, rfl⟩, _, rfl, rfl, trivial, _, rfl, ?_⟩
    by_cases dc : TL.tl x ≠ [] ∧ Dig (TL.tl x)
    · rw [(isdec_iff lo).mpr dc]
      refine iteF ?_
      refine ⟨.str x, rfl, _, rfl, by omega, _, rfl, by decide +kernel, _, rfl, by decide +kernel, _, _, rfl, rfl, _, rfl, ?_⟩
      rw [show (Str.ofString (toString (1000000000000 : Int))).length = 13 by decide +kernel]
      by_cases l13 : x.length ≤ 13
      · rw [decide_eq_false (by omega)]
        refine iteF ?_
        have it : intText? x = some ((NumText.digitsVal (TL.tl x) : Nat) : Int) := intText_digits dc.2 dc.1 (by omega)
        refine ⟨.str x, rfl, _, _, rfl, it, by omega, ?_⟩
        refine ⟨.int _, rfl, _, rfl, ?_, .str x, rfl, rfl, _, rfl, ?_⟩
        · refine log2_tr (by omega) ?_
          have a := dig_lt _ (TL.tl x) rfl dc.2
          have b : 10 ^ (TL.tl x).length ≤ 10 ^ 13 := Nat.pow_le_pow_right (by decide) (by rw [← TL.len_tl]; exact l13)
          have c : (10 : Nat) ^ 13 ≤ 10 ^ 30 := by decide
          have e : ((10 ^ 30 : Nat) : Int) = (10 : Int) ^ 30 := by decide +kernel
          omega
        by_cases cn : (TL.tl x).head? ≠ some 48 ∨ TL.tl x = [48]
        · have e := numS_eq.mpr ((canon_iff dc.1 dc.2).mpr cn)
          have e' : decide (V.str (Str.ofString (toString ((NumText.digitsVal (TL.tl x) : Nat) : Int))) = V.str x) = true := decide_eq_true (congrArg V.str e)
          rw [e']
          refine iteT ⟨.int _, rfl, ?_⟩
          unfold numg at q
          rw [if_pos ⟨dc, by rw [← TL.len_tl]; exact l13, cn⟩] at q
          exact q
        · have e : ¬ numS ((NumText.digitsVal (TL.tl x) : Nat) : Int) = x := fun z => cn ((canon_iff dc.1 dc.2).mp (numS_eq.mp z))
          have e' : decide (V.str (Str.ofString (toString ((NumText.digitsVal (TL.tl x) : Nat) : Int))) = V.str x) = false := decide_eq_false (fun z => e (V.str.inj z))
          rw [e']
          refine iteF ?_
          unfold numg at q
          rw [if_neg (fun z => cn z.2.2)] at q
          exact q
      · rw [decide_eq_true (by omega)]
        refine iteT ?_
        unfold numg at q
        rw [if_neg (fun z => l13 (by rw [TL.len_tl]; exact z.2.1))] at q
        exact q
    · have e : Txt.isdecimal x = false := by
        rw [← Bool.not_eq_true]
        exact fun z => dc ((isdec_iff lo).mp z)
      rw [e]
      refine iteT ?_
      unfold numg at q
      rw [if_neg (fun z => dc z.1)] at q
      exact q
theorem par_eq (w : Str) : Txt.partition w "-" = match TL.par [45] [] (TL.tl w) with
  | some (a, b) => ((⟨a.toArray⟩ : Str), ("-" : Str), (⟨b.toArray⟩ : Str))
  | none => (w, Str.empty, Str.empty) := by
  rw [TL.partition_par w "-" (by rw [tl_hy]; simp), tl_hy]
  cases TL.par [45] [] (TL.tl w) with
  | none => rfl
  | some p => rfl
theorem par_mem {L a b : List Nat} (h : TL.par [45] [] L = some (a, b)) : (∀ c ∈ a, c ∈ L) ∧ (∀ c ∈ b, c ∈ L) ∧ a.length ≤ L.length ∧ b.length ≤ L.length := by
  by_cases c : 45 ∈ L
  · obtain ⟨a', b', rfl, na⟩ := List.eq_append_cons_of_mem c
    have e1 : TL.par [45] [] (a' ++ 45 :: b') = some ([] ++ a', b') := TL.par_part1 (S := []) na
    rw [e1, List.nil_append] at h
    cases h
    refine ⟨fun c hc => List.mem_append_left _ hc, fun c hc => List.mem_append_right _ (List.mem_cons_of_mem _ hc), by rw [List.length_append]; omega, by rw [List.length_append, List.length_cons]; omega⟩
  · rw [TL.par_none1 c] at h
    cases h
def sp_parse_interval : Sp := fun vs H Q _ => ∃ w : Str, vs = [.str w] ∧ low128 w ∧ w.length ≤ 1000 ∧ ∀ H' v, Same H H' → OIv H' v (ivf (TL.tl w)) → Q v H'
theorem ok_parse_interval (T : Tx K mg f_is_number f_is_position f_is_tuple_of f_is_interval f_ascending_error f_targets_error f_is_pieces f_interval_text f_joined_texts f_intervals_text f_demand_text f_parse_number f_parse_interval f_edit_version f_edit_answer f_state_answer f_count_answer f_answer_line f_without_item f_with_interval f_without_interval f_edited_state f_helpful_piece f_law_deck f_law_draw f_law_same f_law_small f_law_odd f_law_text f_law_lines f_law f_Shell_init f_Shell_execute f_Plan_init f_Plan_add_target f_Plan_add_piece f_Plan_remove_target f_Plan_remove_piece f_Plan_undo f_Plan_targets f_Plan_pieces f_Plan_needed f_Plan_solution f_Plan_missing f_Plan_changes f_Plan_edit f_Plan_record f_Plan_require_idle f_Plan_state_at f_Plan_len f_Plan_eq C_Shell C_Plan X_NothingToUndo X_Busy X_TooManyEdits X_Duplicate X_TooMany X_Unknown X_TooWide d_is_number d_is_position d_is_tuple_of d_is_interval d_ascending_error d_targets_error d_is_pieces d_interval_text d_joined_texts d_intervals_text d_demand_text d_parse_number d_parse_interval d_edit_version d_edit_answer d_state_answer d_count_answer d_answer_line d_without_item d_with_interval d_without_interval d_edited_state d_helpful_piece d_law_deck d_law_draw d_law_same d_law_small d_law_odd d_law_text d_law_lines d_law d_Shell_init d_Shell_execute d_Plan_init d_Plan_add_target d_Plan_add_piece d_Plan_remove_target d_Plan_remove_piece d_Plan_undo d_Plan_targets d_Plan_pieces d_Plan_needed d_Plan_solution d_Plan_missing d_Plan_changes d_Plan_edit d_Plan_record d_Plan_require_idle d_Plan_state_at d_Plan_len d_Plan_eq t_LAST_POSITION t_MAX_TARGETS t_MAX_PIECES t_MAX_BLOCKS t_MAX_EDITS t_BATCH) : FnOk P w K mg base CX0 4 f_parse_interval d_parse_interval ["word"] sp_parse_interval := by
  refine T.F_parse_interval.ok sc_parse_interval (fun vs H Q E h => ?_) (fun cdv A outer s H vs Q E hr h => ?_)
  · obtain ⟨w, rfl, _⟩ := h
    rfl
  · obtain ⟨w, rfl, lo, len, q⟩ := h
    refine ⟨_, (pss_cons (ps_asg (pe_partition (pv 0) pe_str) (pg_tup rfl (pgs_cons (pg_name (i := 1) sc_parse_interval.nd rfl (Or.inl rfl)) (pgs_cons (pg_name (i := 2) sc_parse_interval.nd rfl (Or.inl rfl)) (pgs_cons (pg_name (i := 3) sc_parse_interval.nd rfl (Or.inl rfl)) pgs_nil)))))
      (pss_cons (ps_set (i := 4) sc_parse_interval.nd rfl (Or.inl rfl) (pe_tup (pa_cons (pe_call (ok_parse_number T) (hr.mono (by decide)) (by rfl) T.g_parse_number T.F_parse_number.kp T.b_parse_number .nil pass0 (pa_cons (pv 1) pa_nil)) (pa_cons (pe_call (ok_parse_number T) (hr.mono (by decide)) (by rfl) T.g_parse_number T.F_parse_number.kp T.b_parse_number .nil pass0 (pa_cons (pv 3) pa_nil)) pa_nil))))
      (pss_one (ps_ret (pe_ifExp (pt_val (pe_call (okv_is_interval T) (hr.mono (by decide)) (by rfl) T.g_is_interval T.F_is_interval.kp T.b_is_interval .nil pass0 (pa_cons (pv 4) pa_nil))) (pv 4) pe_non))))), ?_⟩
    have sz : sizeLine = 16777216 := by decide
    refine ⟨.str w, rfl, ⟨_, rfl⟩, _, _, rfl, rfl, by decide +kernel, by omega, fun t nt => ?_⟩
    rw [par_eq]
    rw [← ivg_eq] at q
    unfold ivg at q
    cases hp : TL.par [45] [] (TL.tl w) with
    | none =>
      rw [hp] at q
      dsimp only at q ⊢
      have s1 := same_new (o := .tup [V.str w, .str Str.empty, .str Str.empty]) nt
      have e1 := upd_same (H := H) (a := t) (o := .tup [V.str w, .str Str.empty, .str Str.empty])
      generalize upd H t (.tup [V.str w, .str Str.empty, .str Str.empty]) = H1 at *
      refine ⟨t, _, rfl, SqT.of e1, rfl, .str w, [.str Str.empty, .str Str.empty], rfl, .str Str.empty, [.str Str.empty], rfl, .str Str.empty, [], rfl, rfl, ?_⟩
      refine ⟨.str w, rfl, w, rfl, lo, len, .str Str.empty, rfl, Str.empty, rfl, (fun c hc => nomatch hc), by decide, by show 2 ≤ sizeLine; decide, fun t2 nt2 => ?_⟩
      rw [show numg (TL.tl Str.empty) = none from numg_nil]
      have s2 := same_new (o := .tup [oV (numg (TL.tl w)), oV none]) nt2
      have e2 := upd_same (H := H1) (a := t2) (o := .tup [oV (numg (TL.tl w)), oV none])
      generalize upd H1 t2 (.tup [oV (numg (TL.tl w)), oV none]) = H2 at *
      have dv : Dv K H2 (.ref t2) (.tuple [oD (numg (TL.tl w)), .none]) := .tup e2 (.cons (dv_oV _) (.cons .non .nil))
      refine ⟨.ref t2, rfl, .ref t2, _, rfl, dv, _, rfl, ?_⟩
      have nb : ivB (.tuple [oD (numg (TL.tl w)), .none]) = false := by
        cases numg (TL.tl w) with
        | none => rfl
        | some n =>
          show (inB 0 1000000000000 (.int n) && (inB 0 1000000000000 .none && leB (.int n) .none)) = false
          cases inB 0 1000000000000 (.int n) <;> rfl
      rw [nb]
      exact iteF (q _ _ (s1.trans s2) rfl)
    | some ab =>
      obtain ⟨a, b⟩ := ab
      obtain ⟨ma, mb, la, lb⟩ := par_mem hp
      rw [hp] at q
      dsimp only at q ⊢
      have len' : (TL.tl w).length ≤ 1000 := by rw [← TL.len_tl]; exact len
      have s1 := same_new (o := .tup [V.str ⟨a.toArray⟩, .str "-", .str ⟨b.toArray⟩]) nt
      have e1 := upd_same (H := H) (a := t) (o := .tup [V.str ⟨a.toArray⟩, .str "-", .str ⟨b.toArray⟩])
      generalize upd H t (.tup [V.str ⟨a.toArray⟩, .str "-", .str ⟨b.toArray⟩]) = H1 at *
      refine ⟨t, _, rfl, SqT.of e1, rfl, .str ⟨a.toArray⟩, [.str "-", .str ⟨b.toArray⟩], rfl, .str "-", [.str ⟨b.toArray⟩], rfl, .str ⟨b.toArray⟩, [], rfl, rfl, ?_⟩
      refine ⟨.str ⟨a.toArray⟩, rfl, _, rfl, fun c hc => lo c (ma c hc), by rw [TL.len_tl]; show a.length ≤ 1000; omega, .str ⟨b.toArray⟩, rfl, _, rfl, fun c hc => lo c (mb c hc), by rw [TL.len_tl]; show b.length ≤ 1000; omega, by show 2 ≤ sizeLine; decide, fun t2 nt2 => ?_⟩
      have ta : TL.tl (⟨a.toArray⟩ : Str) = a := TL.tl_mk a
      have tb : TL.tl (⟨b.toArray⟩ : Str) = b := TL.tl_mk b
      rw [ta, tb]
      have s2 := same_new (o := .tup [oV (numg a), oV (numg b)]) nt2
      have e2 := upd_same (H := H1) (a := t2) (o := .tup [oV (numg a), oV (numg b)])
      generalize upd H1 t2 (.tup [oV (numg a), oV (numg b)]) = H2 at *
      have dv : Dv K H2 (.ref t2) (.tuple [oD (numg a), oD (numg b)]) := .tup e2 (.cons (dv_oV _) (.cons (dv_oV _) .nil))
      refine ⟨.ref t2, rfl, .ref t2, _, rfl, dv, _, rfl, ?_⟩
      have s12 := s1.trans s2
      cases ha : numg a with
      | none =>
        rw [ha] at q
        exact iteF (q _ _ s12 rfl)
      | some x =>
        have x0 := numg_nn ha
        rw [ha] at q
        cases hb : numg b with
        | none =>
          rw [hb] at q
          have nb : ivB (.tuple [oD (some x), oD none]) = false := by
            show (inB 0 1000000000000 (.int x) && (inB 0 1000000000000 .none && leB (.int x) .none)) = false
            cases inB 0 1000000000000 (.int x) <;> rfl
          rw [nb]
          exact iteF (q _ _ s12 rfl)
        | some y =>
          have y0 := numg_nn hb
          rw [hb] at q
          rw [ha, hb] at e2
          dsimp only at q
          have eb : ivB (.tuple [oD (some x), oD (some y)]) = ((decide (0 ≤ x) && decide (x ≤ 1000000000000)) && ((decide (0 ≤ y) && decide (y ≤ 1000000000000)) && decide (x ≤ y))) := rfl
          rw [eb]
          by_cases cc : (x ≤ 1000000000000 ∧ y ≤ 1000000000000) ∧ x ≤ y
          · rw [if_pos cc] at q
            rw [decide_eq_true x0, decide_eq_true y0, decide_eq_true cc.1.1, decide_eq_true cc.1.2, decide_eq_true cc.2]
            exact iteT ⟨.ref t2, rfl, q _ _ s12 ⟨t2, rfl, e2⟩⟩
          · rw [if_neg cc] at q
            have nb : ((decide (0 ≤ x) && decide (x ≤ 1000000000000)) && ((decide (0 ≤ y) && decide (y ≤ 1000000000000)) && decide (x ≤ y))) = false := by
              rw [← Bool.not_eq_true, Bool.and_eq_true, Bool.and_eq_true, Bool.and_eq_true, Bool.and_eq_true, decide_eq_true_iff, decide_eq_true_iff, decide_eq_true_iff, decide_eq_true_iff, decide_eq_true_iff]
              omega
            rw [nb]
            exact iteF (q _ _ s12 rfl)

/-! ### plan == plan -/
theorem eqv_rows : ∀ ps qs : List (Int × Int), PyData.eqvAll (ps.map pairD) (qs.map pairD) = decide (ps = qs)
  | [], [] => rfl
  | [], q :: qs => (decide_eq_false (fun e => nomatch e)).symm
  | p :: ps, [] => (decide_eq_false (fun e => nomatch e)).symm
  | p :: ps, q :: qs => by
    show (PyData.eqv (pairD p) (pairD q) && PyData.eqvAll (ps.map pairD) (qs.map pairD)) = _
    rw [eqv_rows ps qs, show PyData.eqv (pairD p) (pairD q) = decide ((p.1, p.2) = (q.1, q.2)) from eqv_pair _ _ _ _, Bool.eq_iff_iff, Bool.and_eq_true, decide_eq_true_iff, decide_eq_true_iff, decide_eq_true_iff, List.cons.injEq]
def stD (S : St2) : PyData := .tuple [.tuple (S.1.map pairD), .tuple (S.2.map pairD)]
theorem eqv_st (S T : St2) : PyData.eqv (stD S) (stD T) = decide (S = T) := by
  show (PyData.eqvAll (S.1.map pairD) (T.1.map pairD) && (PyData.eqvAll (S.2.map pairD) (T.2.map pairD) && true)) = _
  rw [eqv_rows, eqv_rows, Bool.and_true, Bool.eq_iff_iff, Bool.and_eq_true, decide_eq_true_iff, decide_eq_true_iff, decide_eq_true_iff]
  exact ⟨fun h => Prod.ext h.1 h.2, fun h => h ▸ ⟨rfl, rfl⟩⟩
theorem shaped_st (S : St2) : SeqAt.shaped (stD S) = true := by
  have h1 := SeqAt.canLay_of_shaped (shaped_pairs S.1)
  have h2 := SeqAt.canLay_of_shaped (shaped_pairs S.2)
  have d : ∀ ps : List (Int × Int), PyData.depthAll (ps.map pairD) ≤ 1 := by
    intro ps
    induction ps with
    | nil => exact Nat.zero_le _
    | cons n r ih =>
      show max 1 (PyData.depthAll (r.map pairD)) ≤ 1
      omega
  have d1 := d S.1
  have d2 := d S.2
  unfold SeqAt.shaped
  rw [show PyData.canLay0 (stD S) = (PyData.canLay0 (.tuple (S.1.map pairD)) && (PyData.canLay0 (.tuple (S.2.map pairD)) && true)) from rfl, h1, h2]
  refine decide_eq_true ?_
  show max (PyData.depthAll (S.1.map pairD) + 1) (max (PyData.depthAll (S.2.map pairD) + 1) 0) + 1 ≤ 64
  omega
theorem PlanAt.last {C : Addr} {H : Hp} {p : Addr} {Ls : List St2} {S : St2} {Es : List Ed} (P : PlanAt C H p (Ls ++ [S]) Es) : ∃ dx a b us s, H p = some (.ins C dx (flP a b false)) ∧ H a = some (.tup us) ∧ atI us (-1) = some (.ref s) ∧ ∀ {K : PySem.W.Frag}, Dp K H (.ref s) (stD S) := by
  obtain ⟨dx, a, b, us, vs, hp, ha, sts, hb, eds⟩ := P.ex
  have lu := sts.length
  rw [List.length_append] at lu
  have lu : us.length = Ls.length + 1 := lu
  obtain ⟨s, x, y, xs, ys, eu, hs, hx, ix, hy, iy⟩ := sts.get (i := Ls.length) (S := S) (by rw [List.getElem?_append_right (Nat.le_refl _), Nat.sub_self]; rfl)
  exact ⟨dx, a, b, us, s, hp, ha, atI_end (by rw [lu]; exact eu), .tup (SqT.of hs) (.cons (.tup (SqT.of hx) ix.dp) (.cons (.tup (SqT.of hy) iy.dp) .nil))⟩
def sp_eq (C : Addr) : Sp := fun vs H Q _ => ∃ (p o : Addr) (Ls : List St2) (S : St2) (Es : List Ed) (Ls' : List St2) (S' : St2) (Es' : List Ed), vs = [.ref p, .ref o] ∧ PlanAt C H p (Ls ++ [S]) Es ∧ PlanAt C H o (Ls' ++ [S']) Es' ∧ Q (.bl (decide (S = S'))) H
theorem ok_Plan_eq (T : Tx K mg f_is_number f_is_position f_is_tuple_of f_is_interval f_ascending_error f_targets_error f_is_pieces f_interval_text f_joined_texts f_intervals_text f_demand_text f_parse_number f_parse_interval f_edit_version f_edit_answer f_state_answer f_count_answer f_answer_line f_without_item f_with_interval f_without_interval f_edited_state f_helpful_piece f_law_deck f_law_draw f_law_same f_law_small f_law_odd f_law_text f_law_lines f_law f_Shell_init f_Shell_execute f_Plan_init f_Plan_add_target f_Plan_add_piece f_Plan_remove_target f_Plan_remove_piece f_Plan_undo f_Plan_targets f_Plan_pieces f_Plan_needed f_Plan_solution f_Plan_missing f_Plan_changes f_Plan_edit f_Plan_record f_Plan_require_idle f_Plan_state_at f_Plan_len f_Plan_eq C_Shell C_Plan X_NothingToUndo X_Busy X_TooManyEdits X_Duplicate X_TooMany X_Unknown X_TooWide d_is_number d_is_position d_is_tuple_of d_is_interval d_ascending_error d_targets_error d_is_pieces d_interval_text d_joined_texts d_intervals_text d_demand_text d_parse_number d_parse_interval d_edit_version d_edit_answer d_state_answer d_count_answer d_answer_line d_without_item d_with_interval d_without_interval d_edited_state d_helpful_piece d_law_deck d_law_draw d_law_same d_law_small d_law_odd d_law_text d_law_lines d_law d_Shell_init d_Shell_execute d_Plan_init d_Plan_add_target d_Plan_add_piece d_Plan_remove_target d_Plan_remove_piece d_Plan_undo d_Plan_targets d_Plan_pieces d_Plan_needed d_Plan_solution d_Plan_missing d_Plan_changes d_Plan_edit d_Plan_record d_Plan_require_idle d_Plan_state_at d_Plan_len d_Plan_eq t_LAST_POSITION t_MAX_TARGETS t_MAX_PIECES t_MAX_BLOCKS t_MAX_EDITS t_BATCH) : FnOk P w K mg base CX0 2 f_Plan_eq d_Plan_eq ["self", "other"] (sp_eq C_Plan) := by
  refine T.F_Plan_eq.ok sc_Plan_eq (fun vs H Q E h => ?_) (fun cdv A outer s H vs Q E hr h => ?_)
  · obtain ⟨p, o, Ls, S, Es, Ls', S', Es', rfl, _⟩ := h
    rfl
  · obtain ⟨p, o, Ls, S, Es, Ls', S', Es', rfl, P, P', q⟩ := h
    refine ⟨_, (pss_one (ps_ret (pe_and (pe_callB call_isi (by rfl) T.z_isinstance (by decide +kernel) (pa_cons (pv 1) (pa_cons (pe_glob (v := V.ref C_Plan) (by rfl) T.g_Plan rfl) pa_nil))) (pe_one (pe_cmpR (op_eqD hr.units) (pe_ix ix_tup (pe_fld (pv 0) rfl) (pe_un un_neg pe_int) (fun _ _ => rfl)) (pe_ix ix_tup (pe_fld (pv 1) rfl) (pe_un un_neg pe_int) (fun _ _ => rfl)) (nomark _)))))), ?_⟩
    obtain ⟨dx, a, b, us, s, hp, ha, au, ds⟩ := P.last
    obtain ⟨dx', a', b', us', s', hp', ha', au', ds'⟩ := P'.last
    refine ⟨.ref o, rfl, .ref o, .ref C_Plan, _, _, true, rfl, .own C_Plan, .base (.ins hp' T.cl_Plan T.is_Plan.1 T.is_Plan.2.1 T.is_Plan.2.2.1 T.is_Plan.2.2.2), kit_self, _, rfl, iteT ?_⟩
    refine ⟨.ref p, rfl, p, C_Plan, dx, _, _, rfl, hp, T.cl_Plan, T.n_Plan_states, lk_states _ _ _, 1, rfl, a, us, -1, .ref s, rfl, rfl, SqT.of ha, au, .ref o, rfl, o, C_Plan, dx', _, _, rfl, hp', T.cl_Plan, T.n_Plan_states, lk_states _ _ _, 1, rfl, a', us', -1, .ref s', rfl, rfl, SqT.of ha', au', _, _, ds, ds', shaped_st S, shaped_st S', ?_⟩
    rw [eqv_st]
    exact q

/-! ### commands -/
def verbs : List Str := ["target", "untarget", "piece", "unpiece"]
theorem par_eqs (w : Str) : Txt.partition w " " = match TL.par [32] [] (TL.tl w) with
  | some (a, b) => ((⟨a.toArray⟩ : Str), (" " : Str), (⟨b.toArray⟩ : Str))
  | none => (w, Str.empty, Str.empty) := by
  rw [TL.partition_par w " " (by rw [tl_sp]; simp), tl_sp]
  cases TL.par [32] [] (TL.tl w) with
  | none => rfl
  | some p => rfl
theorem par_mems {L a b : List Nat} (h : TL.par [32] [] L = some (a, b)) : (∀ c ∈ a, c ∈ L) ∧ (∀ c ∈ b, c ∈ L) ∧ a.length ≤ L.length ∧ b.length ≤ L.length := by
  by_cases c : 32 ∈ L
  · obtain ⟨a', b', rfl, na⟩ := List.eq_append_cons_of_mem c
    have e1 : TL.par [32] [] (a' ++ 32 :: b') = some ([] ++ a', b') := TL.par_part1 (S := []) na
    rw [e1, List.nil_append] at h
    cases h
    refine ⟨fun c hc => List.mem_append_left _ hc, fun c hc => List.mem_append_right _ (List.mem_cons_of_mem _ hc), by rw [List.length_append]; omega, by rw [List.length_append, List.length_cons]; omega⟩
  · rw [TL.par_none1 c] at h
    cases h
theorem ivf_nil : ivf [] = none := by
  rw [← ivg_eq]
  unfold ivg
  rw [show TL.par [45] [] [] = none from TL.par_none1 (fun h => nomatch h)]
/-- no command of two words -/
def NoEdit (w : Str) : Prop := match TL.par [32] [] (TL.tl w) with
  | some (a, b) => ivf b = none ∨ (⟨a.toArray⟩ : Str) ∉ verbs
  | none => True
def singles : List Str := ["undo", "targets", "pieces", "missing", "needed", "solve", "witnesses", "changes"]
/-- a text that is no command -/
structure NoCmd (w : Str) : Prop where
  low : low128 w
  few : w.length ≤ 1000
  ed : NoEdit w
  one : w ∉ singles
def sp_version : Sp := fun vs H Q _ => ∃ (v u : V) (w : Str), vs = [v, .str w, u] ∧ w ∉ verbs ∧ Q .non H
theorem ok_edit_version (T : Tx K mg f_is_number f_is_position f_is_tuple_of f_is_interval f_ascending_error f_targets_error f_is_pieces f_interval_text f_joined_texts f_intervals_text f_demand_text f_parse_number f_parse_interval f_edit_version f_edit_answer f_state_answer f_count_answer f_answer_line f_without_item f_with_interval f_without_interval f_edited_state f_helpful_piece f_law_deck f_law_draw f_law_same f_law_small f_law_odd f_law_text f_law_lines f_law f_Shell_init f_Shell_execute f_Plan_init f_Plan_add_target f_Plan_add_piece f_Plan_remove_target f_Plan_remove_piece f_Plan_undo f_Plan_targets f_Plan_pieces f_Plan_needed f_Plan_solution f_Plan_missing f_Plan_changes f_Plan_edit f_Plan_record f_Plan_require_idle f_Plan_state_at f_Plan_len f_Plan_eq C_Shell C_Plan X_NothingToUndo X_Busy X_TooManyEdits X_Duplicate X_TooMany X_Unknown X_TooWide d_is_number d_is_position d_is_tuple_of d_is_interval d_ascending_error d_targets_error d_is_pieces d_interval_text d_joined_texts d_intervals_text d_demand_text d_parse_number d_parse_interval d_edit_version d_edit_answer d_state_answer d_count_answer d_answer_line d_without_item d_with_interval d_without_interval d_edited_state d_helpful_piece d_law_deck d_law_draw d_law_same d_law_small d_law_odd d_law_text d_law_lines d_law d_Shell_init d_Shell_execute d_Plan_init d_Plan_add_target d_Plan_add_piece d_Plan_remove_target d_Plan_remove_piece d_Plan_undo d_Plan_targets d_Plan_pieces d_Plan_needed d_Plan_solution d_Plan_missing d_Plan_changes d_Plan_edit d_Plan_record d_Plan_require_idle d_Plan_state_at d_Plan_len d_Plan_eq t_LAST_POSITION t_MAX_TARGETS t_MAX_PIECES t_MAX_BLOCKS t_MAX_EDITS t_BATCH) : FnOk P w K mg base CX0 9 f_edit_version d_edit_version ["plan", "word", "interval"] sp_version := by
  refine T.F_edit_version.ok sc_edit_version (fun vs H Q E h => ?_) (fun cdv A outer s H vs Q E hr h => ?_)
  · obtain ⟨v, u, w, rfl, _⟩ := h
    rfl
  · obtain ⟨v, u, w, rfl, nw, q⟩ := h
    refine ⟨_, (pss_cons (ps_if (pt_cmpR op_eq (pv 1) pe_str (nomark _))
      (pss_one (ps_ret (pe_meth (pv 0) T.cl_Plan T.m_Plan_add_target (ok_Plan_add_target T) (hr.mono (by decide)) T.b_Plan_add_target .nil pass0 (pa_cons (pv 2) pa_nil))))
      pss_nil)
      (pss_cons (ps_if (pt_cmpR op_eq (pv 1) pe_str (nomark _))
      (pss_one (ps_ret (pe_meth (pv 0) T.cl_Plan T.m_Plan_remove_target (ok_Plan_remove_target T) (hr.mono (by decide)) T.b_Plan_remove_target .nil pass0 (pa_cons (pv 2) pa_nil))))
      pss_nil)
      (pss_cons (ps_if (pt_cmpR op_eq (pv 1) pe_str (nomark _))
      (pss_one (ps_ret (pe_meth (pv 0) T.cl_Plan T.m_Plan_add_piece (ok_Plan_add_piece T) (hr.mono (by decide)) T.b_Plan_add_piece .nil pass0 (pa_cons (pv 2) pa_nil))))
      pss_nil)
      (pss_cons (ps_if (pt_cmpR op_eq (pv 1) pe_str (nomark _))
      (pss_one (ps_ret (pe_meth (pv 0) T.cl_Plan T.m_Plan_remove_piece (ok_Plan_remove_piece T) (hr.mono (by decide)) T.b_Plan_remove_piece .nil pass0 (pa_cons (pv 2) pa_nil))))
      pss_nil)
      (pss_one (ps_ret pe_non)))))), ?_⟩
    have wi : ∀ {x : Str}, x ∈ verbs → w ∉ verbs → ¬ (decide (V.str w = V.str x) = true) := fun hx hw => wneq fun e => hw (e ▸ hx)
    refine ⟨_, rfl, rfl, _, rfl, ite2 (fun z => absurd z (wi (by simp [verbs]) nw)) (fun _ => ?_)⟩
    refine ⟨_, rfl, rfl, _, rfl, ite2 (fun z => absurd z (wi (by simp [verbs]) nw)) (fun _ => ?_)⟩
    refine ⟨_, rfl, rfl, _, rfl, ite2 (fun z => absurd z (wi (by simp [verbs]) nw)) (fun _ => ?_)⟩
    refine ⟨_, rfl, rfl, _, rfl, ite2 (fun z => absurd z (wi (by simp [verbs]) nw)) (fun _ => ?_)⟩
    exact q
def sp_edit_answer : Sp := fun vs H Q _ => ∃ (v : V) (w : Str), vs = [v, .str w] ∧ low128 w ∧ w.length ≤ 1000 ∧ NoEdit w ∧ ∀ H', Same H H' → Q .non H'
theorem ok_edit_answer (T : Tx K mg f_is_number f_is_position f_is_tuple_of f_is_interval f_ascending_error f_targets_error f_is_pieces f_interval_text f_joined_texts f_intervals_text f_demand_text f_parse_number f_parse_interval f_edit_version f_edit_answer f_state_answer f_count_answer f_answer_line f_without_item f_with_interval f_without_interval f_edited_state f_helpful_piece f_law_deck f_law_draw f_law_same f_law_small f_law_odd f_law_text f_law_lines f_law f_Shell_init f_Shell_execute f_Plan_init f_Plan_add_target f_Plan_add_piece f_Plan_remove_target f_Plan_remove_piece f_Plan_undo f_Plan_targets f_Plan_pieces f_Plan_needed f_Plan_solution f_Plan_missing f_Plan_changes f_Plan_edit f_Plan_record f_Plan_require_idle f_Plan_state_at f_Plan_len f_Plan_eq C_Shell C_Plan X_NothingToUndo X_Busy X_TooManyEdits X_Duplicate X_TooMany X_Unknown X_TooWide d_is_number d_is_position d_is_tuple_of d_is_interval d_ascending_error d_targets_error d_is_pieces d_interval_text d_joined_texts d_intervals_text d_demand_text d_parse_number d_parse_interval d_edit_version d_edit_answer d_state_answer d_count_answer d_answer_line d_without_item d_with_interval d_without_interval d_edited_state d_helpful_piece d_law_deck d_law_draw d_law_same d_law_small d_law_odd d_law_text d_law_lines d_law d_Shell_init d_Shell_execute d_Plan_init d_Plan_add_target d_Plan_add_piece d_Plan_remove_target d_Plan_remove_piece d_Plan_undo d_Plan_targets d_Plan_pieces d_Plan_needed d_Plan_solution d_Plan_missing d_Plan_changes d_Plan_edit d_Plan_record d_Plan_require_idle d_Plan_state_at d_Plan_len d_Plan_eq t_LAST_POSITION t_MAX_TARGETS t_MAX_PIECES t_MAX_BLOCKS t_MAX_EDITS t_BATCH) : FnOk P w K mg base CX0 10 f_edit_answer d_edit_answer ["plan", "line"] sp_edit_answer := by
  refine T.F_edit_answer.ok sc_edit_answer (fun vs H Q E h => ?_) (fun cdv A outer s H vs Q E hr h => ?_)
  · obtain ⟨v, w, rfl, _⟩ := h
    rfl
  · obtain ⟨v, w, rfl, lo, len, ne, q⟩ := h
    refine ⟨_, (pss_cons (ps_asg (pe_partition (pv 1) pe_str) (pg_tup rfl (pgs_cons (pg_name (i := 2) sc_edit_answer.nd rfl (Or.inl rfl)) (pgs_cons (pg_name (i := 3) sc_edit_answer.nd rfl (Or.inl rfl)) (pgs_cons (pg_name (i := 4) sc_edit_answer.nd rfl (Or.inl rfl)) pgs_nil)))))
      (pss_cons (ps_set (i := 5) sc_edit_answer.nd rfl (Or.inl rfl) (pe_call (ok_parse_interval T) (hr.mono (by decide)) (by rfl) T.g_parse_interval T.F_parse_interval.kp T.b_parse_interval .nil pass0 (pa_cons (pv 4) pa_nil)))
      (pss_cons (ps_set (i := 6) sc_edit_answer.nd rfl (Or.inl rfl) (pe_ifExp (pt_cmpR op_isN (pv 5) pe_non (nomark _)) pe_non (pe_call (ok_edit_version T) (hr.mono (by decide)) (by rfl) T.g_edit_version T.F_edit_version.kp T.b_edit_version .nil pass0 (pa_cons (pv 0) (pa_cons (pv 2) (pa_cons (pv 5) pa_nil))))))
      (pss_one (ps_ret (pe_ifExp (pt_cmpR op_isN (pv 6) pe_non (nomark _)) pe_non (pe_joined (PJ.cons pe_str (PJ.cons (pe_fmt (pv 6)) PJ.nil))))))))), ?_⟩
    have sz : sizeLine = 16777216 := by decide
    refine ⟨.str w, rfl, ⟨_, rfl⟩, _, _, rfl, rfl, by decide +kernel, by omega, fun t nt => ?_⟩
    rw [par_eqs]
    unfold NoEdit at ne
    cases hp : TL.par [32] [] (TL.tl w) with
    | none =>
      dsimp only
      have s1 := same_new (o := .tup [V.str w, .str Str.empty, .str Str.empty]) nt
      have e1 := upd_same (H := H) (a := t) (o := .tup [V.str w, .str Str.empty, .str Str.empty])
      generalize upd H t (.tup [V.str w, .str Str.empty, .str Str.empty]) = H1 at *
      refine ⟨t, _, rfl, SqT.of e1, rfl, .str w, [.str Str.empty, .str Str.empty], rfl, .str Str.empty, [.str Str.empty], rfl, .str Str.empty, [], rfl, rfl, ?_⟩
      refine ⟨.str Str.empty, rfl, Str.empty, rfl, (fun c hc => nomatch hc), by decide, fun H2 v2 s2 oiv => ?_⟩
      rw [show TL.tl Str.empty = [] from rfl, ivf_nil] at oiv
      have e2 : v2 = .non := oiv
      subst e2
      exact ⟨_, rfl, rfl, _, rfl, iteT ⟨_, rfl, rfl, _, rfl, iteT (q _ (s1.trans s2))⟩⟩
    | some ab =>
      obtain ⟨a, b⟩ := ab
      rw [hp] at ne
      dsimp only at ne ⊢
      obtain ⟨ma, mb, la, lb⟩ := par_mems hp
      have len' : (TL.tl w).length ≤ 1000 := by rw [← TL.len_tl]; exact len
      have s1 := same_new (o := .tup [V.str ⟨a.toArray⟩, .str " ", .str ⟨b.toArray⟩]) nt
      have e1 := upd_same (H := H) (a := t) (o := .tup [V.str ⟨a.toArray⟩, .str " ", .str ⟨b.toArray⟩])
      generalize upd H t (.tup [V.str ⟨a.toArray⟩, .str " ", .str ⟨b.toArray⟩]) = H1 at *
      refine ⟨t, _, rfl, SqT.of e1, rfl, .str ⟨a.toArray⟩, [.str " ", .str ⟨b.toArray⟩], rfl, .str " ", [.str ⟨b.toArray⟩], rfl, .str ⟨b.toArray⟩, [], rfl, rfl, ?_⟩
      refine ⟨.str ⟨b.toArray⟩, rfl, _, rfl, fun c hc => lo c (mb c hc), by rw [TL.len_tl]; show b.length ≤ 1000; omega, fun H2 v2 s2 oiv => ?_⟩
      rw [show TL.tl (⟨b.toArray⟩ : Str) = b from TL.tl_mk b] at oiv
      have s12 := s1.trans s2
      cases hb : ivf b with
      | none =>
        rw [hb] at oiv
        have e2 : v2 = .non := oiv
        subst e2
        exact ⟨_, rfl, rfl, _, rfl, iteT ⟨_, rfl, rfl, _, rfl, iteT (q _ s12)⟩⟩
      | some iv =>
        rw [hb] at oiv ne
        obtain ⟨it, rfl, hit⟩ := oiv
        have nv : (⟨a.toArray⟩ : Str) ∉ verbs := ne.resolve_left (fun z => by cases z)
        refine ⟨_, rfl, rfl, _, rfl, iteF ?_⟩
        refine ⟨v, rfl, .str ⟨a.toArray⟩, rfl, .ref it, rfl, v, .ref it, ⟨a.toArray⟩, rfl, nv, ?_⟩
        exact ⟨_, rfl, rfl, _, rfl, iteT (q _ s12)⟩
theorem ok_demand_text (T : Tx K mg f_is_number f_is_position f_is_tuple_of f_is_interval f_ascending_error f_targets_error f_is_pieces f_interval_text f_joined_texts f_intervals_text f_demand_text f_parse_number f_parse_interval f_edit_version f_edit_answer f_state_answer f_count_answer f_answer_line f_without_item f_with_interval f_without_interval f_edited_state f_helpful_piece f_law_deck f_law_draw f_law_same f_law_small f_law_odd f_law_text f_law_lines f_law f_Shell_init f_Shell_execute f_Plan_init f_Plan_add_target f_Plan_add_piece f_Plan_remove_target f_Plan_remove_piece f_Plan_undo f_Plan_targets f_Plan_pieces f_Plan_needed f_Plan_solution f_Plan_missing f_Plan_changes f_Plan_edit f_Plan_record f_Plan_require_idle f_Plan_state_at f_Plan_len f_Plan_eq C_Shell C_Plan X_NothingToUndo X_Busy X_TooManyEdits X_Duplicate X_TooMany X_Unknown X_TooWide d_is_number d_is_position d_is_tuple_of d_is_interval d_ascending_error d_targets_error d_is_pieces d_interval_text d_joined_texts d_intervals_text d_demand_text d_parse_number d_parse_interval d_edit_version d_edit_answer d_state_answer d_count_answer d_answer_line d_without_item d_with_interval d_without_interval d_edited_state d_helpful_piece d_law_deck d_law_draw d_law_same d_law_small d_law_odd d_law_text d_law_lines d_law d_Shell_init d_Shell_execute d_Plan_init d_Plan_add_target d_Plan_add_piece d_Plan_remove_target d_Plan_remove_piece d_Plan_undo d_Plan_targets d_Plan_pieces d_Plan_needed d_Plan_solution d_Plan_missing d_Plan_changes d_Plan_edit d_Plan_record d_Plan_require_idle d_Plan_state_at d_Plan_len d_Plan_eq t_LAST_POSITION t_MAX_TARGETS t_MAX_PIECES t_MAX_BLOCKS t_MAX_EDITS t_BATCH) : FnOk P w K mg base CX0 2 f_demand_text d_demand_text ["demand"] (fun _ _ _ _ => False) := T.F_demand_text.ok sc_demand_text (fun vs H Q E h => h.elim) (fun cdv A outer s H vs Q E hr h => h.elim)
theorem ok_Plan_undo (T : Tx K mg f_is_number f_is_position f_is_tuple_of f_is_interval f_ascending_error f_targets_error f_is_pieces f_interval_text f_joined_texts f_intervals_text f_demand_text f_parse_number f_parse_interval f_edit_version f_edit_answer f_state_answer f_count_answer f_answer_line f_without_item f_with_interval f_without_interval f_edited_state f_helpful_piece f_law_deck f_law_draw f_law_same f_law_small f_law_odd f_law_text f_law_lines f_law f_Shell_init f_Shell_execute f_Plan_init f_Plan_add_target f_Plan_add_piece f_Plan_remove_target f_Plan_remove_piece f_Plan_undo f_Plan_targets f_Plan_pieces f_Plan_needed f_Plan_solution f_Plan_missing f_Plan_changes f_Plan_edit f_Plan_record f_Plan_require_idle f_Plan_state_at f_Plan_len f_Plan_eq C_Shell C_Plan X_NothingToUndo X_Busy X_TooManyEdits X_Duplicate X_TooMany X_Unknown X_TooWide d_is_number d_is_position d_is_tuple_of d_is_interval d_ascending_error d_targets_error d_is_pieces d_interval_text d_joined_texts d_intervals_text d_demand_text d_parse_number d_parse_interval d_edit_version d_edit_answer d_state_answer d_count_answer d_answer_line d_without_item d_with_interval d_without_interval d_edited_state d_helpful_piece d_law_deck d_law_draw d_law_same d_law_small d_law_odd d_law_text d_law_lines d_law d_Shell_init d_Shell_execute d_Plan_init d_Plan_add_target d_Plan_add_piece d_Plan_remove_target d_Plan_remove_piece d_Plan_undo d_Plan_targets d_Plan_pieces d_Plan_needed d_Plan_solution d_Plan_missing d_Plan_changes d_Plan_edit d_Plan_record d_Plan_require_idle d_Plan_state_at d_Plan_len d_Plan_eq t_LAST_POSITION t_MAX_TARGETS t_MAX_PIECES t_MAX_BLOCKS t_MAX_EDITS t_BATCH) : FnOk P w K mg base CX0 2 f_Plan_undo d_Plan_undo ["self"] (fun _ _ _ _ => False) := T.F_Plan_undo.ok sc_Plan_undo (fun vs H Q E h => h.elim) (fun cdv A outer s H vs Q E hr h => h.elim)
theorem ok_Plan_missing (T : Tx K mg f_is_number f_is_position f_is_tuple_of f_is_interval f_ascending_error f_targets_error f_is_pieces f_interval_text f_joined_texts f_intervals_text f_demand_text f_parse_number f_parse_interval f_edit_version f_edit_answer f_state_answer f_count_answer f_answer_line f_without_item f_with_interval f_without_interval f_edited_state f_helpful_piece f_law_deck f_law_draw f_law_same f_law_small f_law_odd f_law_text f_law_lines f_law f_Shell_init f_Shell_execute f_Plan_init f_Plan_add_target f_Plan_add_piece f_Plan_remove_target f_Plan_remove_piece f_Plan_undo f_Plan_targets f_Plan_pieces f_Plan_needed f_Plan_solution f_Plan_missing f_Plan_changes f_Plan_edit f_Plan_record f_Plan_require_idle f_Plan_state_at f_Plan_len f_Plan_eq C_Shell C_Plan X_NothingToUndo X_Busy X_TooManyEdits X_Duplicate X_TooMany X_Unknown X_TooWide d_is_number d_is_position d_is_tuple_of d_is_interval d_ascending_error d_targets_error d_is_pieces d_interval_text d_joined_texts d_intervals_text d_demand_text d_parse_number d_parse_interval d_edit_version d_edit_answer d_state_answer d_count_answer d_answer_line d_without_item d_with_interval d_without_interval d_edited_state d_helpful_piece d_law_deck d_law_draw d_law_same d_law_small d_law_odd d_law_text d_law_lines d_law d_Shell_init d_Shell_execute d_Plan_init d_Plan_add_target d_Plan_add_piece d_Plan_remove_target d_Plan_remove_piece d_Plan_undo d_Plan_targets d_Plan_pieces d_Plan_needed d_Plan_solution d_Plan_missing d_Plan_changes d_Plan_edit d_Plan_record d_Plan_require_idle d_Plan_state_at d_Plan_len d_Plan_eq t_LAST_POSITION t_MAX_TARGETS t_MAX_PIECES t_MAX_BLOCKS t_MAX_EDITS t_BATCH) : FnOk P w K mg base CX0 3 f_Plan_missing d_Plan_missing ["self", "version"] (fun _ _ _ _ => False) := T.F_Plan_missing.ok sc_Plan_missing (fun vs H Q E h => h.elim) (fun cdv A outer s H vs Q E hr h => h.elim)
theorem ok_Plan_needed (T : Tx K mg f_is_number f_is_position f_is_tuple_of f_is_interval f_ascending_error f_targets_error f_is_pieces f_interval_text f_joined_texts f_intervals_text f_demand_text f_parse_number f_parse_interval f_edit_version f_edit_answer f_state_answer f_count_answer f_answer_line f_without_item f_with_interval f_without_interval f_edited_state f_helpful_piece f_law_deck f_law_draw f_law_same f_law_small f_law_odd f_law_text f_law_lines f_law f_Shell_init f_Shell_execute f_Plan_init f_Plan_add_target f_Plan_add_piece f_Plan_remove_target f_Plan_remove_piece f_Plan_undo f_Plan_targets f_Plan_pieces f_Plan_needed f_Plan_solution f_Plan_missing f_Plan_changes f_Plan_edit f_Plan_record f_Plan_require_idle f_Plan_state_at f_Plan_len f_Plan_eq C_Shell C_Plan X_NothingToUndo X_Busy X_TooManyEdits X_Duplicate X_TooMany X_Unknown X_TooWide d_is_number d_is_position d_is_tuple_of d_is_interval d_ascending_error d_targets_error d_is_pieces d_interval_text d_joined_texts d_intervals_text d_demand_text d_parse_number d_parse_interval d_edit_version d_edit_answer d_state_answer d_count_answer d_answer_line d_without_item d_with_interval d_without_interval d_edited_state d_helpful_piece d_law_deck d_law_draw d_law_same d_law_small d_law_odd d_law_text d_law_lines d_law d_Shell_init d_Shell_execute d_Plan_init d_Plan_add_target d_Plan_add_piece d_Plan_remove_target d_Plan_remove_piece d_Plan_undo d_Plan_targets d_Plan_pieces d_Plan_needed d_Plan_solution d_Plan_missing d_Plan_changes d_Plan_edit d_Plan_record d_Plan_require_idle d_Plan_state_at d_Plan_len d_Plan_eq t_LAST_POSITION t_MAX_TARGETS t_MAX_PIECES t_MAX_BLOCKS t_MAX_EDITS t_BATCH) : FnOk P w K mg base CX0 3 f_Plan_needed d_Plan_needed ["self", "version"] (fun _ _ _ _ => False) := T.F_Plan_needed.ok sc_Plan_needed (fun vs H Q E h => h.elim) (fun cdv A outer s H vs Q E hr h => h.elim)
theorem ok_Plan_solution (T : Tx K mg f_is_number f_is_position f_is_tuple_of f_is_interval f_ascending_error f_targets_error f_is_pieces f_interval_text f_joined_texts f_intervals_text f_demand_text f_parse_number f_parse_interval f_edit_version f_edit_answer f_state_answer f_count_answer f_answer_line f_without_item f_with_interval f_without_interval f_edited_state f_helpful_piece f_law_deck f_law_draw f_law_same f_law_small f_law_odd f_law_text f_law_lines f_law f_Shell_init f_Shell_execute f_Plan_init f_Plan_add_target f_Plan_add_piece f_Plan_remove_target f_Plan_remove_piece f_Plan_undo f_Plan_targets f_Plan_pieces f_Plan_needed f_Plan_solution f_Plan_missing f_Plan_changes f_Plan_edit f_Plan_record f_Plan_require_idle f_Plan_state_at f_Plan_len f_Plan_eq C_Shell C_Plan X_NothingToUndo X_Busy X_TooManyEdits X_Duplicate X_TooMany X_Unknown X_TooWide d_is_number d_is_position d_is_tuple_of d_is_interval d_ascending_error d_targets_error d_is_pieces d_interval_text d_joined_texts d_intervals_text d_demand_text d_parse_number d_parse_interval d_edit_version d_edit_answer d_state_answer d_count_answer d_answer_line d_without_item d_with_interval d_without_interval d_edited_state d_helpful_piece d_law_deck d_law_draw d_law_same d_law_small d_law_odd d_law_text d_law_lines d_law d_Shell_init d_Shell_execute d_Plan_init d_Plan_add_target d_Plan_add_piece d_Plan_remove_target d_Plan_remove_piece d_Plan_undo d_Plan_targets d_Plan_pieces d_Plan_needed d_Plan_solution d_Plan_missing d_Plan_changes d_Plan_edit d_Plan_record d_Plan_require_idle d_Plan_state_at d_Plan_len d_Plan_eq t_LAST_POSITION t_MAX_TARGETS t_MAX_PIECES t_MAX_BLOCKS t_MAX_EDITS t_BATCH) : FnOk P w K mg base CX0 3 f_Plan_solution d_Plan_solution ["self", "version"] (fun _ _ _ _ => False) := T.F_Plan_solution.ok sc_Plan_solution (fun vs H Q E h => h.elim) (fun cdv A outer s H vs Q E hr h => h.elim)
theorem ok_Plan_changes (T : Tx K mg f_is_number f_is_position f_is_tuple_of f_is_interval f_ascending_error f_targets_error f_is_pieces f_interval_text f_joined_texts f_intervals_text f_demand_text f_parse_number f_parse_interval f_edit_version f_edit_answer f_state_answer f_count_answer f_answer_line f_without_item f_with_interval f_without_interval f_edited_state f_helpful_piece f_law_deck f_law_draw f_law_same f_law_small f_law_odd f_law_text f_law_lines f_law f_Shell_init f_Shell_execute f_Plan_init f_Plan_add_target f_Plan_add_piece f_Plan_remove_target f_Plan_remove_piece f_Plan_undo f_Plan_targets f_Plan_pieces f_Plan_needed f_Plan_solution f_Plan_missing f_Plan_changes f_Plan_edit f_Plan_record f_Plan_require_idle f_Plan_state_at f_Plan_len f_Plan_eq C_Shell C_Plan X_NothingToUndo X_Busy X_TooManyEdits X_Duplicate X_TooMany X_Unknown X_TooWide d_is_number d_is_position d_is_tuple_of d_is_interval d_ascending_error d_targets_error d_is_pieces d_interval_text d_joined_texts d_intervals_text d_demand_text d_parse_number d_parse_interval d_edit_version d_edit_answer d_state_answer d_count_answer d_answer_line d_without_item d_with_interval d_without_interval d_edited_state d_helpful_piece d_law_deck d_law_draw d_law_same d_law_small d_law_odd d_law_text d_law_lines d_law d_Shell_init d_Shell_execute d_Plan_init d_Plan_add_target d_Plan_add_piece d_Plan_remove_target d_Plan_remove_piece d_Plan_undo d_Plan_targets d_Plan_pieces d_Plan_needed d_Plan_solution d_Plan_missing d_Plan_changes d_Plan_edit d_Plan_record d_Plan_require_idle d_Plan_state_at d_Plan_len d_Plan_eq t_LAST_POSITION t_MAX_TARGETS t_MAX_PIECES t_MAX_BLOCKS t_MAX_EDITS t_BATCH) : FnOk P w K mg base CX0 1 f_Plan_changes d_Plan_changes ["self"] (fun _ _ _ _ => False) := T.F_Plan_changes.ok sc_Plan_changes (fun vs H Q E h => h.elim) (fun cdv A outer s H vs Q E hr h => h.elim)
def sp_one (ws : List Str) : Sp := fun vs H Q _ => ∃ (v : V) (w : Str), vs = [v, .str w] ∧ w ∉ ws ∧ Q .non H
theorem ok_state_answer (T : Tx K mg f_is_number f_is_position f_is_tuple_of f_is_interval f_ascending_error f_targets_error f_is_pieces f_interval_text f_joined_texts f_intervals_text f_demand_text f_parse_number f_parse_interval f_edit_version f_edit_answer f_state_answer f_count_answer f_answer_line f_without_item f_with_interval f_without_interval f_edited_state f_helpful_piece f_law_deck f_law_draw f_law_same f_law_small f_law_odd f_law_text f_law_lines f_law f_Shell_init f_Shell_execute f_Plan_init f_Plan_add_target f_Plan_add_piece f_Plan_remove_target f_Plan_remove_piece f_Plan_undo f_Plan_targets f_Plan_pieces f_Plan_needed f_Plan_solution f_Plan_missing f_Plan_changes f_Plan_edit f_Plan_record f_Plan_require_idle f_Plan_state_at f_Plan_len f_Plan_eq C_Shell C_Plan X_NothingToUndo X_Busy X_TooManyEdits X_Duplicate X_TooMany X_Unknown X_TooWide d_is_number d_is_position d_is_tuple_of d_is_interval d_ascending_error d_targets_error d_is_pieces d_interval_text d_joined_texts d_intervals_text d_demand_text d_parse_number d_parse_interval d_edit_version d_edit_answer d_state_answer d_count_answer d_answer_line d_without_item d_with_interval d_without_interval d_edited_state d_helpful_piece d_law_deck d_law_draw d_law_same d_law_small d_law_odd d_law_text d_law_lines d_law d_Shell_init d_Shell_execute d_Plan_init d_Plan_add_target d_Plan_add_piece d_Plan_remove_target d_Plan_remove_piece d_Plan_undo d_Plan_targets d_Plan_pieces d_Plan_needed d_Plan_solution d_Plan_missing d_Plan_changes d_Plan_edit d_Plan_record d_Plan_require_idle d_Plan_state_at d_Plan_len d_Plan_eq t_LAST_POSITION t_MAX_TARGETS t_MAX_PIECES t_MAX_BLOCKS t_MAX_EDITS t_BATCH) : FnOk P w K mg base CX0 6 f_state_answer d_state_answer ["plan", "word"] (sp_one ["undo", "targets", "pieces", "missing"]) := by
  refine T.F_state_answer.ok sc_state_answer (fun vs H Q E h => ?_) (fun cdv A outer s H vs Q E hr h => ?_)
  · obtain ⟨v, w, rfl, _⟩ := h
    rfl
  · obtain ⟨v, w, rfl, nw, q⟩ := h
    refine ⟨_, (pss_cons (ps_if (pt_cmpR op_eq (pv 1) pe_str (nomark _))
      (pss_one (ps_ret (pe_joined (PJ.cons pe_str (PJ.cons (pe_fmt (pe_meth0 (pv 0) T.cl_Plan T.m_Plan_undo (ok_Plan_undo T) (hr.mono (by decide)) T.b_Plan_undo .nil pass0)) PJ.nil)))))
      pss_nil)
      (pss_cons (ps_if (pt_cmpR op_eq (pv 1) pe_str (nomark _))
      (pss_one (ps_ret (pe_call (ok_intervals_text T) (hr.mono (by decide)) (by rfl) T.g_intervals_text T.F_intervals_text.kp T.b_intervals_text .nil pass0 (pa_cons (pe_meth0 (pv 0) T.cl_Plan T.m_Plan_targets (ok_Plan_targets T) (hr.mono (by decide)) T.b_Plan_targets.choose_spec.2 T.b_Plan_targets.choose_spec.1 pass0) pa_nil))))
      pss_nil)
      (pss_cons (ps_if (pt_cmpR op_eq (pv 1) pe_str (nomark _))
      (pss_one (ps_ret (pe_call (ok_intervals_text T) (hr.mono (by decide)) (by rfl) T.g_intervals_text T.F_intervals_text.kp T.b_intervals_text .nil pass0 (pa_cons (pe_meth0 (pv 0) T.cl_Plan T.m_Plan_pieces (ok_Plan_pieces T) (hr.mono (by decide)) T.b_Plan_pieces.choose_spec.2 T.b_Plan_pieces.choose_spec.1 pass0) pa_nil))))
      pss_nil)
      (pss_cons (ps_if (pt_cmpR op_eq (pv 1) pe_str (nomark _))
      (pss_cons (ps_set (i := 2) sc_state_answer.nd rfl (Or.inl rfl) (pe_meth0 (pv 0) T.cl_Plan T.m_Plan_missing (ok_Plan_missing T) (hr.mono (by decide)) T.b_Plan_missing.choose_spec.2 T.b_Plan_missing.choose_spec.1 pass0))
      (pss_one (ps_ret (pe_ifExp (pt_cmpR op_isN (pv 2) pe_non (nomark _)) pe_str (pe_call (ok_demand_text T) (hr.mono (by decide)) (by rfl) T.g_demand_text T.F_demand_text.kp T.b_demand_text .nil pass0 (pa_cons (pv 2) pa_nil))))))
      pss_nil)
      (pss_one (ps_ret pe_non)))))), ?_⟩
    have wi : ∀ {x : Str}, x ∈ [("undo" : Str), "targets", "pieces", "missing"] → ¬ (decide (V.str w = V.str x) = true) := fun hx => wneq fun e => nw (e ▸ hx)
    refine ⟨_, rfl, rfl, _, rfl, ite2 (fun z => absurd z (wi (by simp))) (fun _ => ?_)⟩
    refine ⟨_, rfl, rfl, _, rfl, ite2 (fun z => absurd z (wi (by simp))) (fun _ => ?_)⟩
    refine ⟨_, rfl, rfl, _, rfl, ite2 (fun z => absurd z (wi (by simp))) (fun _ => ?_)⟩
    refine ⟨_, rfl, rfl, _, rfl, ite2 (fun z => absurd z (wi (by simp))) (fun _ => ?_)⟩
    exact q
theorem ok_count_answer (T : Tx K mg f_is_number f_is_position f_is_tuple_of f_is_interval f_ascending_error f_targets_error f_is_pieces f_interval_text f_joined_texts f_intervals_text f_demand_text f_parse_number f_parse_interval f_edit_version f_edit_answer f_state_answer f_count_answer f_answer_line f_without_item f_with_interval f_without_interval f_edited_state f_helpful_piece f_law_deck f_law_draw f_law_same f_law_small f_law_odd f_law_text f_law_lines f_law f_Shell_init f_Shell_execute f_Plan_init f_Plan_add_target f_Plan_add_piece f_Plan_remove_target f_Plan_remove_piece f_Plan_undo f_Plan_targets f_Plan_pieces f_Plan_needed f_Plan_solution f_Plan_missing f_Plan_changes f_Plan_edit f_Plan_record f_Plan_require_idle f_Plan_state_at f_Plan_len f_Plan_eq C_Shell C_Plan X_NothingToUndo X_Busy X_TooManyEdits X_Duplicate X_TooMany X_Unknown X_TooWide d_is_number d_is_position d_is_tuple_of d_is_interval d_ascending_error d_targets_error d_is_pieces d_interval_text d_joined_texts d_intervals_text d_demand_text d_parse_number d_parse_interval d_edit_version d_edit_answer d_state_answer d_count_answer d_answer_line d_without_item d_with_interval d_without_interval d_edited_state d_helpful_piece d_law_deck d_law_draw d_law_same d_law_small d_law_odd d_law_text d_law_lines d_law d_Shell_init d_Shell_execute d_Plan_init d_Plan_add_target d_Plan_add_piece d_Plan_remove_target d_Plan_remove_piece d_Plan_undo d_Plan_targets d_Plan_pieces d_Plan_needed d_Plan_solution d_Plan_missing d_Plan_changes d_Plan_edit d_Plan_record d_Plan_require_idle d_Plan_state_at d_Plan_len d_Plan_eq t_LAST_POSITION t_MAX_TARGETS t_MAX_PIECES t_MAX_BLOCKS t_MAX_EDITS t_BATCH) : FnOk P w K mg base CX0 6 f_count_answer d_count_answer ["plan", "word"] (sp_one ["needed", "solve", "witnesses", "changes"]) := by
  refine T.F_count_answer.ok sc_count_answer (fun vs H Q E h => ?_) (fun cdv A outer s H vs Q E hr h => ?_)
  · obtain ⟨v, w, rfl, _⟩ := h
    rfl
  · obtain ⟨v, w, rfl, nw, q⟩ := h
    refine ⟨_, (pss_cons (ps_if (pt_cmpR op_eq (pv 1) pe_str (nomark _))
      (pss_one (ps_ret (pe_callTy call_str_int (by rfl) T.z_str (by decide +kernel) (pa_cons (pe_meth0 (pv 0) T.cl_Plan T.m_Plan_needed (ok_Plan_needed T) (hr.mono (by decide)) T.b_Plan_needed.choose_spec.2 T.b_Plan_needed.choose_spec.1 pass0) pa_nil))))
      pss_nil)
      (pss_cons (ps_if (pt_cmpR op_eq (pv 1) pe_str (nomark _))
      (pss_one (ps_ret (pe_call (ok_intervals_text T) (hr.mono (by decide)) (by rfl) T.g_intervals_text T.F_intervals_text.kp T.b_intervals_text .nil pass0 (pa_cons (pe_ix ix_tup (pe_meth0 (pv 0) T.cl_Plan T.m_Plan_solution (ok_Plan_solution T) (hr.mono (by decide)) T.b_Plan_solution.choose_spec.2 T.b_Plan_solution.choose_spec.1 pass0) pe_int (fun _ _ => rfl)) pa_nil))))
      pss_nil)
      (pss_cons (ps_if (pt_cmpR op_eq (pv 1) pe_str (nomark _))
      (pss_one (ps_ret (pe_call (ok_joined_texts T) (hr.mono (by decide)) (by rfl) T.g_joined_texts T.F_joined_texts.kp T.b_joined_texts .nil pass0 (pa_cons (pe_lc (own := [("demand", 2)]) (g := (gName 2)) (tt := tYes) (by rfl) sc_count_answer.nd (pi_tup (pe_ix ix_tup (pe_meth0 (pv 0) T.cl_Plan T.m_Plan_solution (ok_Plan_solution T) (hr.mono (by decide)) T.b_Plan_solution.choose_spec.2 T.b_Plan_solution.choose_spec.1 pass0) pe_int (fun _ _ => rfl))) (blkOk_by (own := [("demand", 2)]) (N := N_count_answer) (sc := defScope s_count_answer) (by decide +kernel)) (fun _ _ _ _ _ => (pg_name (i := 2) sc_count_answer.nd rfl (Or.inl rfl))) (fun _ _ _ _ _ => pts_nil) (fun _ _ _ _ _ => (pe_call (ok_demand_text T) (hr.mono (by decide)) (by rfl) T.g_demand_text T.F_demand_text.kp T.b_demand_text .nil pass0 (pa_cons (pv 2) pa_nil)))) pa_nil))))
      pss_nil)
      (pss_cons (ps_if (pt_cmpR op_eq (pv 1) pe_str (nomark _))
      (pss_one (ps_ret (pe_call (ok_joined_texts T) (hr.mono (by decide)) (by rfl) T.g_joined_texts T.F_joined_texts.kp T.b_joined_texts .nil pass0 (pa_cons (pe_lc (own := [("change", 3)]) (g := (gName 3)) (tt := tYes) (by rfl) sc_count_answer.nd (pi_tup (pe_meth0 (pv 0) T.cl_Plan T.m_Plan_changes (ok_Plan_changes T) (hr.mono (by decide)) T.b_Plan_changes .nil pass0)) (blkOk_by (own := [("change", 3)]) (N := N_count_answer) (sc := defScope s_count_answer) (by decide +kernel)) (fun _ _ _ _ _ => (pg_name (i := 3) sc_count_answer.nd rfl (Or.inl rfl))) (fun _ _ _ _ _ => pts_nil) (fun _ _ _ _ _ => (pe_callTy call_str_int (by rfl) T.z_str (by decide +kernel) (pa_cons (pv 3) pa_nil)))) pa_nil))))
      pss_nil)
      (pss_one (ps_ret pe_non)))))), ?_⟩
    have wi : ∀ {x : Str}, x ∈ [("needed" : Str), "solve", "witnesses", "changes"] → ¬ (decide (V.str w = V.str x) = true) := fun hx => wneq fun e => nw (e ▸ hx)
    refine ⟨_, rfl, rfl, _, rfl, ite2 (fun z => absurd z (wi (by simp))) (fun _ => ?_)⟩
    refine ⟨_, rfl, rfl, _, rfl, ite2 (fun z => absurd z (wi (by simp))) (fun _ => ?_)⟩
    refine ⟨_, rfl, rfl, _, rfl, ite2 (fun z => absurd z (wi (by simp))) (fun _ => ?_)⟩
    refine ⟨_, rfl, rfl, _, rfl, ite2 (fun z => absurd z (wi (by simp))) (fun _ => ?_)⟩
    exact q
def strB : PyData → Bool
  | .str _ => true
  | _ => false
theorem kit_str {K : PySem.W.Frag} (d : PyData) : PySem.W.kitOne K (.type (tyD d)) (.type "str") = some (strB d) := by
  cases d with
  | none => exact kit_ty (a := "NoneType") (b := "str") (r := false) (by decide +kernel)
  | bool _ => exact kit_ty (a := "bool") (b := "str") (r := false) (by decide +kernel)
  | int _ => exact kit_ty (a := "int") (b := "str") (r := false) (by decide +kernel)
  | str _ => exact kit_ty (a := "str") (b := "str") (r := true) (by decide +kernel)
  | list _ => exact kit_ty (a := "list") (b := "str") (r := false) (by decide +kernel)
  | tuple _ => exact kit_ty (a := "tuple") (b := "str") (r := false) (by decide +kernel)
  | dict _ => exact kit_ty (a := "dict") (b := "str") (r := false) (by decide +kernel)
/-- a value that is no command -/
def Odd (K : PySem.W.Frag) (H : Hp) (v : V) : Prop := (∃ w, v = .str w ∧ NoCmd w) ∨ ∃ d, Dv K H v d ∧ strB d = false
def sp_answer (K : PySem.W.Frag) : Sp := fun vs H Q _ => ∃ (p v : V), vs = [p, v] ∧ Odd K H v ∧ ∀ H', Same H H' → Q (.str "unknown command") H'
theorem ok_answer_line (T : Tx K mg f_is_number f_is_position f_is_tuple_of f_is_interval f_ascending_error f_targets_error f_is_pieces f_interval_text f_joined_texts f_intervals_text f_demand_text f_parse_number f_parse_interval f_edit_version f_edit_answer f_state_answer f_count_answer f_answer_line f_without_item f_with_interval f_without_interval f_edited_state f_helpful_piece f_law_deck f_law_draw f_law_same f_law_small f_law_odd f_law_text f_law_lines f_law f_Shell_init f_Shell_execute f_Plan_init f_Plan_add_target f_Plan_add_piece f_Plan_remove_target f_Plan_remove_piece f_Plan_undo f_Plan_targets f_Plan_pieces f_Plan_needed f_Plan_solution f_Plan_missing f_Plan_changes f_Plan_edit f_Plan_record f_Plan_require_idle f_Plan_state_at f_Plan_len f_Plan_eq C_Shell C_Plan X_NothingToUndo X_Busy X_TooManyEdits X_Duplicate X_TooMany X_Unknown X_TooWide d_is_number d_is_position d_is_tuple_of d_is_interval d_ascending_error d_targets_error d_is_pieces d_interval_text d_joined_texts d_intervals_text d_demand_text d_parse_number d_parse_interval d_edit_version d_edit_answer d_state_answer d_count_answer d_answer_line d_without_item d_with_interval d_without_interval d_edited_state d_helpful_piece d_law_deck d_law_draw d_law_same d_law_small d_law_odd d_law_text d_law_lines d_law d_Shell_init d_Shell_execute d_Plan_init d_Plan_add_target d_Plan_add_piece d_Plan_remove_target d_Plan_remove_piece d_Plan_undo d_Plan_targets d_Plan_pieces d_Plan_needed d_Plan_solution d_Plan_missing d_Plan_changes d_Plan_edit d_Plan_record d_Plan_require_idle d_Plan_state_at d_Plan_len d_Plan_eq t_LAST_POSITION t_MAX_TARGETS t_MAX_PIECES t_MAX_BLOCKS t_MAX_EDITS t_BATCH) : FnOk P w K mg base CX0 11 f_answer_line d_answer_line ["plan", "line"] (sp_answer K) := by
  refine T.F_answer_line.ok sc_answer_line (fun vs H Q E h => ?_) (fun cdv A outer s H vs Q E hr h => ?_)
  · obtain ⟨p, v, rfl, _⟩ := h
    rfl
  · obtain ⟨p, v, rfl, od, q⟩ := h
    refine ⟨_, (pss_cons (ps_if (pt_not (pt_val (pe_callB call_isi (by rfl) T.z_isinstance (by decide +kernel) (pa_cons (pv 1) (pa_cons (pe_bltn (v := .ty "str") (u := .type "str") (by rfl) T.z_str (by decide +kernel) rfl) pa_nil)))))
      (pss_one (ps_ret pe_str))
      pss_nil)
      (pss_one (ps_ret (pe_orT (pe_call (ok_edit_answer T) (hr.mono (by decide)) (by rfl) T.g_edit_answer T.F_edit_answer.kp T.b_edit_answer .nil pass0 (pa_cons (pv 0) (pa_cons (pv 1) pa_nil))) (pe_orT (pe_call (ok_state_answer T) (hr.mono (by decide)) (by rfl) T.g_state_answer T.F_state_answer.kp T.b_state_answer .nil pass0 (pa_cons (pv 0) (pa_cons (pv 1) pa_nil))) (pe_orT (pe_call (ok_count_answer T) (hr.mono (by decide)) (by rfl) T.g_count_answer T.F_count_answer.kp T.b_count_answer .nil pass0 (pa_cons (pv 0) (pa_cons (pv 1) pa_nil))) (pe_one pe_str))))))), ?_⟩
    rcases od with ⟨w, rfl, nc⟩ | ⟨d, hd, nd⟩
    · refine ⟨.str w, rfl, .str w, .ty "str", _, _, _, rfl, .ty "str", (Dv.str (K := K) (H := H) w).ty, kit_str _, _, rfl, iteF ?_⟩
      refine ⟨p, rfl, .str w, rfl, p, w, rfl, nc.low, nc.few, nc.ed, fun H1 s1 => ⟨false, rfl, iteF ?_⟩⟩
      refine ⟨p, rfl, .str w, rfl, p, w, rfl, (fun h => nc.one (show w ∈ (["undo", "targets", "pieces", "missing"] : List Str) ++ (["needed", "solve", "witnesses", "changes"] : List Str) from List.mem_append_left _ h)), ⟨false, rfl, iteF ?_⟩⟩
      refine ⟨p, rfl, .str w, rfl, p, w, rfl, (fun h => nc.one (show w ∈ (["undo", "targets", "pieces", "missing"] : List Str) ++ (["needed", "solve", "witnesses", "changes"] : List Str) from List.mem_append_right _ h)), ⟨false, rfl, iteF ?_⟩⟩
      exact q _ s1
    · refine ⟨v, rfl, v, .ty "str", _, _, _, rfl, .ty "str", hd.ty, kit_str d, _, rfl, ?_⟩
      rw [nd]
      exact iteT (q _ (Same.refl _))
/-! ### shells -/
structure ShellAt (C : Addr) (H : Hp) (s p : Addr) : Prop where
  ex : ∃ dx, H s = some (.ins C dx [("plan", .ref p)])
def sp_sinit (C : Addr) : Sp := fun vs H Q _ => ∃ (s dx p : Addr), vs = [.ref s, .ref p] ∧ H s = some (.ins C dx []) ∧ Q .non (upd H s (.ins C dx [("plan", .ref p)]))
theorem ok_Shell_init (T : Tx K mg f_is_number f_is_position f_is_tuple_of f_is_interval f_ascending_error f_targets_error f_is_pieces f_interval_text f_joined_texts f_intervals_text f_demand_text f_parse_number f_parse_interval f_edit_version f_edit_answer f_state_answer f_count_answer f_answer_line f_without_item f_with_interval f_without_interval f_edited_state f_helpful_piece f_law_deck f_law_draw f_law_same f_law_small f_law_odd f_law_text f_law_lines f_law f_Shell_init f_Shell_execute f_Plan_init f_Plan_add_target f_Plan_add_piece f_Plan_remove_target f_Plan_remove_piece f_Plan_undo f_Plan_targets f_Plan_pieces f_Plan_needed f_Plan_solution f_Plan_missing f_Plan_changes f_Plan_edit f_Plan_record f_Plan_require_idle f_Plan_state_at f_Plan_len f_Plan_eq C_Shell C_Plan X_NothingToUndo X_Busy X_TooManyEdits X_Duplicate X_TooMany X_Unknown X_TooWide d_is_number d_is_position d_is_tuple_of d_is_interval d_ascending_error d_targets_error d_is_pieces d_interval_text d_joined_texts d_intervals_text d_demand_text d_parse_number d_parse_interval d_edit_version d_edit_answer d_state_answer d_count_answer d_answer_line d_without_item d_with_interval d_without_interval d_edited_state d_helpful_piece d_law_deck d_law_draw d_law_same d_law_small d_law_odd d_law_text d_law_lines d_law d_Shell_init d_Shell_execute d_Plan_init d_Plan_add_target d_Plan_add_piece d_Plan_remove_target d_Plan_remove_piece d_Plan_undo d_Plan_targets d_Plan_pieces d_Plan_needed d_Plan_solution d_Plan_missing d_Plan_changes d_Plan_edit d_Plan_record d_Plan_require_idle d_Plan_state_at d_Plan_len d_Plan_eq t_LAST_POSITION t_MAX_TARGETS t_MAX_PIECES t_MAX_BLOCKS t_MAX_EDITS t_BATCH) : FnOk P w K mg base CX0 1 f_Shell_init d_Shell_init ["self", "plan"] (sp_sinit C_Shell) := by
  refine T.F_Shell_init.ok sc_Shell_init (fun vs H Q E h => ?_) (fun cdv A outer s H vs Q E hr h => ?_)
  · obtain ⟨s, dx, p, rfl, _⟩ := h
    rfl
  · obtain ⟨s, dx, p, rfl, hs, q⟩ := h
    refine ⟨_, (pss_one (ps_fld (pv 0) (pv 1) rfl)), ?_⟩
    exact ⟨.ref p, rfl, .ref s, rfl, s, C_Shell, dx, [], rfl, hs, T.cl_Shell, T.n_Shell_plan, by show 0 < 1000; decide, q⟩
def sp_execute (CS : Addr) (K : PySem.W.Frag) : Sp := fun vs H Q _ => ∃ (s p : Addr) (v : V), vs = [.ref s, v] ∧ ShellAt CS H s p ∧ Odd K H v ∧ ∀ H', Same H H' → Q (.str "unknown command") H'
theorem ok_Shell_execute (T : Tx K mg f_is_number f_is_position f_is_tuple_of f_is_interval f_ascending_error f_targets_error f_is_pieces f_interval_text f_joined_texts f_intervals_text f_demand_text f_parse_number f_parse_interval f_edit_version f_edit_answer f_state_answer f_count_answer f_answer_line f_without_item f_with_interval f_without_interval f_edited_state f_helpful_piece f_law_deck f_law_draw f_law_same f_law_small f_law_odd f_law_text f_law_lines f_law f_Shell_init f_Shell_execute f_Plan_init f_Plan_add_target f_Plan_add_piece f_Plan_remove_target f_Plan_remove_piece f_Plan_undo f_Plan_targets f_Plan_pieces f_Plan_needed f_Plan_solution f_Plan_missing f_Plan_changes f_Plan_edit f_Plan_record f_Plan_require_idle f_Plan_state_at f_Plan_len f_Plan_eq C_Shell C_Plan X_NothingToUndo X_Busy X_TooManyEdits X_Duplicate X_TooMany X_Unknown X_TooWide d_is_number d_is_position d_is_tuple_of d_is_interval d_ascending_error d_targets_error d_is_pieces d_interval_text d_joined_texts d_intervals_text d_demand_text d_parse_number d_parse_interval d_edit_version d_edit_answer d_state_answer d_count_answer d_answer_line d_without_item d_with_interval d_without_interval d_edited_state d_helpful_piece d_law_deck d_law_draw d_law_same d_law_small d_law_odd d_law_text d_law_lines d_law d_Shell_init d_Shell_execute d_Plan_init d_Plan_add_target d_Plan_add_piece d_Plan_remove_target d_Plan_remove_piece d_Plan_undo d_Plan_targets d_Plan_pieces d_Plan_needed d_Plan_solution d_Plan_missing d_Plan_changes d_Plan_edit d_Plan_record d_Plan_require_idle d_Plan_state_at d_Plan_len d_Plan_eq t_LAST_POSITION t_MAX_TARGETS t_MAX_PIECES t_MAX_BLOCKS t_MAX_EDITS t_BATCH) : FnOk P w K mg base CX0 12 f_Shell_execute d_Shell_execute ["self", "line"] (sp_execute C_Shell K) := by
  refine T.F_Shell_execute.ok sc_Shell_execute (fun vs H Q E h => ?_) (fun cdv A outer s H vs Q E hr h => ?_)
  · obtain ⟨s, p, v, rfl, _⟩ := h
    rfl
  · obtain ⟨s, p, v, rfl, sh, od, q⟩ := h
    refine ⟨_, (pss_one (ps_try_many (Wout := fun _ _ _ _ => False) rfl rfl takes0
      (fun W pn xe tk _ => (pss_one (ps_ret (pe_call (ok_answer_line T) (hr.mono (by decide)) (by rfl) T.g_answer_line T.F_answer_line.kp T.b_answer_line .nil pass0 (pa_cons (show PE _ _ (tFld K _ _) from pe_fld (pv 0) rfl) (pa_cons (pv 1) pa_nil))))))
      (.cons ⟨rfl, by decide, .inl T.xn_Busy.g⟩ (fun ea oe cls ed pn hz hf => (pss_one (ps_ret pe_str))) (.cons ⟨rfl, by decide, .inl T.xn_TooManyEdits.g⟩ (fun ea oe cls ed pn hz hf => (pss_one (ps_ret pe_str))) (.cons ⟨rfl, by decide, .inl T.xn_Duplicate.g⟩ (fun ea oe cls ed pn hz hf => (pss_one (ps_ret pe_str))) (.cons ⟨rfl, by decide, .inl T.xn_TooMany.g⟩ (fun ea oe cls ed pn hz hf => (pss_one (ps_ret pe_str))) (.cons ⟨rfl, by decide, .inl T.xn_Unknown.g⟩ (fun ea oe cls ed pn hz hf => (pss_one (ps_ret pe_str))) (.cons ⟨rfl, by decide, .inl T.xn_NothingToUndo.g⟩ (fun ea oe cls ed pn hz hf => (pss_one (ps_ret pe_str))) (.cons ⟨rfl, by decide, .inl T.xn_TooWide.g⟩ (fun ea oe cls ed pn hz hf => (pss_one (ps_ret pe_str))) .nil))))))))), ?_⟩
    obtain ⟨dx, hs⟩ := sh.ex
    refine ⟨.ref s, rfl, s, C_Shell, dx, _, .ref p, rfl, hs, T.cl_Shell, T.n_Shell_plan, rfl, v, rfl, ?_⟩
    exact ⟨.ref p, v, rfl, od, q⟩

/-! ### more of tuples: t == (), t >= u -/
section
variable {X : Cx}
def rEqE (K : PySem.W.Frag) : R2 := fun x y H Q => ∃ (a b : Addr) (xs : List V), x = .ref a ∧ y = .ref b ∧ SqT K H a xs ∧ SqT K H b [] ∧ Q (.bl xs.isEmpty) H
theorem op_eqE (units : X.A.units < cLine) : OpR X (compareOp .Eq) (rEqE X.K) := by
  intro pins s σ H x y v u Q I rx ry h
  obtain ⟨a, b, xs, rfl, rfl, ha, hb, q⟩ := h
  cases rx
  cases ry
  obtain ⟨its, r1, p1, _⟩ := I.tuple ha
  obtain ⟨its2, r2, p2, _⟩ := I.tuple hb
  cases r2
  apply SeqAt.eq_tupleAt (e := fun _ => true) (show s.heap.IsTuple a its.toArray from p1) (show s.heap.IsTuple b ([] : List Value).toArray from p2) units
  · intro j h1 h2
    exact absurd h2 (Nat.not_lt_zero j)
  · refine ⟨.bl xs.isEmpty, H, I, ?_, q⟩
    cases r1 with
    | nil => rfl
    | cons r t => rfl
def rGeT (K : PySem.W.Frag) : R2 := fun x y H Q => ∃ (a b : Addr) (ns ms : List Int), x = .ref a ∧ y = .ref b ∧ SqT K H a (ns.map V.int) ∧ SqT K H b (ms.map V.int) ∧
  Q (.bl (Ob.lexAt (fun j => decide (ns.getD j 0 = ms.getD j 0)) (fun j => decide (ms.getD j 0 ≤ ns.getD j 0)) (decide (ns.length ≥ ms.length)) 0 (min ns.length ms.length))) H
theorem op_geT (units : X.A.units < cLine) : OpR X (compareOp .GtE) (rGeT X.K) := by
  intro pins s σ H x y v u Q I rx ry h
  obtain ⟨a, b, ns, ms, rfl, rfl, ha, hb, q⟩ := h
  cases rx
  cases ry
  obtain ⟨us, r1, p1, _⟩ := I.tuple ha
  obtain ⟨ws, r2, p2, _⟩ := I.tuple hb
  have w1 : IntsAre us ns := Vals.ints r1
  have w2 : IntsAre ws ms := Vals.ints r2
  have l1 : us.toArray.size = ns.length := List.size_toArray.trans w1.length
  have l2 : ws.toArray.size = ms.length := List.size_toArray.trans w2.length
  have g1 : ∀ j (hj : j < us.toArray.size), ∃ t, us.toArray[j] = .int (ns.getD j 0) t := by
    intro j hj
    apply PyProof.Rows.IntsAre.int_at w1
    simp at hj
    simp [hj]
  have g2 : ∀ j (hj : j < ws.toArray.size), ∃ t, ws.toArray[j] = .int (ms.getD j 0) t := by
    intro j hj
    apply PyProof.Rows.IntsAre.int_at w2
    simp at hj
    simp [hj]
  have eqs : ∀ (i j : Int) (t u : Tok), SeqAt.EqAt X.A.in1 s (.int i t) (.int j u) (decide (i = j)) := by
    intro i j t u
    have z : (i == j) = decide (i = j) := by
      by_cases e : i = j
      · rw [decide_eq_true e]
        exact beq_iff_eq.mpr e
      · rw [decide_eq_false e]
        exact beq_eq_false_iff_ne.mpr e
    rw [← z]
    exact SeqAt.EqAt.int_int _ _ _ _
  have R := Ob.RcOp.tuples_ge (A := X.A) (s := s) (e := fun j => decide (ns.getD j 0 = ms.getD j 0)) (r := fun j => decide (ms.getD j 0 ≤ ns.getD j 0)) p1 p2 units
    (by
      intro j h1 h2
      obtain ⟨t, et⟩ := g1 j h1
      obtain ⟨t', et'⟩ := g2 j h2
      rw [et, et']
      exact eqs _ _ _ _)
    (by
      intro j h1 h2 _
      obtain ⟨t, et⟩ := g1 j h1
      obtain ⟨t', et'⟩ := g2 j h2
      rw [et, et']
      exact Ob.RcOp.ge_int _ _ _ _)
  rw [l1, l2] at R
  exact R X.prog X.w X.xe (EP X pins σ Q) ⟨.bl _, H, I, rfl, q⟩
end

def sp_law_text : Sp := fun vs H Q _ => ∃ (a : Addr) (us : List V) (ps : List (Int × Int)), vs = [.ref a] ∧ H a = some (.tup us) ∧ Ivs H us ps ∧ Vld0 ps ∧ ps.length < 1000 ∧ ∀ H', Same H H' → Q (.str (rowT ps)) H'
theorem ok_law_text (T : Tx K mg f_is_number f_is_position f_is_tuple_of f_is_interval f_ascending_error f_targets_error f_is_pieces f_interval_text f_joined_texts f_intervals_text f_demand_text f_parse_number f_parse_interval f_edit_version f_edit_answer f_state_answer f_count_answer f_answer_line f_without_item f_with_interval f_without_interval f_edited_state f_helpful_piece f_law_deck f_law_draw f_law_same f_law_small f_law_odd f_law_text f_law_lines f_law f_Shell_init f_Shell_execute f_Plan_init f_Plan_add_target f_Plan_add_piece f_Plan_remove_target f_Plan_remove_piece f_Plan_undo f_Plan_targets f_Plan_pieces f_Plan_needed f_Plan_solution f_Plan_missing f_Plan_changes f_Plan_edit f_Plan_record f_Plan_require_idle f_Plan_state_at f_Plan_len f_Plan_eq C_Shell C_Plan X_NothingToUndo X_Busy X_TooManyEdits X_Duplicate X_TooMany X_Unknown X_TooWide d_is_number d_is_position d_is_tuple_of d_is_interval d_ascending_error d_targets_error d_is_pieces d_interval_text d_joined_texts d_intervals_text d_demand_text d_parse_number d_parse_interval d_edit_version d_edit_answer d_state_answer d_count_answer d_answer_line d_without_item d_with_interval d_without_interval d_edited_state d_helpful_piece d_law_deck d_law_draw d_law_same d_law_small d_law_odd d_law_text d_law_lines d_law d_Shell_init d_Shell_execute d_Plan_init d_Plan_add_target d_Plan_add_piece d_Plan_remove_target d_Plan_remove_piece d_Plan_undo d_Plan_targets d_Plan_pieces d_Plan_needed d_Plan_solution d_Plan_missing d_Plan_changes d_Plan_edit d_Plan_record d_Plan_require_idle d_Plan_state_at d_Plan_len d_Plan_eq t_LAST_POSITION t_MAX_TARGETS t_MAX_PIECES t_MAX_BLOCKS t_MAX_EDITS t_BATCH) : FnOk P w K mg base CX0 2 f_law_text d_law_text ["_law_intervals"] sp_law_text := by
  refine T.F_law_text.ok sc_law_text (fun vs H Q E h => ?_) (fun cdv A outer s H vs Q E hr h => ?_)
  · obtain ⟨a, us, ps, rfl, _⟩ := h
    rfl
  · obtain ⟨a, us, ps, rfl, ha, iv, ok, few, q⟩ := h
    refine ⟨_, (pss_one (ps_ret (pe_join pe_str (pe_op op_cat (pe_lc (own := [("_law_low", 1), ("_law_high", 2)]) (g := (gTup K 2 (gCons (gName 1) (gCons (gName 2) gNil)))) (tt := tYes) (by rfl) sc_law_text.nd (pi_tup (pv 0)) (blkOk_by (own := [("_law_low", 1), ("_law_high", 2)]) (N := N_law_text) (sc := defScope s_law_text) (by decide +kernel)) (fun _ _ _ _ _ => (pg_tup rfl (pgs_cons (pg_name (i := 1) sc_law_text.nd rfl (Or.inl rfl)) (pgs_cons (pg_name (i := 2) sc_law_text.nd rfl (Or.inl rfl)) pgs_nil)))) (fun _ _ _ _ _ => pts_nil) (fun _ _ _ _ _ => (pe_op op_add_str (pe_op op_add_str (pe_callTy call_str_int (by rfl) T.z_str (by decide +kernel) (pa_cons (pv 1) pa_nil)) pe_str) (pe_callTy call_str_int (by rfl) T.z_str (by decide +kernel) (pa_cons (pv 2) pa_nil))))) (pe_op op_rep (pe_lst (pa_cons pe_str pa_nil)) (pe_callTy call_int1 (by rfl) T.z_int (by decide +kernel) (pa_cons (pe_cmpR (op_eqE hr.units0) (pv 0) (pe_tup pa_nil) (nomark _)) pa_nil))))))), ?_⟩
    have sz : sizeLine = 16777216 := by decide
    have sz2 : (16777216 : Nat) = sizeLine := sz.symm
    have k1 : ("-" : Str).length = 1 := by decide +kernel
    refine ⟨⟨_, rfl⟩, .ref a, rfl, a, rfl, ⟨_, SqT.of ha⟩, fun D nD => ?_⟩
    refine lcT (K := K) (a := a) (xs := us) (fun j H' ws => ws = ((ps.take j).map ivT).map V.str) nD (fun H' s => SqT.of (s _ _ ha)) (by rw [iv.length]; omega) (fun _ _ _ _ _ h => h) (fun j H' ws h => by rw [h, List.length_map, List.length_map, List.length_take]; omega) (fun _ => rfl) ?_ ?_
    · rintro j v H' N acc hj sm eA sz3 r no yes
      obtain ⟨bb, x, y, rfl, ep, hb⟩ := iv.get hj
      have b := ok _ (List.mem_of_getElem? ep)
      have l1 : (Str.ofString (toString x)).length ≤ 13 := numS_len b.1.1 (by omega : x ≤ 1000000000000)
      have l2 : (Str.ofString (toString y)).length ≤ 13 := numS_len (i := y) (by omega) b.2
      refine ⟨bb, _, rfl, SqT.of (sm _ _ hb), rfl, .int x, [.int y], rfl, .int y, [], rfl, rfl, rfl, ?_⟩
      refine ⟨.int x, rfl, _, rfl, log2_tr b.1.1 (by omega), _, _, rfl, rfl, by omega, .int y, rfl, _, rfl, log2_tr (by omega) (by omega), _, _, rfl, rfl, by rw [Str.length_append]; omega, yes _ _ (Same.refl _) ?_⟩
      rw [r, map_take_snoc ep, List.map_append]
      rfl
    · rintro H1 ws sm eD r
      rw [iv.length, List.take_length] at r
      subst r
      have s27 := sum27 ok
      refine ⟨by show 1 ≤ sizeLine; decide, fun l2 nl2 => ?_⟩
      have s2 := same_new (o := .lst [V.str "none"]) nl2
      have e2 := upd_same (H := H1) (a := l2) (o := .lst [V.str "none"])
      generalize upd H1 l2 (.lst [V.str "none"]) = H2 at *
      refine ⟨.ref a, rfl, by show 0 ≤ sizeLine; decide, fun e ne => ?_⟩
      have s3 := same_new (o := .tup ([] : List V)) ne
      have e3 := upd_same (H := H2) (a := e) (o := .tup ([] : List V))
      generalize upd H2 e (.tup ([] : List V)) = H3 at *
      have s13 := s2.trans s3
      refine ⟨a, e, us, rfl, rfl, SqT.of (s13 _ _ (sm _ _ ha)), SqT.of e3, .inr ⟨_, rfl, ?_⟩⟩
      cases ps with
      | nil =>
        cases iv
        refine ⟨l2, 1, _, rfl, rfl, s3 _ _ e2, by decide, by decide, by show 1 * 1 ≤ _; decide, fun z nz => ?_⟩
        have s4 := same_new (o := .lst (List.replicate (1 : Int).toNat [V.str "none"]).flatten) nz
        have e4 := upd_same (H := H3) (a := z) (o := .lst (List.replicate (1 : Int).toNat [V.str "none"]).flatten)
        generalize upd H3 z (.lst (List.replicate (1 : Int).toNat [V.str "none"]).flatten) = H4 at *
        replace e4 : H4 z = some (.lst [V.str "none"]) := e4
        refine ⟨D, z, _, _, rfl, rfl, (s13.trans s4) _ _ eD, e4, by show 0 + 1 ≤ sizeLine; decide, fun g ng => ?_⟩
        exact ⟨_, g, ["none"], rfl, rfl, .inl (SqL.of upd_same), by decide +kernel, q _ (sm.trans (s13.trans (s4.trans (same_new ng))))⟩
      | cons p r =>
        have un : us.isEmpty = false := by
          cases iv
          rfl
        rw [un]
        refine ⟨l2, 0, _, rfl, rfl, s3 _ _ e2, by decide, by decide, by show 1 * 0 ≤ _; decide, fun z nz => ?_⟩
        have s4 := same_new (o := .lst (List.replicate (0 : Int).toNat [V.str "none"]).flatten) nz
        have e4 := upd_same (H := H3) (a := z) (o := .lst (List.replicate (0 : Int).toNat [V.str "none"]).flatten)
        generalize upd H3 z (.lst (List.replicate (0 : Int).toNat [V.str "none"]).flatten) = H4 at *
        replace e4 : H4 z = some (.lst []) := e4
        refine ⟨D, z, _, _, rfl, rfl, (s13.trans s4) _ _ eD, e4, by rw [List.length_map, List.length_map]; show _ + 0 ≤ _; omega, fun g ng => ?_⟩
        refine ⟨_, g, (p :: r).map ivT, rfl, rfl, .inl (SqL.of ?_), ?_, q _ (sm.trans (s13.trans (s4.trans (same_new ng))))⟩
        · rw [List.append_nil]
          exact upd_same
        · rw [List.length_map, show (" " : Str).length = 1 by decide +kernel]
          omega

/-! ### odd values through draws (the plain deck) -/
/-- the heap but for the deck -/
def OffP (d c : Addr) (H : Hp) : Hp := fun b => if b = d ∨ b = c then none else H b
theorem offP_get {d c : Addr} {H : Hp} {b : Addr} {o : HO} (n : Off d c b) (e : H b = some o) : OffP d c H b = some o := by
  unfold OffP
  rw [if_neg (fun z => z.elim n.1 n.2)]
  exact e
theorem offP_at {d c : Addr} {H : Hp} {b : Addr} {o : HO} (e : OffP d c H b = some o) : b ≠ d ∧ b ≠ c ∧ H b = some o := by
  unfold OffP at e
  by_cases z : b = d ∨ b = c
  · rw [if_pos z] at e
    cases e
  · rw [if_neg z] at e
    exact ⟨fun q => z (.inl q), fun q => z (.inr q), e⟩
theorem offP_sub {d c : Addr} {H : Hp} : Same (OffP d c H) H := fun _ _ e => (offP_at e).2.2
theorem offP_kp {d c : Addr} {H H' : Hp} (k : Kp d c H H') : Same (OffP d c H) (OffP d c H') := fun b o e => by
  obtain ⟨n1, n2, z⟩ := offP_at e
  exact offP_get ⟨n1, n2⟩ (k b o n1 n2 z)
theorem Dk.offT {H : Hp} {d c : Addr} {n : Int} (h : Dk H d c n) {b : Addr} {us : List V} (e : H b = some (.tup us)) : Off d c b := by
  obtain ⟨xs, q, _⟩ := h.cells
  exact ⟨ne_of e h.top (fun z => by cases z), ne_of e q (fun z => by cases z)⟩
theorem ivs_dv {K : PySem.W.Frag} {d c : Addr} {n : Int} {H : Hp} (dk : Dk H d c n) : ∀ {us : List V} {ps : List (Int × Int)}, Ivs H us ps → DvAll K (OffP d c H) us (ps.map pairD)
  | _, _, .nil => .nil
  | _, _, .cons e h => .cons (.tup (offP_get (dk.offT e) e) (.cons (.int _) (.cons (.int _) .nil))) (ivs_dv dk h)
/-- every sign of a text is a sign -/
def okc (x : Str) : Prop := ∀ c ∈ x.cps.toList, c < 16 ^ 8
theorem okc_app {a b : Str} (h : okc a) (g : okc b) : okc (a ++ b) := by
  intro c hc
  have e : (a ++ b).cps = a.cps ++ b.cps := rfl
  rw [e, Array.toList_append] at hc
  exact (List.mem_append.mp hc).elim (h c) (g c)
theorem okc_int (i : Int) : okc (PyData.shown (.int i)) := by
  intro c hc
  have hc : c ∈ (Str.ofString (toString i)).cps.toList := hc
  rw [Str.ofString_eq_toList] at hc
  have hc : c ∈ ((toString i).toList.map Char.toNat) := by simpa using hc
  obtain ⟨x, _, rfl⟩ := List.mem_map.mp hc
  have := x.val.toNat_lt
  show x.val.toNat < 16 ^ 8
  omega
theorem okc_lit {x : Str} (h : (x.cps.toList.all fun c => decide (c < 16 ^ 8)) = true) : okc x := fun c hc => of_decide_eq_true (List.all_eq_true.mp h c hc)
theorem okc_pair (x y : Int) : okc (PyData.shown (.tuple [.int x, .int y])) := by
  have e : PyData.shown (.tuple [.int x, .int y]) = ("(" : Str) ++ (PyData.shown (.int x) ++ (", " : Str) ++ PyData.shown (.int y)) ++ (")" : Str) := by
    show ("(" : Str) ++ Str.join ", " [PyData.shown (.int x), PyData.shown (.int y)] ++ (")" : Str) = _
    rfl
  rw [e]
  exact okc_app (okc_app (okc_lit (by decide +kernel)) (okc_app (okc_app (okc_int x) (okc_lit (by decide +kernel))) (okc_int y))) (okc_lit (by decide +kernel))
theorem sm_shown {n dp : Nat} {d : PyData} (h : Sm n dp d) (c : okc d.shown) (hn : n ≤ 1000) : Sm 50000 0 (.str d.shown) := by
  refine ⟨rfl, ?_, ?_, Nat.le_refl _⟩
  · show (d.shown.cps.toList.all fun c => decide (c < 16 ^ 8)) = true
    exact List.all_eq_true.mpr fun x hx => decide_eq_true (c x hx)
  · have q := PyData.shown_le 40 (by decide) d h.short
    have := h.small
    show d.shown.length ≤ 50000
    omega
def oddE : List PyData := [.none, .tuple [], .list [], .dict [], .int 5, .str "0-3", .tuple [.int 3, .int 2], .tuple [.int 0, .bool true], .tuple [.bool false, .int 1], .tuple [.int 0, .int 1, .int 2], .tuple [.int (-1), .int 0], .list [.int 0, .int 1], .tuple [.int 0, .int (10 ^ 12 + 1)], .tuple [.int 0, .str "1"], .tuple [.none, .int 3], .tuple [.tuple [.int 0, .int 1], .tuple [.int 0, .int 1]], .bool true, .int (10 ^ 20)]
def fineE (d : PyData) : Bool := (d.showable && (d.leavesShort 40 && (decide (d.weight ≤ 1000) && decide (d.depth ≤ 3)))) && d.shown.cps.toList.all fun c => decide (c < 16 ^ 8)
theorem oddE_fine : oddE.all fineE = true := by decide +kernel
theorem oddE_ok {d : PyData} (h : d ∈ oddE) : Sm 1000 3 d ∧ okc d.shown := by
  have h := Bool.and_eq_true_iff.mp (List.all_eq_true.mp oddE_fine d h)
  have h1 := Bool.and_eq_true_iff.mp h.1
  have h2 := Bool.and_eq_true_iff.mp h1.2
  have h3 := Bool.and_eq_true_iff.mp h2.2
  exact ⟨⟨h1.1, h2.1, of_decide_eq_true h3.1, of_decide_eq_true h3.2⟩, okc_lit h.2⟩
/-- a list of data that stays through draws -/
structure OddL (K : PySem.W.Frag) (d c : Addr) (Hx : Hp) (D : Addr) (ds : List PyData) (H' : Hp) : Prop where
  same : Same Hx H'
  off : Off d c D
  ex : ∃ us, H' D = some (.lst us) ∧ DvAll K (OffP d c H') us ds

/-! ### odd values -/
def oddD : List PyData := [.none, .bool true, .bool false, .int 0, .int (-1), .int (10 ^ 29), .tuple [], .list [], .dict [], .tuple [.int 0, .int 1], .list [.str "0-1"], .tuple [.str "0-1"]]
def sp_law_odd (K : PySem.W.Frag) : Sp := fun vs H Q _ => ∃ (d : Addr) (c : Addr) (n : Int), vs = [.ref d] ∧ Dk H d c n ∧ 0 ≤ n ∧ n < 999990 ∧
  ∀ H' v dd, Kp d c H H' → Dk H' d c (n + 1) → dd ∈ oddD → Dv K (OffP d c H') v dd → Q v H'
theorem ok_law_odd (T : Tx K mg f_is_number f_is_position f_is_tuple_of f_is_interval f_ascending_error f_targets_error f_is_pieces f_interval_text f_joined_texts f_intervals_text f_demand_text f_parse_number f_parse_interval f_edit_version f_edit_answer f_state_answer f_count_answer f_answer_line f_without_item f_with_interval f_without_interval f_edited_state f_helpful_piece f_law_deck f_law_draw f_law_same f_law_small f_law_odd f_law_text f_law_lines f_law f_Shell_init f_Shell_execute f_Plan_init f_Plan_add_target f_Plan_add_piece f_Plan_remove_target f_Plan_remove_piece f_Plan_undo f_Plan_targets f_Plan_pieces f_Plan_needed f_Plan_solution f_Plan_missing f_Plan_changes f_Plan_edit f_Plan_record f_Plan_require_idle f_Plan_state_at f_Plan_len f_Plan_eq C_Shell C_Plan X_NothingToUndo X_Busy X_TooManyEdits X_Duplicate X_TooMany X_Unknown X_TooWide d_is_number d_is_position d_is_tuple_of d_is_interval d_ascending_error d_targets_error d_is_pieces d_interval_text d_joined_texts d_intervals_text d_demand_text d_parse_number d_parse_interval d_edit_version d_edit_answer d_state_answer d_count_answer d_answer_line d_without_item d_with_interval d_without_interval d_edited_state d_helpful_piece d_law_deck d_law_draw d_law_same d_law_small d_law_odd d_law_text d_law_lines d_law d_Shell_init d_Shell_execute d_Plan_init d_Plan_add_target d_Plan_add_piece d_Plan_remove_target d_Plan_remove_piece d_Plan_undo d_Plan_targets d_Plan_pieces d_Plan_needed d_Plan_solution d_Plan_missing d_Plan_changes d_Plan_edit d_Plan_record d_Plan_require_idle d_Plan_state_at d_Plan_len d_Plan_eq t_LAST_POSITION t_MAX_TARGETS t_MAX_PIECES t_MAX_BLOCKS t_MAX_EDITS t_BATCH) : FnOk P w K mg base CX0 2 f_law_odd d_law_odd ["_law_deck_here"] (sp_law_odd K) := by
  refine T.F_law_odd.ok sc_law_odd (fun vs H Q E h => ?_) (fun cdv A outer s H vs Q E hr h => ?_)
  · obtain ⟨d, c, n, rfl, _⟩ := h
    rfl
  · obtain ⟨d, c, n, rfl, dk, n0, n1, q⟩ := h
    refine ⟨_, (pss_cons (ps_set (i := 1) sc_law_odd.nd rfl (Or.inl rfl) (pe_lst (pa_cons pe_non (pa_cons pe_bl (pa_cons pe_bl (pa_cons pe_int (pa_cons (pe_un un_neg pe_int) (pa_cons (pe_op op_pow pe_int pe_int) (pa_cons (pe_tup pa_nil) (pa_cons (pe_lst pa_nil) (pa_cons pe_dnewK (pa_cons (pe_tup (pa_cons pe_int (pa_cons pe_int pa_nil))) (pa_cons (pe_lst (pa_cons pe_str pa_nil)) (pa_cons (pe_tup (pa_cons pe_str pa_nil)) pa_nil))))))))))))))
      (pss_one (ps_ret (pe_ix ix_list (pv 1) (pe_call (ok_law_draw T) (hr.mono (by decide)) (by rfl) T.g_law_draw T.F_law_draw.kp T.b_law_draw .nil pass0 (pa_cons (pv 0) (pa_cons pe_int pa_nil))) (fun _ _ => rfl))))), ?_⟩
    refine ⟨1, rfl, 10, 29, rfl, rfl, ⟨by decide, by decide, by decide⟩, by show 0 ≤ sizeLine; decide, fun p1 m1 => ?_⟩
    have s1 := same_new (H := H) (p := p1) (o := .tup []) m1
    have e1 := upd_same (H := H) (a := p1) (o := .tup [])
    generalize upd H p1 (.tup []) = H1 at *
    refine ⟨by show 0 ≤ sizeLine; decide, fun p2 m2 => ?_⟩
    have s2 := same_new (H := H1) (p := p2) (o := .lst []) m2
    have e2 := upd_same (H := H1) (a := p2) (o := .lst [])
    generalize upd H1 p2 (.lst []) = H2 at *
    refine fun p3 m3 => ?_
    have s3 := same_new (H := H2) (p := p3) (o := .dK []) m3
    have e3 := upd_same (H := H2) (a := p3) (o := .dK [])
    generalize upd H2 p3 (.dK []) = H3 at *
    refine ⟨by show 2 ≤ sizeLine; decide, fun p4 m4 => ?_⟩
    have s4 := same_new (H := H3) (p := p4) (o := .tup [.int 0, .int 1]) m4
    have e4 := upd_same (H := H3) (a := p4) (o := .tup [.int 0, .int 1])
    generalize upd H3 p4 (.tup [.int 0, .int 1]) = H4 at *
    refine ⟨by show 1 ≤ sizeLine; decide, fun p5 m5 => ?_⟩
    have s5 := same_new (H := H4) (p := p5) (o := .lst [.str "0-1"]) m5
    have e5 := upd_same (H := H4) (a := p5) (o := .lst [.str "0-1"])
    generalize upd H4 p5 (.lst [.str "0-1"]) = H5 at *
    refine ⟨by show 1 ≤ sizeLine; decide, fun p6 m6 => ?_⟩
    have s6 := same_new (H := H5) (p := p6) (o := .tup [.str "0-1"]) m6
    have e6 := upd_same (H := H5) (a := p6) (o := .tup [.str "0-1"])
    generalize upd H5 p6 (.tup [.str "0-1"]) = H6 at *
    refine ⟨by show 12 ≤ sizeLine; decide, fun p7 m7 => ?_⟩
    have s7 := same_new (H := H6) (p := p7) (o := .lst [.non, .bl true, .bl false, .int 0, .int (-1), .int ((10 : Int) ^ (29 : Int).toNat), .ref p1, .ref p2, .ref p3, .ref p4, .ref p5, .ref p6]) m7
    have e7 := upd_same (H := H6) (a := p7) (o := .lst [.non, .bl true, .bl false, .int 0, .int (-1), .int ((10 : Int) ^ (29 : Int).toNat), .ref p1, .ref p2, .ref p3, .ref p4, .ref p5, .ref p6])
    generalize upd H6 p7 (.lst [.non, .bl true, .bl false, .int 0, .int (-1), .int ((10 : Int) ^ (29 : Int).toNat), .ref p1, .ref p2, .ref p3, .ref p4, .ref p5, .ref p6]) = H7 at *
    have hs : Same H H7 := s1.trans ( s2.trans ( s3.trans ( s4.trans ( s5.trans ( s6.trans (s7))))))
    have o1 : OffP d c H7 p1 = some _ := offP_get (dk.off m1) (s7 _ _ (s6 _ _ (s5 _ _ (s4 _ _ (s3 _ _ (s2 _ _ (e1)))))))
    have o2 : OffP d c H7 p2 = some _ := offP_get (dk.off (s1.free m2)) (s7 _ _ (s6 _ _ (s5 _ _ (s4 _ _ (s3 _ _ (e2))))))
    have o3 : OffP d c H7 p3 = some _ := offP_get (dk.off (s1.free (s2.free m3))) (s7 _ _ (s6 _ _ (s5 _ _ (s4 _ _ (e3)))))
    have o4 : OffP d c H7 p4 = some _ := offP_get (dk.off (s1.free (s2.free (s3.free m4)))) (s7 _ _ (s6 _ _ (s5 _ _ (e4))))
    have o5 : OffP d c H7 p5 = some _ := offP_get (dk.off (s1.free (s2.free (s3.free (s4.free m5))))) (s7 _ _ (s6 _ _ (e5)))
    have o6 : OffP d c H7 p6 = some _ := offP_get (dk.off (s1.free (s2.free (s3.free (s4.free (s5.free m6)))))) (s7 _ _ (e6))
    have oL := ((((((dk.kept s1).kept s2).kept s3).kept s4).kept s5).kept s6).off m7
    have all : DvAll K (OffP d c H7) [.non, .bl true, .bl false, .int 0, .int (-1), .int ((10 : Int) ^ (29 : Int).toNat), .ref p1, .ref p2, .ref p3, .ref p4, .ref p5, .ref p6] oddD := .cons (.non) (.cons (.bl _) (.cons (.bl _) (.cons (.int _) (.cons (.int _) (.cons (.int _) (.cons (.tup o1 (.nil)) (.cons (.lst o2 (.nil)) (.cons (.dic o3 .nil) (.cons (.tup o4 (.cons (.int _) (.cons (.int _) (.nil)))) (.cons (.lst o5 (.cons (.str _) (.nil))) (.cons (.tup o6 (.cons (.str _) (.nil))) (.nil))))))))))))
    generalize ([.non, .bl true, .bl false, .int 0, .int (-1), .int ((10 : Int) ^ (29 : Int).toNat), .ref p1, .ref p2, .ref p3, .ref p4, .ref p5, .ref p6] : List V) = items at *
    have len : items.length = 12 := all.length
    refine ⟨.ref p7, rfl, .ref d, rfl, d, c, n, 12, rfl, dk.kept hs, n0, by omega, by decide, by decide, fun Hd r kp dk2 r0 r1 => ?_⟩
    obtain ⟨j, rfl⟩ : ∃ j : Nat, r = j := ⟨r.toNat, by omega⟩
    have hj : j < items.length := by omega
    have ej : items[j]? = some items[j] := List.getElem?_eq_getElem hj
    obtain ⟨dd, ed, hdv⟩ := all.get ej
    refine ⟨p7, items, j, items[j], rfl, rfl, SqL.of (kp.keep oL e7), atI_nat ej, ?_⟩
    exact q _ _ dd ((Kp.same hs).trans kp) dk2 (List.mem_of_getElem? ed) (dv_same (offP_kp kp) hdv)

open CwR
/-! ### the law's lines -/
def goodL (w : Str) : List Str := ["target " ++ w, "untarget " ++ w, "piece " ++ w, "unpiece " ++ w, "undo", "targets", "pieces"] ++ (["needed", "solve", "witnesses", "missing", "changes"] : List Str)
def sp01 (l : Str) : Str := if (if (!(!(Builtin.Str.occurrences l " " 0 l.length 1).isEmpty)) = true then (1 : Int) else 0) = 1 then " " else Str.empty
def ofLine (w l : Str) : List Str := [l ++ " ", " " ++ l, l ++ " x", l ++ "\n", Txt.upper l, l ++ ",", l ++ " " ++ w] ++ [R1.once l " " "  " ++ sp01 l]
def ofVerb (v : Str) : List Str := [v, v ++ " ", v ++ " none", v ++ " 3-1", v ++ " 0", v ++ " 0-01", v ++ " +0-1"] ++ [v ++ " 0-1000000000001", v ++ " 0-1-2", v ++ " -1-2", v ++ " 0 1", v ++ " (0, 1)"]
def headL (w : Str) : List Str := ["", " ", "-", "none", "ok", "error", "help", "apply", "edits", "add_target " ++ w, "unknown command"]
def lastL : List Str := ["undo 1", "undo 0-1", "targets 0-1", "needed 0", "solve all", "witness", "change", "target0-1"]
def linesL (w : Str) : List Str := headL w ++ (goodL w).flatMap (ofLine w) ++ verbs.flatMap ofVerb ++ lastL
theorem bndL {a b : Str} (hb : b.length ≤ 1000) (ha : a.length ≤ 1000 := by decide +kernel) : a.length + b.length ≤ sizeLine := by
  have : sizeLine = 16777216 := by decide
  omega
theorem bndR {a b : Str} (ha : a.length ≤ 1000) (hb : b.length ≤ 1000 := by decide +kernel) : a.length + b.length ≤ sizeLine := bndL hb ha
theorem flat_len {α β : Type} {f : α → List β} {n : Nat} (h : ∀ a, (f a).length = n) : ∀ l : List α, (l.flatMap f).length = n * l.length
  | [] => rfl
  | a :: l => by rw [List.flatMap_cons, List.length_append, h, flat_len h l, List.length_cons, Nat.mul_succ]; omega
theorem flat_snoc {α β : Type} {f : α → List β} {l : List α} {i : Nat} {a : α} (e : l[i]? = some a) : (l.take (i + 1)).flatMap f = (l.take i).flatMap f ++ f a := by
  rw [List.take_add_one, e, List.flatMap_append]
  simp
theorem ofLine_len (w l : Str) : (ofLine w l).length = 8 := rfl
theorem ofVerb_len (v : Str) : (ofVerb v).length = 12 := rfl
theorem good_len {w : Str} (h : w.length ≤ 100) : ∀ l ∈ goodL w, l.length ≤ 120 := by
  intro l hl
  unfold goodL at hl
  simp only [List.cons_append, List.nil_append, List.mem_cons, List.not_mem_nil, or_false] at hl
  have c1 : ("target " : Str).length = 7 := by decide +kernel
  have c2 : ("untarget " : Str).length = 9 := by decide +kernel
  have c3 : ("piece " : Str).length = 6 := by decide +kernel
  have c4 : ("unpiece " : Str).length = 8 := by decide +kernel
  rcases hl with rfl | rfl | rfl | rfl | rfl | rfl | rfl | rfl | rfl | rfl | rfl | rfl
  · rw [Str.length_append]; omega
  · rw [Str.length_append]; omega
  · rw [Str.length_append]; omega
  · rw [Str.length_append]; omega
  all_goals decide +kernel
theorem sp01_cases (l : Str) : ∃ k : Int, (k = 0 ∨ k = 1) ∧ k = (if (!(!(Builtin.Str.occurrences l " " 0 l.length 1).isEmpty)) = true then (1 : Int) else 0) ∧ sp01 l = if k = 1 then (" " : Str) else Str.empty := by
  refine ⟨_, ?_, rfl, rfl⟩
  split
  · exact .inr rfl
  · exact .inl rfl
theorem once_len' {l : Str} (h : l.length ≤ 120) : (R1.once l " " "  ").length ≤ 200 := by
  have := R1.once_len l " " "  "
  have c : ("  " : Str).length = 2 := by decide +kernel
  omega
theorem len2 {l : Str} (h : l.length ≤ 120) : l.length + ("  " : Str).length ≤ 16777216 := by
  have c2 : ("  " : Str).length = 2 := by decide +kernel
  omega
theorem verb_len : ∀ v ∈ verbs, v.length ≤ 8 := by decide +kernel
def sp_law_lines : Sp := fun vs H Q _ => ∃ w : Str, vs = [.str w] ∧ w.length ≤ 100 ∧ ∀ H' l, Same H H' → H' l = some (.lst ((linesL w).map V.str)) → H l = none → Q (.ref l) H'
theorem ok_law_lines (T : Tx K mg f_is_number f_is_position f_is_tuple_of f_is_interval f_ascending_error f_targets_error f_is_pieces f_interval_text f_joined_texts f_intervals_text f_demand_text f_parse_number f_parse_interval f_edit_version f_edit_answer f_state_answer f_count_answer f_answer_line f_without_item f_with_interval f_without_interval f_edited_state f_helpful_piece f_law_deck f_law_draw f_law_same f_law_small f_law_odd f_law_text f_law_lines f_law f_Shell_init f_Shell_execute f_Plan_init f_Plan_add_target f_Plan_add_piece f_Plan_remove_target f_Plan_remove_piece f_Plan_undo f_Plan_targets f_Plan_pieces f_Plan_needed f_Plan_solution f_Plan_missing f_Plan_changes f_Plan_edit f_Plan_record f_Plan_require_idle f_Plan_state_at f_Plan_len f_Plan_eq C_Shell C_Plan X_NothingToUndo X_Busy X_TooManyEdits X_Duplicate X_TooMany X_Unknown X_TooWide d_is_number d_is_position d_is_tuple_of d_is_interval d_ascending_error d_targets_error d_is_pieces d_interval_text d_joined_texts d_intervals_text d_demand_text d_parse_number d_parse_interval d_edit_version d_edit_answer d_state_answer d_count_answer d_answer_line d_without_item d_with_interval d_without_interval d_edited_state d_helpful_piece d_law_deck d_law_draw d_law_same d_law_small d_law_odd d_law_text d_law_lines d_law d_Shell_init d_Shell_execute d_Plan_init d_Plan_add_target d_Plan_add_piece d_Plan_remove_target d_Plan_remove_piece d_Plan_undo d_Plan_targets d_Plan_pieces d_Plan_needed d_Plan_solution d_Plan_missing d_Plan_changes d_Plan_edit d_Plan_record d_Plan_require_idle d_Plan_state_at d_Plan_len d_Plan_eq t_LAST_POSITION t_MAX_TARGETS t_MAX_PIECES t_MAX_BLOCKS t_MAX_EDITS t_BATCH) : FnOk P w K mg base CX0 1 f_law_lines d_law_lines ["_law_word"] sp_law_lines := by
  refine T.F_law_lines.ok sc_law_lines (fun vs H Q E h => ?_) (fun cdv A outer s H vs Q E hr h => ?_)
  · obtain ⟨w, rfl, _⟩ := h
    rfl
  · obtain ⟨w, rfl, lw, q⟩ := h
    refine ⟨_, (pss_cons (ps_set (i := 1) sc_law_lines.nd rfl (Or.inl rfl) (pe_lst (pa_cons (pe_op op_add_str pe_str (pv 0)) (pa_cons (pe_op op_add_str pe_str (pv 0)) (pa_cons (pe_op op_add_str pe_str (pv 0)) (pa_cons (pe_op op_add_str pe_str (pv 0)) (pa_cons pe_str (pa_cons pe_str (pa_cons pe_str pa_nil)))))))))
      (pss_cons (ps_set (i := 1) sc_law_lines.nd rfl (Or.inl rfl) (pe_op op_cat (pv 1) (pe_lst (pa_cons pe_str (pa_cons pe_str (pa_cons pe_str (pa_cons pe_str (pa_cons pe_str pa_nil))))))))
      (pss_cons (ps_set (i := 2) sc_law_lines.nd rfl (Or.inl rfl) (pe_lst (pa_cons pe_str (pa_cons pe_str (pa_cons pe_str (pa_cons pe_str (pa_cons pe_str (pa_cons pe_str (pa_cons pe_str (pa_cons pe_str (pa_cons pe_str (pa_cons (pe_op op_add_str pe_str (pv 0)) (pa_cons pe_str pa_nil)))))))))))))
      (pss_cons (ps_for PassesOwn.never rfl (pi_list (pv 1)) (pg_name (i := 3) sc_law_lines.nd rfl (Or.inl rfl))
      (pss_first (ps1_set (i := 2) sc_law_lines.nd rfl (Or.inl rfl) (pe1_op op_cat (pv 2) (pe1_lst (pa1_cons (pe1_op op_add_str (pv 3) pe1_str) (pa_cons (pe_op op_add_str pe_str (pv 3)) (pa_cons (pe_op op_add_str (pv 3) pe_str) (pa_cons (pe_op op_add_str (pv 3) pe_str) (pa_cons (pe_upper (pv 3)) (pa_cons (pe_op op_add_str (pv 3) pe_str) (pa_cons (pe_op op_add_str (pe_op op_add_str (pv 3) pe_str) (pv 0)) pa_nil))))))))))
      (psst_one (pst_expr (pet_bm PySem.F.plainAttrs_list PySem.F.slot_list_append PySem.F.type_list_append mt_append (pv 2) (pat_cons (pet_op op_add_str (pet_once (pv 3)) (PET.of (pe_op op_mulS pe_str (pe_callTy call_int1 (by rfl) T.z_int (by decide +kernel) (pa_cons (pe_cmpR op_notIn_str pe_str (pv 3) (by rfl)) pa_nil))))) pat_nil))))))
      (pss_cons (ps_for PassesOwn.never rfl (pi_list (pe_lst (pa_cons pe_str (pa_cons pe_str (pa_cons pe_str (pa_cons pe_str pa_nil)))))) (pg_name (i := 4) sc_law_lines.nd rfl (Or.inl rfl))
      (pss_cons (ps_set (i := 2) sc_law_lines.nd rfl (Or.inl rfl) (pe_op op_cat (pv 2) (pe_lst (pa_cons (pv 4) (pa_cons (pe_op op_add_str (pv 4) pe_str) (pa_cons (pe_op op_add_str (pv 4) pe_str) (pa_cons (pe_op op_add_str (pv 4) pe_str) (pa_cons (pe_op op_add_str (pv 4) pe_str) (pa_cons (pe_op op_add_str (pv 4) pe_str) (pa_cons (pe_op op_add_str (pv 4) pe_str) pa_nil))))))))))
      (pss_one (ps_set (i := 2) sc_law_lines.nd rfl (Or.inl rfl) (pe_op op_cat (pv 2) (pe_lst (pa_cons (pe_op op_add_str (pv 4) pe_str) (pa_cons (pe_op op_add_str (pv 4) pe_str) (pa_cons (pe_op op_add_str (pv 4) pe_str) (pa_cons (pe_op op_add_str (pv 4) pe_str) (pa_cons (pe_op op_add_str (pv 4) pe_str) pa_nil)))))))))))
      (pss_one (ps_ret (pe_op op_cat (pv 2) (pe_lst (pa_cons pe_str (pa_cons pe_str (pa_cons pe_str (pa_cons pe_str (pa_cons pe_str (pa_cons pe_str (pa_cons pe_str (pa_cons pe_str pa_nil))))))))))))))))), ?_⟩
    have sz : sizeLine = 16777216 := by decide
    have w1 : w.length ≤ 1000 := by omega
    refine ⟨.str w, rfl, _, _, rfl, rfl, bndL w1, .str w, rfl, _, _, rfl, rfl, bndL w1, .str w, rfl, _, _, rfl, rfl, bndL w1, .str w, rfl, _, _, rfl, rfl, bndL w1, by show 7 ≤ sizeLine; decide, fun g0 n0 => ?_⟩
    have s0 := same_new (o := .lst [V.str ("target " ++ w), .str ("untarget " ++ w), .str ("piece " ++ w), .str ("unpiece " ++ w), .str "undo", .str "targets", .str "pieces"]) n0
    have e0 := upd_same (H := H) (a := g0) (o := .lst [V.str ("target " ++ w), .str ("untarget " ++ w), .str ("piece " ++ w), .str ("unpiece " ++ w), .str "undo", .str "targets", .str "pieces"])
    generalize upd H g0 (.lst [V.str ("target " ++ w), .str ("untarget " ++ w), .str ("piece " ++ w), .str ("unpiece " ++ w), .str "undo", .str "targets", .str "pieces"]) = H0 at *
    refine ⟨.ref g0, rfl, by show 5 ≤ sizeLine; decide, fun g1 n1 => ?_⟩
    have s1 := same_new (o := .lst [V.str "needed", .str "solve", .str "witnesses", .str "missing", .str "changes"]) n1
    have e1 := upd_same (H := H0) (a := g1) (o := .lst [V.str "needed", .str "solve", .str "witnesses", .str "missing", .str "changes"])
    generalize upd H0 g1 (.lst [V.str "needed", .str "solve", .str "witnesses", .str "missing", .str "changes"]) = H1 at *
    refine ⟨g0, g1, _, _, rfl, rfl, s1 _ _ e0, e1, by show 12 ≤ sizeLine; decide, fun g n2 => ?_⟩
    have s2 := same_new (o := .lst ([V.str ("target " ++ w), .str ("untarget " ++ w), .str ("piece " ++ w), .str ("unpiece " ++ w), .str "undo", .str "targets", .str "pieces"] ++ [V.str "needed", .str "solve", .str "witnesses", .str "missing", .str "changes"])) n2
    have e2' := upd_same (H := H1) (a := g) (o := .lst ([V.str ("target " ++ w), .str ("untarget " ++ w), .str ("piece " ++ w), .str ("unpiece " ++ w), .str "undo", .str "targets", .str "pieces"] ++ [V.str "needed", .str "solve", .str "witnesses", .str "missing", .str "changes"]))
    generalize upd H1 g (.lst ([V.str ("target " ++ w), .str ("untarget " ++ w), .str ("piece " ++ w), .str ("unpiece " ++ w), .str "undo", .str "targets", .str "pieces"] ++ [V.str "needed", .str "solve", .str "witnesses", .str "missing", .str "changes"])) = H2 at *
    have e2 : H2 g = some (.lst ((goodL w).map V.str)) := e2'
    refine ⟨.str w, rfl, _, _, rfl, rfl, bndL w1, by show 11 ≤ sizeLine; decide, fun f0 n3 => ?_⟩
    have s3 := same_new (o := .lst [V.str "", .str " ", .str "-", .str "none", .str "ok", .str "error", .str "help", .str "apply", .str "edits", .str ("add_target " ++ w), .str "unknown command"]) n3
    have e3' := upd_same (H := H2) (a := f0) (o := .lst [V.str "", .str " ", .str "-", .str "none", .str "ok", .str "error", .str "help", .str "apply", .str "edits", .str ("add_target " ++ w), .str "unknown command"])
    generalize upd H2 f0 (.lst [V.str "", .str " ", .str "-", .str "none", .str "ok", .str "error", .str "help", .str "apply", .str "edits", .str ("add_target " ++ w), .str "unknown command"]) = H3 at *
    have e3 : H3 f0 = some (.lst ((headL w).map V.str)) := e3'
    have gl := good_len lw
    have s03 := s0.trans (s1.trans (s2.trans s3))
    have eg := s3 _ _ e2
    refine ⟨.ref g, rfl, g, rfl, ⟨_, SqL.of eg⟩, for_list (K := K) (a := g) (xs := (goodL w).map V.str) (D := ⟨_, _, fun _ _ => True, fun _ _ => True⟩) (fun j σ H' => Same H3 H' ∧ ∃ F z3, σ = [some (.str w), some (.ref g), some (.ref F), z3, none] ∧ H' F = some (.lst ((headL w ++ ((goodL w).take j).flatMap (ofLine w)).map V.str)))
      ⟨Same.refl _, f0, _, rfl, by rw [e3]; simp⟩ (fun j σ H' hj h => SqL.of (h.1 _ _ eg)) ?_ ?_⟩
    · rintro i x σ H4 hx ⟨s4, F, z3, rfl, eF⟩
      obtain ⟨l, el, rfl⟩ := Option.map_eq_some_iff.mp (by rw [← List.getElem?_map]; exact hx)
      have ll := gl l (List.mem_of_getElem? el)
      have l1 : l.length ≤ 1000 := by omega
      have hi : i < 12 := List.getElem?_eq_some_iff.mp el |>.1
      have c1 : (" " : Str).length = 1 := by decide +kernel
      refine ⟨.ref F, rfl, .str l, rfl, _, _, rfl, rfl, bndR l1, .str l, rfl, _, _, rfl, rfl, bndL l1, .str l, rfl, _, _, rfl, rfl, bndR l1, .str l, rfl, _, _, rfl, rfl, bndR l1, .str l, rfl, ⟨_, rfl⟩, _, rfl, rfl, by omega, .str l, rfl, _, _, rfl, rfl, bndR l1, .str l, rfl, _, _, rfl, rfl, bndR l1, .str w, rfl, _, _, rfl, rfl, bndL w1 (by rw [Str.length_append]; omega), by show 7 ≤ sizeLine; decide, fun p np => ?_⟩
      have s5 := same_new (o := .lst [V.str (l ++ " "), .str (" " ++ l), .str (l ++ " x"), .str (l ++ "\n"), .str (Txt.upper l), .str (l ++ ","), .str (l ++ " " ++ w)]) np
      have e5 := upd_same (H := H4) (a := p) (o := .lst [V.str (l ++ " "), .str (" " ++ l), .str (l ++ " x"), .str (l ++ "\n"), .str (Txt.upper l), .str (l ++ ","), .str (l ++ " " ++ w)])
      generalize upd H4 p (.lst [V.str (l ++ " "), .str (" " ++ l), .str (l ++ " x"), .str (l ++ "\n"), .str (Txt.upper l), .str (l ++ ","), .str (l ++ " " ++ w)]) = H5 at *
      have lx : (headL w ++ ((goodL w).take i).flatMap (ofLine w)).length ≤ 200 := by
        rw [List.length_append, flat_len (ofLine_len w), List.length_take]
        show 11 + _ ≤ 200
        omega
      refine ⟨F, p, _, _, rfl, rfl, s5 _ _ eF, e5, by rw [List.length_map]; show _ + 7 ≤ sizeLine; omega, fun r nr => ?_⟩
      have s6 := same_new (o := .lst ((headL w ++ ((goodL w).take i).flatMap (ofLine w)).map V.str ++ [V.str (l ++ " "), .str (" " ++ l), .str (l ++ " x"), .str (l ++ "\n"), .str (Txt.upper l), .str (l ++ ","), .str (l ++ " " ++ w)])) nr
      have e6 : upd H5 r (.lst ((headL w ++ ((goodL w).take i).flatMap (ofLine w)).map V.str ++ [V.str (l ++ " "), .str (" " ++ l), .str (l ++ " x"), .str (l ++ "\n"), .str (Txt.upper l), .str (l ++ ","), .str (l ++ " " ++ w)])) r = _ := upd_same
      have sr : Same H4 (upd H5 r (.lst ((headL w ++ ((goodL w).take i).flatMap (ofLine w)).map V.str ++ [V.str (l ++ " "), .str (" " ++ l), .str (l ++ " x"), .str (l ++ "\n"), .str (Txt.upper l), .str (l ++ ","), .str (l ++ " " ++ w)]))) := s5.trans s6
      have nr4 : H4 r = none := s5.free nr
      generalize upd H5 r (.lst ((headL w ++ ((goodL w).take i).flatMap (ofLine w)).map V.str ++ [V.str (l ++ " "), .str (" " ++ l), .str (l ++ " x"), .str (l ++ "\n"), .str (Txt.upper l), .str (l ++ ","), .str (l ++ " " ++ w)])) = H6 at *
      obtain ⟨k, hk, ek, esp⟩ := sp01_cases l
      have lo := once_len' ll
      have le1 : (sp01 l).length ≤ 1 := by
        rw [esp]
        split
        · omega
        · exact Nat.zero_le _
      refine ⟨.ref r, rfl, .inl ⟨rfl, _, SqL.of e6⟩, .str l, rfl, l, rfl, len2 ll, .str l, rfl, _, _, rfl, rfl, .inr ⟨_, rfl, _, k, rfl, by rw [ek], hk, _, _, rfl, rfl, ?_, r, _, _, rfl, rfl, e6, ?_, ?_⟩⟩
      · rw [← esp]
        show (R1.once l " " "  ").length + _ ≤ _
        omega
      · rw [List.length_append, List.length_map]
        show _ + 7 < sizeLine
        omega
      · refine ⟨s4.trans (same_off nr4 sr), r, _, rfl, ?_⟩
        rw [← esp, upd_same, flat_snoc el]
        simp only [ofLine, List.map_append, List.map_cons, List.map_nil, List.append_assoc, List.cons_append, List.nil_append]
    · rintro σ H6 ⟨s6, F, z3, rfl, eF⟩
      rw [List.length_map, List.take_length] at eF
      refine ⟨by show 4 ≤ sizeLine; decide, fun v0 nv => ?_⟩
      have s7 := same_new (o := .lst [V.str "target", .str "untarget", .str "piece", .str "unpiece"]) nv
      have e7' := upd_same (H := H6) (a := v0) (o := .lst [V.str "target", .str "untarget", .str "piece", .str "unpiece"])
      generalize upd H6 v0 (.lst [V.str "target", .str "untarget", .str "piece", .str "unpiece"]) = H7 at *
      have e7 : H7 v0 = some (.lst (verbs.map V.str)) := e7'
      have s37 := s6.trans s7
      refine ⟨v0, rfl, ⟨_, SqL.of e7⟩, for_list (K := K) (a := v0) (xs := verbs.map V.str) (D := ⟨_, _, fun _ _ => True, fun _ _ => True⟩) (fun j σ H' => Same H7 H' ∧ ∃ F z4, σ = [some (.str w), some (.ref g), some (.ref F), z3, z4] ∧ H' F = some (.lst ((headL w ++ (goodL w).flatMap (ofLine w) ++ (verbs.take j).flatMap ofVerb).map V.str)))
        ⟨Same.refl _, F, _, rfl, by rw [s7 _ _ eF]; simp⟩ (fun j σ H' hj h => SqL.of (h.1 _ _ e7)) ?_ ?_⟩
      · rintro i x σ H8 hx ⟨s8, F, z4, rfl, eF⟩
        obtain ⟨v, ev, rfl⟩ := Option.map_eq_some_iff.mp (by rw [← List.getElem?_map]; exact hx)
        have l1 : v.length ≤ 1000 := by have := verb_len v (List.mem_of_getElem? ev); omega
        have hi : i < 4 := List.getElem?_eq_some_iff.mp ev |>.1
        refine ⟨.ref F, rfl, .str v, rfl, .str v, rfl, _, _, rfl, rfl, bndR l1, .str v, rfl, _, _, rfl, rfl, bndR l1, .str v, rfl, _, _, rfl, rfl, bndR l1, .str v, rfl, _, _, rfl, rfl, bndR l1, .str v, rfl, _, _, rfl, rfl, bndR l1, .str v, rfl, _, _, rfl, rfl, bndR l1, by show 7 ≤ sizeLine; decide, fun p np => ?_⟩
        have s9 := same_new (o := .lst [V.str v, .str (v ++ " "), .str (v ++ " none"), .str (v ++ " 3-1"), .str (v ++ " 0"), .str (v ++ " 0-01"), .str (v ++ " +0-1")]) np
        have e9 := upd_same (H := H8) (a := p) (o := .lst [V.str v, .str (v ++ " "), .str (v ++ " none"), .str (v ++ " 3-1"), .str (v ++ " 0"), .str (v ++ " 0-01"), .str (v ++ " +0-1")])
        generalize upd H8 p (.lst [V.str v, .str (v ++ " "), .str (v ++ " none"), .str (v ++ " 3-1"), .str (v ++ " 0"), .str (v ++ " 0-01"), .str (v ++ " +0-1")]) = H9 at *
        have lx : (headL w ++ (goodL w).flatMap (ofLine w) ++ (verbs.take i).flatMap ofVerb).length ≤ 300 := by
          rw [List.length_append, List.length_append, flat_len (ofLine_len w), flat_len ofVerb_len, List.length_take]
          show 11 + 8 * 12 + _ ≤ 300
          omega
        refine ⟨F, p, _, _, rfl, rfl, s9 _ _ eF, e9, by rw [List.length_map]; show _ + 7 ≤ sizeLine; omega, fun r nr => ?_⟩
        have sa := same_new (o := .lst ((headL w ++ (goodL w).flatMap (ofLine w) ++ (verbs.take i).flatMap ofVerb).map V.str ++ [V.str v, .str (v ++ " "), .str (v ++ " none"), .str (v ++ " 3-1"), .str (v ++ " 0"), .str (v ++ " 0-01"), .str (v ++ " +0-1")])) nr
        have ea : upd H9 r (.lst ((headL w ++ (goodL w).flatMap (ofLine w) ++ (verbs.take i).flatMap ofVerb).map V.str ++ [V.str v, .str (v ++ " "), .str (v ++ " none"), .str (v ++ " 3-1"), .str (v ++ " 0"), .str (v ++ " 0-01"), .str (v ++ " +0-1")])) r = _ := upd_same
        generalize upd H9 r (.lst ((headL w ++ (goodL w).flatMap (ofLine w) ++ (verbs.take i).flatMap ofVerb).map V.str ++ [V.str v, .str (v ++ " "), .str (v ++ " none"), .str (v ++ " 3-1"), .str (v ++ " 0"), .str (v ++ " 0-01"), .str (v ++ " +0-1")])) = Ha at *
        refine ⟨.ref r, rfl, .str v, rfl, _, _, rfl, rfl, bndR l1, .str v, rfl, _, _, rfl, rfl, bndR l1, .str v, rfl, _, _, rfl, rfl, bndR l1, .str v, rfl, _, _, rfl, rfl, bndR l1, .str v, rfl, _, _, rfl, rfl, bndR l1, by show 5 ≤ sizeLine; decide, fun p2 np2 => ?_⟩
        have sb := same_new (o := .lst [V.str (v ++ " 0-1000000000001"), .str (v ++ " 0-1-2"), .str (v ++ " -1-2"), .str (v ++ " 0 1"), .str (v ++ " (0, 1)")]) np2
        have eb := upd_same (H := Ha) (a := p2) (o := .lst [V.str (v ++ " 0-1000000000001"), .str (v ++ " 0-1-2"), .str (v ++ " -1-2"), .str (v ++ " 0 1"), .str (v ++ " (0, 1)")])
        generalize upd Ha p2 (.lst [V.str (v ++ " 0-1000000000001"), .str (v ++ " 0-1-2"), .str (v ++ " -1-2"), .str (v ++ " 0 1"), .str (v ++ " (0, 1)")]) = Hb at *
        refine ⟨r, p2, _, _, rfl, rfl, sb _ _ ea, eb, by rw [List.length_append, List.length_map]; show _ + 7 + 5 ≤ sizeLine; omega, fun r2 nr2 => ?_⟩
        refine ⟨s8.trans (s9.trans (sa.trans (sb.trans (same_new nr2)))), r2, _, rfl, ?_⟩
        rw [upd_same, flat_snoc ev]
        simp only [ofVerb, List.map_append, List.map_cons, List.map_nil, List.append_assoc, List.cons_append, List.nil_append]
      · rintro σ H8 ⟨s8, F, z4, rfl, eF⟩
        rw [List.length_map, List.take_length] at eF
        refine ⟨.ref F, rfl, by show 8 ≤ sizeLine; decide, fun p np => ?_⟩
        have s9 := same_new (o := .lst [V.str "undo 1", .str "undo 0-1", .str "targets 0-1", .str "needed 0", .str "solve all", .str "witness", .str "change", .str "target0-1"]) np
        have e9' := upd_same (H := H8) (a := p) (o := .lst [V.str "undo 1", .str "undo 0-1", .str "targets 0-1", .str "needed 0", .str "solve all", .str "witness", .str "change", .str "target0-1"])
        generalize upd H8 p (.lst [V.str "undo 1", .str "undo 0-1", .str "targets 0-1", .str "needed 0", .str "solve all", .str "witness", .str "change", .str "target0-1"]) = H9 at *
        have e9 : H9 p = some (.lst (lastL.map V.str)) := e9'
        have lx : (headL w ++ (goodL w).flatMap (ofLine w) ++ verbs.flatMap ofVerb).length ≤ 300 := by
          rw [List.length_append, List.length_append, flat_len (ofLine_len w), flat_len ofVerb_len]
          show 11 + 8 * 12 + 12 * 4 ≤ 300
          omega
        refine ⟨F, p, _, _, rfl, rfl, s9 _ _ eF, e9, by rw [List.length_map]; show _ + 8 ≤ sizeLine; omega, fun r nr => ?_⟩
        refine q _ r (s03.trans (s37.trans (s8.trans (s9.trans (same_new nr))))) ?_ ((s03.trans (s37.trans (s8.trans s9))).free nr)
        rw [upd_same]
        exact congrArg (fun z => some (HO.lst z)) (List.map_append (f := V.str) (l₁ := headL w ++ (goodL w).flatMap (ofLine w) ++ verbs.flatMap ofVerb) (l₂ := lastL)).symm

/-! ### no line of the law is a command -/
def numC (l : List Nat) : Option Int := if (l ≠ [] ∧ ∀ c ∈ l, 48 ≤ c ∧ c ≤ 57) ∧ l.length ≤ 13 ∧ (l.head? ≠ some 48 ∨ l = [48]) then some (NumText.digitsVal l : Nat) else none
theorem numg_eqC (l : List Nat) : numg l = numC l := by
  unfold numg numC
  by_cases c : (l ≠ [] ∧ ∀ c ∈ l, 48 ≤ c ∧ c ≤ 57) ∧ l.length ≤ 13 ∧ (l.head? ≠ some 48 ∨ l = [48])
  · rw [if_pos c]
    exact if_pos c
  · rw [if_neg c]
    exact if_neg c
def ivC (L : List Nat) : Option (Int × Int) := match TL.par [45] [] L with
  | some (a, b) => match numC a, numC b with
    | some x, some y => if (x ≤ 1000000000000 ∧ y ≤ 1000000000000) ∧ x ≤ y then some (x, y) else none
    | _, _ => none
  | none => none
theorem ivf_eqC (L : List Nat) : ivf L = ivC L := by
  rw [← ivg_eq]
  unfold ivg ivC
  cases TL.par [45] [] L with
  | none => rfl
  | some p =>
    obtain ⟨a, b⟩ := p
    dsimp only
    rw [numg_eqC a, numg_eqC b]
    all_goals (cases numC a <;> cases numC b <;> rfl)
def noCmdB (w : Str) : Bool := ((TL.tl w).all (fun c => decide (c < 128)) && decide (w.length ≤ 1000)) && ((match TL.par [32] [] (TL.tl w) with | some (a, b) => (ivC b).isNone || !(decide ((⟨a.toArray⟩ : Str) ∈ verbs)) | none => true) && !(decide (w ∈ singles)))
theorem noCmd_of {w : Str} (h : noCmdB w = true) : NoCmd w := by
  unfold noCmdB at h
  rw [Bool.and_eq_true, Bool.and_eq_true, Bool.and_eq_true, List.all_eq_true] at h
  obtain ⟨⟨h1, h2⟩, h3, h4⟩ := h
  refine ⟨fun c hc => of_decide_eq_true (h1 c hc), of_decide_eq_true h2, ?_, ?_⟩
  · unfold NoEdit
    cases e : TL.par [32] [] (TL.tl w) with
    | none => trivial
    | some p =>
      obtain ⟨a, b⟩ := p
      rw [e] at h3
      dsimp only at h3 ⊢
      rw [Bool.or_eq_true] at h3
      rcases h3 with h3 | h3
      · left
        rw [ivf_eqC]
        exact Option.isNone_iff_eq_none.mp h3
      · right
        intro z
        rw [decide_eq_true z] at h3
        cases h3
  · intro z
    rw [decide_eq_true z] at h4
    cases h4
def wordB (p : Nat × Nat) : Bool := (linesL (ivT ((p.1 : Int), (p.2 : Int)))).all noCmdB
def words8 : List (Nat × Nat) := (List.range 8).flatMap fun a => ((List.range 8).filter fun b => decide (a ≤ b)).map fun b => (a, b)
theorem all_words : words8.all wordB = true := by decide +kernel
theorem word_ok {q : Int × Int} (h0 : 0 ≤ q.1) (h1 : q.1 ≤ q.2) (h3 : q.2 < 8) : ∀ l ∈ linesL (ivT q), NoCmd l := by
  obtain ⟨x, y⟩ := q
  obtain ⟨a, rfl⟩ : ∃ a : Nat, x = a := ⟨x.toNat, by have h0' : 0 ≤ x := h0; omega⟩
  obtain ⟨b, rfl⟩ : ∃ b : Nat, y = b := ⟨y.toNat, by have h1' : (a : Int) ≤ y := h1; omega⟩
  have h1' : (a : Int) ≤ b := h1
  have h3' : (b : Int) < 8 := h3
  have z : wordB (a, b) = true := List.all_eq_true.mp all_words (a, b) (List.mem_flatMap.mpr ⟨a, List.mem_range.mpr (by omega), List.mem_map.mpr ⟨b, List.mem_filter.mpr ⟨List.mem_range.mpr (by omega), decide_eq_true (by omega)⟩, rfl⟩⟩)
  intro l hl
  exact noCmd_of (List.all_eq_true.mp z l hl)

theorem str_ext {x y : Str} (h : TL.tl x = TL.tl y) : x = y := by
  cases x
  cases y
  congr
  exact Array.toList_inj.mp h
theorem rowT_one (q : Int × Int) : rowT [q] = ivT q := by
  unfold rowT
  rw [if_neg (by intro z; cases z), List.map_cons, List.map_nil]
  have e : TL.tl (Txt.join " " [ivT q]) = TL.tl (ivT q) := by rw [TL.join_eq, TL.tl_join]; rfl
  exact str_ext e
theorem head_cut {K : PySem.W.Frag} {σ : L2.St} {H : Hp} {t u z : Addr} {us : List V} {ps : List (Int × Int)} {Q : VK} (ht : H t = some (.tup us)) (iv : Ivs H us ps) (hu : H u = some (.tup [.ref z])) (hz : H z = some (.tup [.int 2, .int 5])) (few : ps.length ≤ 6)
    (bnd : ∀ q ∈ ps, (0 ≤ q.1 ∧ q.1 ≤ q.2) ∧ q.2 < 8) (h : ∀ H' r v q, Same H H' → H' r = some (.tup [v]) → Ivs H' [v] [q] → ((0 ≤ q.1 ∧ q.1 ≤ q.2) ∧ q.2 < 8) → Q (.ref r) H') :
    rCatA K (.ref t) (.ref u) H fun x H1 => tNoPart σ H1 fun l H2 => tPart (tC (.int 1)) σ H2 fun e H3 => rSlA K x l e H3 Q := by
  have sz : sizeLine = 16777216 := by decide
  have lu := iv.length
  refine ⟨t, u, us, [.ref z], rfl, rfl, SqT.of ht, SqT.of hu, by show us.length + 1 ≤ _; omega, fun e => ?_, fun _ e => (nomatch e), fun ne _ p np => ?_⟩
  · refine noPart_of ⟨1, rfl, u, [.ref z], rfl, SqT.of hu, fun _ => ?_, fun c => absurd ⟨rfl, rfl⟩ c⟩
    exact h H u (.ref z) (2, 5) (Same.refl _) hu (.cons hz .nil) (by decide)
  · have s1 := same_new (o := .tup (us ++ [.ref z])) np
    have e1 : upd H p (.tup (us ++ [.ref z])) p = _ := upd_same
    generalize upd H p (.tup (us ++ [.ref z])) = H1 at *
    cases iv with
    | nil => exact absurd rfl ne
    | @cons a x y vs ps' e iv =>
      refine noPart_of ⟨1, rfl, p, _, rfl, SqT.of e1, fun c => ?_, fun c p2 np2 => ?_⟩
      · exfalso
        have c2 : min 1 (V.ref a :: vs ++ [V.ref z]).length = (V.ref a :: vs ++ [V.ref z]).length := c.2
        rw [List.length_append, List.length_cons] at c2
        have : ([V.ref z] : List V).length = 1 := rfl
        omega
      · rw [show cutV (V.ref a :: vs ++ [V.ref z]) none (some 1) = [V.ref a] by rw [show (1 : Int) = ((1 : Nat) : Int) from rfl, cutTo]; rfl]
        have s2 := same_new (o := .tup [V.ref a]) np2
        exact h _ p2 _ (x, y) (s1.trans s2) upd_same (.cons ((s1.trans s2) _ _ e) .nil) (bnd _ List.mem_cons_self)
theorem Odd.same {K : PySem.W.Frag} {H H' : Hp} {v : V} (h : Odd K H v) (s : Same H H') : Odd K H' v := by
  rcases h with h | ⟨d, h1, h2⟩
  · exact .inl h
  · exact .inr ⟨d, dv_same s h1, h2⟩
theorem odd_no : ∀ d ∈ oddD, strB d = false := by decide
def sp_law (K : PySem.W.Frag) (pT : Addr) : Sp := fun vs H Q _ => ∃ (a : Addr) (ns : List Int), vs = [.ref a] ∧ SqL K H a (ns.map V.int) ∧ ns.length ≤ 63 ∧ H pT = some (.tbl #[]) ∧ ∀ H', Q (.bl true) H'
theorem ok_law (T : Tx K mg f_is_number f_is_position f_is_tuple_of f_is_interval f_ascending_error f_targets_error f_is_pieces f_interval_text f_joined_texts f_intervals_text f_demand_text f_parse_number f_parse_interval f_edit_version f_edit_answer f_state_answer f_count_answer f_answer_line f_without_item f_with_interval f_without_interval f_edited_state f_helpful_piece f_law_deck f_law_draw f_law_same f_law_small f_law_odd f_law_text f_law_lines f_law f_Shell_init f_Shell_execute f_Plan_init f_Plan_add_target f_Plan_add_piece f_Plan_remove_target f_Plan_remove_piece f_Plan_undo f_Plan_targets f_Plan_pieces f_Plan_needed f_Plan_solution f_Plan_missing f_Plan_changes f_Plan_edit f_Plan_record f_Plan_require_idle f_Plan_state_at f_Plan_len f_Plan_eq C_Shell C_Plan X_NothingToUndo X_Busy X_TooManyEdits X_Duplicate X_TooMany X_Unknown X_TooWide d_is_number d_is_position d_is_tuple_of d_is_interval d_ascending_error d_targets_error d_is_pieces d_interval_text d_joined_texts d_intervals_text d_demand_text d_parse_number d_parse_interval d_edit_version d_edit_answer d_state_answer d_count_answer d_answer_line d_without_item d_with_interval d_without_interval d_edited_state d_helpful_piece d_law_deck d_law_draw d_law_same d_law_small d_law_odd d_law_text d_law_lines d_law d_Shell_init d_Shell_execute d_Plan_init d_Plan_add_target d_Plan_add_piece d_Plan_remove_target d_Plan_remove_piece d_Plan_undo d_Plan_targets d_Plan_pieces d_Plan_needed d_Plan_solution d_Plan_missing d_Plan_changes d_Plan_edit d_Plan_record d_Plan_require_idle d_Plan_state_at d_Plan_len d_Plan_eq t_LAST_POSITION t_MAX_TARGETS t_MAX_PIECES t_MAX_BLOCKS t_MAX_EDITS t_BATCH) (hT : TabH base mg d_helpful_piece pT) : FnG P w K mg base 13 f_law d_law ["_law_script"] (sp_law K pT) := by
  refine FnG.of T.F_law sc_law (fun {vs H Q} h => ?_) (fun cdv A outer s H vs Q hr hq h => ?_)
  · obtain ⟨a, ns, rfl, _⟩ := h
    rfl
  · obtain ⟨a, ns, rfl, hS, hlen, _, q⟩ := h
    refine ⟨_, (pss_cons (ps_set (i := 1) sc_law.nd rfl (Or.inl rfl) (pe_call (ok_law_deck T) (hr.mono (by decide)) (by rfl) T.g_law_deck T.F_law_deck.kp T.b_law_deck .nil pass0 (pa_cons (pv 0) pa_nil)))
      (pss_cons (ps_set (i := 2) sc_law.nd rfl (Or.inl rfl) (pe_call (ok_law_small T) (hr.mono (by decide)) (by rfl) T.g_law_small T.F_law_small.kp T.b_law_small .nil pass0 (pa_cons (pv 1) (pa_cons pe_int (pa_cons pe_int pa_nil)))))
      (pss_cons (ps_par (by rfl) sc_law.nd (i := 3) (j := 4) rfl rfl (by decide) rfl rfl (pa_cons (pe_make T.mk_Plan (ok_Plan_init T) (hr.mono (by decide)) (by rfl) T.g_Plan T.b_Plan_init .nil pass0 (pa_cons (pv 2) (pa_cons (pe_tup (pa_cons (pe_tup (pa_cons pe_int (pa_cons pe_int pa_nil))) pa_nil)) pa_nil))) (pa_cons (pe_make T.mk_Plan (ok_Plan_init T) (hr.mono (by decide)) (by rfl) T.g_Plan T.b_Plan_init .nil pass0 (pa_cons (pv 2) (pa_cons (pe_tup (pa_cons (pe_tup (pa_cons pe_int (pa_cons pe_int pa_nil))) pa_nil)) pa_nil))) pa_nil)) (by rfl))
      (pss_cons (ps_set (i := 5) sc_law.nd rfl (Or.inl rfl) (pe_make T.mk_Shell (ok_Shell_init T) (hr.mono (by decide)) (by rfl) T.g_Shell T.b_Shell_init .nil pass0 (pa_cons (pv 3) pa_nil)))
      (pss_cons (ps_set (i := 6) sc_law.nd rfl (Or.inl rfl) (pe_call (ok_law_text T) (hr.mono (by decide)) (by rfl) T.g_law_text T.F_law_text.kp T.b_law_text .nil pass0 (pa_cons (pe_slice sl_tupA (pe_op op_catA (pv 2) (pe_tup (pa_cons (pe_tup (pa_cons pe_int (pa_cons pe_int pa_nil))) pa_nil))) po_none (po_some pe_int)) pa_nil)))
      (pss_cons (ps_for PassesOwn.never rfl (pi_list (pe_op op_cat (pe_call (ok_law_lines T) (hr.mono (by decide)) (by rfl) T.g_law_lines T.F_law_lines.kp T.b_law_lines .nil pass0 (pa_cons (pv 6) pa_nil)) (pe_lst (pa_cons (pe_call (ok_law_odd T) (hr.mono (by decide)) (by rfl) T.g_law_odd T.F_law_odd.kp T.b_law_odd .nil pass0 (pa_cons (pv 1) pa_nil)) (pa_cons pe_non (pa_cons pe_int (pa_cons pe_bl (pa_cons (pe_lst (pa_cons pe_str pa_nil)) (pa_cons (pe_tup (pa_cons pe_str pa_nil)) (pa_cons (pe_disp (pps_cons pe_str pe_int pps_nil) (by rfl) (by rfl) (fun z => by cases z) (by decide)) (pa_cons (pe_op op_pow pe_int pe_int) pa_nil))))))))))) (pg_name (i := 7) sc_law.nd rfl (Or.inl rfl))
      (pss_one (ps_if (PW.pt (pw_or (pt_cmpR op_ne (pe_meth (pv 5) T.cl_Shell T.m_Shell_execute (ok_Shell_execute T) (hr.mono (by decide)) T.b_Shell_execute .nil pass0 (pa_cons (pv 7) pa_nil)) pe_str (nomark _)) (pw_or1 (pt_cmpR op_ne (pe_callB (cr_lenOwn (ok_Plan_len T) T.m_Plan_len.at_ T.m_Plan_len.fn T.b_Plan_len pass0 (hr.mono (by decide))) (by rfl) T.z_len PySem.boot_len (pa_cons (pv 3) pa_nil)) pe_int (nomark _)))))
      (pss_one (ps_ret pe_bl))
      pss_nil)))
      (pss_one (ps_ret (pe_and (pe_cmpR (op_eqOwn (ok_Plan_eq T) T.m_Plan_eq.at_ T.m_Plan_eq.fn T.b_Plan_eq pass0 (hr.mono (by decide))) (pv 3) (pv 4) (nomark _)) (pe_one (pe_call (ok_law_same T) (hr.mono (by decide)) (by rfl) T.g_law_same T.F_law_same.kp T.b_law_same .nil pass0 (pa_cons (pe_meth0 (pv 3) T.cl_Plan T.m_Plan_targets (ok_Plan_targets T) (hr.mono (by decide)) T.b_Plan_targets.choose_spec.2 T.b_Plan_targets.choose_spec.1 pass0) (pa_cons (pv 2) pa_nil))))))))))))), ?_⟩
    have sz : sizeLine = 16777216 := by decide
    refine ⟨.ref a, rfl, a, ns, rfl, hS, hlen, fun H1 d c s1 nd nc dk1 => ?_⟩
    refine ⟨.ref d, rfl, d, c, 0, 6, 8, rfl, dk1, by decide, by decide, by decide, by decide, by decide, by decide, fun H2 t us ps m kp2 dk2 m0 m1 et iv sm pl => ?_⟩
    have so : StOk (ps, [(0, 0)]) := ⟨⟨sm.asc, fun q hq => by have := sm.ok q hq; exact ⟨this.1, by omega⟩, by show ps.length ≤ 24; omega⟩, ⟨List.pairwise_singleton _ _, fun q hq => by have e := List.mem_singleton.mp hq; subst e; exact ⟨⟨by decide, by decide⟩, by decide⟩, by show 1 ≤ 30; decide⟩⟩
    refine ⟨.ref t, rfl, by show 2 ≤ sizeLine; decide, fun z1 nz1 => ?_⟩
    have s3 := same_new (o := .tup [V.int 0, .int 0]) nz1
    have ez1 := upd_same (H := H2) (a := z1) (o := .tup [V.int 0, .int 0])
    generalize upd H2 z1 (.tup [V.int 0, .int 0]) = H3 at *
    refine ⟨by show 1 ≤ sizeLine; decide, fun y1 ny1 => ?_⟩
    have s4 := same_new (o := .tup [V.ref z1]) ny1
    have ey1 := upd_same (H := H3) (a := y1) (o := .tup [V.ref z1])
    generalize upd H3 y1 (.tup [V.ref z1]) = H4 at *
    intro p1 dx1 np1 ndx1 nn1
    have sA : Same H4 (upd (upd H4 dx1 (.own p1)) p1 (.ins C_Plan dx1 [])) := fun b o e => by
      rw [upd_ne (ne_of_none e np1), upd_ne (ne_of_none e ndx1)]
      exact e
    have s24 := s3.trans s4
    refine ⟨p1, dx1, t, y1, us, [.ref z1], (ps, [(0, 0)]), rfl, upd_same, sA _ _ (s24 _ _ et), (iv.same s24).same sA, sA _ _ ey1, .cons (sA _ _ (s4 _ _ ez1)) .nil, so, fun H5 b5 P1 => ⟨rfl, ?_⟩⟩
    have s45 : Same H4 H5 := fun b o e => b5 b o (ne_of_none e np1) (sA _ _ e)
    have s25 := s24.trans s45
    refine ⟨.ref t, rfl, by show 2 ≤ sizeLine; decide, fun z2 nz2 => ?_⟩
    have s6 := same_new (o := .tup [V.int 0, .int 0]) nz2
    have ez2 := upd_same (H := H5) (a := z2) (o := .tup [V.int 0, .int 0])
    generalize upd H5 z2 (.tup [V.int 0, .int 0]) = H6 at *
    refine ⟨by show 1 ≤ sizeLine; decide, fun y2 ny2 => ?_⟩
    have s7 := same_new (o := .tup [V.ref z2]) ny2
    have ey2 := upd_same (H := H6) (a := y2) (o := .tup [V.ref z2])
    generalize upd H6 y2 (.tup [V.ref z2]) = H7 at *
    intro p2 dx2 np2 ndx2 nn2
    have sB : Same H7 (upd (upd H7 dx2 (.own p2)) p2 (.ins C_Plan dx2 [])) := fun b o e => by
      rw [upd_ne (ne_of_none e np2), upd_ne (ne_of_none e ndx2)]
      exact e
    have s27 := s25.trans (s6.trans s7)
    refine ⟨p2, dx2, t, y2, us, [.ref z2], (ps, [(0, 0)]), rfl, upd_same, sB _ _ (s27 _ _ et), (iv.same s27).same sB, sB _ _ ey2, .cons (sB _ _ (s7 _ _ ez2)) .nil, so, fun H8 b8 P2 => ⟨rfl, ?_⟩⟩
    have s78 : Same H7 H8 := fun b o e => b8 b o (ne_of_none e np2) (sB _ _ e)
    have s58 := (s6.trans s7).trans s78
    have P18 := P1.same s58
    have s28 := s25.trans s58
    refine ⟨_, _, rfl, .ref p1, rfl, fun sh dxs nsh ndxs nns => ?_⟩
    have sC : Same H8 (upd (upd H8 dxs (.own sh)) sh (.ins C_Shell dxs [])) := fun b o e => by
      rw [upd_ne (ne_of_none e nsh), upd_ne (ne_of_none e ndxs)]
      exact e
    refine ⟨sh, dxs, p1, rfl, upd_same, rfl, ?_⟩
    have sD : Same H8 (upd (upd (upd H8 dxs (.own sh)) sh (.ins C_Shell dxs [])) sh (.ins C_Shell dxs [("plan", .ref p1)])) := fun b o e => by
      rw [upd_ne (ne_of_none e nsh)]
      exact sC _ _ e
    have esh : ShellAt C_Shell (upd (upd (upd H8 dxs (.own sh)) sh (.ins C_Shell dxs [])) sh (.ins C_Shell dxs [("plan", .ref p1)])) sh p1 := ⟨dxs, upd_same⟩
    generalize upd (upd (upd H8 dxs (.own sh)) sh (.ins C_Shell dxs [])) sh (.ins C_Shell dxs [("plan", .ref p1)]) = H9 at *
    have s29 := s28.trans sD
    have ps8 : ∀ q ∈ ps, (0 ≤ q.1 ∧ q.1 ≤ q.2) ∧ q.2 < 8 := fun q hq => sm.ok q hq
    have et9 := s29 _ _ et
    have iv9 := iv.same s29
    refine ⟨.ref t, rfl, by show 2 ≤ sizeLine; decide, fun z3 nz3 => ?_⟩
    have sa := same_new (o := .tup [V.int 2, .int 5]) nz3
    have ez3 := upd_same (H := H9) (a := z3) (o := .tup [V.int 2, .int 5])
    generalize upd H9 z3 (.tup [V.int 2, .int 5]) = Ha at *
    refine ⟨by show 1 ≤ sizeLine; decide, fun y3 ny3 => ?_⟩
    have sb := same_new (o := .tup [V.ref z3]) ny3
    have ey3 := upd_same (H := Ha) (a := y3) (o := .tup [V.ref z3])
    generalize upd Ha y3 (.tup [V.ref z3]) = Hb at *
    have s9b := sa.trans sb
    have s2b := s29.trans s9b
    refine head_cut (s2b _ _ et) (iv.same s2b) ey3 (sb _ _ ez3) (by omega) ps8 fun Hc r v q0 sc er ivr b0 => ?_
    have b0' : (0 ≤ q0.1 ∧ q0.1 ≤ q0.2) ∧ q0.2 ≤ 1000000000000 := ⟨b0.1, by omega⟩
    refine ⟨r, [v], [q0], rfl, er, ivr, (fun q hq => by rw [List.mem_singleton.mp hq]; exact b0'), by show 1 < 1000; decide, fun Hd sd => ?_⟩
    rw [rowT_one]
    have s2d := s2b.trans (sc.trans sd)
    have lw := ivT_len b0'
    refine ⟨.str (ivT q0), rfl, ivT q0, rfl, by omega, fun He l se el nl => ?_⟩
    have s2e := s2d.trans se
    have dkd := dk2.kept s2d
    have dke := dk2.kept s2e
    have offl := dkd.off nl
    have s9e : Same H9 He := s9b.trans (sc.trans (sd.trans se))
    have s8e : Same H8 He := sD.trans s9e
    obtain ⟨dxx, hsx⟩ := esh.ex
    have hse := s9e _ _ hsx
    have P1e := P18.same s8e
    have P2e := P2.same s8e
    refine ⟨.ref d, rfl, d, c, m, rfl, dke, by omega, by omega, fun Hf v dd kpf dkf hdd hdv => ?_⟩
    have tf := kpf.tps dke
    have kin : ∀ {p C dx : Addr} {fs : List (Str × V)}, He p = some (.ins C dx fs) → Hf p = some (.ins C dx fs) := fun e => kpf.keep (dke.noti e) e
    have P1f := P1e.keep tf fun _ _ _ e => kin e
    have P2f := P2e.keep tf fun _ _ _ e => kin e
    have hsf := kin hse
    have etf := tf _ _ (s2e _ _ et)
    have ivf' := (iv.same s2e).tps tf
    have elf := kpf.keep offl el
    have hdv' := dv_same offP_sub hdv
    refine ⟨by show 1 ≤ sizeLine; decide, fun l2 nl2 => ?_⟩
    have sg := same_new (o := .lst [V.str "undo"]) nl2
    have eg := upd_same (H := Hf) (a := l2) (o := .lst [V.str "undo"])
    generalize upd Hf l2 (.lst [V.str "undo"]) = Hg at *
    refine ⟨by show 1 ≤ sizeLine; decide, fun t2 nt2 => ?_⟩
    have sh2 := same_new (o := .tup [V.str "undo"]) nt2
    have eh := upd_same (H := Hg) (a := t2) (o := .tup [V.str "undo"])
    generalize upd Hg t2 (.tup [V.str "undo"]) = Hh at *
    intro pd npd
    refine ⟨upd_same, [(Sum.inr "undo", .int 1)], rfl, by decide, ?_⟩
    have si : Same Hh (upd (upd Hh pd (.dK [])) pd (.dK (mergeK [] [(Sum.inr ("undo" : Str), V.int 1)]))) := fun b o e => by
      rw [upd_ne (ne_of_none e npd), upd_ne (ne_of_none e npd)]
      exact e
    have ei : upd (upd Hh pd (.dK [])) pd (.dK (mergeK [] [(Sum.inr ("undo" : Str), V.int 1)])) pd = some (.dK [(Sum.inr ("undo" : Str), V.int 1)]) := upd_same
    generalize upd (upd Hh pd (.dK [])) pd (.dK (mergeK [] [(Sum.inr ("undo" : Str), V.int 1)])) = Hi at *
    refine ⟨10, 29, rfl, rfl, ⟨by decide, by decide, by decide⟩, by show 8 ≤ sizeLine; decide, fun l3 nl3 => ?_⟩
    have sj := same_new (o := .lst [v, .non, .int 5, .bl true, .ref l2, .ref t2, .ref pd, .int ((10 : Int) ^ (29 : Int).toNat)]) nl3
    have ej := upd_same (H := Hi) (a := l3) (o := .lst [v, .non, .int 5, .bl true, .ref l2, .ref t2, .ref pd, .int ((10 : Int) ^ (29 : Int).toNat)])
    generalize upd Hi l3 (.lst [v, .non, .int 5, .bl true, .ref l2, .ref t2, .ref pd, .int ((10 : Int) ^ (29 : Int).toNat)]) = Hj at *
    have sfi := sg.trans (sh2.trans si)
    have sfj := sfi.trans sj
    have ll : (linesL (ivT q0)).length ≤ 300 := by
      unfold linesL
      rw [List.length_append, List.length_append, List.length_append, flat_len (ofLine_len _), flat_len ofVerb_len]
      show 11 + 8 * 12 + 12 * 4 + 8 ≤ 300
      omega
    refine ⟨l, l3, _, _, rfl, rfl, sfj _ _ elf, ej, by rw [List.length_map]; show _ + 8 ≤ sizeLine; omega, fun L nL => ?_⟩
    have sk := same_new (o := .lst ((linesL (ivT q0)).map V.str ++ [v, .non, .int 5, .bl true, .ref l2, .ref t2, .ref pd, .int ((10 : Int) ^ (29 : Int).toNat)])) nL
    have ek := upd_same (H := Hj) (a := L) (o := .lst ((linesL (ivT q0)).map V.str ++ [v, .non, .int 5, .bl true, .ref l2, .ref t2, .ref pd, .int ((10 : Int) ^ (29 : Int).toNat)]))
    generalize upd Hj L (.lst ((linesL (ivT q0)).map V.str ++ [v, .non, .int 5, .bl true, .ref l2, .ref t2, .ref pd, .int ((10 : Int) ^ (29 : Int).toNat)])) = Hk at *
    have sfk := sfj.trans sk
    have odd : ∀ x ∈ (linesL (ivT q0)).map V.str ++ [v, .non, .int 5, .bl true, .ref l2, .ref t2, .ref pd, .int ((10 : Int) ^ (29 : Int).toNat)], Odd K Hk x := by
      intro x hx
      rcases List.mem_append.mp hx with hx | hx
      · obtain ⟨w0, hw, rfl⟩ := List.mem_map.mp hx
        exact .inl ⟨w0, rfl, word_ok b0.1.1 b0.1.2 b0.2 w0 hw⟩
      · right
        simp only [List.mem_cons, List.not_mem_nil, or_false] at hx
        rcases hx with rfl | rfl | rfl | rfl | rfl | rfl | rfl | rfl
        · exact ⟨dd, dv_same sfk hdv', odd_no dd hdd⟩
        · exact ⟨_, .non, rfl⟩
        · exact ⟨_, .int _, rfl⟩
        · exact ⟨_, .bl _, rfl⟩
        · exact ⟨_, .lst ((sh2.trans (si.trans (sj.trans sk))) _ _ eg) (.cons (.str _) .nil), rfl⟩
        · exact ⟨_, .tup ((si.trans (sj.trans sk)) _ _ eh) (.cons (.str _) .nil), rfl⟩
        · exact ⟨_, .dic ((sj.trans sk) _ _ ei) (.cons (.int _) .nil), rfl⟩
        · exact ⟨_, .int _, rfl⟩
    have lke : ([("plan", V.ref p1)] : List (Str × V)).lookup ("execute" : Str) = none := by
      rw [List.lookup_cons, show (("execute" : Str) == "plan") = false by decide +kernel]
      rfl
    refine ⟨L, rfl, ⟨_, SqL.of ek⟩, for_list (K := K) (a := L) (xs := (linesL (ivT q0)).map V.str ++ [v, .non, .int 5, .bl true, .ref l2, .ref t2, .ref pd, .int ((10 : Int) ^ (29 : Int).toNat)]) (D := ⟨_, _, fun _ _ => True, fun _ _ => True⟩) (fun j σ H' => Same Hk H' ∧ ∃ y7, σ = [some (.ref a), some (.ref d), some (.ref t), some (.ref p1), some (.ref p2), some (.ref sh), some (.str (ivT q0)), y7])
      ⟨Same.refl _, _, rfl⟩ (fun j σ H' hj h => SqL.of (h.1 _ _ ek)) ?_ ?_⟩
    · rintro i x σ Hl hx ⟨sl, y7, rfl⟩
      have ox := (odd x (List.mem_of_getElem? hx)).same sl
      have sfl := sfk.trans sl
      have hsl := sfl _ _ hsf
      refine ⟨.ref sh, rfl, sh, dxx, _, rfl, hsl, lke, x, rfl, sh, p1, x, rfl, ⟨_, hsl⟩, ox, fun Hm sm2 => ?_⟩
      refine ⟨rfl, _, rfl, ite2 (fun z => absurd z (by rw [decide_eq_true rfl]; decide)) (fun _ => ?_)⟩
      have P1m := P1f.same (sfl.trans sm2)
      obtain ⟨dxp, _, _, _, _, hpm, _⟩ := id P1m.ex
      refine ⟨.ref p1, rfl, p1, dxp, _, rfl, hpm, p1, _, _, rfl, P1m, _, rfl, ⟨by decide, by decide⟩, rfl, _, rfl, ?_⟩
      exact iteF ⟨sl.trans sm2, _, rfl⟩
    · rintro σ Hl ⟨sl, y7, rfl⟩
      have sfl := sfk.trans sl
      have P1l := P1f.same sfl
      have P2l := P2f.same sfl
      obtain ⟨dxp, _, _, _, _, hpl, _⟩ := id P1l.ex
      obtain ⟨dxq, _, _, _, _, hql, _⟩ := id P2l.ex
      refine ⟨.ref p1, rfl, .ref p2, rfl, p1, p2, dxp, dxq, _, _, rfl, rfl, hpl, hql, p1, p2, [], (ps, [(0, 0)]), [], [], (ps, [(0, 0)]), [], rfl, P1l, P2l, _, rfl, ?_⟩
      refine ⟨true, by rw [decide_eq_true rfl], iteT ?_⟩
      exact ⟨.ref p1, rfl, p1, dxp, _, rfl, hpl, lk_no _ _ _ (by decide +kernel), p1, .non, _, [], (ps, [(0, 0)]), 0, rfl, P1l, .inl ⟨rfl, rfl⟩, rfl, fun x xs hx ix => ⟨.ref t, rfl, x, t, xs, us, ps, rfl, hx, sfl _ _ etf, ix, ivf'.same sfl, by omega, fun H' s' => q H'⟩⟩

end
theorem all_mk {l : PySem.W.OpenLaw} {w : World} {K : PySem.W.Frag} {h : Heap} {mg : Str → Option Value} {fa f1 f2 f3 f4 f5 f6 f7 f8 f9 f10 f11 f12 f13 f14 f15 f16 f17 f18 f19 f20 f21 f22 f23 f24 f25 f26 f27 f28 f29 f30 f31 f32 f33 f34 f35 f36 f37 f38 f39 f40 f41 f42 f43 f44 f45 f46 f47 f48 f49 f50 f51 C_Shell C_Plan X_NothingToUndo X_Busy X_TooManyEdits X_Duplicate X_TooMany X_Unknown X_TooWide kD40 kD41 kD42 kD43 kD44 : Addr} (X : K.In h) (G : h.Ns mainGlobals mg) (hfa : mg "law" = some (.ref fa))
    {od1 an1 od2 an2 od3 an3 od4 an4 od5 an5 od6 an6 od7 an7 od8 an8 od9 an9 od10 an10 od11 an11 od12 an12 od13 an13 od14 an14 od15 an15 od16 an16 od17 an17 od18 an18 od19 an19 od20 an20 od21 an21 od22 an22 od23 an23 od24 an24 od25 an25 od26 an26 od27 an27 od28 an28 od29 an29 od30 an30 od31 an31 od32 an32 od33 an33 od34 an34 od35 an35 od36 an36 od37 an37 od38 an38 od39 an39 od40 an40 od41 an41 od42 an42 od43 an43 od44 an44 od45 an45 od46 an46 od47 an47 od48 an48 od49 an49 od50 an50 od51 an51 : Option Addr} {sl1 sl2 sl3 sl4 sl5 sl6 sl7 sl8 sl9 sl10 sl11 sl12 sl13 sl14 sl15 sl16 sl17 sl18 sl19 sl20 sl21 sl22 sl23 sl24 sl25 sl26 sl27 sl28 sl29 sl30 sl31 sl32 sl33 sl34 sl35 sl36 sl37 sl38 sl39 sl40 sl41 sl42 sl43 sl44 sl45 sl46 sl47 sl48 sl49 sl50 sl51 : Array (Option Value)} {oc1 kV1 dc1 pm1 cd1 ct1 oc2 kV2 dc2 pm2 cd2 ct2 oc3 kV3 dc3 pm3 cd3 ct3 oc4 kV4 dc4 pm4 cd4 ct4 oc5 kV5 dc5 pm5 cd5 ct5 oc6 kV6 dc6 pm6 cd6 ct6 oc7 kV7 dc7 pm7 cd7 ct7 oc8 kV8 dc8 pm8 cd8 ct8 oc9 kV9 dc9 pm9 cd9 ct9 oc10 kV10 dc10 pm10 cd10 ct10 oc11 kV11 dc11 pm11 cd11 ct11 oc12 kV12 dc12 pm12 cd12 ct12 oc13 kV13 dc13 pm13 cd13 ct13 oc14 kV14 dc14 pm14 cd14 ct14 oc15 kV15 dc15 pm15 cd15 ct15 oc16 kV16 dc16 pm16 cd16 ct16 oc17 kV17 dc17 pm17 cd17 ct17 oc18 kV18 dc18 pm18 cd18 ct18 oc19 kV19 dc19 pm19 cd19 ct19 oc20 kV20 dc20 pm20 cd20 ct20 oc21 kV21 dc21 pm21 cd21 ct21 oc22 kV22 dc22 pm22 cd22 ct22 oc23 kV23 dc23 pm23 cd23 ct23 oc24 kV24 dc24 pm24 cd24 ct24 oc25 kV25 dc25 pm25 cd25 ct25 oc26 kV26 dc26 pm26 cd26 ct26 oc27 kV27 dc27 pm27 cd27 ct27 oc28 kV28 dc28 pm28 cd28 ct28 oc29 kV29 dc29 pm29 cd29 ct29 oc30 kV30 dc30 pm30 cd30 ct30 oc31 kV31 dc31 pm31 cd31 ct31 oc32 kV32 dc32 pm32 cd32 ct32 oc33 kV33 dc33 pm33 cd33 ct33 oc34 kV34 dc34 pm34 cd34 ct34 oc35 kV35 dc35 pm35 cd35 ct35 oc36 kV36 dc36 pm36 cd36 ct36 oc37 kV37 dc37 pm37 cd37 ct37 oc38 kV38 dc38 pm38 cd38 ct38 oc39 kV39 dc39 pm39 cd39 ct39 oc40 dc40 pm40 cd40 ct40 oc41 dc41 pm41 cd41 ct41 oc42 dc42 pm42 cd42 ct42 oc43 dc43 pm43 cd43 ct43 oc44 dc44 pm44 cd44 ct44 oc45 kV45 dc45 pm45 cd45 ct45 oc46 kV46 dc46 pm46 cd46 ct46 oc47 kV47 dc47 pm47 cd47 ct47 oc48 kV48 dc48 pm48 cd48 ct48 oc49 kV49 dc49 pm49 cd49 ct49 oc50 kV50 dc50 pm50 cd50 ct50 oc51 kV51 dc51 pm51 cd51 ct51 : Value} {tk0 tk1 tk2 tk3 tk4 tk5 : Tok} {cc PP : Addr}
    (a1 : PySem.W.nsIn K mainGlobals "is_number" = some (some (.ref f1))) (l1 : K.lookup f1 = some ⟨oc1, od1, .func (PySem.W.fnOf "is_number" "is_number" (defArgs s_is_number) (defBody s_is_number) (defScope s_is_number) .none kV1 dc1 pm1 an1 cd1 ct1), sl1⟩) (c1 : PySem.W.codeIn K cd1 "is_number" = true) (k1 : PySem.W.keepIn K (.ref f1) = true)
    (a2 : PySem.W.nsIn K mainGlobals "is_position" = some (some (.ref f2))) (l2 : K.lookup f2 = some ⟨oc2, od2, .func (PySem.W.fnOf "is_position" "is_position" (defArgs s_is_position) (defBody s_is_position) (defScope s_is_position) .none kV2 dc2 pm2 an2 cd2 ct2), sl2⟩) (c2 : PySem.W.codeIn K cd2 "is_position" = true) (k2 : PySem.W.keepIn K (.ref f2) = true)
    (a3 : PySem.W.nsIn K mainGlobals "is_tuple_of" = some (some (.ref f3))) (l3 : K.lookup f3 = some ⟨oc3, od3, .func (PySem.W.fnOf "is_tuple_of" "is_tuple_of" (defArgs s_is_tuple_of) (defBody s_is_tuple_of) (defScope s_is_tuple_of) .none kV3 dc3 pm3 an3 cd3 ct3), sl3⟩) (c3 : PySem.W.codeIn K cd3 "is_tuple_of" = true) (k3 : PySem.W.keepIn K (.ref f3) = true)
    (a4 : PySem.W.nsIn K mainGlobals "is_interval" = some (some (.ref f4))) (l4 : K.lookup f4 = some ⟨oc4, od4, .func (PySem.W.fnOf "is_interval" "is_interval" (defArgs s_is_interval) (defBody s_is_interval) (defScope s_is_interval) .none kV4 dc4 pm4 an4 cd4 ct4), sl4⟩) (c4 : PySem.W.codeIn K cd4 "is_interval" = true) (k4 : PySem.W.keepIn K (.ref f4) = true)
    (a5 : PySem.W.nsIn K mainGlobals "ascending_error" = some (some (.ref f5))) (l5 : K.lookup f5 = some ⟨oc5, od5, .func (PySem.W.fnOf "ascending_error" "ascending_error" (defArgs s_ascending_error) (defBody s_ascending_error) (defScope s_ascending_error) .none kV5 dc5 pm5 an5 cd5 ct5), sl5⟩) (c5 : PySem.W.codeIn K cd5 "ascending_error" = true) (k5 : PySem.W.keepIn K (.ref f5) = true)
    (a6 : PySem.W.nsIn K mainGlobals "targets_error" = some (some (.ref f6))) (l6 : K.lookup f6 = some ⟨oc6, od6, .func (PySem.W.fnOf "targets_error" "targets_error" (defArgs s_targets_error) (defBody s_targets_error) (defScope s_targets_error) .none kV6 dc6 pm6 an6 cd6 ct6), sl6⟩) (c6 : PySem.W.codeIn K cd6 "targets_error" = true) (k6 : PySem.W.keepIn K (.ref f6) = true)
    (a7 : PySem.W.nsIn K mainGlobals "is_pieces" = some (some (.ref f7))) (l7 : K.lookup f7 = some ⟨oc7, od7, .func (PySem.W.fnOf "is_pieces" "is_pieces" (defArgs s_is_pieces) (defBody s_is_pieces) (defScope s_is_pieces) .none kV7 dc7 pm7 an7 cd7 ct7), sl7⟩) (c7 : PySem.W.codeIn K cd7 "is_pieces" = true) (k7 : PySem.W.keepIn K (.ref f7) = true)
    (a8 : PySem.W.nsIn K mainGlobals "interval_text" = some (some (.ref f8))) (l8 : K.lookup f8 = some ⟨oc8, od8, .func (PySem.W.fnOf "interval_text" "interval_text" (defArgs s_interval_text) (defBody s_interval_text) (defScope s_interval_text) .none kV8 dc8 pm8 an8 cd8 ct8), sl8⟩) (c8 : PySem.W.codeIn K cd8 "interval_text" = true) (k8 : PySem.W.keepIn K (.ref f8) = true)
    (a9 : PySem.W.nsIn K mainGlobals "joined_texts" = some (some (.ref f9))) (l9 : K.lookup f9 = some ⟨oc9, od9, .func (PySem.W.fnOf "joined_texts" "joined_texts" (defArgs s_joined_texts) (defBody s_joined_texts) (defScope s_joined_texts) .none kV9 dc9 pm9 an9 cd9 ct9), sl9⟩) (c9 : PySem.W.codeIn K cd9 "joined_texts" = true) (k9 : PySem.W.keepIn K (.ref f9) = true)
    (a10 : PySem.W.nsIn K mainGlobals "intervals_text" = some (some (.ref f10))) (l10 : K.lookup f10 = some ⟨oc10, od10, .func (PySem.W.fnOf "intervals_text" "intervals_text" (defArgs s_intervals_text) (defBody s_intervals_text) (defScope s_intervals_text) .none kV10 dc10 pm10 an10 cd10 ct10), sl10⟩) (c10 : PySem.W.codeIn K cd10 "intervals_text" = true) (k10 : PySem.W.keepIn K (.ref f10) = true)
    (a11 : PySem.W.nsIn K mainGlobals "demand_text" = some (some (.ref f11))) (l11 : K.lookup f11 = some ⟨oc11, od11, .func (PySem.W.fnOf "demand_text" "demand_text" (defArgs s_demand_text) (defBody s_demand_text) (defScope s_demand_text) .none kV11 dc11 pm11 an11 cd11 ct11), sl11⟩) (c11 : PySem.W.codeIn K cd11 "demand_text" = true) (k11 : PySem.W.keepIn K (.ref f11) = true)
    (a12 : PySem.W.nsIn K mainGlobals "parse_number" = some (some (.ref f12))) (l12 : K.lookup f12 = some ⟨oc12, od12, .func (PySem.W.fnOf "parse_number" "parse_number" (defArgs s_parse_number) (defBody s_parse_number) (defScope s_parse_number) .none kV12 dc12 pm12 an12 cd12 ct12), sl12⟩) (c12 : PySem.W.codeIn K cd12 "parse_number" = true) (k12 : PySem.W.keepIn K (.ref f12) = true)
    (a13 : PySem.W.nsIn K mainGlobals "parse_interval" = some (some (.ref f13))) (l13 : K.lookup f13 = some ⟨oc13, od13, .func (PySem.W.fnOf "parse_interval" "parse_interval" (defArgs s_parse_interval) (defBody s_parse_interval) (defScope s_parse_interval) .none kV13 dc13 pm13 an13 cd13 ct13), sl13⟩) (c13 : PySem.W.codeIn K cd13 "parse_interval" = true) (k13 : PySem.W.keepIn K (.ref f13) = true)
    (a14 : PySem.W.nsIn K mainGlobals "edit_version" = some (some (.ref f14))) (l14 : K.lookup f14 = some ⟨oc14, od14, .func (PySem.W.fnOf "edit_version" "edit_version" (defArgs s_edit_version) (defBody s_edit_version) (defScope s_edit_version) .none kV14 dc14 pm14 an14 cd14 ct14), sl14⟩) (c14 : PySem.W.codeIn K cd14 "edit_version" = true) (k14 : PySem.W.keepIn K (.ref f14) = true)
    (a15 : PySem.W.nsIn K mainGlobals "edit_answer" = some (some (.ref f15))) (l15 : K.lookup f15 = some ⟨oc15, od15, .func (PySem.W.fnOf "edit_answer" "edit_answer" (defArgs s_edit_answer) (defBody s_edit_answer) (defScope s_edit_answer) .none kV15 dc15 pm15 an15 cd15 ct15), sl15⟩) (c15 : PySem.W.codeIn K cd15 "edit_answer" = true) (k15 : PySem.W.keepIn K (.ref f15) = true)
    (a16 : PySem.W.nsIn K mainGlobals "state_answer" = some (some (.ref f16))) (l16 : K.lookup f16 = some ⟨oc16, od16, .func (PySem.W.fnOf "state_answer" "state_answer" (defArgs s_state_answer) (defBody s_state_answer) (defScope s_state_answer) .none kV16 dc16 pm16 an16 cd16 ct16), sl16⟩) (c16 : PySem.W.codeIn K cd16 "state_answer" = true) (k16 : PySem.W.keepIn K (.ref f16) = true)
    (a17 : PySem.W.nsIn K mainGlobals "count_answer" = some (some (.ref f17))) (l17 : K.lookup f17 = some ⟨oc17, od17, .func (PySem.W.fnOf "count_answer" "count_answer" (defArgs s_count_answer) (defBody s_count_answer) (defScope s_count_answer) .none kV17 dc17 pm17 an17 cd17 ct17), sl17⟩) (c17 : PySem.W.codeIn K cd17 "count_answer" = true) (k17 : PySem.W.keepIn K (.ref f17) = true)
    (a18 : PySem.W.nsIn K mainGlobals "answer_line" = some (some (.ref f18))) (l18 : K.lookup f18 = some ⟨oc18, od18, .func (PySem.W.fnOf "answer_line" "answer_line" (defArgs s_answer_line) (defBody s_answer_line) (defScope s_answer_line) .none kV18 dc18 pm18 an18 cd18 ct18), sl18⟩) (c18 : PySem.W.codeIn K cd18 "answer_line" = true) (k18 : PySem.W.keepIn K (.ref f18) = true)
    (a19 : PySem.W.nsIn K mainGlobals "without_item" = some (some (.ref f19))) (l19 : K.lookup f19 = some ⟨oc19, od19, .func (PySem.W.fnOf "without_item" "without_item" (defArgs s_without_item) (defBody s_without_item) (defScope s_without_item) .none kV19 dc19 pm19 an19 cd19 ct19), sl19⟩) (c19 : PySem.W.codeIn K cd19 "without_item" = true) (k19 : PySem.W.keepIn K (.ref f19) = true)
    (a20 : PySem.W.nsIn K mainGlobals "with_interval" = some (some (.ref f20))) (l20 : K.lookup f20 = some ⟨oc20, od20, .func (PySem.W.fnOf "with_interval" "with_interval" (defArgs s_with_interval) (defBody s_with_interval) (defScope s_with_interval) .none kV20 dc20 pm20 an20 cd20 ct20), sl20⟩) (c20 : PySem.W.codeIn K cd20 "with_interval" = true) (k20 : PySem.W.keepIn K (.ref f20) = true)
    (a21 : PySem.W.nsIn K mainGlobals "without_interval" = some (some (.ref f21))) (l21 : K.lookup f21 = some ⟨oc21, od21, .func (PySem.W.fnOf "without_interval" "without_interval" (defArgs s_without_interval) (defBody s_without_interval) (defScope s_without_interval) .none kV21 dc21 pm21 an21 cd21 ct21), sl21⟩) (c21 : PySem.W.codeIn K cd21 "without_interval" = true) (k21 : PySem.W.keepIn K (.ref f21) = true)
    (a22 : PySem.W.nsIn K mainGlobals "edited_state" = some (some (.ref f22))) (l22 : K.lookup f22 = some ⟨oc22, od22, .func (PySem.W.fnOf "edited_state" "edited_state" (defArgs s_edited_state) (defBody s_edited_state) (defScope s_edited_state) .none kV22 dc22 pm22 an22 cd22 ct22), sl22⟩) (c22 : PySem.W.codeIn K cd22 "edited_state" = true) (k22 : PySem.W.keepIn K (.ref f22) = true)
    (a23 : PySem.W.nsIn K mainGlobals "helpful_piece" = some (some (.ref f23))) (l23 : K.lookup f23 = some ⟨oc23, od23, .func (PySem.W.fnOf "helpful_piece" "helpful_piece" (defArgs s_helpful_piece) (defBody s_helpful_piece) (defScope s_helpful_piece) .none kV23 dc23 pm23 an23 cd23 ct23), sl23⟩) (c23 : PySem.W.codeIn K cd23 "helpful_piece" = true) (k23 : PySem.W.keepIn K (.ref f23) = true)
    (a24 : PySem.W.nsIn K mainGlobals "_law_deck" = some (some (.ref f24))) (l24 : K.lookup f24 = some ⟨oc24, od24, .func (PySem.W.fnOf "_law_deck" "_law_deck" (defArgs s_law_deck) (defBody s_law_deck) (defScope s_law_deck) .none kV24 dc24 pm24 an24 cd24 ct24), sl24⟩) (c24 : PySem.W.codeIn K cd24 "_law_deck" = true) (k24 : PySem.W.keepIn K (.ref f24) = true)
    (a25 : PySem.W.nsIn K mainGlobals "_law_draw" = some (some (.ref f25))) (l25 : K.lookup f25 = some ⟨oc25, od25, .func (PySem.W.fnOf "_law_draw" "_law_draw" (defArgs s_law_draw) (defBody s_law_draw) (defScope s_law_draw) .none kV25 dc25 pm25 an25 cd25 ct25), sl25⟩) (c25 : PySem.W.codeIn K cd25 "_law_draw" = true) (k25 : PySem.W.keepIn K (.ref f25) = true)
    (a26 : PySem.W.nsIn K mainGlobals "_law_same" = some (some (.ref f26))) (l26 : K.lookup f26 = some ⟨oc26, od26, .func (PySem.W.fnOf "_law_same" "_law_same" (defArgs s_law_same) (defBody s_law_same) (defScope s_law_same) .none kV26 dc26 pm26 an26 cd26 ct26), sl26⟩) (c26 : PySem.W.codeIn K cd26 "_law_same" = true) (k26 : PySem.W.keepIn K (.ref f26) = true)
    (a27 : PySem.W.nsIn K mainGlobals "_law_small" = some (some (.ref f27))) (l27 : K.lookup f27 = some ⟨oc27, od27, .func (PySem.W.fnOf "_law_small" "_law_small" (defArgs s_law_small) (defBody s_law_small) (defScope s_law_small) .none kV27 dc27 pm27 an27 cd27 ct27), sl27⟩) (c27 : PySem.W.codeIn K cd27 "_law_small" = true) (k27 : PySem.W.keepIn K (.ref f27) = true)
    (a28 : PySem.W.nsIn K mainGlobals "_law_odd" = some (some (.ref f28))) (l28 : K.lookup f28 = some ⟨oc28, od28, .func (PySem.W.fnOf "_law_odd" "_law_odd" (defArgs s_law_odd) (defBody s_law_odd) (defScope s_law_odd) .none kV28 dc28 pm28 an28 cd28 ct28), sl28⟩) (c28 : PySem.W.codeIn K cd28 "_law_odd" = true) (k28 : PySem.W.keepIn K (.ref f28) = true)
    (a29 : PySem.W.nsIn K mainGlobals "_law_text" = some (some (.ref f29))) (l29 : K.lookup f29 = some ⟨oc29, od29, .func (PySem.W.fnOf "_law_text" "_law_text" (defArgs s_law_text) (defBody s_law_text) (defScope s_law_text) .none kV29 dc29 pm29 an29 cd29 ct29), sl29⟩) (c29 : PySem.W.codeIn K cd29 "_law_text" = true) (k29 : PySem.W.keepIn K (.ref f29) = true)
    (a30 : PySem.W.nsIn K mainGlobals "_law_lines" = some (some (.ref f30))) (l30 : K.lookup f30 = some ⟨oc30, od30, .func (PySem.W.fnOf "_law_lines" "_law_lines" (defArgs s_law_lines) (defBody s_law_lines) (defScope s_law_lines) .none kV30 dc30 pm30 an30 cd30 ct30), sl30⟩) (c30 : PySem.W.codeIn K cd30 "_law_lines" = true) (k30 : PySem.W.keepIn K (.ref f30) = true)
    (a31 : PySem.W.nsIn K mainGlobals "law" = some (some (.ref f31))) (l31 : K.lookup f31 = some ⟨oc31, od31, .func (PySem.W.fnOf "law" "law" (defArgs s_law) (defBody s_law) (defScope s_law) .none kV31 dc31 pm31 an31 cd31 ct31), sl31⟩) (c31 : PySem.W.codeIn K cd31 "law" = true) (k31 : PySem.W.keepIn K (.ref f31) = true)
    (a32 : PySem.W.findIn K (.ref C_Shell) "__init__" = some (some (.ref f32))) (i32 : PySem.W.isFn K (.ref f32) = true) (l32 : K.lookup f32 = some ⟨oc32, od32, .func (PySem.W.fnOf "__init__" "Shell.__init__" (defArgs s_Shell_init) (defBody s_Shell_init) (defScope s_Shell_init) .none kV32 dc32 pm32 an32 cd32 ct32), sl32⟩) (c32 : PySem.W.codeIn K cd32 "Shell.__init__" = true) (k32 : PySem.W.keepIn K (.ref f32) = true)
    (a33 : PySem.W.findIn K (.ref C_Shell) "execute" = some (some (.ref f33))) (i33 : PySem.W.isFn K (.ref f33) = true) (l33 : K.lookup f33 = some ⟨oc33, od33, .func (PySem.W.fnOf "execute" "Shell.execute" (defArgs s_Shell_execute) (defBody s_Shell_execute) (defScope s_Shell_execute) .none kV33 dc33 pm33 an33 cd33 ct33), sl33⟩) (c33 : PySem.W.codeIn K cd33 "Shell.execute" = true) (k33 : PySem.W.keepIn K (.ref f33) = true)
    (a34 : PySem.W.findIn K (.ref C_Plan) "__init__" = some (some (.ref f34))) (i34 : PySem.W.isFn K (.ref f34) = true) (l34 : K.lookup f34 = some ⟨oc34, od34, .func (PySem.W.fnOf "__init__" "Plan.__init__" (defArgs s_Plan_init) (defBody s_Plan_init) (defScope s_Plan_init) .none kV34 dc34 pm34 an34 cd34 ct34), sl34⟩) (c34 : PySem.W.codeIn K cd34 "Plan.__init__" = true) (k34 : PySem.W.keepIn K (.ref f34) = true)
    (a35 : PySem.W.findIn K (.ref C_Plan) "add_target" = some (some (.ref f35))) (i35 : PySem.W.isFn K (.ref f35) = true) (l35 : K.lookup f35 = some ⟨oc35, od35, .func (PySem.W.fnOf "add_target" "Plan.add_target" (defArgs s_Plan_add_target) (defBody s_Plan_add_target) (defScope s_Plan_add_target) .none kV35 dc35 pm35 an35 cd35 ct35), sl35⟩) (c35 : PySem.W.codeIn K cd35 "Plan.add_target" = true) (k35 : PySem.W.keepIn K (.ref f35) = true)
    (a36 : PySem.W.findIn K (.ref C_Plan) "add_piece" = some (some (.ref f36))) (i36 : PySem.W.isFn K (.ref f36) = true) (l36 : K.lookup f36 = some ⟨oc36, od36, .func (PySem.W.fnOf "add_piece" "Plan.add_piece" (defArgs s_Plan_add_piece) (defBody s_Plan_add_piece) (defScope s_Plan_add_piece) .none kV36 dc36 pm36 an36 cd36 ct36), sl36⟩) (c36 : PySem.W.codeIn K cd36 "Plan.add_piece" = true) (k36 : PySem.W.keepIn K (.ref f36) = true)
    (a37 : PySem.W.findIn K (.ref C_Plan) "remove_target" = some (some (.ref f37))) (i37 : PySem.W.isFn K (.ref f37) = true) (l37 : K.lookup f37 = some ⟨oc37, od37, .func (PySem.W.fnOf "remove_target" "Plan.remove_target" (defArgs s_Plan_remove_target) (defBody s_Plan_remove_target) (defScope s_Plan_remove_target) .none kV37 dc37 pm37 an37 cd37 ct37), sl37⟩) (c37 : PySem.W.codeIn K cd37 "Plan.remove_target" = true) (k37 : PySem.W.keepIn K (.ref f37) = true)
    (a38 : PySem.W.findIn K (.ref C_Plan) "remove_piece" = some (some (.ref f38))) (i38 : PySem.W.isFn K (.ref f38) = true) (l38 : K.lookup f38 = some ⟨oc38, od38, .func (PySem.W.fnOf "remove_piece" "Plan.remove_piece" (defArgs s_Plan_remove_piece) (defBody s_Plan_remove_piece) (defScope s_Plan_remove_piece) .none kV38 dc38 pm38 an38 cd38 ct38), sl38⟩) (c38 : PySem.W.codeIn K cd38 "Plan.remove_piece" = true) (k38 : PySem.W.keepIn K (.ref f38) = true)
    (a39 : PySem.W.findIn K (.ref C_Plan) "undo" = some (some (.ref f39))) (i39 : PySem.W.isFn K (.ref f39) = true) (l39 : K.lookup f39 = some ⟨oc39, od39, .func (PySem.W.fnOf "undo" "Plan.undo" (defArgs s_Plan_undo) (defBody s_Plan_undo) (defScope s_Plan_undo) .none kV39 dc39 pm39 an39 cd39 ct39), sl39⟩) (c39 : PySem.W.codeIn K cd39 "Plan.undo" = true) (k39 : PySem.W.keepIn K (.ref f39) = true)
    (a40 : PySem.W.findIn K (.ref C_Plan) "targets" = some (some (.ref f40))) (i40 : PySem.W.isFn K (.ref f40) = true) (l40 : K.lookup f40 = some ⟨oc40, od40, .func (PySem.W.fnOf "targets" "Plan.targets" (defArgs s_Plan_targets) (defBody s_Plan_targets) (defScope s_Plan_targets) .none (.ref kD40) dc40 pm40 an40 cd40 ct40), sl40⟩) (c40 : PySem.W.codeIn K cd40 "Plan.targets" = true) (k40 : PySem.W.keepIn K (.ref f40) = true)
    (q40 : PySem.W.nsIn K kD40 "version" = some (some .none))
    (a41 : PySem.W.findIn K (.ref C_Plan) "pieces" = some (some (.ref f41))) (i41 : PySem.W.isFn K (.ref f41) = true) (l41 : K.lookup f41 = some ⟨oc41, od41, .func (PySem.W.fnOf "pieces" "Plan.pieces" (defArgs s_Plan_pieces) (defBody s_Plan_pieces) (defScope s_Plan_pieces) .none (.ref kD41) dc41 pm41 an41 cd41 ct41), sl41⟩) (c41 : PySem.W.codeIn K cd41 "Plan.pieces" = true) (k41 : PySem.W.keepIn K (.ref f41) = true)
    (q41 : PySem.W.nsIn K kD41 "version" = some (some .none))
    (a42 : PySem.W.findIn K (.ref C_Plan) "needed" = some (some (.ref f42))) (i42 : PySem.W.isFn K (.ref f42) = true) (l42 : K.lookup f42 = some ⟨oc42, od42, .func (PySem.W.fnOf "needed" "Plan.needed" (defArgs s_Plan_needed) (defBody s_Plan_needed) (defScope s_Plan_needed) .none (.ref kD42) dc42 pm42 an42 cd42 ct42), sl42⟩) (c42 : PySem.W.codeIn K cd42 "Plan.needed" = true) (k42 : PySem.W.keepIn K (.ref f42) = true)
    (q42 : PySem.W.nsIn K kD42 "version" = some (some .none))
    (a43 : PySem.W.findIn K (.ref C_Plan) "solution" = some (some (.ref f43))) (i43 : PySem.W.isFn K (.ref f43) = true) (l43 : K.lookup f43 = some ⟨oc43, od43, .func (PySem.W.fnOf "solution" "Plan.solution" (defArgs s_Plan_solution) (defBody s_Plan_solution) (defScope s_Plan_solution) .none (.ref kD43) dc43 pm43 an43 cd43 ct43), sl43⟩) (c43 : PySem.W.codeIn K cd43 "Plan.solution" = true) (k43 : PySem.W.keepIn K (.ref f43) = true)
    (q43 : PySem.W.nsIn K kD43 "version" = some (some .none))
    (a44 : PySem.W.findIn K (.ref C_Plan) "missing" = some (some (.ref f44))) (i44 : PySem.W.isFn K (.ref f44) = true) (l44 : K.lookup f44 = some ⟨oc44, od44, .func (PySem.W.fnOf "missing" "Plan.missing" (defArgs s_Plan_missing) (defBody s_Plan_missing) (defScope s_Plan_missing) .none (.ref kD44) dc44 pm44 an44 cd44 ct44), sl44⟩) (c44 : PySem.W.codeIn K cd44 "Plan.missing" = true) (k44 : PySem.W.keepIn K (.ref f44) = true)
    (q44 : PySem.W.nsIn K kD44 "version" = some (some .none))
    (a45 : PySem.W.findIn K (.ref C_Plan) "changes" = some (some (.ref f45))) (i45 : PySem.W.isFn K (.ref f45) = true) (l45 : K.lookup f45 = some ⟨oc45, od45, .func (PySem.W.fnOf "changes" "Plan.changes" (defArgs s_Plan_changes) (defBody s_Plan_changes) (defScope s_Plan_changes) .none kV45 dc45 pm45 an45 cd45 ct45), sl45⟩) (c45 : PySem.W.codeIn K cd45 "Plan.changes" = true) (k45 : PySem.W.keepIn K (.ref f45) = true)
    (a46 : PySem.W.findIn K (.ref C_Plan) "edit" = some (some (.ref f46))) (i46 : PySem.W.isFn K (.ref f46) = true) (l46 : K.lookup f46 = some ⟨oc46, od46, .func (PySem.W.fnOf "edit" "Plan.edit" (defArgs s_Plan_edit) (defBody s_Plan_edit) (defScope s_Plan_edit) .none kV46 dc46 pm46 an46 cd46 ct46), sl46⟩) (c46 : PySem.W.codeIn K cd46 "Plan.edit" = true) (k46 : PySem.W.keepIn K (.ref f46) = true)
    (a47 : PySem.W.findIn K (.ref C_Plan) "record" = some (some (.ref f47))) (i47 : PySem.W.isFn K (.ref f47) = true) (l47 : K.lookup f47 = some ⟨oc47, od47, .func (PySem.W.fnOf "record" "Plan.record" (defArgs s_Plan_record) (defBody s_Plan_record) (defScope s_Plan_record) .none kV47 dc47 pm47 an47 cd47 ct47), sl47⟩) (c47 : PySem.W.codeIn K cd47 "Plan.record" = true) (k47 : PySem.W.keepIn K (.ref f47) = true)
    (a48 : PySem.W.findIn K (.ref C_Plan) "require_idle" = some (some (.ref f48))) (i48 : PySem.W.isFn K (.ref f48) = true) (l48 : K.lookup f48 = some ⟨oc48, od48, .func (PySem.W.fnOf "require_idle" "Plan.require_idle" (defArgs s_Plan_require_idle) (defBody s_Plan_require_idle) (defScope s_Plan_require_idle) .none kV48 dc48 pm48 an48 cd48 ct48), sl48⟩) (c48 : PySem.W.codeIn K cd48 "Plan.require_idle" = true) (k48 : PySem.W.keepIn K (.ref f48) = true)
    (a49 : PySem.W.findIn K (.ref C_Plan) "state_at" = some (some (.ref f49))) (i49 : PySem.W.isFn K (.ref f49) = true) (l49 : K.lookup f49 = some ⟨oc49, od49, .func (PySem.W.fnOf "state_at" "Plan.state_at" (defArgs s_Plan_state_at) (defBody s_Plan_state_at) (defScope s_Plan_state_at) .none kV49 dc49 pm49 an49 cd49 ct49), sl49⟩) (c49 : PySem.W.codeIn K cd49 "Plan.state_at" = true) (k49 : PySem.W.keepIn K (.ref f49) = true)
    (a50 : PySem.W.findIn K (.ref C_Plan) "__len__" = some (some (.ref f50))) (i50 : PySem.W.isFn K (.ref f50) = true) (l50 : K.lookup f50 = some ⟨oc50, od50, .func (PySem.W.fnOf "__len__" "Plan.__len__" (defArgs s_Plan_len) (defBody s_Plan_len) (defScope s_Plan_len) .none kV50 dc50 pm50 an50 cd50 ct50), sl50⟩) (c50 : PySem.W.codeIn K cd50 "Plan.__len__" = true) (k50 : PySem.W.keepIn K (.ref f50) = true)
    (a51 : PySem.W.findIn K (.ref C_Plan) "__eq__" = some (some (.ref f51))) (i51 : PySem.W.isFn K (.ref f51) = true) (l51 : K.lookup f51 = some ⟨oc51, od51, .func (PySem.W.fnOf "__eq__" "Plan.__eq__" (defArgs s_Plan_eq) (defBody s_Plan_eq) (defScope s_Plan_eq) .none kV51 dc51 pm51 an51 cd51 ct51), sl51⟩) (c51 : PySem.W.codeIn K cd51 "Plan.__eq__" = true) (k51 : PySem.W.keepIn K (.ref f51) = true)
    (aC_Shell : PySem.W.nsIn K mainGlobals "Shell" = some (some (.ref C_Shell))) (pg_Shell : PySem.W.plainGet K C_Shell Str.empty = true) (hd_Shell : PySem.W.hasDictIn K C_Shell = true) (po_Shell : PySem.W.plainOver K C_Shell = true) (sa_Shell : PySem.W.findIn K (.ref C_Shell) "__setattr__" = some (some (.builtin "object.__setattr__"))) (mk_Shell : PySem.W.makesIn K C_Shell = true) (kc_Shell : PySem.W.keepIn K (.ref C_Shell) = true) (n_plan_Shell : PySem.W.findIn K (.ref C_Shell) "plan" = some none)
    (aC_Plan : PySem.W.nsIn K mainGlobals "Plan" = some (some (.ref C_Plan))) (pg_Plan : PySem.W.plainGet K C_Plan Str.empty = true) (hd_Plan : PySem.W.hasDictIn K C_Plan = true) (po_Plan : PySem.W.plainOver K C_Plan = true) (sa_Plan : PySem.W.findIn K (.ref C_Plan) "__setattr__" = some (some (.builtin "object.__setattr__"))) (mk_Plan : PySem.W.makesIn K C_Plan = true) (kc_Plan : PySem.W.keepIn K (.ref C_Plan) = true) (n_states_Plan : PySem.W.findIn K (.ref C_Plan) "states" = some none) (n_done_Plan : PySem.W.findIn K (.ref C_Plan) "done" = some none) (n_busy_Plan : PySem.W.findIn K (.ref C_Plan) "busy" = some none) (ia_Plan : PySem.W.findIn K (.ref C_Plan) "__class__" = some (some (.builtin "object.__class__"))) (ib_Plan : PySem.W.specialIn K (.builtin "object.__class__") "__get__" = some (some (.builtin "getset_descriptor.__get__"))) (it_Plan : PySem.W.takesIn K (.builtin "object.__class__") = some true) (im_Plan : PySem.W.mroIn K C_Plan (.type "object") = some true)
    (aX_NothingToUndo : PySem.W.nsIn K mainGlobals "NothingToUndo" = some (some (.ref X_NothingToUndo))) (iX_NothingToUndo : PySem.W.isClsIn K X_NothingToUndo = true) (tX_NothingToUndo : PySem.W.typeIn K (.ref X_NothingToUndo) = some (.type "type")) (bX_NothingToUndo : PySem.W.subIn K (.ref X_NothingToUndo) (.type "BaseException") = some true) (xX_NothingToUndo : PySem.W.excIn K X_NothingToUndo bmVE "ValueError.__new__" = true) (kX_NothingToUndo : PySem.W.keepIn K (.ref X_NothingToUndo) = true) (gX_NothingToUndo : PySem.W.findIn K (.ref X_NothingToUndo) "__getattribute__" = some (some (.builtin "BaseException.__getattribute__"))) (hX_NothingToUndo : PySem.W.findIn K (.ref X_NothingToUndo) "__getattr__" = some none) (dX_NothingToUndo : PySem.W.hasDictIn K X_NothingToUndo = true) (cX_NothingToUndo : PySem.W.findIn K (.ref X_NothingToUndo) "__class__" = some (some (.builtin "object.__class__"))) (eX_NothingToUndo : PySem.W.specialIn K (.builtin "object.__class__") "__get__" = some (some (.builtin "getset_descriptor.__get__"))) (uX_NothingToUndo : PySem.W.takesIn K (.builtin "object.__class__") = some true) (mX_NothingToUndo : PySem.W.mroIn K X_NothingToUndo (.type "object") = some true) (vX_NothingToUndo : PySem.W.subIn K (.ref X_NothingToUndo) (.type "ValueError") = some true)
    (aX_Busy : PySem.W.nsIn K mainGlobals "Busy" = some (some (.ref X_Busy))) (iX_Busy : PySem.W.isClsIn K X_Busy = true) (tX_Busy : PySem.W.typeIn K (.ref X_Busy) = some (.type "type")) (bX_Busy : PySem.W.subIn K (.ref X_Busy) (.type "BaseException") = some true)
    (aX_TooManyEdits : PySem.W.nsIn K mainGlobals "TooManyEdits" = some (some (.ref X_TooManyEdits))) (iX_TooManyEdits : PySem.W.isClsIn K X_TooManyEdits = true) (tX_TooManyEdits : PySem.W.typeIn K (.ref X_TooManyEdits) = some (.type "type")) (bX_TooManyEdits : PySem.W.subIn K (.ref X_TooManyEdits) (.type "BaseException") = some true)
    (aX_Duplicate : PySem.W.nsIn K mainGlobals "Duplicate" = some (some (.ref X_Duplicate))) (iX_Duplicate : PySem.W.isClsIn K X_Duplicate = true) (tX_Duplicate : PySem.W.typeIn K (.ref X_Duplicate) = some (.type "type")) (bX_Duplicate : PySem.W.subIn K (.ref X_Duplicate) (.type "BaseException") = some true)
    (aX_TooMany : PySem.W.nsIn K mainGlobals "TooMany" = some (some (.ref X_TooMany))) (iX_TooMany : PySem.W.isClsIn K X_TooMany = true) (tX_TooMany : PySem.W.typeIn K (.ref X_TooMany) = some (.type "type")) (bX_TooMany : PySem.W.subIn K (.ref X_TooMany) (.type "BaseException") = some true)
    (aX_Unknown : PySem.W.nsIn K mainGlobals "Unknown" = some (some (.ref X_Unknown))) (iX_Unknown : PySem.W.isClsIn K X_Unknown = true) (tX_Unknown : PySem.W.typeIn K (.ref X_Unknown) = some (.type "type")) (bX_Unknown : PySem.W.subIn K (.ref X_Unknown) (.type "BaseException") = some true)
    (aX_TooWide : PySem.W.nsIn K mainGlobals "TooWide" = some (some (.ref X_TooWide))) (iX_TooWide : PySem.W.isClsIn K X_TooWide = true) (tX_TooWide : PySem.W.typeIn K (.ref X_TooWide) = some (.type "type")) (bX_TooWide : PySem.W.subIn K (.ref X_TooWide) (.type "BaseException") = some true)
    (sX_NothingToUndo_Busy : PySem.W.subIn K (.ref X_NothingToUndo) (.ref X_Busy) = some false)
    (sX_NothingToUndo_TooManyEdits : PySem.W.subIn K (.ref X_NothingToUndo) (.ref X_TooManyEdits) = some false)
    (sX_NothingToUndo_Duplicate : PySem.W.subIn K (.ref X_NothingToUndo) (.ref X_Duplicate) = some false)
    (sX_NothingToUndo_TooMany : PySem.W.subIn K (.ref X_NothingToUndo) (.ref X_TooMany) = some false)
    (sX_NothingToUndo_Unknown : PySem.W.subIn K (.ref X_NothingToUndo) (.ref X_Unknown) = some false)
    (sX_NothingToUndo_NothingToUndo : PySem.W.subIn K (.ref X_NothingToUndo) (.ref X_NothingToUndo) = some true)
    (sX_NothingToUndo_TooWide : PySem.W.subIn K (.ref X_NothingToUndo) (.ref X_TooWide) = some false)
    (y0 : PySem.W.nsIn K mainGlobals "LAST_POSITION" = some (some (.int 1000000000000 tk0))) (y1 : PySem.W.nsIn K mainGlobals "MAX_TARGETS" = some (some (.int 24 tk1))) (y2 : PySem.W.nsIn K mainGlobals "MAX_PIECES" = some (some (.int 30 tk2))) (y3 : PySem.W.nsIn K mainGlobals "MAX_BLOCKS" = some (some (.int 8 tk3))) (y4 : PySem.W.nsIn K mainGlobals "MAX_EDITS" = some (some (.int 60 tk4))) (y5 : PySem.W.nsIn K mainGlobals "BATCH" = some (some (.int 20 tk5))) (z0 : PySem.W.nsIn K mainGlobals "abs" = some none) (z1 : PySem.W.nsIn K mainGlobals "bool" = some none) (z2 : PySem.W.nsIn K mainGlobals "enumerate" = some none) (z3 : PySem.W.nsIn K mainGlobals "int" = some none) (z4 : PySem.W.nsIn K mainGlobals "isinstance" = some none) (z5 : PySem.W.nsIn K mainGlobals "len" = some none) (z6 : PySem.W.nsIn K mainGlobals "range" = some none) (z7 : PySem.W.nsIn K mainGlobals "set" = some none) (z8 : PySem.W.nsIn K mainGlobals "sorted" = some none) (z9 : PySem.W.nsIn K mainGlobals "str" = some none) (z10 : PySem.W.nsIn K mainGlobals "tuple" = some none) (z11 : PySem.W.nsIn K mainGlobals "zip" = some none) (hcc : cd23 = .ref cc) :
    ∃ fd : FuncData, (∀ (s : Shared) (v : Value), BindsTo s fd ⟨[v], []⟩ [("_law_script", v)]) ∧ ∀ base : Heap, K.In base → base.Ns mainGlobals mg → (∃ mm, base.Ns sysModules mm) → LamX.TabB base mg cc PP → FnG l.prog w K mg base 13 fa fd ["_law_script"] (sp_law K PP) := by
  have e := hfa.symm.trans (PySem.W.mg_of X G a31)
  cases e
  have F1 := fun_mk (st := s_is_number) l1 c1 k1
  have b1 := F1.binds (ps := ["value"]) fun _ _ _ _ _ _ us hl => match us, hl with | [_], _ => rfl
  have F2 := fun_mk (st := s_is_position) l2 c2 k2
  have b2 := F2.binds (ps := ["value"]) fun _ _ _ _ _ _ us hl => match us, hl with | [_], _ => rfl
  have F3 := fun_mk (st := s_is_tuple_of) l3 c3 k3
  have b3 := F3.binds (ps := ["value", "length"]) fun _ _ _ _ _ _ us hl => match us, hl with | [_, _], _ => rfl
  have F4 := fun_mk (st := s_is_interval) l4 c4 k4
  have b4 := F4.binds (ps := ["value"]) fun _ _ _ _ _ _ us hl => match us, hl with | [_], _ => rfl
  have F5 := fun_mk (st := s_ascending_error) l5 c5 k5
  have b5 := F5.binds (ps := ["value", "most"]) fun _ _ _ _ _ _ us hl => match us, hl with | [_, _], _ => rfl
  have F6 := fun_mk (st := s_targets_error) l6 c6 k6
  have b6 := F6.binds (ps := ["value"]) fun _ _ _ _ _ _ us hl => match us, hl with | [_], _ => rfl
  have F7 := fun_mk (st := s_is_pieces) l7 c7 k7
  have b7 := F7.binds (ps := ["value"]) fun _ _ _ _ _ _ us hl => match us, hl with | [_], _ => rfl
  have F8 := fun_mk (st := s_interval_text) l8 c8 k8
  have b8 := F8.binds (ps := ["interval"]) fun _ _ _ _ _ _ us hl => match us, hl with | [_], _ => rfl
  have F9 := fun_mk (st := s_joined_texts) l9 c9 k9
  have b9 := F9.binds (ps := ["texts"]) fun _ _ _ _ _ _ us hl => match us, hl with | [_], _ => rfl
  have F10 := fun_mk (st := s_intervals_text) l10 c10 k10
  have b10 := F10.binds (ps := ["intervals"]) fun _ _ _ _ _ _ us hl => match us, hl with | [_], _ => rfl
  have F11 := fun_mk (st := s_demand_text) l11 c11 k11
  have b11 := F11.binds (ps := ["demand"]) fun _ _ _ _ _ _ us hl => match us, hl with | [_], _ => rfl
  have F12 := fun_mk (st := s_parse_number) l12 c12 k12
  have b12 := F12.binds (ps := ["text"]) fun _ _ _ _ _ _ us hl => match us, hl with | [_], _ => rfl
  have F13 := fun_mk (st := s_parse_interval) l13 c13 k13
  have b13 := F13.binds (ps := ["word"]) fun _ _ _ _ _ _ us hl => match us, hl with | [_], _ => rfl
  have F14 := fun_mk (st := s_edit_version) l14 c14 k14
  have b14 := F14.binds (ps := ["plan", "word", "interval"]) fun _ _ _ _ _ _ us hl => match us, hl with | [_, _, _], _ => rfl
  have F15 := fun_mk (st := s_edit_answer) l15 c15 k15
  have b15 := F15.binds (ps := ["plan", "line"]) fun _ _ _ _ _ _ us hl => match us, hl with | [_, _], _ => rfl
  have F16 := fun_mk (st := s_state_answer) l16 c16 k16
  have b16 := F16.binds (ps := ["plan", "word"]) fun _ _ _ _ _ _ us hl => match us, hl with | [_, _], _ => rfl
  have F17 := fun_mk (st := s_count_answer) l17 c17 k17
  have b17 := F17.binds (ps := ["plan", "word"]) fun _ _ _ _ _ _ us hl => match us, hl with | [_, _], _ => rfl
  have F18 := fun_mk (st := s_answer_line) l18 c18 k18
  have b18 := F18.binds (ps := ["plan", "line"]) fun _ _ _ _ _ _ us hl => match us, hl with | [_, _], _ => rfl
  have F19 := fun_mk (st := s_without_item) l19 c19 k19
  have b19 := F19.binds (ps := ["items", "item"]) fun _ _ _ _ _ _ us hl => match us, hl with | [_, _], _ => rfl
  have F20 := fun_mk (st := s_with_interval) l20 c20 k20
  have b20 := F20.binds (ps := ["intervals", "value", "bound"]) fun _ _ _ _ _ _ us hl => match us, hl with | [_, _, _], _ => rfl
  have F21 := fun_mk (st := s_without_interval) l21 c21 k21
  have b21 := F21.binds (ps := ["intervals", "value"]) fun _ _ _ _ _ _ us hl => match us, hl with | [_, _], _ => rfl
  have F22 := fun_mk (st := s_edited_state) l22 c22 k22
  have b22 := F22.binds (ps := ["state", "word", "value"]) fun _ _ _ _ _ _ us hl => match us, hl with | [_, _, _], _ => rfl
  have F23 := fun_mk (st := s_helpful_piece) l23 c23 k23
  have b23 := F23.binds (ps := ["demands", "blocks"]) fun _ _ _ _ _ _ us hl => match us, hl with | [_, _], _ => rfl
  have F24 := fun_mk (st := s_law_deck) l24 c24 k24
  have b24 := F24.binds (ps := ["_law_script"]) fun _ _ _ _ _ _ us hl => match us, hl with | [_], _ => rfl
  have F25 := fun_mk (st := s_law_draw) l25 c25 k25
  have b25 := F25.binds (ps := ["_law_deck_here", "_law_many"]) fun _ _ _ _ _ _ us hl => match us, hl with | [_, _], _ => rfl
  have F26 := fun_mk (st := s_law_same) l26 c26 k26
  have b26 := F26.binds (ps := ["_law_found", "_law_due"]) fun _ _ _ _ _ _ us hl => match us, hl with | [_, _], _ => rfl
  have F27 := fun_mk (st := s_law_small) l27 c27 k27
  have b27 := F27.binds (ps := ["_law_deck_here", "_law_most", "_law_span"]) fun _ _ _ _ _ _ us hl => match us, hl with | [_, _, _], _ => rfl
  have F28 := fun_mk (st := s_law_odd) l28 c28 k28
  have b28 := F28.binds (ps := ["_law_deck_here"]) fun _ _ _ _ _ _ us hl => match us, hl with | [_], _ => rfl
  have F29 := fun_mk (st := s_law_text) l29 c29 k29
  have b29 := F29.binds (ps := ["_law_intervals"]) fun _ _ _ _ _ _ us hl => match us, hl with | [_], _ => rfl
  have F30 := fun_mk (st := s_law_lines) l30 c30 k30
  have b30 := F30.binds (ps := ["_law_word"]) fun _ _ _ _ _ _ us hl => match us, hl with | [_], _ => rfl
  have F31 := fun_mk (st := s_law) l31 c31 k31
  have b31 := F31.binds (ps := ["_law_script"]) fun _ _ _ _ _ _ us hl => match us, hl with | [_], _ => rfl
  have F32 := fun_mk (st := s_Shell_init) l32 c32 k32
  have b32 := F32.binds (ps := ["self", "plan"]) fun _ _ _ _ _ _ us hl => match us, hl with | [_, _], _ => rfl
  have F33 := fun_mk (st := s_Shell_execute) l33 c33 k33
  have b33 := F33.binds (ps := ["self", "line"]) fun _ _ _ _ _ _ us hl => match us, hl with | [_, _], _ => rfl
  have F34 := fun_mk (st := s_Plan_init) l34 c34 k34
  have b34 := F34.binds (ps := ["self", "targets", "pieces"]) fun _ _ _ _ _ _ us hl => match us, hl with | [_, _, _], _ => rfl
  have F35 := fun_mk (st := s_Plan_add_target) l35 c35 k35
  have b35 := F35.binds (ps := ["self", "interval"]) fun _ _ _ _ _ _ us hl => match us, hl with | [_, _], _ => rfl
  have F36 := fun_mk (st := s_Plan_add_piece) l36 c36 k36
  have b36 := F36.binds (ps := ["self", "interval"]) fun _ _ _ _ _ _ us hl => match us, hl with | [_, _], _ => rfl
  have F37 := fun_mk (st := s_Plan_remove_target) l37 c37 k37
  have b37 := F37.binds (ps := ["self", "interval"]) fun _ _ _ _ _ _ us hl => match us, hl with | [_, _], _ => rfl
  have F38 := fun_mk (st := s_Plan_remove_piece) l38 c38 k38
  have b38 := F38.binds (ps := ["self", "interval"]) fun _ _ _ _ _ _ us hl => match us, hl with | [_, _], _ => rfl
  have F39 := fun_mk (st := s_Plan_undo) l39 c39 k39
  have b39 := F39.binds (ps := ["self"]) fun _ _ _ _ _ _ us hl => match us, hl with | [_], _ => rfl
  have F40 : FunD K "targets" "Plan.targets" (defArgs s_Plan_targets) (defBody s_Plan_targets) (defScope s_Plan_targets) [] [("version", V.non)] f40 _ := ⟨⟨oc40, od40, .none, .ref kD40, dc40, pm40, an40, cd40, ct40, sl40, rfl, l40, c40, .inl ⟨rfl, rfl⟩, .inr ⟨kD40, rfl, fun q hq => by rw [List.mem_singleton.mp hq]; exact ⟨.none, q40, rfl⟩⟩⟩, k40⟩
  have b40 := F40.binds0 (ps := ["self", "version"]) 1 (fun z => nomatch z) rfl fun D _ _ _ _ _ us ks h1 h2 => match us, ks, h1, h2 with | [_], [_], _, _ => ⟨_, _, _, _, _, _, rfl, rfl, rfl⟩
  have kb40 := F40.kbinds0 (ps := ["self", "version"]) 1 ["version"] [] (fun us _ ws => us ++ ws) (fun z => nomatch z) (fun q hq => nomatch hq) (fun r1 _ r3 => r1.append r3) fun D _ _ _ _ _ us mv ws h1 h2 h3 => match us, mv, ws, h1, h2, h3 with | [_], [], [_], _, _, _ => rfl
  have F41 : FunD K "pieces" "Plan.pieces" (defArgs s_Plan_pieces) (defBody s_Plan_pieces) (defScope s_Plan_pieces) [] [("version", V.non)] f41 _ := ⟨⟨oc41, od41, .none, .ref kD41, dc41, pm41, an41, cd41, ct41, sl41, rfl, l41, c41, .inl ⟨rfl, rfl⟩, .inr ⟨kD41, rfl, fun q hq => by rw [List.mem_singleton.mp hq]; exact ⟨.none, q41, rfl⟩⟩⟩, k41⟩
  have b41 := F41.binds0 (ps := ["self", "version"]) 1 (fun z => nomatch z) rfl fun D _ _ _ _ _ us ks h1 h2 => match us, ks, h1, h2 with | [_], [_], _, _ => ⟨_, _, _, _, _, _, rfl, rfl, rfl⟩
  have kb41 := F41.kbinds0 (ps := ["self", "version"]) 1 ["version"] [] (fun us _ ws => us ++ ws) (fun z => nomatch z) (fun q hq => nomatch hq) (fun r1 _ r3 => r1.append r3) fun D _ _ _ _ _ us mv ws h1 h2 h3 => match us, mv, ws, h1, h2, h3 with | [_], [], [_], _, _, _ => rfl
  have F42 : FunD K "needed" "Plan.needed" (defArgs s_Plan_needed) (defBody s_Plan_needed) (defScope s_Plan_needed) [] [("version", V.non)] f42 _ := ⟨⟨oc42, od42, .none, .ref kD42, dc42, pm42, an42, cd42, ct42, sl42, rfl, l42, c42, .inl ⟨rfl, rfl⟩, .inr ⟨kD42, rfl, fun q hq => by rw [List.mem_singleton.mp hq]; exact ⟨.none, q42, rfl⟩⟩⟩, k42⟩
  have b42 := F42.binds0 (ps := ["self", "version"]) 1 (fun z => nomatch z) rfl fun D _ _ _ _ _ us ks h1 h2 => match us, ks, h1, h2 with | [_], [_], _, _ => ⟨_, _, _, _, _, _, rfl, rfl, rfl⟩
  have kb42 := F42.kbinds0 (ps := ["self", "version"]) 1 ["version"] [] (fun us _ ws => us ++ ws) (fun z => nomatch z) (fun q hq => nomatch hq) (fun r1 _ r3 => r1.append r3) fun D _ _ _ _ _ us mv ws h1 h2 h3 => match us, mv, ws, h1, h2, h3 with | [_], [], [_], _, _, _ => rfl
  have F43 : FunD K "solution" "Plan.solution" (defArgs s_Plan_solution) (defBody s_Plan_solution) (defScope s_Plan_solution) [] [("version", V.non)] f43 _ := ⟨⟨oc43, od43, .none, .ref kD43, dc43, pm43, an43, cd43, ct43, sl43, rfl, l43, c43, .inl ⟨rfl, rfl⟩, .inr ⟨kD43, rfl, fun q hq => by rw [List.mem_singleton.mp hq]; exact ⟨.none, q43, rfl⟩⟩⟩, k43⟩
  have b43 := F43.binds0 (ps := ["self", "version"]) 1 (fun z => nomatch z) rfl fun D _ _ _ _ _ us ks h1 h2 => match us, ks, h1, h2 with | [_], [_], _, _ => ⟨_, _, _, _, _, _, rfl, rfl, rfl⟩
  have kb43 := F43.kbinds0 (ps := ["self", "version"]) 1 ["version"] [] (fun us _ ws => us ++ ws) (fun z => nomatch z) (fun q hq => nomatch hq) (fun r1 _ r3 => r1.append r3) fun D _ _ _ _ _ us mv ws h1 h2 h3 => match us, mv, ws, h1, h2, h3 with | [_], [], [_], _, _, _ => rfl
  have F44 : FunD K "missing" "Plan.missing" (defArgs s_Plan_missing) (defBody s_Plan_missing) (defScope s_Plan_missing) [] [("version", V.non)] f44 _ := ⟨⟨oc44, od44, .none, .ref kD44, dc44, pm44, an44, cd44, ct44, sl44, rfl, l44, c44, .inl ⟨rfl, rfl⟩, .inr ⟨kD44, rfl, fun q hq => by rw [List.mem_singleton.mp hq]; exact ⟨.none, q44, rfl⟩⟩⟩, k44⟩
  have b44 := F44.binds0 (ps := ["self", "version"]) 1 (fun z => nomatch z) rfl fun D _ _ _ _ _ us ks h1 h2 => match us, ks, h1, h2 with | [_], [_], _, _ => ⟨_, _, _, _, _, _, rfl, rfl, rfl⟩
  have kb44 := F44.kbinds0 (ps := ["self", "version"]) 1 ["version"] [] (fun us _ ws => us ++ ws) (fun z => nomatch z) (fun q hq => nomatch hq) (fun r1 _ r3 => r1.append r3) fun D _ _ _ _ _ us mv ws h1 h2 h3 => match us, mv, ws, h1, h2, h3 with | [_], [], [_], _, _, _ => rfl
  have F45 := fun_mk (st := s_Plan_changes) l45 c45 k45
  have b45 := F45.binds (ps := ["self"]) fun _ _ _ _ _ _ us hl => match us, hl with | [_], _ => rfl
  have F46 := fun_mk (st := s_Plan_edit) l46 c46 k46
  have b46 := F46.binds (ps := ["self", "word", "value"]) fun _ _ _ _ _ _ us hl => match us, hl with | [_, _, _], _ => rfl
  have F47 := fun_mk (st := s_Plan_record) l47 c47 k47
  have b47 := F47.binds (ps := ["self", "word", "value"]) fun _ _ _ _ _ _ us hl => match us, hl with | [_, _, _], _ => rfl
  have F48 := fun_mk (st := s_Plan_require_idle) l48 c48 k48
  have b48 := F48.binds (ps := ["self"]) fun _ _ _ _ _ _ us hl => match us, hl with | [_], _ => rfl
  have F49 := fun_mk (st := s_Plan_state_at) l49 c49 k49
  have b49 := F49.binds (ps := ["self", "version"]) fun _ _ _ _ _ _ us hl => match us, hl with | [_, _], _ => rfl
  have F50 := fun_mk (st := s_Plan_len) l50 c50 k50
  have b50 := F50.binds (ps := ["self"]) fun _ _ _ _ _ _ us hl => match us, hl with | [_], _ => rfl
  have F51 := fun_mk (st := s_Plan_eq) l51 c51 k51
  have b51 := F51.binds (ps := ["self", "other"]) fun _ _ _ _ _ _ us hl => match us, hl with | [_, _], _ => rfl
  have T : Tx K mg _ _ _ _ _ _ _ _ _ _ _ _ _ _ _ _ _ _ _ _ _ _ _ _ _ _ _ _ _ _ _ _ _ _ _ _ _ _ _ _ _ _ _ _ _ _ _ _ _ _ _ _ _ _ _ _ _ _ _ _ _ _ _ _ _ _ _ _ _ _ _ _ _ _ _ _ _ _ _ _ _ _ _ _ _ _ _ _ _ _ _ _ _ _ _ _ _ _ _ _ _ _ _ _ _ _ _ _ _ _ _ tk0 tk1 tk2 tk3 tk4 tk5 := ⟨F1, b1, PySem.W.mg_of X G a1, F2, b2, PySem.W.mg_of X G a2, F3, b3, PySem.W.mg_of X G a3, F4, b4, PySem.W.mg_of X G a4, F5, b5, PySem.W.mg_of X G a5, F6, b6, PySem.W.mg_of X G a6, F7, b7, PySem.W.mg_of X G a7, F8, b8, PySem.W.mg_of X G a8, F9, b9, PySem.W.mg_of X G a9, F10, b10, PySem.W.mg_of X G a10, F11, b11, PySem.W.mg_of X G a11, F12, b12, PySem.W.mg_of X G a12, F13, b13, PySem.W.mg_of X G a13, F14, b14, PySem.W.mg_of X G a14, F15, b15, PySem.W.mg_of X G a15, F16, b16, PySem.W.mg_of X G a16, F17, b17, PySem.W.mg_of X G a17, F18, b18, PySem.W.mg_of X G a18, F19, b19, PySem.W.mg_of X G a19, F20, b20, PySem.W.mg_of X G a20, F21, b21, PySem.W.mg_of X G a21, F22, b22, PySem.W.mg_of X G a22, F23, b23, PySem.W.mg_of X G a23, F24, b24, PySem.W.mg_of X G a24, F25, b25, PySem.W.mg_of X G a25, F26, b26, PySem.W.mg_of X G a26, F27, b27, PySem.W.mg_of X G a27, F28, b28, PySem.W.mg_of X G a28, F29, b29, PySem.W.mg_of X G a29, F30, b30, PySem.W.mg_of X G a30, F31, b31, PySem.W.mg_of X G a31, F32, b32, ⟨a32, i32, k32⟩, F33, b33, ⟨a33, i33, k33⟩, F34, b34, ⟨a34, i34, k34⟩, F35, b35, ⟨a35, i35, k35⟩, F36, b36, ⟨a36, i36, k36⟩, F37, b37, ⟨a37, i37, k37⟩, F38, b38, ⟨a38, i38, k38⟩, F39, b39, ⟨a39, i39, k39⟩, F40, b40, kb40.choose_spec, ⟨a40, i40, k40⟩, F41, b41, kb41.choose_spec, ⟨a41, i41, k41⟩, F42, b42, kb42.choose_spec, ⟨a42, i42, k42⟩, F43, b43, kb43.choose_spec, ⟨a43, i43, k43⟩, F44, b44, kb44.choose_spec, ⟨a44, i44, k44⟩, F45, b45, ⟨a45, i45, k45⟩, F46, b46, ⟨a46, i46, k46⟩, F47, b47, ⟨a47, i47, k47⟩, F48, b48, ⟨a48, i48, k48⟩, F49, b49, ⟨a49, i49, k49⟩, F50, b50, ⟨a50, i50, k50⟩, F51, b51, ⟨a51, i51, k51⟩, PySem.W.mg_of X G y0, PySem.W.mg_of X G y1, PySem.W.mg_of X G y2, PySem.W.mg_of X G y3, PySem.W.mg_of X G y4, PySem.W.mg_of X G y5, PySem.W.mg_none_of X G z0, PySem.W.mg_none_of X G z1, PySem.W.mg_none_of X G z2, PySem.W.mg_none_of X G z3, PySem.W.mg_none_of X G z4, PySem.W.mg_none_of X G z5, PySem.W.mg_none_of X G z6, PySem.W.mg_none_of X G z7, PySem.W.mg_none_of X G z8, PySem.W.mg_none_of X G z9, PySem.W.mg_none_of X G z10, PySem.W.mg_none_of X G z11, ⟨pg_Shell, hd_Shell, po_Shell, sa_Shell⟩, PySem.W.mg_of X G aC_Shell, ⟨mk_Shell, a32, i32, kc_Shell⟩, n_plan_Shell, ⟨pg_Plan, hd_Plan, po_Plan, sa_Plan⟩, PySem.W.mg_of X G aC_Plan, ⟨mk_Plan, a34, i34, kc_Plan⟩, n_states_Plan, n_done_Plan, n_busy_Plan, ⟨ia_Plan, ib_Plan, it_Plan, im_Plan⟩, ⟨PySem.W.mg_of X G aX_NothingToUndo, iX_NothingToUndo, tX_NothingToUndo, bX_NothingToUndo⟩, ⟨PySem.W.mg_of X G aX_Busy, iX_Busy, tX_Busy, bX_Busy⟩, ⟨PySem.W.mg_of X G aX_TooManyEdits, iX_TooManyEdits, tX_TooManyEdits, bX_TooManyEdits⟩, ⟨PySem.W.mg_of X G aX_Duplicate, iX_Duplicate, tX_Duplicate, bX_Duplicate⟩, ⟨PySem.W.mg_of X G aX_TooMany, iX_TooMany, tX_TooMany, bX_TooMany⟩, ⟨PySem.W.mg_of X G aX_Unknown, iX_Unknown, tX_Unknown, bX_Unknown⟩, ⟨PySem.W.mg_of X G aX_TooWide, iX_TooWide, tX_TooWide, bX_TooWide⟩, ⟨xX_NothingToUndo, kX_NothingToUndo, ⟨gX_NothingToUndo, hX_NothingToUndo, bX_NothingToUndo, dX_NothingToUndo, cX_NothingToUndo, eX_NothingToUndo, uX_NothingToUndo, mX_NothingToUndo⟩⟩, vX_NothingToUndo, sX_NothingToUndo_Busy, sX_NothingToUndo_TooManyEdits, sX_NothingToUndo_Duplicate, sX_NothingToUndo_TooMany, sX_NothingToUndo_Unknown, sX_NothingToUndo_NothingToUndo, sX_NothingToUndo_TooWide⟩
  exact ⟨_, fun s v => .of_eq rfl, fun base _ _ hM hB => ok_law T ⟨cc, hB, hcc⟩⟩
end L9
open PySem PySem.W PyProof.Rows
set_option maxHeartbeats 0 in
theorem PySem.Challenge.cw_fewspans_k55_unknown_commands_holds : PySem.Challenge.rw_fewspans_k55_unknown_commands.Holds := by
  w_on; o_law; k_head; (case hw => w_witness2)
  k_fill
  refine L9.quiet_walkT (l := PySem.Challenge.rw_fewspans_k55_unknown_commands) (n := 63) (k := 13) (x := "_law_script") (by decide +kernel) rfl (by decide) rfl ⟨rfl, by decide, by decide⟩ (fun w h Y => PySem.W.km_in_of Y) ?F
  case F =>
    intro w mg fa h KX G hmg tabOf
    refine' L9.endT tabOf (y := "helpful_piece") ?ta ?tl ?te ?tc ?tv (by decide +kernel) ?noT (L9.all_mk KX G hmg ?a1 ?l1 ?c1 ?k1 ?a2 ?l2 ?c2 ?k2 ?a3 ?l3 ?c3 ?k3 ?a4 ?l4 ?c4 ?k4 ?a5 ?l5 ?c5 ?k5 ?a6 ?l6 ?c6 ?k6 ?a7 ?l7 ?c7 ?k7 ?a8 ?l8 ?c8 ?k8 ?a9 ?l9 ?c9 ?k9 ?a10 ?l10 ?c10 ?k10 ?a11 ?l11 ?c11 ?k11 ?a12 ?l12 ?c12 ?k12 ?a13 ?l13 ?c13 ?k13 ?a14 ?l14 ?c14 ?k14 ?a15 ?l15 ?c15 ?k15 ?a16 ?l16 ?c16 ?k16 ?a17 ?l17 ?c17 ?k17 ?a18 ?l18 ?c18 ?k18 ?a19 ?l19 ?c19 ?k19 ?a20 ?l20 ?c20 ?k20 ?a21 ?l21 ?c21 ?k21 ?a22 ?l22 ?c22 ?k22 ?a23 ?l23 ?c23 ?k23 ?a24 ?l24 ?c24 ?k24 ?a25 ?l25 ?c25 ?k25 ?a26 ?l26 ?c26 ?k26 ?a27 ?l27 ?c27 ?k27 ?a28 ?l28 ?c28 ?k28 ?a29 ?l29 ?c29 ?k29 ?a30 ?l30 ?c30 ?k30 ?a31 ?l31 ?c31 ?k31 ?a32 ?i32 ?l32 ?c32 ?k32 ?a33 ?i33 ?l33 ?c33 ?k33 ?a34 ?i34 ?l34 ?c34 ?k34 ?a35 ?i35 ?l35 ?c35 ?k35 ?a36 ?i36 ?l36 ?c36 ?k36 ?a37 ?i37 ?l37 ?c37 ?k37 ?a38 ?i38 ?l38 ?c38 ?k38 ?a39 ?i39 ?l39 ?c39 ?k39 ?a40 ?i40 ?l40 ?c40 ?k40 ?q40 ?a41 ?i41 ?l41 ?c41 ?k41 ?q41 ?a42 ?i42 ?l42 ?c42 ?k42 ?q42 ?a43 ?i43 ?l43 ?c43 ?k43 ?q43 ?a44 ?i44 ?l44 ?c44 ?k44 ?q44 ?a45 ?i45 ?l45 ?c45 ?k45 ?a46 ?i46 ?l46 ?c46 ?k46 ?a47 ?i47 ?l47 ?c47 ?k47 ?a48 ?i48 ?l48 ?c48 ?k48 ?a49 ?i49 ?l49 ?c49 ?k49 ?a50 ?i50 ?l50 ?c50 ?k50 ?a51 ?i51 ?l51 ?c51 ?k51 ?aC_Shell ?pg_Shell ?hd_Shell ?po_Shell ?sa_Shell ?mk_Shell ?kc_Shell ?n_plan_Shell ?aC_Plan ?pg_Plan ?hd_Plan ?po_Plan ?sa_Plan ?mk_Plan ?kc_Plan ?n_states_Plan ?n_done_Plan ?n_busy_Plan ?ia_Plan ?ib_Plan ?it_Plan ?im_Plan ?aX_NothingToUndo ?iX_NothingToUndo ?tX_NothingToUndo ?bX_NothingToUndo ?xX_NothingToUndo ?kX_NothingToUndo ?gX_NothingToUndo ?hX_NothingToUndo ?dX_NothingToUndo ?cX_NothingToUndo ?eX_NothingToUndo ?uX_NothingToUndo ?mX_NothingToUndo ?vX_NothingToUndo ?aX_Busy ?iX_Busy ?tX_Busy ?bX_Busy ?aX_TooManyEdits ?iX_TooManyEdits ?tX_TooManyEdits ?bX_TooManyEdits ?aX_Duplicate ?iX_Duplicate ?tX_Duplicate ?bX_Duplicate ?aX_TooMany ?iX_TooMany ?tX_TooMany ?bX_TooMany ?aX_Unknown ?iX_Unknown ?tX_Unknown ?bX_Unknown ?aX_TooWide ?iX_TooWide ?tX_TooWide ?bX_TooWide ?sX_NothingToUndo_Busy ?sX_NothingToUndo_TooManyEdits ?sX_NothingToUndo_Duplicate ?sX_NothingToUndo_TooMany ?sX_NothingToUndo_Unknown ?sX_NothingToUndo_NothingToUndo ?sX_NothingToUndo_TooWide ?y0 ?y1 ?y2 ?y3 ?y4 ?y5 ?z0 ?z1 ?z2 ?z3 ?z4 ?z5 ?z6 ?z7 ?z8 ?z9 ?z10 ?z11 ?hcc) (fun H a ns hl h0 hS => ⟨a, ns, rfl, hS, hl, h0, fun _ => rfl⟩)
    (case ta => k_is)
    (case tl => k_is)
    (case te => rfl)
    (case tc => k_is)
    (case tv => rfl)
    (case noT => kernel_rfl)
    (case aC_Shell => k_is)
    (case aC_Plan => k_is)
    (case aX_NothingToUndo => k_is)
    (case aX_Busy => k_is)
    (case aX_TooManyEdits => k_is)
    (case aX_Duplicate => k_is)
    (case aX_TooMany => k_is)
    (case aX_Unknown => k_is)
    (case aX_TooWide => k_is)
    (case a1 => k_is)
    (case l1 => k_is)
    (case c1 => k_is)
    (case k1 => k_is)
    (case a2 => k_is)
    (case l2 => k_is)
    (case c2 => k_is)
    (case k2 => k_is)
    (case a3 => k_is)
    (case l3 => k_is)
    (case c3 => k_is)
    (case k3 => k_is)
    (case a4 => k_is)
    (case l4 => k_is)
    (case c4 => k_is)
    (case k4 => k_is)
    (case a5 => k_is)
    (case l5 => k_is)
    (case c5 => k_is)
    (case k5 => k_is)
    (case a6 => k_is)
    (case l6 => k_is)
    (case c6 => k_is)
    (case k6 => k_is)
    (case a7 => k_is)
    (case l7 => k_is)
    (case c7 => k_is)
    (case k7 => k_is)
    (case a8 => k_is)
    (case l8 => k_is)
    (case c8 => k_is)
    (case k8 => k_is)
    (case a9 => k_is)
    (case l9 => k_is)
    (case c9 => k_is)
    (case k9 => k_is)
    (case a10 => k_is)
    (case l10 => k_is)
    (case c10 => k_is)
    (case k10 => k_is)
    (case a11 => k_is)
    (case l11 => k_is)
    (case c11 => k_is)
    (case k11 => k_is)
    (case a12 => k_is)
    (case l12 => k_is)
    (case c12 => k_is)
    (case k12 => k_is)
    (case a13 => k_is)
    (case l13 => k_is)
    (case c13 => k_is)
    (case k13 => k_is)
    (case a14 => k_is)
    (case l14 => k_is)
    (case c14 => k_is)
    (case k14 => k_is)
    (case a15 => k_is)
    (case l15 => k_is)
    (case c15 => k_is)
    (case k15 => k_is)
    (case a16 => k_is)
    (case l16 => k_is)
    (case c16 => k_is)
    (case k16 => k_is)
    (case a17 => k_is)
    (case l17 => k_is)
    (case c17 => k_is)
    (case k17 => k_is)
    (case a18 => k_is)
    (case l18 => k_is)
    (case c18 => k_is)
    (case k18 => k_is)
    (case a19 => k_is)
    (case l19 => k_is)
    (case c19 => k_is)
    (case k19 => k_is)
    (case a20 => k_is)
    (case l20 => k_is)
    (case c20 => k_is)
    (case k20 => k_is)
    (case a21 => k_is)
    (case l21 => k_is)
    (case c21 => k_is)
    (case k21 => k_is)
    (case a22 => k_is)
    (case l22 => k_is)
    (case c22 => k_is)
    (case k22 => k_is)
    (case a23 => k_is)
    (case l23 => k_is)
    (case c23 => k_is)
    (case k23 => k_is)
    (case a24 => k_is)
    (case l24 => k_is)
    (case c24 => k_is)
    (case k24 => k_is)
    (case a25 => k_is)
    (case l25 => k_is)
    (case c25 => k_is)
    (case k25 => k_is)
    (case a26 => k_is)
    (case l26 => k_is)
    (case c26 => k_is)
    (case k26 => k_is)
    (case a27 => k_is)
    (case l27 => k_is)
    (case c27 => k_is)
    (case k27 => k_is)
    (case a28 => k_is)
    (case l28 => k_is)
    (case c28 => k_is)
    (case k28 => k_is)
    (case a29 => k_is)
    (case l29 => k_is)
    (case c29 => k_is)
    (case k29 => k_is)
    (case a30 => k_is)
    (case l30 => k_is)
    (case c30 => k_is)
    (case k30 => k_is)
    (case a31 => k_is)
    (case l31 => k_is)
    (case c31 => k_is)
    (case k31 => k_is)
    (case a32 => k_is)
    (case i32 => k_is)
    (case l32 => k_is)
    (case c32 => k_is)
    (case k32 => k_is)
    (case a33 => k_is)
    (case i33 => k_is)
    (case l33 => k_is)
    (case c33 => k_is)
    (case k33 => k_is)
    (case a34 => k_is)
    (case i34 => k_is)
    (case l34 => k_is)
    (case c34 => k_is)
    (case k34 => k_is)
    (case a35 => k_is)
    (case i35 => k_is)
    (case l35 => k_is)
    (case c35 => k_is)
    (case k35 => k_is)
    (case a36 => k_is)
    (case i36 => k_is)
    (case l36 => k_is)
    (case c36 => k_is)
    (case k36 => k_is)
    (case a37 => k_is)
    (case i37 => k_is)
    (case l37 => k_is)
    (case c37 => k_is)
    (case k37 => k_is)
    (case a38 => k_is)
    (case i38 => k_is)
    (case l38 => k_is)
    (case c38 => k_is)
    (case k38 => k_is)
    (case a39 => k_is)
    (case i39 => k_is)
    (case l39 => k_is)
    (case c39 => k_is)
    (case k39 => k_is)
    (case a40 => k_is)
    (case i40 => k_is)
    (case l40 => k_is)
    (case c40 => k_is)
    (case k40 => k_is)
    (case q40 => k_is)
    (case a41 => k_is)
    (case i41 => k_is)
    (case l41 => k_is)
    (case c41 => k_is)
    (case k41 => k_is)
    (case q41 => k_is)
    (case a42 => k_is)
    (case i42 => k_is)
    (case l42 => k_is)
    (case c42 => k_is)
    (case k42 => k_is)
    (case q42 => k_is)
    (case a43 => k_is)
    (case i43 => k_is)
    (case l43 => k_is)
    (case c43 => k_is)
    (case k43 => k_is)
    (case q43 => k_is)
    (case a44 => k_is)
    (case i44 => k_is)
    (case l44 => k_is)
    (case c44 => k_is)
    (case k44 => k_is)
    (case q44 => k_is)
    (case a45 => k_is)
    (case i45 => k_is)
    (case l45 => k_is)
    (case c45 => k_is)
    (case k45 => k_is)
    (case a46 => k_is)
    (case i46 => k_is)
    (case l46 => k_is)
    (case c46 => k_is)
    (case k46 => k_is)
    (case a47 => k_is)
    (case i47 => k_is)
    (case l47 => k_is)
    (case c47 => k_is)
    (case k47 => k_is)
    (case a48 => k_is)
    (case i48 => k_is)
    (case l48 => k_is)
    (case c48 => k_is)
    (case k48 => k_is)
    (case a49 => k_is)
    (case i49 => k_is)
    (case l49 => k_is)
    (case c49 => k_is)
    (case k49 => k_is)
    (case a50 => k_is)
    (case i50 => k_is)
    (case l50 => k_is)
    (case c50 => k_is)
    (case k50 => k_is)
    (case a51 => k_is)
    (case i51 => k_is)
    (case l51 => k_is)
    (case c51 => k_is)
    (case k51 => k_is)
    (case pg_Shell => k_is)
    (case hd_Shell => k_is)
    (case po_Shell => k_is)
    (case sa_Shell => k_is)
    (case mk_Shell => k_is)
    (case kc_Shell => k_is)
    (case n_plan_Shell => k_is)
    (case pg_Plan => k_is)
    (case hd_Plan => k_is)
    (case po_Plan => k_is)
    (case sa_Plan => k_is)
    (case mk_Plan => k_is)
    (case kc_Plan => k_is)
    (case n_states_Plan => k_is)
    (case n_done_Plan => k_is)
    (case n_busy_Plan => k_is)
    (case ia_Plan => k_is)
    (case ib_Plan => k_is)
    (case it_Plan => k_is)
    (case im_Plan => k_is)
    (case iX_NothingToUndo => k_is)
    (case tX_NothingToUndo => k_is)
    (case bX_NothingToUndo => k_is)
    (case xX_NothingToUndo => k_exc)
    (case kX_NothingToUndo => k_is)
    (case gX_NothingToUndo => k_is)
    (case hX_NothingToUndo => k_is)
    (case dX_NothingToUndo => k_is)
    (case cX_NothingToUndo => k_is)
    (case eX_NothingToUndo => k_is)
    (case uX_NothingToUndo => k_is)
    (case mX_NothingToUndo => k_is)
    (case vX_NothingToUndo => k_is)
    (case iX_Busy => k_is)
    (case tX_Busy => k_is)
    (case bX_Busy => k_is)
    (case iX_TooManyEdits => k_is)
    (case tX_TooManyEdits => k_is)
    (case bX_TooManyEdits => k_is)
    (case iX_Duplicate => k_is)
    (case tX_Duplicate => k_is)
    (case bX_Duplicate => k_is)
    (case iX_TooMany => k_is)
    (case tX_TooMany => k_is)
    (case bX_TooMany => k_is)
    (case iX_Unknown => k_is)
    (case tX_Unknown => k_is)
    (case bX_Unknown => k_is)
    (case iX_TooWide => k_is)
    (case tX_TooWide => k_is)
    (case bX_TooWide => k_is)
    (case sX_NothingToUndo_Busy => k_is)
    (case sX_NothingToUndo_TooManyEdits => k_is)
    (case sX_NothingToUndo_Duplicate => k_is)
    (case sX_NothingToUndo_TooMany => k_is)
    (case sX_NothingToUndo_Unknown => k_is)
    (case sX_NothingToUndo_NothingToUndo => k_is)
    (case sX_NothingToUndo_TooWide => k_is)
    (case y0 => k_is)
    (case y1 => k_is)
    (case y2 => k_is)
    (case y3 => k_is)
    (case y4 => k_is)
    (case y5 => k_is)
    (case z0 => k_is)
    (case z1 => k_is)
    (case z2 => k_is)
    (case z3 => k_is)
    (case z4 => k_is)
    (case z5 => k_is)
    (case z6 => k_is)
    (case z7 => k_is)
    (case z8 => k_is)
    (case z9 => k_is)
    (case z10 => k_is)
    (case z11 => k_is)
    (case hcc => rfl)
