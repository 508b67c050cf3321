import PyProof.Rows.All
import Wide.All
import OpenK.AllK
import Wide.FinOn
import PySem.Challenge.RW_fewspans_k29_too_wide
import HandS.ForMost
import HandS.Wide
import HandS.IsInst
import HandS.Conv
import HandS.TupLe
import HandS.Strs
import HandS.SetFor
import HandS.Style
import HandS.TupSets
import HandS.Keys
import HandS.Sort
import HandS.SortOrd
import HandS.SortRule
import HandS.SortKw
import HandS.SetBool
import HandS.TupAny
import HandS.Zip
import HandS.NoneIn
import HandS.Deep
import KE.GoesEnum
import KE.GoesMore
import HandS.Lambda
import HandS.CallLocal
import KE.DataCmp
import HandS.EndTab
import KE.KMinBuiltin
import HandS.TupMul
import PyProof.NeKinds
import HandS.Defaults
import HandS.MakeKwOnly
import HandS.OwnEq
import HandS.FStr
import KE.KCallOwn
import HandS.ExcIs
import HandS.ExcOwn
import HandS.CallSlots
import HandS.WordsExc
import HandS.TryMany
import HandS.Codes
import HandS.ExcInit
import KE.KExcIs
import KE.KExcInit
import KE.KExcLine
import HandS.ExcField
import HandS.Text
import PyProof.StrOps2
import HandS.StrMore
import HandS.Flow
import HandS.ReplaceLit
set_option Elab.async false
set_option linter.all false
set_option maxRecDepth 100000
set_option maxHeartbeats 4000000
namespace L9
open PySem PySem.Spec PyProof.Rows L2

/-! ### set(xs), xs a list of ints: the library has it of tuples; the walk is a list's here -/
section
variable {P : Program} {w : World} {A : Around} {E : Value → Shared → Prop} {s : Shared}
abbrev noSet (w : World) : Obj := { cls := .type "set", dict := none, data := .set #[] 0 (.fresh 0 0 (!w.params.followText "set-order")) }
theorem setL_ints {l : Addr} {its : Array Value} (ns : List Int) {Q : Value → Shared → Prop} (quiet : A.handled = none) (isL : s.heap.IsList l its) (allI : IntsAre its.toList ns) (few : ns.length + 1 < scanBound)
    (fin : ∀ (h2 : Heap) (tk n : Nat), SetR w h2 s.heap.objs.size (fun j => decide (j ∈ ns)) n → n ≤ ns.length → (∀ b o, s.heap.get? b = some o → h2.get? b = some o) → Q (.ref s.heap.objs.size) { s with heap := h2, toks := tk }) :
    wpAny (model P w) A (call (.type "set") [.ref l]) Q E s := by
  have size : its.size = ns.length := by
    rw [← Array.length_toList]
    exact allI.length
  obtain ⟨cA, tA, mA⟩ := F.called_set.mro
  have f1 := F.called_set.made
  have f2 := F.called_set.sub
  refine wpAny_call (codeAny_of_tree (?_ : wpAny _ _ (callAny (.type "set") _) _ _ _))
  refine wpAny_pure (And.intro (Code.quiet_builtin _ (by decide +kernel)) (codeAny_builtin F.entry_type_call ?_))
  rw [Around.under_plain (weight_type_call_type "set" [Value.ref l] []) rfl]
  have f3 := F.called_set.notType
  have f4 := F.called_set.canCreate
  have f5 := F.typeCall_set_1 (Value.ref l)
  repeat any_goals first | assumption | wp_step
  refine codeAny_mono (code_set_led1 (.ref l) (E := E) (Q₁ := fun v s1 => v = .ref s.heap.objs.size ∧ s1 = { s with heap := s.heap.push (noSet w) }) (And.intro rfl rfl)) fun r s1 h1 => ?_
  match r, h1 with
  | .error e, h1 => exact h1
  | .ok (.ret v), h1 =>
    obtain ⟨rfl, rfl⟩ := h1
    have at0 : (s.heap.push (noSet w)).get? s.heap.objs.size = some (noSet w) := Heap.get?_push_size _ rfl
    have ty0 : Shared.TypeIs { s with heap := s.heap.push (noSet w) } (.ref s.heap.objs.size) "set" := Exists.intro _ (And.intro at0 rfl)
    have f6 := F.called_set.init.lookup
    have f7 := F.called_set.init.bind (Value.ref s.heap.objs.size)
    repeat any_goals first | assumption | wp_step
    let Z : Value → Shared → Prop := fun v s2 => v = .none ∧ ∃ h2 tk n, s2 = { s with heap := h2, toks := tk } ∧ SetR w h2 s.heap.objs.size (fun j => decide (j ∈ ns)) n ∧ n ≤ ns.length ∧ ∀ b o, s.heap.get? b = some o → h2.get? b = some o
    refine codeAny_mono (codeAny_call_builtin (R := wants Z E) F.called_set.init.plain F.entry_set_init (check_set_init_1 ty0 ?_)) fun r2 s2 h2 => ?_
    · obtain ⟨o, eo, ec, k, ed⟩ := isL
      obtain ⟨oc, od, oD, oS⟩ := o
      simp only at ec ed
      subst ec ed
      have lt : l < s.heap.objs.size := Heap.lt_size eo
      have eo1 : (s.heap.push (noSet w)).get? l = some { cls := .type "list", dict := od, data := .seq its k, slots := oS } := Heap.get?_push_of_some _ eo
      have g1 := F.sub_list_set
      have g2 := F.sub_list_frozenset
      have g3 : (Value.type "list" == Value.type "dict") = false := by decide
      have isL1 : (s.heap.push (noSet w)).IsList l its := Exists.intro _ (And.intro eo1 (And.intro rfl (Exists.intro k rfl)))
      unfold Builtin.«set.__init__» Builtin.Frozenset.updateFrom noKeywords
      generalize keep : pyIter = itr
      wp_walk
      subst keep
      refine wpAny_pyIter_list isL1 (wpAny_bind (wpAny_runValue ?_))
      have quiet3 : A.in1.in1.in1.handled = none := by simp [quiet]
      have sz : (s.heap.push (noSet w)).objs.size = s.heap.objs.size + 1 := Heap.size_push ..
      have lI : l ≠ (s.heap.push (noSet w)).objs.size := by
        rw [sz]
        exact Nat.ne_of_lt (Nat.lt_succ_of_lt lt)
      have out : s.heap.objs.size ∉ [(s.heap.push (noSet w)).objs.size, l] := by
        rw [sz]
        intro z
        rcases List.mem_cons.mp z with z | z
        · exact absurd z (Nat.ne_of_lt (Nat.lt_succ_self _))
        · exact absurd (List.mem_singleton.mp z) (Nat.ne_of_gt lt)
      have vals : ∀ (i : Nat) (v : Value), its[i]? = some v → ∃ j t, ns[i]? = some j ∧ v = .int j t := fun i v hv => by
        have lti : i < ns.length := by
          rw [← size]
          exact (Array.getElem?_eq_some_iff.mp hv).1
        obtain ⟨t, e⟩ := allI.int_at i v (by rw [Array.getElem?_toList]; exact hv)
        have en := List.getElem?_eq_getElem lti
        refine ⟨_, t, en, e.trans ?_⟩
        rw [List.getD_eq_getElem?_getD, en]
        rfl
      refine set_update_ints (Walks.list quiet3 _ l lI its).toS s.heap.objs.size out ns size few vals (its.size - 0) 0 _ rfl (Nat.zero_le _) (And.intro (Exists.intro _ (And.intro (Heap.get?_push_size _ rfl) (And.intro rfl rfl))) (isL1.push _)) ?start ?last
      case start =>
        exact ⟨0, Nat.le_refl _, setR_new_at (Heap.get?_push_of_some _ at0)⟩
      case last =>
        intro s3 n mv le R
        obtain ⟨h3, g3', d3, tk3, o3⟩ := s3
        have m1 : g3' = s.gens := mv.gens
        have m2 : d3 = s.drawn := mv.drawn
        have m3 : o3 = s.os := mv.os
        subst m1 m2 m3
        refine wpAny_pure (?_ : wpAny _ _ (ret Value.none) _ _ _)
        rw [size] at le
        refine wpAny_pure (And.intro rfl ⟨h3, tk3, n, rfl, R, le, fun b o e => ?_⟩)
        have lb := Heap.lt_size e
        refine mv.heap b o (fun z => ?_) (Heap.get?_push_of_some _ (Heap.get?_push_of_some _ e))
        rcases List.mem_cons.mp z with z | z
        · exact absurd z (Nat.ne_of_lt lb)
        · have z1 := List.mem_singleton.mp z
          rw [sz] at z1
          exact absurd z1 (Nat.ne_of_lt (Nat.lt_succ_of_lt lb))
    · match r2, h2 with
      | .error e, h2 => exact h2
      | .ok (.ret v), h2 =>
        obtain ⟨rfl, h', tk, n, rfl, R, le, kp⟩ := h2
        repeat any_goals first | assumption | wp_step
        exact fin h' tk n R le kp
      | .ok .next, h2 => exact h2
      | .ok .brk, h2 => exact h2
      | .ok .cont, h2 => exact h2
  | .ok .next, h1 => exact h1
  | .ok .brk, h1 => exact h1
  | .ok .cont, h1 => exact h1
end
section
variable {X : Cx}
def rSetOfI (K : PySem.W.Frag) (w : World) : List V → Hp → VK → Prop := fun xs H Q => ∃ (l : Addr) (ns : List Int), xs = [V.ref l] ∧ SqL K H l (ns.map V.int) ∧ ns.length < 60 ∧
  ∀ (H' : Hp) a n, Same H H' → H a = none → H' a = some (SetO w a (fun j => decide (j ∈ ns)) n) → n ≤ ns.length → Q (.ref a) H'
theorem cr_setOfI (calm : X.calm = true) : CallR X (.type "set") (rSetOfI X.K X.w) := by
  intro pins s σ H xs us Q I r h
  obtain ⟨l, ns, rfl, hl, few, q⟩ := h
  rw [Vals.ref1 r]
  obtain ⟨its, rv, pl, _⟩ := I.list hl
  refine setL_ints (P := X.prog) (w := X.w) ns (I.ok.hd calm) pl.isList (ints_of_vals rv) (by unfold scanBound; omega) fun h2 tk n R le kp => ?_
  exact ⟨.ref s.heap.objs.size, _, I.laid (t' := tk) kp (Nat.le_refl _) (setO_new R), rfl, q _ _ n (fun b x e => by rw [upd_ne (ne_of_none e (I.hok.fresh (Nat.le_refl _)))]; exact e) (I.hok.fresh (Nat.le_refl _)) upd_same le⟩
end

/-! ### set(t), t a tuple of tuples of ints: the library has it of lists; the walk is a tuple's here -/
section
variable {P : Program} {w : World} {A : Around} {E : Value → Shared → Prop} {s : Shared}
abbrev noSetT (w : World) : Obj := { cls := .type "set", dict := none, data := .set #[] 0 (.fresh 0 0 (!w.params.followText "set-order")) }
theorem setT_tups {l : Addr} {its : Array Value} (ks : List (Addr × List Int)) {Q : Value → Shared → Prop} (quiet : A.handled = none) (isT : s.heap.IsTuple l its) (refs : its.toList = ks.map fun p => Value.ref p.1)
    (tk : ∀ p ∈ ks, IsT P w s.heap p.2 p.1) (few : ks.length < 64) (un : A.units + 3 < cLine)
    (fin : ∀ (h2 : Heap) (tk : Nat) L es ep t, SetTR P w h2 s.heap.objs.size L es ep t → Got ks ks.length L → (∀ b o, s.heap.get? b = some o → h2.get? b = some o) → Q (.ref s.heap.objs.size) { s with heap := h2, toks := tk }) :
    wpAny (model P w) A (call (.type "set") [.ref l]) Q E s := by
  have size : its.size = ks.length := by
    rw [← Array.length_toList, refs, List.length_map]
  obtain ⟨cA, tA, mA⟩ := F.called_set.mro
  have f1 := F.called_set.made
  have f2 := F.called_set.sub
  refine wpAny_call (codeAny_of_tree (?_ : wpAny _ _ (callAny (.type "set") _) _ _ _))
  refine wpAny_pure (And.intro (Code.quiet_builtin _ (by decide +kernel)) (codeAny_builtin F.entry_type_call ?_))
  rw [Around.under_plain (weight_type_call_type "set" [Value.ref l] []) rfl]
  have f3 := F.called_set.notType
  have f4 := F.called_set.canCreate
  have f5 := F.typeCall_set_1 (Value.ref l)
  repeat any_goals first | assumption | wp_step
  refine codeAny_mono (code_set_led1 (.ref l) (E := E) (Q₁ := fun v s1 => v = .ref s.heap.objs.size ∧ s1 = { s with heap := s.heap.push (noSetT w) }) (And.intro rfl rfl)) fun r s1 h1 => ?_
  match r, h1 with
  | .error e, h1 => exact h1
  | .ok (.ret v), h1 =>
    obtain ⟨rfl, rfl⟩ := h1
    have at0 : (s.heap.push (noSetT w)).get? s.heap.objs.size = some (noSetT w) := Heap.get?_push_size _ rfl
    have ty0 : Shared.TypeIs { s with heap := s.heap.push (noSetT w) } (.ref s.heap.objs.size) "set" := Exists.intro _ (And.intro at0 rfl)
    have f6 := F.called_set.init.lookup
    have f7 := F.called_set.init.bind (Value.ref s.heap.objs.size)
    repeat any_goals first | assumption | wp_step
    let Z : Value → Shared → Prop := fun v s2 => v = .none ∧ ∃ h2 tk L es ep t, s2 = { s with heap := h2, toks := tk } ∧ SetTR P w h2 s.heap.objs.size L es ep t ∧ Got ks ks.length L ∧ ∀ b o, s.heap.get? b = some o → h2.get? b = some o
    refine codeAny_mono (codeAny_call_builtin (R := wants Z E) F.called_set.init.plain F.entry_set_init (check_set_init_1 ty0 ?_)) fun r2 s2 h2 => ?_
    · obtain ⟨o, eo, ec, k, ed⟩ := isT
      obtain ⟨oc, od, oD, oS⟩ := o
      simp only at ec ed
      subst ec ed
      have lt : l < s.heap.objs.size := Heap.lt_size eo
      have eo1 : (s.heap.push (noSetT w)).get? l = some { cls := .type "tuple", dict := od, data := .seq its k, slots := oS } := Heap.get?_push_of_some _ eo
      have g1 := F.sub_tuple_set
      have g2 := F.sub_tuple_frozenset
      have g3 : (Value.type "tuple" == Value.type "dict") = false := by decide
      have isT1 : (s.heap.push (noSetT w)).IsTuple l its := Exists.intro _ (And.intro eo1 (And.intro rfl (Exists.intro k rfl)))
      unfold Builtin.«set.__init__» Builtin.Frozenset.updateFrom noKeywords
      generalize keep : pyIter = itr
      wp_walk
      subst keep
      refine wpAny_pyIter_tuple isT1 (wpAny_bind (wpAny_runValue ?_))
      have quiet3 : A.in1.in1.in1.handled = none := by simp [quiet]
      have sz : (s.heap.push (noSetT w)).objs.size = s.heap.objs.size + 1 := Heap.size_push ..
      have lI : l ≠ (s.heap.push (noSetT w)).objs.size := by
        rw [sz]
        exact Nat.ne_of_lt (Nat.lt_succ_of_lt lt)
      have out : s.heap.objs.size ∉ [(s.heap.push (noSetT w)).objs.size, l] := by
        rw [sz]
        intro z
        rcases List.mem_cons.mp z with z | z
        · exact absurd z (Nat.ne_of_lt (Nat.lt_succ_self _))
        · exact absurd (List.mem_singleton.mp z) (Nat.ne_of_gt lt)
      have vals : ∀ (i : Nat) (v : Value), its[i]? = some v → ∃ p, ks[i]? = some p ∧ v = .ref p.1 := fun i v hv => by
        have z : its.toList[i]? = some v := by
          rw [Array.getElem?_toList]
          exact hv
        rw [refs, List.getElem?_map] at z
        obtain ⟨p, e1, e2⟩ := Option.map_eq_some_iff.mp z
        exact Exists.intro p (And.intro e1 e2.symm)
      have beyond : ∀ b, s.heap.objs.size ≤ b → s.heap.get? b = none := fun b hb => by
        cases z : s.heap.get? b with
        | none => rfl
        | some o => exact (Nat.lt_irrefl _ (Nat.lt_of_lt_of_le (Heap.lt_size z) hb)).elim
      refine set_update_tups (Walks.tuple quiet3 _ l lI its).toS s.heap.objs.size out ks size few vals s.heap tk (beyond _ (Nat.le_refl _)) (fun b hb => beyond b ?_) un (its.size - 0) 0 _ rfl (Nat.zero_le _) (And.intro (Exists.intro _ (And.intro (Heap.get?_push_size _ rfl) (And.intro rfl rfl))) (isT1.push _)) (fun b o e => Heap.get?_push_of_some _ (Heap.get?_push_of_some _ e)) ?start ?last
      · rw [List.mem_singleton.mp hb, sz]
        exact Nat.le_succ _
      case start =>
        exact ⟨[], #[], 0, _, setTR_fresh (Heap.get?_push_of_some _ at0), Got.zero ks⟩
      case last =>
        intro s3 L es ep t mv R got kp
        obtain ⟨h3, g3', d3, tk3, o3⟩ := s3
        have m1 : g3' = s.gens := mv.gens
        have m2 : d3 = s.drawn := mv.drawn
        have m3 : o3 = s.os := mv.os
        subst m1 m2 m3
        refine wpAny_pure (?_ : wpAny _ _ (ret Value.none) _ _ _)
        rw [size] at got
        exact wpAny_pure (And.intro rfl ⟨h3, tk3, L, es, ep, t, rfl, R, got, kp⟩)
    · match r2, h2 with
      | .error e, h2 => exact h2
      | .ok (.ret v), h2 =>
        obtain ⟨rfl, h', tk, L, es, ep, t, rfl, R, got, kp⟩ := h2
        repeat any_goals first | assumption | wp_step
        exact fin h' tk L es ep t R got kp
      | .ok .next, h2 => exact h2
      | .ok .brk, h2 => exact h2
      | .ok .cont, h2 => exact h2
  | .ok .next, h1 => exact h1
  | .ok .brk, h1 => exact h1
  | .ok .cont, h1 => exact h1
end
section
variable {X : Cx}
def rSetOfTT (K : PySem.W.Frag) (P : Program) (w : World) : List V → Hp → VK → Prop := fun xs H Q => ∃ (l : Addr) (ks : List (Addr × List Int)), xs = [V.ref l] ∧ SqT K H l (ks.map fun p => V.ref p.1) ∧ (∀ p ∈ ks, SqT K H p.1 (p.2.map V.int)) ∧ ks.length < 64 ∧
  ∀ a L, H a = none → (∀ p ∈ L, p ∈ ks) → (∀ p ∈ ks, p.2 ∈ L.map (·.2)) → Q (.ref a) (upd H a (SetTO P w a L))
theorem cr_setOfTT (calm : X.calm = true) (units : X.A.units + 64 < cLine) : CallR X (.type "set") (rSetOfTT X.K X.prog X.w) := by
  intro pins s σ H xs us Q I r h
  obtain ⟨l, ks, rfl, hl, hk, few, q⟩ := h
  rw [Vals.ref1 r]
  obtain ⟨its, rv, pl, _⟩ := I.tuple hl
  have nn : H s.heap.objs.size = none := I.hok.fresh (Nat.le_refl _)
  refine setT_tups (P := X.prog) (w := X.w) (its := its.toArray) ks (I.ok.hd calm) pl (by simpa using refs_of_vals rv) (fun p hp => I.isT (hk p hp)) few (by omega) fun h2 tk L es ep t R got kp => ?_
  exact ⟨.ref s.heap.objs.size, _, I.laid (t' := tk) kp (Nat.le_refl _) (setTO_new R.t0), rfl, q _ L nn (fun p hp => List.mem_of_mem_take (got.sub p hp)) (fun p hp => got.all p (by rw [List.take_length]; exact hp))⟩
end

/-! ### defs that are run where no text-making of the machine is under way (repr, str of nested data ask for it) -/
abbrev Quiet (A : Around) : Prop := A.guards = some []
structure FnG (P : Program) (w : World) (K : PySem.W.Frag) (mg : Str → Option Value) (base : Heap) (k : Nat) (f : Addr) (fd : FuncData) (ps : List Str) (sp : Sp) : Prop where
  size : ∀ {vs H Q}, sp vs H Q E0 → vs.length = ps.length
  go : ∀ {A outer s H us vs Q}, Room k A → Quiet A → Env0 P w K mg base A outer s H → BindsTo s fd ⟨us, []⟩ (ps.zip us) → Vals vs us → sp vs H Q E0 →
    codeAny (model P w) A (.call (.ref f) ⟨us, []⟩) (CR CX0 outer P w H s Q E0) s
section
variable {P : Program} {w : World} {K : PySem.W.Frag} {mg : Str → Option Value} {base : Heap}
theorem FnG.of {x qual : Str} {st : Stmt} {f : Addr} {fd : FuncData} {N ps : List Str} {k : Nat} {sp : Sp} (F : Fun K x qual st f fd) (S : FnScope N ps (defScope st))
    (size : ∀ {vs H Q}, sp vs H Q E0 → vs.length = ps.length)
    (body : ∀ cdv A outer s H vs Q, Room k (A.deeper (envOfC qual (defScope st) s.heap.objs.size f cdv)) → Quiet (A.deeper (envOfC qual (defScope st) s.heap.objs.size f cdv)) → sp vs H Q E0 →
      ∃ t, PSs (cxOf CX0 P w K mg base N qual (defScope st) f cdv A outer s H E0).nox (defBody st) t ∧ t { nx := fun _ H' => Q .non H', rt := Q } (start N vs) H) :
    FnG P w K mg base (k + 1) f fd ps sp := by
  obtain ⟨oc, od, kV, doc, pm, an, cdv, ct, osl, rfl, look, code⟩ := F.ex
  constructor
  · exact size
  intro A outer s H us vs Q room quiet e0 bind rel want
  have inH : K.In s.heap := e0.mod.kin.keeps fun b o q => (e0.bs b o q).1
  have lim := e0.mod.nolimit.keeps (fun b o q => (e0.bs b o q).1)
  have kinds : ∀ y ∈ ps.zip us, (defScope st).names.lookup y.1 = some .local ∨ ((defScope st).names.lookup y.1 = some .cell ∧ ((cellsFrom (s.heap.objs.size + 1) (defScope st).names []).lookup y.1).isSome = true) := by
    rintro ⟨n, v⟩ hy
    have hn := (List.of_mem_zip hy).1
    cases S.par n hn with
    | inl q => exact Or.inl q
    | inr q => exact Or.inr ⟨q, PySem.W.cellsFrom_some _ _ _ (Or.inl q)⟩
  apply codeAny_call_function room.depth (inH _ _ look) rfl S.co S.gen rfl (PySem.W.codeRec_of inH code)
  apply bind
  apply wpAny_newFunctionEnv_cells S.kind kinds
  intro env he s1 x
  subst he
  refine And.intro (lim.keeps x.toInCall.keep) (codeAny_func ?_)
  obtain ⟨t, ht, hq⟩ := body cdv A outer s H vs Q (room.deeper _) quiet want
  have I := inv_start (CX := CX0) (E := E0) S room.hd e0 (size want) rel x
  apply wpAny_mono (ht.nox.run [] s1 (start N vs) H _ I hq)
  · intro fl s' hs
    cases fl with
    | ret u =>
      obtain ⟨v, σ', H', J, rv, q⟩ := hs
      exact Exists.intro v ⟨H', J.os, J.bare, J.base, J.hok, rv, q⟩
    | next =>
      obtain ⟨σ', H', J, q⟩ := hs
      exact Exists.intro V.non ⟨H', J.os, J.bare, J.base, J.hok, rfl, q⟩
    | brk => exact hs.elim fun _ h => h.elim fun _ h => h.2.elim
    | cont => exact hs.elim fun _ h => h.elim fun _ h => h.2.elim
  · intro e s' hs
    exact hs
end
section
variable {X : Cx} {k : Nat} {f : Addr} {fd : FuncData} {ps : List Str} {sp : Sp} {x : Str} {p pos : Pos} {e : Expr} {es : List Expr} {t : TA}
theorem pe_callG (F : FnG X.prog X.w X.K X.mg X.base k f fd ps sp) (room : Room k X.A) (quiet : Quiet X.A) (hg : Gl X x) (hm : X.mg x = some (.ref f)) (keep : PySem.W.keepIn X.K (.ref f) = true) (bind : Binds X.K fd ps [])
    (args : PA X (e :: es) t) (hdb : (x == ("__debug__" : Str)) = false := by decide) (star : starEach (e :: es) X.env = (false, eval e X.env) :: starEach es X.env := by rfl) (plain : (backTo pos (starEach es X.env)).any (·.1) = false := by rfl) :
    PE X (.Call (.Name x p) (e :: es) [] pos) (tCall sp [] E0 t) := by
  constructor
  intro pins s σ H Q I h
  apply wpAny_Call_Name_kw
  apply ld_glob I hg hm _ hdb
  apply PySem.W.callWith_K (h₀ := X.base) I.ok.mod.kin keep _ star plain
  apply thn (args.run pos pins s σ H _ I h)
  rintro us s1 ⟨vs, H1, I1, rel, q⟩
  refine And.intro I1.kIn ?_
  have q' : sp vs H1 Q E0 := by
    have z := q
    rw [List.append_nil] at z
    exact z
  have same : us.length = ps.length := rel.length.symm.trans (F.size q')
  have b := bind s1 us I1.kIn (by rw [List.append_nil]; exact same)
  rw [List.append_nil] at b
  apply wpAny_call
  apply codeAny_mono (F.go room quiet I1.env0 b rel q')
  intro r s' hr
  match r, hr with
  | .error _, hr => exact hr.elim
  | .ok (.ret u), hr => exact I1.after hr
  | .ok .next, hr => exact False.elim hr
  | .ok .brk, hr => exact False.elim hr
  | .ok .cont, hr => exact False.elim hr
end
/-! ### repr of data at any depth -/
structure Sm (n dp : Nat) (d : PyData) : Prop where
  shows : d.showable = true
  short : d.leavesShort 40 = true
  small : d.weight ≤ n
  flat : d.depth ≤ dp
theorem Sm.mono {n m dp dq : Nat} {d : PyData} (h : Sm n dp d) (h1 : n ≤ m) (h2 : dp ≤ dq) : Sm m dq d := ⟨h.shows, h.short, Nat.le_trans h.small h1, Nat.le_trans h.flat h2⟩
theorem Sm.none : Sm 0 0 .none := ⟨rfl, rfl, Nat.le_refl _, Nat.le_refl _⟩
theorem Sm.bool (b : Bool) : Sm 0 0 (.bool b) := ⟨rfl, rfl, Nat.le_refl _, Nat.le_refl _⟩
theorem log2_small {i : Int} (h : i.natAbs < 10 ^ 30) : i.natAbs.log2 < 100 := PySem.Flt.log2_lt_of (by decide) (Nat.lt_trans h (by decide))
theorem Sm.int {i : Int} (h : i.natAbs < 10 ^ 30) : Sm 100 0 (.int i) := by
  have l := log2_small h
  refine ⟨decide_eq_true (Nat.lt_trans l (by decide)), decide_eq_true ?_, ?_, Nat.le_refl _⟩
  · have q := int_text_length_le10 (a := i) (k := 30) (by decide) h
    show (Str.ofString (toString i)).length ≤ 40
    rw [PySem.ofString_length]
    exact Nat.le_trans q (by decide)
  · show (if i == 0 then 0 else i.natAbs.log2 + 1) ≤ 100
    split <;> omega
theorem smAll {n dp : Nat} : ∀ {ds : List PyData}, (∀ d ∈ ds, Sm n dp d) → PyData.showableAll ds = true ∧ PyData.leavesShortAll 40 ds = true ∧ PyData.weightAll ds ≤ ds.length * (n + 1) ∧ PyData.depthAll ds ≤ dp
  | [], _ => ⟨rfl, rfl, Nat.zero_le _, Nat.zero_le _⟩
  | d :: ds, h => by
    obtain ⟨a, b, c, e⟩ := smAll (ds := ds) fun x hx => h x (List.mem_cons_of_mem _ hx)
    have z := h d List.mem_cons_self
    refine ⟨?_, ?_, ?_, ?_⟩
    · show (d.showable && PyData.showableAll ds) = true
      rw [z.shows, a]
      rfl
    · show (d.leavesShort 40 && PyData.leavesShortAll 40 ds) = true
      rw [z.short, b]
      rfl
    · show d.weight + 1 + PyData.weightAll ds ≤ (ds.length + 1) * (n + 1)
      have := z.small
      rw [Nat.add_mul]
      omega
    · show max d.depth (PyData.depthAll ds) ≤ dp
      exact Nat.max_le.mpr ⟨z.flat, e⟩
theorem Sm.tup {n dp : Nat} {ds : List PyData} (h : ∀ d ∈ ds, Sm n dp d) : Sm (ds.length * (n + 1)) (dp + 1) (.tuple ds) :=
  let ⟨a, b, c, e⟩ := smAll h
  ⟨a, b, c, Nat.succ_le_succ e⟩
theorem Sm.lst {n dp : Nat} {ds : List PyData} (h : ∀ d ∈ ds, Sm n dp d) : Sm (ds.length * (n + 1)) (dp + 1) (.list ds) :=
  let ⟨a, b, c, e⟩ := smAll h
  ⟨a, b, c, Nat.succ_le_succ e⟩
theorem Sm.fits {n dp : Nat} {d : PyData} (h : Sm n dp d) (hn : n ≤ 300000) : d.shown.length ≤ sizeLine := by
  have q := PyData.shown_le 40 (by decide) d h.short
  have := h.small
  have e : sizeLine = 16777216 := by decide
  rw [e]
  omega
/-- data with dicts in it; its lists stand in the heap by themselves -/
def keyD : Key → PyData
  | .inl i => .int i
  | .inr x => .str x
mutual
inductive Dv (K : PySem.W.Frag) (H : Hp) : V → PyData → Prop
  | non : Dv K H .non .none
  | bl (b : Bool) : Dv K H (.bl b) (.bool b)
  | int (i : Int) : Dv K H (.int i) (.int i)
  | str (x : Str) : Dv K H (.str x) (.str x)
  | lst {a : Addr} {xs : List V} {ds : List PyData} : H a = some (.lst xs) → DvAll K H xs ds → Dv K H (.ref a) (.list ds)
  | tup {a : Addr} {xs : List V} {ds : List PyData} : H a = some (.tup xs) → DvAll K H xs ds → Dv K H (.ref a) (.tuple ds)
  | dic {a : Addr} {kvs : List (Key × V)} {ds : List PyData} : H a = some (.dK kvs) → DvAll K H (kvs.map (·.2)) ds → Dv K H (.ref a) (.dict ((kvs.map fun p => keyD p.1).zip ds))
inductive DvAll (K : PySem.W.Frag) (H : Hp) : List V → List PyData → Prop
  | nil : DvAll K H [] []
  | cons {v : V} {vs : List V} {d : PyData} {ds : List PyData} : Dv K H v d → DvAll K H vs ds → DvAll K H (v :: vs) (d :: ds)
end
theorem DvAll.length {K : PySem.W.Frag} {H : Hp} : ∀ {vs : List V} {ds : List PyData}, DvAll K H vs ds → vs.length = ds.length
  | _, _, .nil => rfl
  | _, _, .cons _ h => by rw [List.length_cons, List.length_cons, h.length]
theorem keys_read {P : Program} {w : World} {h : Heap} : ∀ {es : List DictEntry} {vs : List (Key × Value)}, Pairs (mixKind P w) es vs → ReadsAll h (es.map (·.key)) (vs.map fun p => keyD p.1) []
  | _, _, .nil => .nil
  | _, _, .cons (e := e) (kv := kv) hk _ r => by
    have one : Reads h e.key (keyD kv.1) [] := by
      rcases keyIs_shape hk with ⟨i, t, e1, e2⟩ | ⟨x, t, e1, e2⟩
      · rw [e1, e2]
        exact .int i t
      · rw [e1, e2]
        exact .str x t
    exact ReadsAll.cons one (keys_read r)
theorem vals_read {P : Program} {w : World} : ∀ {es : List DictEntry} {vs : List (Key × Value)}, Pairs (mixKind P w) es vs → es.map (·.val) = vs.map (·.2)
  | _, _, .nil => rfl
  | _, _, .cons _ hv r => by rw [List.map_cons, List.map_cons, hv, vals_read r]
theorem kv_vals : ∀ {kvs : List (Key × V)} {vs : List (Key × Value)}, KV kvs vs → Vals (kvs.map (·.2)) (vs.map (·.2)) ∧ (vs.map fun p => keyD p.1) = kvs.map fun p => keyD p.1
  | _, _, .nil => ⟨.nil, rfl⟩
  | _, _, .cons h r => by
    obtain ⟨a, b⟩ := kv_vals r
    refine ⟨.cons h.2 a, ?_⟩
    rw [List.map_cons, List.map_cons, b, h.1]
section
variable {X : Cx} {pins : List (Addr × Obj)} {σ : L2.St} {H : Hp} {s : Shared}
theorem Dv.reads (I : Inv X pins σ H s) (mods : ∃ mm, X.base.Ns sysModules mm) {v : V} {d : PyData} (h : Dv X.K H v d) : ∀ u : Value, RelV v u → ∃ as, Reads s.heap u d as ∧ sysModules ∉ as := by
  have free : H sysModules = none := by
    obtain ⟨mm, o, es, ep, e, _⟩ := mods
    exact (I.bs _ o e).2
  refine Dv.rec (K := X.K) (H := H) (motive_1 := fun v d _ => ∀ u : Value, RelV v u → ∃ as, Reads s.heap u d as ∧ sysModules ∉ as) (motive_2 := fun vs ds _ => ∀ us : List Value, Vals vs us → ∃ as, ReadsAll s.heap us ds as ∧ sysModules ∉ as) ?_ ?_ ?_ ?_ ?_ ?_ ?_ ?_ ?_ h
  · intro u r
    cases r
    exact ⟨_, .none, fun z => nomatch z⟩
  · intro b u r
    cases r
    exact ⟨_, .bool b, fun z => nomatch z⟩
  · intro i u r
    obtain ⟨t, rfl⟩ := r
    exact ⟨_, .int i t, fun z => nomatch z⟩
  · intro x u r
    obtain ⟨t, rfl⟩ := r
    exact ⟨_, .str x t, fun z => nomatch z⟩
  · intro a xs ds e _ ih u r
    cases r
    obtain ⟨_, its, n, rv, q⟩ := I.hok a _ e
    obtain ⟨as, ra, na⟩ := ih _ rv
    refine ⟨a :: as, .list q rfl rfl (by simpa using ra), fun z => ?_⟩
    rcases List.mem_cons.mp z with z | z
    · rw [← z, free] at e
      cases e
    · exact na z
  · intro a xs ds e _ ih u r
    cases r
    obtain ⟨_, its, rv, o, ho, hc, n, hd⟩ := I.hok a _ e
    obtain ⟨as, ra, na⟩ := ih _ rv
    exact ⟨as, .tuple ho hc hd (by simpa using ra), na⟩
  · intro a kvs ds e hall ih u r
    cases r
    obtain ⟨_, hne, vs, kv, o, es, ep, ho, ex, hd, _, prs, _⟩ := I.hok a _ e
    obtain ⟨rv, ek⟩ := kv_vals kv
    obtain ⟨as, ra, na⟩ := ih _ rv
    have len : (kvs.map fun p => keyD p.1).length = ds.length := by
      have z := hall.length
      rw [List.length_map] at z
      rw [List.length_map, z]
    refine ⟨_, .dict ho ex.1 hd (as := []) (bs := as) ?_ ?_, fun z => ?_⟩
    · rw [List.map_fst_zip (by omega), ← ek]
      exact keys_read prs
    · rw [List.map_snd_zip (by omega), vals_read prs]
      exact ra
    · rcases List.mem_cons.mp z with z | z
      · rw [← z] at hne
        exact absurd hne (by decide)
      · exact na z
  · intro us r
    cases r
    exact ⟨_, .nil, fun z => nomatch z⟩
  · intro v vs d ds _ _ ih1 ih2 us r
    cases r with
    | cons r1 r2 =>
      obtain ⟨as, ra, na⟩ := ih1 _ r1
      obtain ⟨bs, rb, nb⟩ := ih2 _ r2
      refine ⟨_, .cons ra rb, fun z => ?_⟩
      rcases List.mem_append.mp z with z | z
      · exact na z
      · exact nb z
theorem call_reprV (mods : ∃ mm, X.base.Ns sysModules mm) (quiet : Quiet X.A) (units : X.A.units + 64 < cLine) : CallR X (.builtin "repr")
    (fun xs H Q => ∃ v d n dp, xs = [v] ∧ Dv X.K H v d ∧ Sm n dp d ∧ n ≤ 300000 ∧ dp ≤ 60 ∧ Q (.str d.shown) H) := by
  intro pins s σ H xs us Q I r h
  obtain ⟨v, d, n, dp, rfl, hd, sm, hn, hdp, q⟩ := h
  obtain ⟨u, rfl, ru⟩ := vals1 r
  have fits := sm.fits hn
  have flat := sm.flat
  obtain ⟨as, rd, off⟩ := Dv.reads I mods hd _ ru
  cases hd with
  | non =>
    cases ru
    exact PySem.P.repr_of_none ⟨.str _, H, I.tok _, ⟨_, rfl⟩, q⟩
  | bl b =>
    cases ru
    exact PySem.P.repr_of_bool ⟨.str _, H, I.tok _, ⟨_, rfl⟩, q⟩
  | int i =>
    obtain ⟨t, rfl⟩ := ru
    exact PySem.P.repr_of_int (of_decide_eq_true sm.shows) ⟨.str _, H, I.tok _, ⟨_, rfl⟩, q⟩
  | str x =>
    obtain ⟨t, rfl⟩ := ru
    exact PySem.P.repr_of_str ⟨.str _, H, I.tok _, ⟨_, rfl⟩, q⟩ fits
  | _ =>
    cases ru
    exact repr_of_reads' rd sm.shows (fun _ => off) quiet (by omega) (fun _ _ e => e) (fun h' t tk more => ⟨.str _, H, I.kept more, ⟨_, rfl⟩, q⟩) fits
end
theorem Dp.noDict {K : PySem.W.Frag} {H : Hp} {v : V} {d : PyData} (h : Dp K H v d) : d.hasDict = false := by
  refine Dp.rec (K := K) (H := H) (motive_1 := fun v d _ => d.hasDict = false) (motive_2 := fun vs ds _ => PyData.hasDictAll ds = false) ?_ ?_ ?_ ?_ ?_ ?_ ?_ ?_ h
  all_goals intros
  all_goals simp_all [PyData.hasDict, PyData.hasDictAll]
section
variable {X : Cx}
theorem call_reprD (quiet : Quiet X.A) (units : X.A.units + 64 < cLine) : CallR X (.builtin "repr")
    (fun xs H Q => ∃ v d n dp, xs = [v] ∧ Dp X.K H v d ∧ Sm n dp d ∧ n ≤ 300000 ∧ dp ≤ 60 ∧ Q (.str d.shown) H) := by
  intro pins s σ H xs us Q I r h
  obtain ⟨v, d, n, dp, rfl, hd, sm, hn, hdp, q⟩ := h
  obtain ⟨u, rfl, ru⟩ := vals1 r
  have fits := sm.fits hn
  have flat := sm.flat
  obtain ⟨as, rd⟩ := Dp.reads I d v u hd ru
  cases hd with
  | non =>
    cases ru
    exact PySem.P.repr_of_none ⟨.str _, H, I.tok _, ⟨_, rfl⟩, q⟩
  | bl b =>
    cases ru
    exact PySem.P.repr_of_bool ⟨.str _, H, I.tok _, ⟨_, rfl⟩, q⟩
  | int i =>
    obtain ⟨t, rfl⟩ := ru
    exact PySem.P.repr_of_int (of_decide_eq_true sm.shows) ⟨.str _, H, I.tok _, ⟨_, rfl⟩, q⟩
  | str x =>
    obtain ⟨t, rfl⟩ := ru
    exact PySem.P.repr_of_str ⟨.str _, H, I.tok _, ⟨_, rfl⟩, q⟩ fits
  | lst h1 h2 =>
    cases ru
    exact repr_of_reads' rd sm.shows (PyData.noDict_hsm (Dp.noDict (Dp.lst h1 h2))) quiet (by omega) (fun _ _ e => e) (fun h' t tk more => ⟨.str _, H, I.kept more, ⟨_, rfl⟩, q⟩) fits
  | tup h1 h2 =>
    cases ru
    exact repr_of_reads' rd sm.shows (PyData.noDict_hsm (Dp.noDict (Dp.tup h1 h2))) quiet (by omega) (fun _ _ e => e) (fun h' t tk more => ⟨.str _, H, I.kept more, ⟨_, rfl⟩, q⟩) fits
end
/-! ### the end of a law row whose def is of the quiet kind -/
theorem quiet_law {P : Program} {w : World} {K : PySem.W.Frag} {mg mb : Str → Option Value} {k : Nat} {fa a : Addr} {fd : FuncData} {x : Str} {sp : Sp} {s₁ : Shared} {vs : List Value} {ns : List Int}
    (inK : K.In s₁.heap) (glob : s₁.heap.Ns mainGlobals mg) (blt : s₁.heap.Ns builtinsNs mb) (bltIs : ∀ y : Str, y ≠ "__name__" → mb y = bootBuiltins y) (lim : s₁.heap.NoLimit) (gens : s₁.gens = #[]) (mods : ∃ mm, s₁.heap.Ns sysModules mm)
    (here : s₁.heap.get? a = some { cls := .type "list", data := .seq vs.toArray }) (whole : IntsAre vs ns) (few : ns.length ≤ sizeLine) (room : Room k callerA)
    (F : ∀ base : Heap, K.In base → base.Ns mainGlobals mg → (∃ mm, base.Ns sysModules mm) → FnG P w K mg base k fa fd [x] sp) (bind : ∀ (s : Shared) (u : Value), BindsTo s fd ⟨[u], []⟩ [(x, u)])
    (want : ∀ H : Hp, Only H → SqL K H a (ns.map V.int) → sp [.ref a] H (fun v _ => v = .bl true) E0) :
    codeAny (model P w) callerA (.call (.ref fa) ⟨[.ref a], []⟩) (fun r s' => r = .ok (.ret (.bool true)) ∧ OldK s₁.heap s'.heap ∧ s'.os = s₁.os ∧ AllBare s'.gens) s₁ := by
  have rel := vals_ints whole
  -- H: the script alone, or nothing
  have main : ∀ H : Hp, Only H → SqL K H a (ns.map V.int) → HOk P w H s₁.heap → (∀ b u, H b = some u → b = a ∧ K.lookup b = none) →
      codeAny (model P w) callerA (.call (.ref fa) ⟨[.ref a], []⟩) (fun r s' => r = .ok (.ret (.bool true)) ∧ OldK s₁.heap s'.heap ∧ s'.os = s₁.os ∧ AllBare s'.gens) s₁ := by
    intro H only sq ok apart
    have untold : ∀ {b o}, s₁.heap.get? b = some o → (b = a → False) → H b = none := by
      intro b o e ne
      cases q : H b with
      | none => rfl
      | some u => exact (ne (apart b u q).1).elim
    have ns1 : ∀ {b m}, s₁.heap.Ns b m → (hidT s₁.heap H).Ns b m := by
      rintro b m ⟨o, es, ep, e, d, r⟩
      refine ⟨o, es, ep, hidT_get e (untold e fun z => ?_), d, r⟩
      subst z
      rw [here] at e
      cases e
      cases d
    have kIn : K.In (hidT s₁.heap H) := by
      intro b o e
      apply hidT_get (inK b o e)
      cases q : H b with
      | none => rfl
      | some u =>
        have z := (apart b u q).2
        rw [e] at z
        cases z
    have lim1 : (hidT s₁.heap H).NoLimit := by
      obtain ⟨mc, h1, h2⟩ := lim
      exact ⟨mc, ns1 h1, h2⟩
    have e0 : Env0 P w K mg (hidT s₁.heap H) callerA [] s₁ H := {
      frames := rfl, mod := ⟨kIn, ns1 glob, ⟨mb, ns1 blt, bltIs⟩, lim1⟩, bs := fun _ _ e => of_hidT e, bsz := Nat.le_of_eq (hidT_size _ _), funs := True.intro, frf := (fun _ hb => nomatch hb), hok := ok, bare := .of_eq gens }
    apply codeAny_mono ((F _ kIn (ns1 glob) (mods.elim fun mm h => ⟨mm, ns1 h⟩)).go (us := [.ref a]) (vs := [.ref a]) room rfl e0 (bind s₁ _) (.cons rfl .nil) (want H only sq))
    intro r s' hr
    match r, hr with
    | .error _, hr => exact hr.elim
    | .ok .next, hr => exact False.elim hr
    | .ok .brk, hr => exact False.elim hr
    | .ok .cont, hr => exact False.elim hr
    | .ok (.ret u), hr =>
      obtain ⟨v, H', os, bare, un, ok', rv, q⟩ := hr
      cases (show v = V.bl true from q)
      cases (show u = Value.bool true from rv)
      refine ⟨rfl, OldK.of_keep ?_, os, bare⟩
      intro b o e
      cases only b with
      | inl n => exact un.keep b o e n (fun z => nomatch z) (fun z => nomatch z)
      | inr n =>
        obtain ⟨ob, xs, z⟩ := n
        have e1 := (ok b _ z).1
        have e2 := (ok' b _ (un.frzs b ob _ z)).1
        rw [e] at e1
        cases e1
        exact e2
  have small : (ns.map V.int).length ≤ sizeLine := by rw [List.length_map]; exact few
  cases known : K.lookup a with
  | some o =>
    have e := inK a o known
    rw [here] at e
    cases e
    have sz : vs.length ≤ sizeLine := by rw [← rel.length]; exact small
    exact main (fun _ => none) (fun _ => .inl rfl) (.inr ⟨_, vs.toArray, _, known, rfl, rfl, rfl, by simpa using sz, by simpa using rel⟩) (fun _ _ z => nomatch z) (fun _ _ z => nomatch z)
  | none =>
    have at1 : ∀ {b u}, (if b = a then some (HO.frz { cls := .type "list", data := .seq vs.toArray } (.lst (ns.map V.int))) else none) = some u → b = a := by
      intro b u z
      by_cases hb : b = a
      · exact hb
      · rw [if_neg hb] at z
        cases z
    refine main (fun b => if b = a then some (.frz { cls := .type "list", data := .seq vs.toArray } (.lst (ns.map V.int))) else none) (fun b => ?_) (.inl (.inr ⟨{ cls := .type "list", data := .seq vs.toArray }, if_pos rfl⟩)) (fun b u z => ?_) (fun b u z => ?_)
    · by_cases hb : b = a
      · exact .inr ⟨_, _, if_pos hb⟩
      · exact .inl (if_neg hb)
    · have hb := at1 z
      subst hb
      have z2 := (if_pos rfl).symm.trans z
      cases z2
      exact ⟨here, small, vs, _, rel, here⟩
    · have hb := at1 z
      subst hb
      exact ⟨rfl, known⟩
theorem quiet_walk {l : PySem.W.OpenLaw} {n k : Nat} {q : Program} {loose : List Str} {XP : (Str → Option Value) → Heap → Prop} {YP : World → Heap → Prop} {d : DefRec} {K : Params → PySem.W.Frag} {sp : World → Sp} {x : Str}
    (noImport : importsNone q = true) (most : l.most = some n) (n2 : n ≤ sizeLine) (defaults : d.params.defaults = []) (room : Room k callerA) (hY : ∀ (w : World) (h : Heap), YP w h → (K w.params).In h)
    (F : ∀ (w : World) (mg : Str → Option Value) (fa : Addr) (h : Heap), (K w.params).In h → h.Ns mainGlobals mg → mg d.name = some (.ref fa) →
      ∃ fd : FuncData, (∀ (s : Shared) (u : Value), BindsTo s fd ⟨[u], []⟩ [(x, u)]) ∧ ∀ base : Heap, (K w.params).In base → base.Ns mainGlobals mg → (∃ mm, base.Ns sysModules mm) → FnG l.prog w (K w.params) mg base k fa fd [x] (sp w))
    (want : ∀ (w : World) (H : Hp) (a : Addr) (ns : List Int), ns.length ≤ n → Only H → SqL (K w.params) H a (ns.map V.int) → sp w [.ref a] H (fun v _ => v = .bl true) E0) :
    PySem.W.WalkO q loose XP YP l.row.toRowW d [] (fun f vs => PySem.call f vs) := by
  apply Att.attach_call most defaults
  intro w s₀ s₁ mg mb fa o pm cd doc a vs ns G Y ho hd hcd hmg hobj hints hlen hg
  obtain ⟨fd, hb, hF⟩ := F w mg fa _ (hY w _ Y) G.T.g hmg
  exact quiet_law (hY w _ Y) G.T.g G.T.b G.T.builtins G.T.nolimit hg ((G.T.seer noImport).mods.elim fun mm h => ⟨mm, h.1⟩) hobj hints (Nat.le_trans hlen n2) room hF hb fun H o1 s1 => want w H a ns hlen o1 s1

/-! ### a op1 b op2 c op3 .. : chains of any length -/
section
variable {X : Cx}
structure PCh (X : Cx) (ops : List CmpOp) (es : List Expr) (t : V → TE) : Prop where
  run : ∀ (pos : Pos) (pins : List (Addr × Obj)) (s : Shared) (σ : L2.St) (H : Hp) (Q : VK) (x : V) (v : Value), Inv X pins σ H s → RelV x v → t x σ H Q → wpAny (model X.prog X.w) X.A (compareChain pos v ops (evalEach es X.env)) (EP X pins σ Q) X.xe s
structure PChT (X : Cx) (ops : List CmpOp) (es : List Expr) (t : V → TE) : Prop where
  run : ∀ (pos : Pos) (pins : List (Addr × Obj)) (s : Shared) (σ : L2.St) (H : Hp) (Q : Bool → Hp → Prop) (x : V) (v : Value), Inv X pins σ H s → RelV x v → (t x σ H fun y H' => ∃ k, y = .bl k ∧ Q k H') → wpAny (model X.prog X.w) X.A (testChain pos v ops (evalEach es X.env)) (TP X pins σ Q) X.xe s
def tLast (r : R2) (tb : TE) : V → TE := fun x σ H Q => tb σ H fun y H2 => r x y H2 Q
def tLink (r : R2) (tb : TE) (rest : V → TE) : V → TE := fun x σ H Q => tb σ H fun y H2 => r x y H2 fun z H3 => ∃ k, z = .bl k ∧ (if k = true then rest y σ H3 Q else Q (.bl false) H3)
def tCh (ta : TE) (rest : V → TE) : TE := fun σ H Q => ta σ H fun x H1 => rest x σ H1 Q
theorem pch_last {op : CmpOp} {r : R2} {b : Expr} {tb : TE} (ho : OpR X (compareOp op) r) (hb : PE X b tb) : PCh X [op] [b] (tLast r tb) :=
  ⟨fun pos pins s σ H Q x v I rx h => chain_last (thn (hb.run pins s σ H _ I h) fun u s2 ⟨y, H2, I2, r2, q2⟩ => ho pins s2 σ H2 x y v u Q I2 rx r2 q2)⟩
theorem pch_link {op op' : CmpOp} {ops : List CmpOp} {r : R2} {b b' : Expr} {bs : List Expr} {tb : TE} {rest : V → TE} (ho : OpR X (compareOp op) r) (hb : PE X b tb) (hr : PCh X (op' :: ops) (b' :: bs) rest) : PCh X (op :: op' :: ops) (b :: b' :: bs) (tLink r tb rest) := by
  refine ⟨fun pos pins s σ H Q x v I rx h => ?_⟩
  refine chain_link (thn (hb.run pins s σ H _ I h) fun u s2 ⟨y, H2, I2, r2, q2⟩ => thn (ho pins s2 σ H2 x y v u _ I2 rx r2 q2) fun d s3 ⟨z, H3, I3, r3, k, e, q3⟩ => ?_)
  subst e
  cases r3
  refine wpAny_truthy_bool ?_
  cases k with
  | false => exact ite_ff ⟨.bl false, H3, I3, rfl, q3⟩
  | true => exact ite_tt (hr.run pos pins s3 σ H3 Q y u I3 r2 q3)
theorem pe_chN {op op' : CmpOp} {ops : List CmpOp} {a b b' : Expr} {bs : List Expr} {pos : Pos} {ta : TE} {rest : V → TE} (ha : PE X a ta) (hr : PCh X (op :: op' :: ops) (b :: b' :: bs) rest)
    (hm : lastMarks (op :: op' :: ops) (b :: b' :: bs) = false := by with_unfolding_all rfl) : PE X (.Compare a (op :: op' :: ops) (b :: b' :: bs) pos) (tCh ta rest) :=
  ⟨fun pins s σ H Q I h => Compare_chain (thn (ha.run pins s σ H _ I h) fun v s1 ⟨x, H1, I1, r1, q1⟩ => hr.run pos pins s1 σ H1 Q x v I1 r1 q1) hm⟩
theorem pchT_last {op : CmpOp} {r : R2} {b : Expr} {tb : TE} (ho : OpR X (compareOp op) r) (hb : PE X b tb) : PChT X [op] [b] (tLast r tb) := by
  refine ⟨fun pos pins s σ H Q x v I rx h => ?_⟩
  refine test_last (thn (hb.run pins s σ H _ I h) fun u s2 ⟨y, H2, I2, r2, q2⟩ => thn (ho pins s2 σ H2 x y v u _ I2 rx r2 q2) fun d s3 ⟨z, H3, I3, r3, k, e, q3⟩ => ?_)
  subst e
  cases r3
  exact wpAny_truthy_bool ⟨H3, I3, q3⟩
theorem pchT_link {op op' : CmpOp} {ops : List CmpOp} {r : R2} {b b' : Expr} {bs : List Expr} {tb : TE} {rest : V → TE} (ho : OpR X (compareOp op) r) (hb : PE X b tb) (hr : PChT X (op' :: ops) (b' :: bs) rest) : PChT X (op :: op' :: ops) (b :: b' :: bs) (tLink r tb rest) := by
  refine ⟨fun pos pins s σ H Q x v I rx h => ?_⟩
  refine test_link (thn (hb.run pins s σ H _ I h) fun u s2 ⟨y, H2, I2, r2, q2⟩ => thn (ho pins s2 σ H2 x y v u _ I2 rx r2 q2) fun d s3 ⟨z, H3, I3, r3, k, e, q3⟩ => ?_)
  subst e
  cases r3
  refine wpAny_truthy_bool ?_
  cases k with
  | false =>
    obtain ⟨k', e', q'⟩ := q3
    cases e'
    exact ite_ff ⟨H3, I3, q'⟩
  | true => exact ite_tt (hr.run pos pins s3 σ H3 Q y u I3 r2 q3)
theorem pt_chN {op op' : CmpOp} {ops : List CmpOp} {a b b' : Expr} {bs : List Expr} {pos : Pos} {ta : TE} {rest : V → TE} (ha : PE X a ta) (hr : PChT X (op :: op' :: ops) (b :: b' :: bs) rest)
    (hm : lastMarks (op :: op' :: ops) (b :: b' :: bs) = false := by with_unfolding_all rfl) : PT X (.Compare a (op :: op' :: ops) (b :: b' :: bs) pos) (tTest (tCh ta rest)) :=
  ⟨fun pins s σ H Q I h => isTrue_chain (thn (ha.run pins s σ H _ I h) fun v s1 ⟨x, H1, I1, r1, q1⟩ => hr.run pos pins s1 σ H1 Q x v I1 r1 q1) hm⟩
end

theorem pi_listK {X : Cx} {K : PySem.W.Frag} {tg l : Expr} {tl : TE} (hK : X.K = K) (hl : PE X l tl) : PI X tg l (iList K tl) := hK ▸ pi_list hl
theorem pi_tupK {X : Cx} {K : PySem.W.Frag} {tg l : Expr} {tl : TE} (hK : X.K = K) (hl : PE X l tl) : PI X tg l (iTup K tl) := hK ▸ pi_tup hl

/-! ### enumerate of a tuple -/
section
open Sem (wp)
set_option maxHeartbeats 4000000 in
theorem enum_of_tuple (t : Addr) (items : Array Value) : Meets (Builtin.«enumerate.__new__» ⟨[.type "enumerate", .ref t], []⟩) (fun _ R s => s.heap.IsTuple t items ∧
    R (.ok (.ret (.ref (s.heap.push { cls := .type "tuple_iterator", data := .fields #[.ref t, .int 0 0] }).objs.size)))
      { s with heap := (s.heap.push { cls := .type "tuple_iterator", data := .fields #[.ref t, .int 0 0] }).push { cls := .type "enumerate", data := .fields #[.none, .bool false, .ref s.heap.objs.size, rawInt 0, .none, .none] } }) := by
  refine .of_wp fun prog w A R s h => ?_
  obtain ⟨hp, g, d, tk, os⟩ := s
  obtain ⟨isT, h⟩ := h
  have sub := sub_enumerate
  have start : ∀ {A' : Around} {E : Value → Shared → Prop} {Q : Value → Shared → Prop}, Q (.ref hp.objs.size) ⟨hp.push { cls := .type "tuple_iterator", data := .fields #[.ref t, .int 0 0] }, g, d, tk, os⟩ → wpAny (model prog w) A' (pyIter (.ref t)) Q E ⟨hp, g, d, tk, os⟩ := by
    intro A' E Q q
    exact (begins_tuple t items).iter prog w A' E ⟨hp, g, d, tk, os⟩ Q isT q
  wp_walk using start
  refine wpAny_stack_any fun st => wpAny_pure ?_
  split
  · rename_i cc _ _ _ _ _
    cases (cc == Value.type "enumerate") <;> (wp_walk using start; exact Exists.intro _ ⟨rfl, h⟩)
  · wp_walk using start
    exact Exists.intro _ ⟨rfl, h⟩
end
theorem call_enumT {prog : Program} {w : World} {A : Around} {E : Value → Shared → Prop} {s : Shared} {t : Addr} {items : Array Value} {Q : Value → Shared → Prop} (isT : s.heap.IsTuple t items)
    (h : ∀ h', IsEnum h' (s.heap.objs.size + 1) s.heap.objs.size 0 .none → h'.IsTupleIter s.heap.objs.size t 0 → (∀ b o, s.heap.get? b = some o → h'.get? b = some o) → Q (.ref (s.heap.objs.size + 1)) { s with heap := h' }) :
    wpAny (model prog w) A (call (.type "enumerate") [.ref t]) Q E s := by
  refine callType_new F.called_enumerate (by decide) (F.typeCall_enumerate_1 _) (F.newCall_enumerate_1 _) (fun obj => F.args_object_init_2 obj _) F.entry_enumerate_new (enum_of_tuple t items) (And.intro isT ?_)
  have size : (s.heap.push { cls := .type "tuple_iterator", data := .fields #[.ref t, .int 0 0] }).objs.size = s.heap.objs.size + 1 := Heap.size_push ..
  show _ ∧ _
  rw [size]
  have made := Heap.get?_push_size (s.heap.push { cls := .type "tuple_iterator", data := .fields #[.ref t, .int 0 0] }) (o := { cls := .type "enumerate", data := .fields #[.none, .bool false, .ref s.heap.objs.size, rawInt 0, .none, .none] }) rfl
  rw [size] at made
  refine ⟨⟨_, made, rfl⟩, h _ made ⟨_, Heap.get?_push_of_some _ (Heap.get?_push_size _ rfl), rfl, rfl⟩ ?_⟩
  intro b o e
  exact Heap.get?_push_of_some _ (Heap.get?_push_of_some _ e)
/-- the tuple at a, each item in a new pair with its place -/
def IteT (K : PySem.W.Frag) (a : Addr) (N : Nat) : It where
  go := fun i H => ∃ (xs : List V) (x : V), SqT K H a xs ∧ xs[i]? = some x ∧ xs.length = N
  yld := fun i H v H' => ∃ t x, v = .ref t ∧ H t = none ∧ H' = upd H t (.tup [.int (i : Nat), x]) ∧ ∀ xs, SqT K H a xs → xs[i]? = some x
  stop := fun i H => ∃ xs : List V, SqT K H a xs ∧ xs.length = N ∧ N ≤ i
theorem turn_enumT {P : Program} {w : World} {K : PySem.W.Frag} {elts : List Expr} {kk : Nat} {tpos : Pos} (a e it : Addr) (N : Nat) :
    Turn P w K (.Tuple elts kk tpos) (IteT K a N) [e, it] e (fun i h => (∃ old, IsEnum h e it ((i : Nat) : Int) old) ∧ h.IsTupleIter it a i ∧ e ≠ it ∧ i ≤ N) := by
  have two : ∀ {b : Addr}, b ∈ [e, it] → b = e ∨ b = it := fun hb => by simpa using hb
  constructor
  · simp
  · rintro i h ⟨⟨old, he⟩, ⟨o, ho, hc, hd⟩, _, _⟩ b hb
    rcases two hb with rfl | rfl
    · exact ⟨_, he, fun v q => nomatch q⟩
    · refine ⟨o, ho, fun v q => ?_⟩
      rw [hd] at q
      cases q
  · rintro i h h' ⟨⟨old, he⟩, hi, hne, hN⟩ k
    exact ⟨⟨old, k e (by simp) _ he⟩, hi.at fun o q => k it (by simp) o q, hne, hN⟩
  · intro X hP hw hK hc i pins s σ H E I hf st hg
    subst hP hw hK
    obtain ⟨⟨old, he⟩, hit, hne, hN⟩ := st
    obtain ⟨xs, x, hq, hx, hxN⟩ := hg
    have inside := (List.getElem?_eq_some_iff.mp hx).1
    obtain ⟨its, rv, p, _⟩ := I.tuple hq
    obtain ⟨u, hu, ru⟩ := rv.get hx
    have isT : s.heap.IsTuple a its.toArray := p
    have apart : a ≠ it := by
      rintro rfl
      obtain ⟨o1, q1, c1, _⟩ := hit
      obtain ⟨o2, q2, c2, _⟩ := isT
      rw [q1] at q2
      cases q2
      rw [c1] at c2
      exact absurd (Value.type.inj c2) (by decide)
    have hea : e ≠ a := by
      rintro rfl
      obtain ⟨o2, q2, c2, _⟩ := isT
      rw [he] at q2
      cases q2
      exact absurd (Value.type.inj c2) (by decide)
    have lte : e < s.heap.objs.size := Heap.lt_size he
    have lti : it < s.heap.objs.size := hit.elim fun _ q => Heap.lt_size q.1
    have less : i < its.toArray.size := by
      have z := (List.getElem?_eq_some_iff.mp hu).1
      rw [List.size_toArray]
      exact z
    apply wpAny_pyNext_enum_itemD (Draws.tuple (A := X.A.in1) (I.ok.hd hc) it a apart its.toArray) he ⟨hit, isT⟩ less hne (by simp [hne, hea])
    intro y h' tk hy ho st' hT hsz hk
    have ey : y = u := by
      have z : its[i]? = some y := by simpa using hy
      rw [hu] at z
      exact (Option.some.inj z).symm
    subst ey
    refine ⟨_, rfl, wpAny_letOwnedTupleGo_enum (s := { s with heap := h', toks := tk + 1 }) ho fun h2 he2 sb => ?_⟩
    have kept : ∀ b o, b ∉ [e, it] → s.heap.get? b = some o → h2.get? b = some o := by
      intro b o nb q
      have n1 : b ≠ e := fun z => nb (by simp [z])
      have n2 : b ≠ it := fun z => nb (by simp [z])
      exact (sb.2 b n1).trans (hk b o n1 n2 q)
    have hT2 : h2.get? s.heap.objs.size = some { cls := .type "tuple", data := .seq #[.int i tk, y] } := (sb.2 _ (Nat.ne_of_gt lte)).trans hT
    have I1 : Inv X pins σ (upd H s.heap.objs.size (.tup [.int (i : Nat), x])) { s with heap := h2, toks := tk + 1 } := by
      refine I.turnedNew (ch := [e, it]) kept hf (Nat.le_refl _) ⟨by show 2 ≤ sizeLine; decide, [.int i tk, y], .cons ⟨_, rfl⟩ (.cons ru .nil), ?_⟩
      exact ⟨_, hT2, rfl, _, rfl⟩
    refine ⟨.ref s.heap.objs.size, _, I1, rfl, ⟨_, x, rfl, I.hok.fresh (Nat.le_refl _), rfl, fun ys hys => ?_⟩, ⟨⟨y, ?_⟩, ?_, hne, by omega⟩, fun b hb => ?_⟩
    · rw [I.tuple_inj hys hq]
      exact hx
    · have cast : ((i + 1 : Nat) : Int) = (i : Int) + 1 := by omega
      rw [cast]
      exact he2
    · exact st'.1.at fun o q => (sb.2 it hne.symm).trans q
    · have lt : b < s.heap.objs.size := by
        rcases two hb with rfl | rfl
        · exact lte
        · exact lti
      rw [upd_ne (Nat.ne_of_lt lt)]
      exact (hf b hb).1
  · intro X hP hw hK hc i pins s σ H E I hf st hg
    subst hP hw hK
    obtain ⟨⟨old, he⟩, hit, hne, hN⟩ := st
    obtain ⟨xs, hq, hxN, hx⟩ := hg
    obtain ⟨its, rv, p, _⟩ := I.tuple hq
    have isT : s.heap.IsTuple a its.toArray := p
    have apart : a ≠ it := by
      rintro rfl
      obtain ⟨o1, q1, c1, _⟩ := hit
      obtain ⟨o2, q2, c2, _⟩ := isT
      rw [q1] at q2
      cases q2
      rw [c1] at c2
      exact absurd (Value.type.inj c2) (by decide)
    obtain ⟨f0, f1, f2, f3, f4, f5⟩ := hf it (by simp)
    have len := rv.length
    have at1 : i = its.toArray.size := by
      rw [List.size_toArray]
      omega
    subst at1
    apply wpAny_pyNext_enum_endD (Draws.tuple (A := X.A.in1) (I.ok.hd hc) it a apart its.toArray) he ⟨hit, isT⟩
    intro h' eb
    exact And.intro rfl (I.turned (t' := s.toks) (fun b o hb q => eb b o hb q) f0 f1 f3 f4 f5)
  · rintro A i s Q E ⟨⟨_, he⟩, _⟩ h
    exact wpAny_pyIter_enum he h
def iEnumT (K : PySem.W.Frag) (ta : TA) : TI := fun σ H R => ta σ H fun vs H1 => ∃ a xs, vs = [.ref a] ∧ SqT K H1 a xs ∧ R (IteT K a xs.length) H1
theorem pi_enumT {X : Cx} {e : Expr} {ta : TA} {p pos tpos : Pos} {elts : List Expr} {kk : Nat} (hg : Gl X "enumerate") (hm : X.mg "enumerate" = none) (args : PA X [e] ta) (star : starEach [e] X.env = [(false, eval e X.env)] := by rfl) :
    PI X (.Tuple elts kk tpos) (.Call (.Name "enumerate" p) [e] [] pos) (iEnumT X.K ta) := by
  constructor
  intro pins s σ H R I h
  refine Call_ (ld_blt I hg hm boot_enumerate ?_)
  refine PyProof.Rows.callWith_type1 (thn (args.run pos pins s σ H _ I h) ?_) star rfl
  rintro us s1 ⟨vs, H1, I1, rel, a, xs, rfl, sq, q⟩
  obtain ⟨u, rfl, ru⟩ := vals1 rel
  cases ru
  obtain ⟨its, rv, isT, _⟩ := I1.tuple sq
  refine call_enumT (items := its.toArray) isT fun h' he hit hk => wpAny_pyIter_enum he ?_
  have fresh : ∀ b ∈ [s1.heap.objs.size + 1, s1.heap.objs.size], s1.heap.objs.size ≤ b := by
    intro b hb
    have z : b = s1.heap.objs.size + 1 ∨ b = s1.heap.objs.size := by simpa using hb
    rcases z with rfl | rfl
    · exact Nat.le_add_right _ _
    · exact Nat.le_refl _
  exact ⟨_, _, _, _, H1, rfl, I1.kept hk, turn_enumT a (s1.heap.objs.size + 1) s1.heap.objs.size xs.length, ⟨⟨.none, he⟩, hit, Nat.succ_ne_self _, Nat.zero_le _⟩, fun b hb => I1.fpOk (fresh b hb) (I1.hok.fresh (fresh b hb)), q⟩

/-! ### t[::-1] of a tuple; xs == [], xs != [] of a list that may hold anything -/
section
open HT
variable {prog : Program} {w : World} {A : Around} {E : Value → Shared → Prop} {s : Shared}
theorem adjust_rev (n : Nat) : Builtin.Slice.sliceAdjust none none (-1) (n : Int) = ((n : Int) - 1, -1) := by
  unfold Builtin.Slice.sliceAdjust
  have h1 : (-1 : Int) < 0 := by decide
  simp only [h1, if_true]
theorem places_rev (n : Nat) : Builtin.Slice.slicePlaces ((n : Int) - 1) (-1) (-1) = n := by
  unfold Builtin.Slice.slicePlaces
  have h1 : ¬ ((-1 : Int) > 0) := by decide
  simp only [h1, if_false]
  have h2 : (-(-1) : Int) = 1 := by decide
  rw [h2, Int.ediv_one]
  split <;> omega
theorem sliceApplied_rev {sl : Addr} {vl vu vs : Value} {n : Nat} {Q : Int × Int × Nat → Shared → Prop} (hs : s.heap.IsSliceOf sl vl vu vs) (pl : IsPart vl none) (pu : IsPart vu none) (pt : IsPart vs (some (-1)))
    (h : Q ((n : Int) - 1, -1, n) s) : wpAny (model prog w) A (Builtin.Slice.sliceApplied (.ref sl) (pure (n : Int))) Q E s := by
  obtain ⟨os, hos, hcs, hds⟩ := id hs
  unfold Builtin.Slice.sliceApplied Builtin.Slice.sliceFields
  refine wpAny_bind (wpAny_bind (wpAny_field hos hds (x := vl) rfl (wpAny_bind (wpAny_field hos hds (x := vu) rfl (wpAny_bind (wpAny_field hos hds (x := vs) rfl (wpAny_pure ?_)))))))
  refine wpAny_bind (slicePart_ pt ?_)
  show wpAny _ _ (if ((-1 : Int) == 0) = true then _ else _) _ _ s
  rw [if_neg (by decide)]
  refine wpAny_bind (slicePart_ pl (wpAny_bind (slicePart_ pu (wpAny_bind (wpAny_pure ?_)))))
  show wpAny _ _ (match Builtin.Slice.sliceAdjust none none (-1) (n : Int) with | (lo, hi) => pure (lo, (-1 : Int), Builtin.Slice.slicePlaces lo hi (-1))) _ _ s
  rw [adjust_rev]
  show wpAny _ _ (pure ((n : Int) - 1, (-1 : Int), Builtin.Slice.slicePlaces ((n : Int) - 1) (-1) (-1))) _ _ s
  rw [places_rev]
  exact wpAny_pure h
theorem pick_rev (xs : Array Value) : ((List.range xs.size).filterMap fun (k : Nat) => xs[((xs.size : Int) - 1 + (k : Int) * (-1)).toNat]?) = xs.toList.reverse := by
  have e : ∀ m : Nat, m ≤ xs.size → ((List.range m).filterMap fun (k : Nat) => xs[((xs.size : Int) - 1 + (k : Int) * (-1)).toNat]?) = xs.toList.reverse.take m := by
    intro m
    induction m with
    | zero => intro _; rfl
    | succ m ih =>
      intro hm
      rw [List.range_succ, List.filterMap_append, ih (by omega), List.take_add_one]
      congr 1
      have e1 : ((xs.size : Int) - 1 + (m : Int) * (-1)).toNat = xs.size - 1 - m := by omega
      have e2 : xs.toList.reverse[m]? = xs[xs.size - 1 - m]? := by
        rw [List.getElem?_reverse (by rw [Array.length_toList]; omega), Array.length_toList, Array.getElem?_toList]
      rw [e2]
      have lt : xs.size - 1 - m < xs.size := by omega
      simp only [List.filterMap_cons, List.filterMap_nil, e1]
      rw [Array.getElem?_eq_getElem lt]
      rfl
  rw [e _ (Nat.le_refl _), List.take_of_length_le (by rw [List.length_reverse, Array.length_toList]; exact Nat.le_refl _)]
theorem getItem_tuple_rev {t sl : Addr} {items : Array Value} {vl vu vs : Value} {Q : Value → Shared → Prop} (ht : IsTup s.heap t items) (hs : s.heap.IsSliceOf sl vl vu vs) (pl : IsPart vl none) (pu : IsPart vu none) (pt : IsPart vs (some (-1)))
    (h : Q (.ref s.heap.objs.size) { s with heap := s.heap.push { cls := .type "tuple", data := .seq items.toList.reverse.toArray } })
    (hsz : items.size ≤ sizeLine) : wpAny (model prog w) A (getItem (.ref t) (.ref sl)) Q E s := by
  have htake : sizeOk (.seq items.toList.reverse.toArray) := by
    show items.toList.reverse.toArray.size ≤ sizeLine
    rw [List.size_toArray, List.length_reverse, Array.length_toList]
    omega
  obtain ⟨os, hos, hcs, hds⟩ := id hs
  have hTs : s.TypeIs (.ref sl) "slice" := ⟨os, hos, hcs⟩
  unfold getItem
  try with_reducible refine wpAny_holding ?_
  first | refine wpAny_bind (wpAny_pure ?_) | skip
  refine wpAny_bind (wpAny_sequenceKey ht.typeIs (by decide) ?_)
  refine wpAny_bind (wpAny_callSpecial?_slot (name := Str.ofString "__getitem__") ht.typeIs PyProof.Rows.slot_tuple_getitem
    (wpAny_call_entry PyProof.Rows.slot_tuple_getitem ht.typeIs entry_tuple_getitem ?_ (args_tuple_getitem _ _)))
  show wpAny _ _ (Builtin.Tuple.tupleItemsOf (.ref t) >>= _) _ _ s
  refine wpAny_bind (tupleItemsOf_ ht ?_)
  refine wpAny_bind (wpAny_typeOf hTs ?_)
  rw [if_pos (by decide)]
  refine wpAny_bind (sliceApplied_rev hs pl pu pt ?_)
  have hno : ¬ ((((items.size : Int) - 1) == 0 && (-1 : Int) == 1 && items.size == items.size) = true) := by
    intro q
    rw [Bool.and_eq_true, Bool.and_eq_true] at q
    exact absurd q.1.2 (by decide)
  show wpAny _ _ (if (((items.size : Int) - 1) == 0 && (-1 : Int) == 1 && items.size == items.size) = true then _ else _) _ _ s
  rw [if_neg hno, pick_rev]
  first
    | exact wpAny_bind (m := Builtin.Tuple.tupleExact _) (wpAny_newObj_type (wpAny_pure ⟨_, rfl, wpAny_pure h⟩) htake)
    | exact wpAny_bind (m := Builtin.Tuple.tupleExact _) (wpAny_newObj_type (wpAny_bind (wpAny_pure (wpAny_pure ⟨_, rfl, wpAny_pure h⟩))) htake)
    | exact wpAny_bind (wpAny_bind (m := Builtin.Tuple.tupleExact _) (wpAny_newObj_type (wpAny_pure (wpAny_pure ⟨_, rfl, wpAny_pure h⟩)) htake))
    | exact wpAny_bind (wpAny_bind (m := Builtin.Tuple.tupleExact _) (wpAny_newObj_type (wpAny_pure ⟨_, rfl, wpAny_pure h⟩) htake))
end
section
variable {X : Cx}
def tRevT (K : PySem.W.Frag) (te : TE) : TE := fun σ H Q => te σ H fun x H1 => ∃ a xs, x = .ref a ∧ SqT K H1 a xs ∧ ∀ p, H1 p = none → Q (.ref p) (upd H1 p (.tup xs.reverse))
theorem pe_revT {e : Expr} {te : TE} {k : Nat} {p1 p2 p3 pos : Pos} (he : PE X e te) : PE X (.Subscript e (.Slice none none (some (.UnaryOp .USub (.Constant (.int 1) k p1) p2)) p3) pos) (tRevT X.K te) := by
  refine ⟨fun pins s σ H Q I h => ?_⟩
  refine Subscript_ (thn (he.run pins s σ H _ I h) fun v s1 ⟨x, H1, I1, r1, q1⟩ => ?_)
  obtain ⟨a, xs, ex, hx, q⟩ := q1
  subst ex
  cases r1
  have hst : PO X (some (.UnaryOp .USub (.Constant (.int 1) k p1) p2)) (tPart (tUn (rU fun i => .int (-i)) (tC (.int 1)))) := po_some (pe_un un_neg pe_int)
  refine wpAny_Slice (thn (po_none.run pins s1 σ H1 (fun o H2 => o = none ∧ H2 = H1) I1 ⟨rfl, rfl⟩) fun vl s2 ⟨l, H2, I2, pl, el, e2⟩ => ?_)
  subst el e2
  refine thn (po_none.run pins s2 σ H2 (fun o H3 => o = none ∧ H3 = H2) I2 ⟨rfl, rfl⟩) fun vu s3 ⟨u, H3, I3, pu, eu, e3⟩ => ?_
  subst eu e3
  refine thn (hst.run pins s3 σ H3 (fun o H4 => o = some (-1) ∧ H4 = H3) I3 ⟨1, rfl, -1, rfl, rfl, rfl⟩) fun vs s4 ⟨o, H4, I4, ps, eo, e4⟩ => ?_
  subst eo e4
  have I5 : Inv X pins σ H4 { s4 with heap := s4.heap.push { cls := .type "slice", data := .fields #[vl, vu, vs] } } := I4.kept (t' := s4.toks) fun b ob q => Heap.get?_push_of_some _ q
  obtain ⟨its, r, ht, hz⟩ := I5.tuple hx
  have hlen := r.length
  show wpAny (model X.prog X.w) X.A (subscriptTail e (.Slice none none (some (.UnaryOp .USub (.Constant (.int 1) k p1) p2)) p3) (.ref a) (.ref s4.heap.objs.size)) (EP X pins σ Q) X.xe { s4 with heap := s4.heap.push { cls := .type "slice", data := .fields #[vl, vu, vs] } }
  refine tail_any (ops := [.ref a, .ref s4.heap.objs.size]) ht.typeIs (PyProof.Rows.slot_tuple_getitem.lookup) ?_ (by with_unfolding_all rfl)
  refine getItem_tuple_rev ht (Heap.IsSliceOf.new _ vl vu vs) pl pu ps ?_ (by rw [List.size_toArray]; omega)
  refine ⟨.ref _, _, I5.laid (t' := s4.toks) (o := .tup xs.reverse) (fun b ob q => Heap.get?_push_of_some _ q) (Nat.le_refl _) ?_, rfl, q _ (I5.hok.fresh (Nat.le_refl _))⟩
  exact ⟨by rw [List.length_reverse]; exact hz, _, r.reverse, IsTup.new _ _⟩
def rEqL (K : PySem.W.Frag) : R2 := fun x y H Q => ∃ (a b : Addr) (xs : List V), x = .ref a ∧ y = .ref b ∧ SqL K H a xs ∧ SqL K H b [] ∧ Q (.bl xs.isEmpty) H
def rNeL (K : PySem.W.Frag) : R2 := fun x y H Q => ∃ (a b : Addr) (xs : List V), x = .ref a ∧ y = .ref b ∧ SqL K H a xs ∧ SqL K H b [] ∧ Q (.bl (!xs.isEmpty)) H
theorem op_eqL (units : X.A.units < cLine) : OpR X (compareOp .Eq) (rEqL X.K) := by
  intro pins s σ H x y v u Q I rx ry h
  obtain ⟨a, b, xs, rfl, rfl, ha, hb, q⟩ := h
  cases rx
  cases ry
  obtain ⟨its, r1, p1, _⟩ := I.list ha
  obtain ⟨its2, r2, p2, _⟩ := I.list hb
  cases r2
  cases r1 with
  | nil =>
    exact SeqAt.eq_listAt (e := fun _ => true) p1.isList p2.isList rfl units (fun j h1 h2 => absurd h2 (Nat.not_lt_zero j)) ⟨.bl true, H, I, rfl, q⟩
  | cons r t =>
    exact SeqAt.eq_list_lengthsAt p1.isList p2.isList (by simp) units ⟨.bl false, H, I, rfl, q⟩
theorem op_neL (units : X.A.units < cLine) : OpR X (compareOp .NotEq) (rNeL X.K) := by
  intro pins s σ H x y v u Q I rx ry h
  obtain ⟨a, b, xs, rfl, rfl, ha, hb, q⟩ := h
  cases rx
  cases ry
  obtain ⟨its, r1, p1, _⟩ := I.list ha
  obtain ⟨its2, r2, p2, _⟩ := I.list hb
  cases r2
  cases r1 with
  | nil =>
    exact SeqAt.RcNeAt.lists (e := fun _ => true) p1.isList p2.isList rfl units (fun j h1 h2 => absurd h2 (Nat.not_lt_zero j)) X.prog X.w X.xe (EP X pins σ Q) ⟨.bl false, H, I, rfl, q⟩
  | cons r t =>
    exact SeqAt.RcNeAt.lists_lengths p1.isList p2.isList (by simp) units X.prog X.w X.xe (EP X pins σ Q) ⟨.bl true, H, I, rfl, q⟩
end

/-! ### x in t, x not in t, for a tuple of data -/
theorem units65 {k : Nat} {A : Around} (r : Room k A) : A.units + 65 < cLine := by
  have := r.un
  omega
section
variable {X : Cx}
def rInT (K : PySem.W.Frag) : R2 := fun x y H Q => ∃ d ds, Dp K H x d ∧ Dp K H y (.tuple ds) ∧ SeqAt.shaped d = true ∧ SeqAt.shaped (.tuple ds) = true ∧ Q (.bl (ds.any fun z => PyData.eqv z d)) H
def rNotInT (K : PySem.W.Frag) : R2 := fun x y H Q => ∃ d ds, Dp K H x d ∧ Dp K H y (.tuple ds) ∧ SeqAt.shaped d = true ∧ SeqAt.shaped (.tuple ds) = true ∧ Q (.bl (!ds.any fun z => PyData.eqv z d)) H
theorem op_inT (units : X.A.units + 65 < cLine) : OpR X (compareOp .In) (rInT X.K) := by
  intro pins s σ H x y v u Q I rx ry ⟨d, ds, dx, dy, sx, sy, q⟩
  obtain ⟨_, r1⟩ := Dp.reads I d x v dx rx
  obtain ⟨_, r2⟩ := Dp.reads I (.tuple ds) y u dy ry
  have l2 : PyData.canLayAll0 ds = true := SeqAt.canLay_of_shaped sy
  exact SeqAt.in_tuple_reads r2 r1 l2 (SeqAt.canLay_of_shaped sx) (room_in_shaped sx units) (Exists.intro (V.bl _) ⟨H, I, rfl, q⟩)
theorem op_notInT (units : X.A.units + 65 < cLine) : OpR X (compareOp .NotIn) (rNotInT X.K) := by
  intro pins s σ H x y v u Q I rx ry ⟨d, ds, dx, dy, sx, sy, q⟩
  obtain ⟨_, r1⟩ := Dp.reads I d x v dx rx
  obtain ⟨_, r2⟩ := Dp.reads I (.tuple ds) y u dy ry
  have l2 : PyData.canLayAll0 ds = true := SeqAt.canLay_of_shaped sy
  exact SeqAt.notIn_tuple_reads r2 r1 l2 (SeqAt.canLay_of_shaped sx) (room_in_shaped sx units) (Exists.intro (V.bl _) ⟨H, I, rfl, q⟩)
end
theorem for_zipU {K : PySem.W.Frag} {a b : Addr} {xs ys : List V} {g : TG} {tb : TS} {D : Ends} {σ : L2.St} {H : Hp} (Pv : Nat → L2.St → Hp → Prop) (h0 : Pv 0 σ H) (hq : ∀ i σ H, Pv i σ H → SqT K H a xs ∧ SqT K H b ys)
    (hs : ∀ (i : Nat) (x y : V) (T : Addr) (σ : L2.St) (H : Hp), xs[i]? = some x → ys[i]? = some y → Pv i σ H → H T = none → g (.ref T) σ (upd H T (.tup [x, y])) fun σ2 H2 => tb { D with nx := Pv (i + 1), ct := Pv (i + 1), bk := D.nx } σ2 H2) (hd : ∀ i σ H, i ≤ xs.length → Pv i σ H → D.nx σ H) :
    ∃ W : Nat → Nat → L2.St → Hp → Prop, (∃ m, W 0 m σ H) ∧ ∀ i m σ H, W i m σ H →
      ((RZ.ItzT K a b).stop i H ∧ D.nx σ H) ∨ ((RZ.ItzT K a b).go i H ∧ ∃ N : L2.St → Hp → Prop, (∀ σ' H', N σ' H' → ∃ m', m' < m ∧ W (i + 1) m' σ' H') ∧ ∀ v H', (RZ.ItzT K a b).yld i H v H' → g v σ H' fun σ2 H2 => tb { D with nx := N, ct := N, bk := D.nx } σ2 H2) := by
  refine ⟨fun i m σ H => m = xs.length - i ∧ i ≤ xs.length ∧ Pv i σ H, ⟨_, rfl, Nat.zero_le _, h0⟩, ?_⟩
  rintro i m σ H ⟨rfl, hi, p⟩
  obtain ⟨q1, q2⟩ := hq i σ H p
  by_cases c : i < xs.length ∧ i < ys.length
  · refine .inr ⟨⟨xs, ys, xs[i]'c.1, ys[i]'c.2, q1, q2, List.getElem?_eq_getElem c.1, List.getElem?_eq_getElem c.2⟩, Pv (i + 1), fun σ' H' p' => ⟨xs.length - (i + 1), by omega, rfl, by omega, p'⟩, fun v H' hy => ?_⟩
    obtain ⟨T, x, y, rfl, nT, rfl, f1, f2⟩ := hy
    exact hs i x y T σ H (f1 xs q1) (f2 ys q2) p nT
  · exact .inl ⟨⟨xs, ys, q1, q2, by omega⟩, hd i σ H hi p⟩

/-- a statement that is never come to -/
theorem ps_never {X : Cx} {st : Stmt} : PS X st (fun _ _ _ => False) := ⟨fun _ _ _ _ _ _ h => h.elim⟩

/-! ### a walk over a tuple, whatever its body is (comprehensions with two for) -/
theorem walkT {K : PySem.W.Frag} {a : Addr} {xs : List V} {B : V → Hp → (Hp → Prop) → Prop} {H0 : Hp} {Qd : Hp → Prop} (Pv : Nat → Hp → Prop) (h0 : Pv 0 H0) (hl : ∀ i H, i ≤ xs.length → Pv i H → SqT K H a xs)
    (hs : ∀ i x H, xs[i]? = some x → Pv i H → B x H (Pv (i + 1))) (hd : ∀ H, Pv xs.length H → Qd H) :
    ∃ W : Nat → Nat → Hp → Prop, (∃ m, W 0 m H0) ∧ ∀ i m H, W i m H →
      ((Itt K a).stop i H ∧ Qd H) ∨ ((Itt K a).go i H ∧ ∃ Nx : Hp → Prop, (∀ H', Nx H' → ∃ m', m' < m ∧ W (i + 1) m' H') ∧ ∀ x H', (Itt K a).yld i H x H' → B x H' Nx) := by
  refine ⟨fun i m H => m = xs.length - i ∧ i ≤ xs.length ∧ Pv i H, ⟨xs.length, by simp, Nat.zero_le _, h0⟩, ?_⟩
  rintro i m H ⟨rfl, hi, p⟩
  have q := hl i H hi p
  by_cases hlt : i < xs.length
  · refine .inr ⟨⟨xs, xs[i], q, by simp [hlt]⟩, Pv (i + 1), fun H' p' => ⟨xs.length - (i + 1), by omega, rfl, hlt, p'⟩, fun x H' y => ?_⟩
    obtain ⟨e, y⟩ := y
    subst e
    exact hs i x _ (y xs q) p
  · have e : i = xs.length := by omega
    subst e
    exact .inl ⟨⟨xs, q, by omega⟩, hd H p⟩

/-! ### max(xs, key=f), f a built-in that makes an int of an item and changes nothing -/
section
variable {prog : Program} {w : World} {A : Around} {E : Value → Shared → Prop} {s : Shared} {l : Addr} {kid : String} {vs : List Value} {Q : Value → Shared → Prop}
/-- all objects stay -/
abbrev Stay (h h' : Heap) : Prop := ∀ b o, h.get? b = some o → h'.get? b = some o
theorem isL_stay {h h' : Heap} {a : Addr} {xs : Array Value} (k : Stay h h') (x : h.IsList a xs) : h'.IsList a xs := let ⟨o, e, r⟩ := x; ⟨o, k _ _ e, r⟩
theorem isT_stay {h h' : Heap} {a : Addr} {xs : Array Value} (k : Stay h h') (x : IsTup h a xs) : IsTup h' a xs := let ⟨o, e, r⟩ := x; ⟨o, k _ _ e, r⟩
def KeyAt (prog : Program) (w : World) (A : Around) (s : Shared) (f : Value) (vs : List Value) (kf : Nat → Int) : Prop :=
  ∀ (i : Nat) (v : Value), vs[i]? = some v → ∀ (h : Heap) (tk : Nat), Stay s.heap h →
    wpAny (model prog w) A (call f [v]) (fun x s' => ∃ h' tk' t, s' = { s with heap := h', toks := tk' } ∧ x = .int (kf i) t ∧ Stay h h') (fun _ _ => False) { s with heap := h, toks := tk }
/-- the first of the greatest keys -/
def Topmost (kf : Nat → Int) (n i : Nat) : Prop := ∀ j, j < n → kf j ≤ kf i ∧ (j < i → kf j < kf i)
theorem maxKey_loop {I S : Addr} {R : Result → Shared → Prop} (kf : Nat → Int) (hh : A.handled = none) (isL : s.heap.IsList l vs.toArray) (lI : l ≠ I) (SI : S ≠ I) (nI : s.heap.get? I = none) (nS : s.heap.get? S = none) (key : KeyAt prog w A.in1 s (.builtin kid) vs kf)
    (fin : ∀ i v h' tk', vs[i]? = some v → Topmost kf vs.length i → Stay s.heap h' → R (.ok (.ret v)) { s with heap := h', toks := tk' }) :
    ∀ (r j i : Nat) (h : Heap) (tk : Nat) (vb : Value) (tb : Tok) (c : Nat), vs.length - (j + 1) = r → j + 1 ≤ vs.length → Stay s.heap h →
      h.get? S = some (seqObj "list" #[vb, .int (kf i) tb] c) → h.IsListIter I l (j + 1) → vs[i]? = some vb → i ≤ j → Topmost kf (j + 1) i →
      codeAny (model prog w) A (.builtin "max.loop" ⟨[.ref I, .builtin kid, .ref S], []⟩) R { s with heap := h, toks := tk } := by
  have nm : (toString "max" ++ toString ".loop" : String) = "max.loop" := by decide
  have wk := Walks.list (prog := prog) (w := w) (A := A.in1) hh I l lI vs.toArray
  have sz : vs.toArray.size = vs.length := List.size_toArray ..
  have off : ∀ {h h' : Heap} {x : Addr}, s.heap.get? x = none → Stay s.heap h → (∀ b o, b ≠ x → h.get? b = some o → h'.get? b = some o) → Stay s.heap h' := fun nx st k b o e => k b o (fun z => by rw [z, nx] at e; cases e) (st b o e)
  intro r
  induction r with
  | zero =>
    intro j i h tk vb tb c er jl st gS it ev ij top
    have last : j + 1 = vs.length := by omega
    refine codeAny_builtin (b := _) PySem.F.entry_max_loop ?_
    rw [Around.under_plainId (PySem.F.plain_max_loop) _]
    show wpAny _ A.in1 (seqItems? (Value.ref S) >>= _) _ _ _
    refine wpAny_bind (wpAny_seqItems (gS) rfl ?_)
    show wpAny _ A.in1 (tryCatch (pyNext (Value.ref I)) _ >>= _) _ _ _
    refine wpAny_bind (wpAny_tryCatch (wk.done _ _ _ ⟨by rw [sz, ← last]; exact it, isL_stay st isL⟩ fun h1 tk1 k1 => ?_))
    have st1 := off nI st (fun b o nb e => k1 b o (fun z => nb (List.mem_singleton.mp z)) e)
    have gS1 := k1 S _ (fun z => SI (List.mem_singleton.mp z)) gS
    have u1 := Heap.SameBut.update h1 S (Obj.mapSeq (fun _ => (#[] : Array Value)))
    show wpAny _ A.in1 (updateSeq S (fun _ => #[]) >>= fun _ => _) _ _ _
    refine wpAny_bind (wpAny_updateSeq gS1 rfl (wpAny_bind (wpAny_letGo (wpAny_pure ?_))))
    exact fin i vb _ _ ev (by rw [← last]; exact top) (off nS st1 fun b o nb e => (u1.2 b nb).trans e)
  | succ r ih =>
    intro j i h tk vb tb c er jl st gS it ev ij top
    have more : j + 1 < vs.length := by omega
    refine codeAny_builtin (b := _) PySem.F.entry_max_loop ?_
    rw [Around.under_plainId (PySem.F.plain_max_loop) _]
    show wpAny _ A.in1 (seqItems? (Value.ref S) >>= _) _ _ _
    refine wpAny_bind (wpAny_seqItems (gS) rfl ?_)
    show wpAny _ A.in1 (tryCatch (pyNext (Value.ref I)) _ >>= _) _ _ _
    refine wpAny_bind (wpAny_tryCatch (wk.item (j + 1) _ _ _ (by rw [sz]; exact more) ⟨it, isL_stay st isL⟩ fun v h1 tk1 pv it1 k1 => ?_))
    have ev1 : vs[j + 1]? = some v := by simpa using pv
    obtain ⟨oI, gI, cI, dI⟩ := it1.1
    have st1 := off nI st (fun b o nb e => k1 b o (fun z => nb (List.mem_singleton.mp z)) e)
    have gS1 := k1 S _ (fun z => SI (List.mem_singleton.mp z)) gS
    show wpAny _ A.in1 (tryCatch (holding [v] (call (Value.builtin kid) [v])) _ >>= _) _ _ _
    refine wpAny_bind (wpAny_tryCatch (wpAny_holding (wpAny_mono (key (j + 1) v ev1 h1 tk1 st1) (fun x s2 hx => ?_) (fun _ _ no => no.elim))))
    obtain ⟨h2, tk2, t2, rfl, rfl, k2⟩ := hx
    have st2 : Stay s.heap h2 := fun b o e => k2 b o (st1 b o e)
    have gS2 := k2 _ _ gS1
    have gI2 := k2 _ _ gI
    show wpAny _ A.in1 (tryCatch (holding [v, Value.int (kf (j + 1)) t2] (richCompare .Gt (.int (kf (j + 1)) t2) (.int (kf i) tb) >>= _)) _ >>= _) _ _ _
    refine wpAny_bind (wpAny_tryCatch (wpAny_holding (wpAny_bind (CmpOf.ints_gt (prog := prog) (w := w) (A := A.in1) (P := fun n u => ∃ t, u = .int (kf n) t) kf (fun n u z => z) (j + 1) i _ _ _ _ _ ⟨t2, rfl⟩ ⟨tb, rfl⟩ ?_))))
    refine wpAny_bind (wpAny_holding (wpAny_truthy_bool (wpAny_bind (wpAny_letGo (wpAny_pure ?_)))))
    by_cases up : kf (j + 1) > kf i
    · have u1 := Heap.SameBut.update h2 S (Obj.mapSeq (fun _ => #[v, .int (kf (j + 1)) t2]))
      obtain ⟨c2, gS3⟩ : ∃ c2, (h2.update S (Obj.mapSeq fun _ => #[v, .int (kf (j + 1)) t2])).get? S = some (seqObj "list" #[v, .int (kf (j + 1)) t2] c2) := ⟨_, get?_update_seq gS2 fun _ => _⟩
      simp only [up, decide_true, if_true]
      refine wpAny_bind (wpAny_updateSeq gS2 rfl (wpAny_bind (wpAny_letGo ?_)))
      rw [nm]
      refine wpAny_pure ⟨plainId_quiet (PySem.F.plain_max_loop) _, ih (j + 1) (j + 1) _ _ v t2 c2 (by omega) more (off nS st2 fun b o nb e => (u1.2 b nb).trans e) gS3 ⟨oI, (u1.2 I SI.symm).trans gI2, cI, dI⟩ ev1 (Nat.le_refl _) fun n hn => ?_⟩
      by_cases e : n = j + 1
      · subst e
        exact ⟨Int.le_refl _, fun z => absurd z (Nat.lt_irrefl _)⟩
      · have := (top n (by omega)).1
        exact ⟨by omega, fun _ => by omega⟩
    · simp only [up, decide_false, Bool.false_eq_true, if_false]
      refine wpAny_bind (wpAny_letGo ?_)
      rw [nm]
      refine wpAny_pure ⟨plainId_quiet (PySem.F.plain_max_loop) _, ih (j + 1) i _ _ vb tb c (by omega) more st2 gS2 ⟨oI, gI2, cI, dI⟩ ev (by omega) fun n hn => ?_⟩
      by_cases e : n = j + 1
      · subst e
        exact ⟨by omega, fun z => absurd z (by omega)⟩
      · exact top n (by omega)
theorem maxKey (kf : Nat → Int) (hh : A.handled = none) (isL : s.heap.IsList l vs.toArray) (some1 : 0 < vs.length) (key : KeyAt prog w A.in1 s (.builtin kid) vs kf)
    (fin : ∀ i v h' tk', vs[i]? = some v → Topmost kf vs.length i → Stay s.heap h' → Q v { s with heap := h', toks := tk' }) :
    wpAny (model prog w) A (call (.builtin "max") [.ref l] [(Str.ofString "key", .builtin kid)]) Q E s := by
  have nm : (toString "max" ++ toString ".loop" : String) = "max.loop" := by decide
  have isL0 := isL
  obtain ⟨ol, gl, _⟩ := isL0
  have ll : l < s.heap.objs.size := Heap.lt_size gl
  refine kmb_tree PySem.F.kind_max PySem.F.plain_max PySem.F.entry_max (kmb_max_key _ _) ?_
  show wpAny _ A.in1 (Builtin.Builtins.bindParams "max" ["key", "default"] 0 ⟨[], [(Str.ofString "key", Value.builtin kid)]⟩ >>= _) _ _ s
  refine wpAny_bind (wpAny_of_eq (show Builtin.Builtins.bindParams "max" ["key", "default"] 0 ⟨[], [(Str.ofString "key", Value.builtin kid)]⟩ = pure [some (.builtin kid), none] from rfl) ?_)
  refine wpAny_bind (wpAny_pure (wpAny_bind (wpAny_pyIter_list isL (wpAny_bind (wpAny_newList ?_ (Nat.zero_le _))))))
  rw [nm]
  have it0 := Heap.get?_push_size s.heap (o := { cls := .type "list_iterator", data := .fields #[.ref l, .int 0 0] }) rfl
  have z1 : (s.heap.push { cls := .type "list_iterator", data := .fields #[.ref l, .int 0 0] }).objs.size = s.heap.objs.size + 1 := Heap.size_push ..
  have k1 : Stay s.heap (s.heap.push { cls := .type "list_iterator", data := .fields #[.ref l, .int 0 0] }) := fun b o e => Heap.get?_push_of_some _ e
  generalize s.heap.push { cls := .type "list_iterator", data := .fields #[.ref l, .int 0 0] } = g1 at *
  have gS := Heap.get?_push_size g1 (o := seqObj "list" #[] 0) rfl
  have k2 : Stay g1 (g1.push (seqObj "list" #[] 0)) := fun b o e => Heap.get?_push_of_some _ e
  have gI := k2 _ _ it0
  generalize g1.push (seqObj "list" #[] 0) = g2 at *
  rw [z1] at gS ⊢
  have st2 : Stay s.heap g2 := fun b o e => k2 b o (k1 b o e)
  have nI : s.heap.get? s.heap.objs.size = none := Heap.get?_none_of_le (Nat.le_refl _)
  have nS : s.heap.get? (s.heap.objs.size + 1) = none := Heap.get?_none_of_le (Nat.le_succ _)
  have SI : s.heap.objs.size + 1 ≠ s.heap.objs.size := Nat.succ_ne_self _
  have lI : l ≠ s.heap.objs.size := Nat.ne_of_lt ll
  have wk := Walks.list (prog := prog) (w := w) (A := A.in1) hh s.heap.objs.size l lI vs.toArray
  have sz : vs.toArray.size = vs.length := List.size_toArray ..
  have off : ∀ {h h' : Heap} {x : Addr}, s.heap.get? x = none → Stay s.heap h → (∀ b o, b ≠ x → h.get? b = some o → h'.get? b = some o) → Stay s.heap h' := fun nx st k b o e => k b o (fun z => by rw [z, nx] at e; cases e) (st b o e)
  refine wpAny_pure ⟨plainId_quiet (PySem.F.plain_max_loop) _, codeAny_builtin (b := _) PySem.F.entry_max_loop ?_⟩
  rw [Around.under_plainId (PySem.F.plain_max_loop) _]
  show wpAny _ A.in1 (seqItems? (Value.ref _) >>= _) _ _ _
  refine wpAny_bind (wpAny_seqItems (gS) rfl ?_)
  show wpAny _ A.in1 (tryCatch (pyNext (Value.ref s.heap.objs.size)) _ >>= _) _ _ _
  refine wpAny_bind (wpAny_tryCatch (wk.item 0 _ _ _ (by rw [sz]; exact some1) ⟨⟨_, gI, rfl, rfl⟩, isL_stay st2 isL⟩ fun v h1 tk1 pv it1 kk => ?_))
  have ev1 : vs[0]? = some v := by simpa using pv
  obtain ⟨oI, gI1, cI, dI⟩ := it1.1
  have st1 := off nI st2 (fun b o nb e => kk b o (fun z => nb (List.mem_singleton.mp z)) e)
  have gS1 := kk _ _ (fun z => SI (List.mem_singleton.mp z)) gS
  show wpAny _ A.in1 (tryCatch (holding [v] (call (Value.builtin kid) [v])) _ >>= _) _ _ _
  refine wpAny_bind (wpAny_tryCatch (wpAny_holding (wpAny_mono (key 0 v ev1 h1 tk1 st1) (fun x s2 hx => ?_) (fun _ _ no => no.elim))))
  obtain ⟨h2, tk2, t2, rfl, rfl, k3⟩ := hx
  have gS2 := k3 _ _ gS1
  have u1 := Heap.SameBut.update h2 (s.heap.objs.size + 1) (Obj.mapSeq (fun _ => #[v, .int (kf 0) t2]))
  obtain ⟨c2, gS3⟩ : ∃ c2, (h2.update (s.heap.objs.size + 1) (Obj.mapSeq fun _ => #[v, .int (kf 0) t2])).get? (s.heap.objs.size + 1) = some (seqObj "list" #[v, .int (kf 0) t2] c2) := ⟨_, get?_update_seq gS2 fun _ => _⟩
  show wpAny _ A.in1 (updateSeq (s.heap.objs.size + 1) (fun _ => #[v, .int (kf 0) t2]) >>= _) _ _ _
  refine wpAny_bind (wpAny_updateSeq gS2 rfl ?_)
  rw [nm]
  refine wpAny_pure ⟨plainId_quiet (PySem.F.plain_max_loop) _, maxKey_loop kf hh isL lI SI nI nS key fin _ 0 0 _ _ v t2 c2 rfl some1 (off nS (fun b o e => k3 b o (st1 b o e)) fun b o nb e => (u1.2 b nb).trans e) gS3 ⟨oI, (u1.2 _ SI.symm).trans (k3 _ _ gI1), cI, dI⟩ ev1 (Nat.le_refl _) fun n hn => ?_⟩
  have e : n = 0 := by omega
  subst e
  exact ⟨Int.le_refl _, fun z => absurd z (Nat.lt_irrefl _)⟩
end
/-- max([x, y], key=len), x and y tuples -/
def rMaxLen (K : PySem.W.Frag) : List V → Hp → VK → Prop := fun vs H Q => ∃ (a b c : Addr) (xs ys : List V), vs = [.ref a] ∧ SqL K H a [.ref b, .ref c] ∧ SqT K H b xs ∧ SqT K H c ys ∧ Q (.ref (if xs.length < ys.length then c else b)) H
theorem pe_maxLen {X : Cx} {e : Expr} {p q kp pos : Pos} {t : TA} (hc : X.calm = true) (hg : Gl X "max") (hm : X.mg "max" = none) (hg2 : Gl X "len") (hm2 : X.mg "len" = none) (ha : PA X [e] t)
    (he : backTo pos (starEach [e] X.env) = (false, eval e X.env) :: backTo pos (starEach [] X.env) := by rfl) (hpl : (backTo pos (starEach [e] X.env)).any (·.1) = false := by rfl) :
    PE X (.Call (.Name "max" p) [e] [⟨some "key", .Name "len" q, kp⟩] pos) (tCB (rMaxLen X.K) t) := by
  refine ⟨fun pins s σ H Q I h => ?_⟩
  refine wpAny_Call_Name_kw (ld_blt (u := .builtin "max") I hg hm (by decide +kernel) ?_)
  refine PyProof.Rows.callWith_kw (thn (ha.run pos pins s σ H _ I h) fun us s1 ⟨vs, H1, I1, r1, q1⟩ => ?_) he hpl (by rfl) (by rfl)
  show wpAny _ _ (evalAll [(do let v ← eval (.Name "len" q) X.env; standAt pos; pure v)]) _ _ s1
  refine wpAny_evalAll_cons (wpAny_bind (ld_blt (u := .builtin "len") I1 hg2 hm2 (by decide +kernel) (wpAny_bind (wpAny_standAt (wpAny_pure (wpAny_evalAll_nil ?_))))))
  obtain ⟨a, b, c, xs, ys, rfl, hl, hb, hc2, qq⟩ := q1
  rw [Vals.ref1 r1]
  obtain ⟨its, rv, isL, _⟩ := I1.list hl
  obtain ⟨u, u', rfl, ru, ru'⟩ := vals2 rv
  obtain rfl : u = Value.ref b := ru
  obtain rfl : u' = Value.ref c := ru'
  obtain ⟨i1, v1, t1, z1⟩ := I1.tuple hb
  obtain ⟨i2, v2, t2, z2⟩ := I1.tuple hc2
  have l1 := v1.length
  have l2 := v2.length
  have fit : ∀ {n : Nat}, n ≤ sizeLine → ((n : Nat) : Int) < 2 ^ 63 := fun {n} z => by
    rw [show sizeLine = 16777216 by decide] at z
    omega
  refine maxKey (vs := [Value.ref b, Value.ref c]) (fun i => if i = 0 then (i1.length : Int) else i2.length) (I1.ok.hd hc) isL.isList (Nat.zero_lt_succ _) (fun i v hv h' tk st => ?_) (fun i v h' tk' hv top st => ?_)
  · match i, hv with
    | 0, hv =>
      cases hv
      refine PyProof.Rows.len_tuple (isT_stay st t1) (fit (by rw [List.size_toArray, ← l1]; exact z1)) ⟨_, _, _, rfl, by rw [List.size_toArray]; rfl, fun _ _ e => e⟩
    | 1, hv =>
      cases hv
      refine PyProof.Rows.len_tuple (isT_stay st t2) (fit (by rw [List.size_toArray, ← l2]; exact z2)) ⟨_, _, _, rfl, by rw [List.size_toArray]; rfl, fun _ _ e => e⟩
  · match i, hv with
    | 0, hv =>
      cases hv
      have := (top 1 (Nat.lt_succ_self 1)).1
      replace this : (i2.length : Int) ≤ i1.length := this
      rw [if_neg (by omega)] at qq
      exact ⟨V.ref _, H1, I1.kept st, rfl, qq⟩
    | 1, hv =>
      cases hv
      have := (top 0 (Nat.zero_lt_succ _)).2 (by decide)
      replace this : (i1.length : Int) < i2.length := this
      rw [if_pos (by omega)] at qq
      exact ⟨V.ref _, H1, I1.kept st, rfl, qq⟩

/-! ### a min-max theorem: demands are rectangles, intervals are points -/
abbrev Dem := Int × Int × Int
def sv (z : Int × Int) (d : Dem) : Bool := decide (d.2.1 ≤ z.1 ∧ z.1 ≤ d.1 ∧ d.1 ≤ z.2 ∧ z.2 ≤ d.2.2)
def cf (d e : Dem) : Bool := decide ((e.2.1 ≤ d.1 ∧ d.1 ≤ e.2.2) ∧ d.2.1 ≤ e.1 ∧ e.1 ≤ d.2.2)
def Vd (d : Dem) : Prop := d.2.1 ≤ d.1 ∧ d.1 ≤ d.2.2
theorem sv_iff' {z : Int × Int} {d : Dem} : sv z d = true ↔ d.2.1 ≤ z.1 ∧ z.1 ≤ d.1 ∧ d.1 ≤ z.2 ∧ z.2 ≤ d.2.2 := decide_eq_true_iff
theorem cf_iff {d e : Dem} : cf d e = true ↔ (e.2.1 ≤ d.1 ∧ d.1 ≤ e.2.2) ∧ d.2.1 ≤ e.1 ∧ e.1 ≤ d.2.2 := decide_eq_true_iff
theorem cf_comm (d e : Dem) : cf d e = cf e d := by
  rw [Bool.eq_iff_iff, cf_iff, cf_iff]
  exact ⟨fun h => ⟨h.2, h.1⟩, fun h => ⟨h.2, h.1⟩⟩
theorem cf_of_sv {z : Int × Int} {d e : Dem} (h1 : sv z d = true) (h2 : sv z e = true) : cf d e = true := by
  rw [sv_iff'] at h1 h2
  rw [cf_iff]
  omega
theorem cf_self {d : Dem} (h : Vd d) : cf d d = true := by
  rw [cf_iff]
  exact ⟨h, h⟩
/-- how many of the demands the point serves -/
def cov (L : List Dem) (z : Int × Int) : Nat := L.countP (sv z)
theorem cov_nil (z : Int × Int) : cov [] z = 0 := rfl
theorem cov_cons (d : Dem) (L : List Dem) (z : Int × Int) : cov (d :: L) z = cov L z + (if sv z d = true then 1 else 0) := List.countP_cons
theorem cov_app (L M : List Dem) (z : Int × Int) : cov (L ++ M) z = cov L z + cov M z := List.countP_append
theorem cov_perm {L M : List Dem} (h : L.Perm M) (z : Int × Int) : cov L z = cov M z := h.countP_eq _
/-- no two of them conflict -/
def Ind (L : List Dem) : Prop := L.Pairwise fun d e => cf d e = false
theorem Ind.cov_le {L : List Dem} (h : Ind L) (z : Int × Int) : cov L z ≤ 1 := by
  induction L with
  | nil => exact Nat.zero_le _
  | cons d L ih =>
    have p := List.pairwise_cons.mp h
    rw [cov_cons]
    split
    · next s =>
      have e : cov L z = 0 := List.countP_eq_zero.mpr fun e he c => by
        have := p.1 e he
        rw [cf_of_sv s c] at this
        cases this
      omega
    · have := ih p.2
      omega
structure Fam (F : List Dem) : Prop where
  ok : ∀ d ∈ F, 0 ≤ d.2.1 ∧ Vd d
  ex : ∀ d ∈ F, ∀ e ∈ F, d.1 < e.1 → d.2.1 < e.2.1 → d.2.2 < e.2.2 → cf d e = true → (d.1, e.2) ∈ F ∧ (e.1, d.2) ∈ F
  cross : ∀ d ∈ F, ∀ e ∈ F, cf d e = true → d.2 = e.2 ∨ (d.2.1 < e.2.1 ∧ d.2.2 < e.2.2) ∨ (e.2.1 < d.2.1 ∧ e.2.2 < d.2.2)
theorem sv_exch {z : Int × Int} {d e : Dem} (h1 : d.1 < e.1) (h2 : d.2.1 < e.2.1) (h3 : d.2.2 < e.2.2) (c : cf d e = true) :
    (if sv z (d.1, e.2) = true then 1 else 0) + (if sv z (e.1, d.2) = true then 1 else 0) ≤ (if sv z d = true then 1 else 0) + (if sv z e = true then 1 else 0) := by
  have c := cf_iff.mp c
  simp only [sv_iff']
  split <;> split <;> split <;> split <;> omega
def pot (L : List Dem) : Int := (L.map fun d => d.1 * (d.2.1 + d.2.2)).sum
theorem pot_cons (d : Dem) (L : List Dem) : pot (d :: L) = d.1 * (d.2.1 + d.2.2) + pot L := by
  unfold pot
  rw [List.map_cons, List.sum_cons]
theorem pot_nonneg {L : List Dem} (h : ∀ d ∈ L, 0 ≤ d.2.1 ∧ Vd d) : 0 ≤ pot L := by
  induction L with
  | nil => exact Int.le_refl _
  | cons d L ih =>
    rw [pot_cons]
    have := ih fun e he => h e (List.mem_cons_of_mem _ he)
    have q := h d List.mem_cons_self
    unfold Vd at q
    have : 0 ≤ d.1 * (d.2.1 + d.2.2) := Int.mul_nonneg (by omega) (by omega)
    omega
theorem pot_perm {L M : List Dem} (h : L.Perm M) : pot L = pot M := by
  induction h with
  | nil => rfl
  | cons x _ ih => rw [pot_cons, pot_cons, ih]
  | swap x y l =>
    rw [pot_cons, pot_cons, pot_cons, pot_cons]
    omega
  | trans _ _ i1 i2 => rw [i1, i2]
def Corner (d e : Dem) : Prop := cf d e = true ∧ d.1 < e.1 ∧ d.2.1 < e.2.1 ∧ d.2.2 < e.2.2
theorem pull2 {L : List Dem} {d e : Dem} (hd : d ∈ L) (he : e ∈ L) (ne : d ≠ e) : ∃ R, L.Perm (d :: e :: R) := by
  have p1 := List.perm_cons_erase hd
  have he' : e ∈ L.erase d := (List.mem_erase_of_ne (Ne.symm ne)).mpr he
  exact ⟨(L.erase d).erase e, p1.trans ((List.perm_cons_erase he').cons d)⟩
theorem uncross {F : List Dem} (fam : Fam F) : ∀ (n : Nat) (L : List Dem), (∀ d ∈ L, d ∈ F) → (pot L).toNat < n → ∃ M : List Dem, (∀ d ∈ M, d ∈ F) ∧ M.length = L.length ∧ (∀ z, cov M z ≤ cov L z) ∧ ∀ d ∈ M, ∀ e ∈ M, ¬ Corner d e := by
  intro n
  induction n with
  | zero => exact fun _ _ h => absurd h (Nat.not_lt_zero _)
  | succ n ih =>
    intro L hL hn
    by_cases c : ∀ d ∈ L, ∀ e ∈ L, ¬ Corner d e
    · exact ⟨L, hL, rfl, fun _ => Nat.le_refl _, c⟩
    · have ⟨d, hd, e, he, k⟩ : ∃ d ∈ L, ∃ e ∈ L, Corner d e := by
        refine Classical.byContradiction fun z => c fun d hd e he k => z ⟨d, hd, e, he, k⟩
      obtain ⟨k1, k2, k3, k4⟩ := k
      have ne : d ≠ e := fun z => by
        subst z
        exact absurd k2 (Int.lt_irrefl _)
      obtain ⟨R, pm⟩ := pull2 hd he ne
      have x := fam.ex d (hL d hd) e (hL e he) k2 k3 k4 k1
      have hR : ∀ f ∈ R, f ∈ F := fun f hf => hL f (pm.mem_iff.mpr (List.mem_cons_of_mem _ (List.mem_cons_of_mem _ hf)))
      have hN : ∀ f ∈ (d.1, e.2) :: (e.1, d.2) :: R, f ∈ F := fun f hf => by
        rcases List.mem_cons.mp hf with rfl | hf
        · exact x.1
        rcases List.mem_cons.mp hf with rfl | hf
        · exact x.2
        · exact hR f hf
      have less : pot ((d.1, e.2) :: (e.1, d.2) :: R) < pot L := by
        rw [pot_perm pm, pot_cons, pot_cons, pot_cons, pot_cons]
        show d.1 * (e.2.1 + e.2.2) + (e.1 * (d.2.1 + d.2.2) + pot R) < d.1 * (d.2.1 + d.2.2) + (e.1 * (e.2.1 + e.2.2) + pot R)
        have : 0 < (e.1 - d.1) * ((e.2.1 + e.2.2) - (d.2.1 + d.2.2)) := Int.mul_pos (by omega) (by omega)
        rw [Int.sub_mul, Int.mul_sub, Int.mul_sub] at this
        omega
      have nn := pot_nonneg fun f hf => fam.ok f (hN f hf)
      obtain ⟨M, m1, m2, m3, m4⟩ := ih _ hN (by omega)
      refine ⟨M, m1, by rw [m2, pm.length_eq]; rfl, fun z => Nat.le_trans (m3 z) ?_, m4⟩
      rw [cov_perm pm, cov_cons, cov_cons, cov_cons, cov_cons]
      have := sv_exch (z := z) k2 k3 k4 k1
      omega
/-- e lies across d -/
def Und (e d : Dem) : Prop := d.2.1 ≤ e.2.1 ∧ e.1 ≤ d.1 ∧ d.2.2 ≤ e.2.2
theorem und_of {F : List Dem} (fam : Fam F) {d e : Dem} (hd : d ∈ F) (he : e ∈ F) (c : cf d e = true) (n1 : ¬ Corner d e) (n2 : ¬ Corner e d) : Und d e ∨ Und e d := by
  unfold Und
  rcases fam.cross d hd e he c with h | h | h
  · rw [h]
    omega
  · have : ¬ d.1 < e.1 := fun z => n1 ⟨c, z, h.1, h.2⟩
    omega
  · have : ¬ e.1 < d.1 := fun z => n2 ⟨by rw [cf_comm]; exact c, z, h.1, h.2⟩
    omega
def leD (d e : Dem) : Bool := decide (d.1 - d.2.1 < e.1 - e.2.1 ∨ (d.1 - d.2.1 = e.1 - e.2.1 ∧ e.2.2 ≤ d.2.2))
theorem leD_total (a b : Dem) : (leD a b || leD b a) = true := by
  unfold leD
  rw [Bool.or_eq_true, decide_eq_true_eq, decide_eq_true_eq]
  omega
theorem leD_trans (a b c : Dem) : leD a b = true → leD b c = true → leD a c = true := by
  unfold leD
  rw [decide_eq_true_eq, decide_eq_true_eq, decide_eq_true_eq]
  omega
theorem und_le {F : List Dem} (fam : Fam F) {f e : Dem} (hf : f ∈ F) (he : e ∈ F) (c : cf f e = true) (n1 : ¬ Corner f e) (n2 : ¬ Corner e f) (le : leD f e = true) : Und f e := by
  have le := of_decide_eq_true le
  rcases und_of fam hf he c n1 n2 with h | h
  · exact h
  · unfold Und at *
    omega
def gre : Nat → List Dem → List Dem
  | 0, _ => []
  | _, [] => []
  | n + 1, d :: R => d :: gre n (R.filter fun e => !cf d e)
def lef : Nat → List Dem → List Dem
  | 0, L => L
  | _, [] => []
  | n + 1, d :: R => (R.filter fun e => cf d e) ++ lef n (R.filter fun e => !cf d e)
theorem gre_lef : ∀ (n : Nat) (L : List Dem), L.Perm (gre n L ++ lef n L)
  | 0, L => List.Perm.refl _
  | n + 1, [] => List.Perm.refl _
  | n + 1, d :: R => by
    have ih := gre_lef n (R.filter fun e => !cf d e)
    show (d :: R).Perm (d :: (gre n (R.filter fun e => !cf d e) ++ ((R.filter fun e => cf d e) ++ lef n (R.filter fun e => !cf d e))))
    refine List.Perm.cons d ?_
    have p1 := (List.filter_append_perm (fun e => cf d e) R).symm
    refine p1.trans ?_
    refine ((List.Perm.refl (R.filter fun e => cf d e)).append ih).trans ?_
    rw [← List.append_assoc, ← List.append_assoc]
    exact List.perm_append_comm.append_right _
theorem gre_sub (n : Nat) (L : List Dem) : ∀ d ∈ gre n L, d ∈ L := fun d hd => (gre_lef n L).mem_iff.mpr (List.mem_append_left _ hd)
theorem lef_sub (n : Nat) (L : List Dem) : ∀ d ∈ lef n L, d ∈ L := fun d hd => (gre_lef n L).mem_iff.mpr (List.mem_append_right _ hd)
theorem gre_ind : ∀ (n : Nat) (L : List Dem), Ind (gre n L)
  | 0, _ => List.Pairwise.nil
  | n + 1, [] => List.Pairwise.nil
  | n + 1, d :: R => by
    refine List.pairwise_cons.mpr ⟨fun e he => ?_, gre_ind n _⟩
    have := (List.mem_filter.mp (gre_sub n _ e he)).2
    rw [Bool.not_eq_true'] at this
    exact this
theorem gre_in : ∀ (n : Nat) (A B : List Dem) (e : Dem), A.length < n → e ∈ gre n (A ++ e :: B) ∨ ∃ f ∈ A, cf f e = true
  | 0, _, _, _, h => absurd h (Nat.not_lt_zero _)
  | n + 1, [], B, e, _ => .inl List.mem_cons_self
  | n + 1, d :: A, B, e, h => by
    by_cases c : cf d e = true
    · exact .inr ⟨d, List.mem_cons_self, c⟩
    · have eq : (A ++ e :: B).filter (fun x => !cf d x) = A.filter (fun x => !cf d x) ++ e :: B.filter (fun x => !cf d x) := by
        rw [List.filter_append, List.filter_cons_of_pos (by rw [Bool.not_eq_true] at c; rw [c]; rfl)]
      have l : (A.filter fun x => !cf d x).length < n := Nat.lt_of_le_of_lt (List.length_filter_le _ _) (Nat.lt_of_succ_lt_succ h)
      rcases gre_in n (A.filter fun x => !cf d x) (B.filter fun x => !cf d x) e l with g | ⟨f, hf, k⟩
      · refine .inl (List.mem_cons_of_mem _ ?_)
        show e ∈ gre n ((A ++ e :: B).filter fun x => !cf d x)
        rw [eq]
        exact g
      · exact .inr ⟨f, List.mem_cons_of_mem _ (List.mem_filter.mp hf).1, k⟩
theorem cov_lt {z w : Int × Int} {f : Dem} : ∀ {L : List Dem}, f ∈ L → (∀ c ∈ L, sv z c = true → sv w c = true) → sv z f = false → sv w f = true → cov L z < cov L w
  | [], hf, _, _, _ => nomatch hf
  | d :: L, hf, h, n, y => by
    rw [cov_cons, cov_cons]
    have le : cov L z ≤ cov L w := List.countP_mono_left fun c hc => h c (List.mem_cons_of_mem _ hc)
    have h1 := h d List.mem_cons_self
    rcases List.mem_cons.mp hf with rfl | hf
    · rw [n, y]
      simp
      omega
    · have ih := cov_lt hf (fun c hc => h c (List.mem_cons_of_mem _ hc)) n y
      split
      · next s => rw [if_pos (h1 s)]; omega
      · split <;> omega
theorem first_of {p : Dem → Bool} : ∀ {L : List Dem}, (∃ d ∈ L, p d = true) → ∃ A e B, L = A ++ e :: B ∧ p e = true ∧ ∀ f ∈ A, p f = false
  | [], h => by
    obtain ⟨d, hd, _⟩ := h
    cases hd
  | d :: L, h => by
    by_cases c : p d = true
    · exact ⟨[], d, L, rfl, c, fun f hf => nomatch hf⟩
    · obtain ⟨x, hx, px⟩ := h
      rcases List.mem_cons.mp hx with rfl | hx
      · exact absurd px c
      · obtain ⟨A, e, B, r1, r2, r3⟩ := first_of ⟨x, hx, px⟩
        refine ⟨d :: A, e, B, by rw [r1]; rfl, r2, fun f hf => ?_⟩
        rcases List.mem_cons.mp hf with rfl | hf
        · exact Bool.not_eq_true _ ▸ c
        · exact r3 f hf
theorem lef_cov {F : List Dem} (fam : Fam F) {L : List Dem} (hL : ∀ d ∈ L, d ∈ F) (nc : ∀ d ∈ L, ∀ e ∈ L, ¬ Corner d e) (srt : L.Pairwise fun d e => leD d e = true) {m : Nat} (hm : ∀ z, cov L z ≤ m + 1) (z : Int × Int) : cov (lef L.length L) z ≤ m := by
  have sum := cov_perm (gre_lef L.length L) z
  rw [cov_app] at sum
  have top := hm z
  by_cases g : ∃ d ∈ gre L.length L, sv z d = true
  · have : 0 < cov (gre L.length L) z := List.countP_pos_iff.mpr g
    omega
  · by_cases s : ∃ d ∈ L, sv z d = true
    · obtain ⟨A, e, B, rfl, se, nA⟩ := first_of s
      have la : A.length < (A ++ e :: B).length := by
        rw [List.length_append, List.length_cons]
        omega
      rcases gre_in _ A B e la with q | ⟨f, hf, k⟩
      · exact absurd ⟨e, q, se⟩ g
      · have mf : f ∈ A ++ e :: B := List.mem_append_left _ hf
        have me : e ∈ A ++ e :: B := List.mem_append_right _ List.mem_cons_self
        have pw := List.pairwise_append.mp srt
        have u1 := und_le fam (hL f mf) (hL e me) k (nc f mf e me) (nc e me f mf) (pw.2.2 f hf e List.mem_cons_self)
        have w : cov (A ++ e :: B) z < cov (A ++ e :: B) (f.1, z.2) := by
          have vf := (fam.ok f (hL f mf)).2
          have ve := sv_iff'.mp se
          refine cov_lt mf (fun c hc sc => ?_) (nA f hf) ?_
          · have u2 : Und e c := by
              rcases List.mem_append.mp hc with h | h
              · rw [nA c h] at sc
                cases sc
              · rcases List.mem_cons.mp h with rfl | h
                · exact ⟨Int.le_refl _, Int.le_refl _, Int.le_refl _⟩
                · exact und_le fam (hL e me) (hL c hc) (cf_of_sv se sc) (nc e me c hc) (nc c hc e me) ((List.pairwise_cons.mp pw.2.1).1 c h)
            have sc := sv_iff'.mp sc
            rw [sv_iff']
            unfold Und Vd at *
            show c.2.1 ≤ f.1 ∧ f.1 ≤ c.1 ∧ c.1 ≤ z.2 ∧ z.2 ≤ c.2.2
            omega
          · rw [sv_iff']
            unfold Und Vd at *
            show f.2.1 ≤ f.1 ∧ f.1 ≤ f.1 ∧ f.1 ≤ z.2 ∧ z.2 ≤ f.2.2
            omega
        have := hm (f.1, z.2)
        omega
    · have : cov L z = 0 := List.countP_eq_zero.mpr fun d hd c => s ⟨d, hd, c⟩
      omega
theorem len_le {F : List Dem} (fam : Fam F) {k : Nat} (hk : ∀ I, Ind I → (∀ d ∈ I, d ∈ F) → I.length ≤ k) : ∀ (m : Nat) (L : List Dem), (∀ d ∈ L, d ∈ F) → (∀ d ∈ L, ∀ e ∈ L, ¬ Corner d e) → (∀ z, cov L z ≤ m) → L.length ≤ m * k
  | 0, L, hL, _, hm => by
    cases L with
    | nil => exact Nat.zero_le _
    | cons d L =>
      have v := (fam.ok d (hL d List.mem_cons_self)).2
      have := hm (d.1, d.1)
      rw [cov_cons, if_pos (sv_iff'.mpr (by unfold Vd at v; exact ⟨v.1, Int.le_refl _, Int.le_refl _, v.2⟩))] at this
      omega
  | m + 1, L, hL, nc, hm => by
    have pm := List.mergeSort_perm L leD
    have srt := List.pairwise_mergeSort leD_trans leD_total L
    generalize L.mergeSort leD = S at *
    have hS : ∀ d ∈ S, d ∈ L := fun d hd => pm.mem_iff.mp hd
    have hl := lef_cov fam (fun d hd => hL d (hS d hd)) (fun d hd e he => nc d (hS d hd) e (hS e he)) srt (m := m) (fun z => by rw [cov_perm pm]; exact hm z)
    have sub := lef_sub S.length S
    have ih := len_le fam hk m (lef S.length S) (fun d hd => hL d (hS d (sub d hd))) (fun d hd e he => nc d (hS d (sub d hd)) e (hS e (sub e he))) hl
    have g := hk _ (gre_ind S.length S) fun d hd => hL d (hS d (gre_sub _ _ d hd))
    have e := (gre_lef S.length S).length_eq
    have e2 := pm.length_eq
    rw [List.length_append] at e
    rw [Nat.add_mul]
    omega
theorem sum_lt {α : Type} {f : α → Nat} : ∀ {Z : List α} {w : α}, w ∈ Z → (∀ x ∈ Z, f x ≤ 1) → f w = 0 → (Z.map f).sum + 1 ≤ Z.length
  | [], _, h, _, _ => nomatch h
  | x :: Z, w, h, h1, h0 => by
    have le : ∀ Y : List α, (∀ x ∈ Y, f x ≤ 1) → (Y.map f).sum ≤ Y.length := by
      intro Y
      induction Y with
      | nil => exact fun _ => Nat.le_refl _
      | cons y Y ih =>
        intro hy
        have := ih fun x hx => hy x (List.mem_cons_of_mem _ hx)
        have := hy y List.mem_cons_self
        rw [List.map_cons, List.sum_cons, List.length_cons]
        omega
    have r := le Z fun x hx => h1 x (List.mem_cons_of_mem _ hx)
    have hx := h1 x List.mem_cons_self
    rw [List.map_cons, List.sum_cons, List.length_cons]
    rcases List.mem_cons.mp h with rfl | h
    · omega
    · have := sum_lt h (fun x hx => h1 x (List.mem_cons_of_mem _ hx)) h0
      omega
theorem cov_flat {α : Type} (I : α → List Dem) (z : Int × Int) : ∀ Z : List α, cov (Z.flatMap I) z = (Z.map fun w => cov (I w) z).sum
  | [] => rfl
  | x :: Z => by
    rw [List.flatMap_cons, cov_app, cov_flat I z Z, List.map_cons, List.sum_cons]
theorem len_flat {α β : Type} (I : α → List β) {k : Nat} : ∀ Z : List α, (∀ w ∈ Z, (I w).length = k) → (Z.flatMap I).length = Z.length * k
  | [], _ => by simp
  | x :: Z, h => by
    rw [List.flatMap_cons, List.length_append, len_flat I Z fun w hw => h w (List.mem_cons_of_mem _ hw), h x List.mem_cons_self, List.length_cons, Nat.add_mul]
    omega
theorem top_of (F : List Dem) : ∃ M : Nat, ∀ d ∈ F, d.2.2 ≤ M := by
  induction F with
  | nil => exact ⟨0, fun d hd => nomatch hd⟩
  | cons d F ih =>
    obtain ⟨M, h⟩ := ih
    refine ⟨M + d.2.2.toNat, fun e he => ?_⟩
    rcases List.mem_cons.mp he with rfl | he
    · omega
    · have := h e he
      omega
def box (M : Nat) : List (Int × Int) := (List.range (M + 1)).flatMap fun (x : Nat) => (List.range (M + 1)).map fun (y : Nat) => ((x : Int), (y : Int))
theorem mem_box {M : Nat} {z : Int × Int} (h : 0 ≤ z.1 ∧ z.1 ≤ M) (h2 : 0 ≤ z.2 ∧ z.2 ≤ M) : z ∈ box M := by
  unfold box
  refine List.mem_flatMap.mpr ⟨z.1.toNat, List.mem_range.mpr (by omega), List.mem_map.mpr ⟨z.2.toNat, List.mem_range.mpr (by omega), ?_⟩⟩
  exact Prod.ext (by show ((z.1.toNat : Nat) : Int) = z.1; omega) (by show ((z.2.toNat : Nat) : Int) = z.2; omega)
/-- a point that every largest selection has to pay for -/
theorem hits {F : List Dem} (fam : Fam F) {k : Nat} (hk : ∀ I, Ind I → (∀ d ∈ I, d ∈ F) → I.length ≤ k + 1) : ∃ z, ∀ I, Ind I → (∀ d ∈ I, d ∈ F) → I.length = k + 1 → ∃ d ∈ I, sv z d = true := by
  refine Classical.byContradiction fun no => ?_
  have miss : ∀ z, ∃ I, Ind I ∧ (∀ d ∈ I, d ∈ F) ∧ I.length = k + 1 ∧ ∀ d ∈ I, sv z d = false := fun z => by
    refine Classical.byContradiction fun h => no ⟨z, fun I i1 i2 i3 => Classical.byContradiction fun n => h ⟨I, i1, i2, i3, fun d hd => ?_⟩⟩
    rw [← Bool.not_eq_true]
    exact fun s => n ⟨d, hd, s⟩
  obtain ⟨I, hI⟩ := Classical.axiomOfChoice miss
  obtain ⟨M, hM⟩ := top_of F
  have hsub : ∀ d ∈ (box M).flatMap I, d ∈ F := fun d hd => by
    obtain ⟨w, _, h⟩ := List.mem_flatMap.mp hd
    exact (hI w).2.1 d h
  have hlen := len_flat I (k := k + 1) (box M) fun w _ => (hI w).2.2.1
  have pos : 0 < (box M).length := List.length_pos_of_mem (mem_box (M := M) (z := (0, 0)) ⟨by decide, by show (0 : Int) ≤ M; omega⟩ ⟨by decide, by show (0 : Int) ≤ M; omega⟩)
  have hc : ∀ z, cov ((box M).flatMap I) z ≤ (box M).length - 1 := fun z => by
    by_cases b : (0 ≤ z.1 ∧ z.1 ≤ M) ∧ 0 ≤ z.2 ∧ z.2 ≤ M
    · have s := sum_lt (f := fun w => cov (I w) z) (mem_box b.1 b.2) (fun x _ => (hI x).1.cov_le z) (List.countP_eq_zero.mpr fun d hd c => by
        rw [(hI z).2.2.2 d hd] at c
        cases c)
      rw [cov_flat]
      omega
    · have : cov ((box M).flatMap I) z = 0 := List.countP_eq_zero.mpr fun d hd c => b (by
        have c := sv_iff'.mp c
        have o := fam.ok d (hsub d hd)
        have t := hM d (hsub d hd)
        unfold Vd at o
        omega)
      omega
  obtain ⟨N, n1, n2, n3, n4⟩ := uncross fam _ _ hsub (Nat.lt_succ_self _)
  have := len_le fam hk ((box M).length - 1) N n1 n4 fun z => Nat.le_trans (n3 z) (hc z)
  rw [n2, hlen] at this
  obtain ⟨b, eb⟩ : ∃ b, (box M).length = b + 1 := ⟨(box M).length - 1, by omega⟩
  rw [eb, Nat.add_sub_cancel, Nat.add_mul, Nat.one_mul] at this
  omega
theorem Fam.rest {F : List Dem} (fam : Fam F) (z : Int × Int) : Fam (F.filter fun d => !sv z d) := by
  have hs : ∀ d, d ∈ F.filter (fun d => !sv z d) → d ∈ F ∧ sv z d = false := fun d hd => by
    have := List.mem_filter.mp hd
    exact ⟨this.1, by rw [← Bool.not_eq_true']; exact this.2⟩
  refine ⟨fun d hd => fam.ok d (hs d hd).1, fun d hd e he h1 h2 h3 c => ?_, fun d hd e he c => fam.cross d (hs d hd).1 e (hs e he).1 c⟩
  have x := fam.ex d (hs d hd).1 e (hs e he).1 h1 h2 h3 c
  have y := sv_exch (z := z) h1 h2 h3 c
  rw [(hs d hd).2, (hs e he).2] at y
  simp at y
  exact ⟨List.mem_filter.mpr ⟨x.1, by rw [y.1]; rfl⟩, List.mem_filter.mpr ⟨x.2, by rw [y.2]; rfl⟩⟩
/-- as many points as the largest selection has serve all -/
theorem min_max : ∀ (k : Nat) {F : List Dem}, Fam F → (∀ I, Ind I → (∀ d ∈ I, d ∈ F) → I.length ≤ k) → ∃ S : List (Int × Int), S.length ≤ k ∧ ∀ d ∈ F, ∃ z ∈ S, sv z d = true
  | 0, F, fam, hk => ⟨[], Nat.le_refl _, fun d hd => by
    have := hk [d] (List.pairwise_singleton _ _) fun e he => by
      rw [List.mem_singleton.mp he]
      exact hd
    exact absurd this (by simp)⟩
  | k + 1, F, fam, hk => by
    obtain ⟨z, hz⟩ := hits fam hk
    obtain ⟨S, s1, s2⟩ := min_max k (fam.rest z) fun I i1 i2 => by
      have sub : ∀ d ∈ I, d ∈ F ∧ sv z d = false := fun d hd => by
        have := List.mem_filter.mp (i2 d hd)
        exact ⟨this.1, by rw [← Bool.not_eq_true']; exact this.2⟩
      have le := hk I i1 fun d hd => (sub d hd).1
      by_cases e : I.length = k + 1
      · obtain ⟨d, hd, s⟩ := hz I i1 (fun d hd => (sub d hd).1) e
        rw [(sub d hd).2] at s
        cases s
      · omega
    refine ⟨z :: S, by rw [List.length_cons]; omega, fun d hd => ?_⟩
    by_cases s : sv z d = true
    · exact ⟨z, List.mem_cons_self, s⟩
    · obtain ⟨w, hw, q⟩ := s2 d (List.mem_filter.mpr ⟨hd, by rw [Bool.not_eq_true] at s; rw [s]; rfl⟩)
      exact ⟨w, List.mem_cons_of_mem _ hw, q⟩

/-! ### instances: len(o), str(o) by own defs; t += u; o.m(k = v) -/
section
variable {prog : Program} {w : World} {A : Around} {E : Value → Shared → Prop} {s : Shared}
theorem iconcat_meets {T id : String} {B : Builtin} {a b : Value} {S : PySem.Spec} {Q : Value → Shared → Prop} (ha : s.TypeIs a T) (hb : s.TypeIs b T) (hno : typeLookup (.type T) (dunderI "add") = pure none)
    (hfill : fillsNumberSlot (.type T) "add" = pure false) (hseq : seqSlot? (.type T) "__add__" = pure (some (.builtin id))) (slot : Slot T "__add__" id)
    (entry : entryFor table id = some B) (args : argsOk id ⟨[a, b], []⟩) (g : Meets (B ⟨[a, b], []⟩) S) (h : S A (wants Q E) s) : wpAny (model prog w) A (inplaceOp .Add a b) Q E s :=
  wpAny_inplaceOp_concat ha hb hno hfill hseq (call_meets slot ha entry args g h)
theorem noI_tuple_add : typeLookup (.type "tuple") (dunderI "add") = pure none := by rw [typeLookup_type, builtinLookup_eq_fast]; kernel_rfl
theorem icat_tup0 {t b : Addr} {ws : List Value} {Q : Value → Shared → Prop} (ht : IsTup s.heap t ([] : List Value).toArray) (hb : IsTup s.heap b ws.toArray) (h : Q (.ref b) s) : wpAny (model prog w) A (inplaceOp .Add (.ref t) (.ref b)) Q E s := by
  obtain ⟨⟨cls, dd, data, sl⟩, ho, hc, n, hd⟩ := id ht
  obtain ⟨⟨cls2, dd2, data2, sl2⟩, ho2, hc2, n2, hd2⟩ := id hb
  simp only at hc hd hc2 hd2
  subst hc hd hc2 hd2
  exact iconcat_meets ⟨_, ho, rfl⟩ ⟨_, ho2, rfl⟩ noI_tuple_add noFill_tuple_add seq_tuple_add PySem.F.slot_tuple_add PySem.F.entry_tuple_add (PySem.F.args_tuple_add_2 _ _)
    (tuple_addW0 t b ([] : List Value).toArray ws.toArray n n2 dd dd2 sl sl2 (by simp)) ⟨ho, ho2, h⟩
theorem icat_tup {t b : Addr} {vs ws : List Value} {Q : Value → Shared → Prop} (ht : IsTup s.heap t vs.toArray) (hb : IsTup s.heap b ws.toArray) (hv : vs ≠ [])
    (h1 : ws = [] → Q (.ref t) s) (h2 : ws ≠ [] → Q (.ref s.heap.objs.size) { s with heap := s.heap.push { cls := .type "tuple", data := .seq (vs ++ ws).toArray } })
    (hsz : vs.length + ws.length ≤ sizeLine) : wpAny (model prog w) A (inplaceOp .Add (.ref t) (.ref b)) Q E s := by
  obtain ⟨⟨cls, dd, data, sl⟩, ho, hc, n, hd⟩ := id ht
  obtain ⟨⟨cls2, dd2, data2, sl2⟩, ho2, hc2, n2, hd2⟩ := id hb
  simp only at hc hd hc2 hd2
  subst hc hd hc2 hd2
  have e : vs.toArray ++ ws.toArray = (vs ++ ws).toArray := by simp
  by_cases hw : ws = []
  · exact iconcat_meets ⟨_, ho, rfl⟩ ⟨_, ho2, rfl⟩ noI_tuple_add noFill_tuple_add seq_tuple_add PySem.F.slot_tuple_add PySem.F.entry_tuple_add (PySem.F.args_tuple_add_2 _ _)
      (tuple_addW1 t b vs.toArray ws.toArray n n2 dd dd2 sl sl2 (by simpa using hv) (by simp [hw])) ⟨ho, ho2, h1 hw⟩
  · refine iconcat_meets ⟨_, ho, rfl⟩ ⟨_, ho2, rfl⟩ noI_tuple_add noFill_tuple_add seq_tuple_add PySem.F.slot_tuple_add PySem.F.entry_tuple_add (PySem.F.args_tuple_add_2 _ _)
      (tuple_addW2 t b vs.toArray ws.toArray n n2 dd dd2 sl sl2 (by simpa using hv) (by simpa using hw) (by rw [List.size_toArray, List.size_toArray]; exact hsz)) ⟨ho, ho2, ?_⟩
    rw [e]
    exact h2 hw
end
section
variable {X : Cx}
/-- t += u (tuples) -/
theorem in_catA : InOp X .Add (rCatA X.K) := by
  intro pins s σ H x y v u Q I rx ry h
  obtain ⟨a, b, xs, ys, rfl, rfl, ha, hb, hz, q0, q1, q2⟩ := h
  by_cases hx : xs = []
  · subst hx
    cases rx
    cases ry
    obtain ⟨its, r1, p1, _⟩ := I.tuple ha
    obtain ⟨its2, r2, p2, _⟩ := I.tuple hb
    cases r1
    exact icat_tup0 p1 p2 ⟨.ref b, H, I, rfl, q0 rfl⟩
  · cases rx
    cases ry
    obtain ⟨its, r1, p1, _⟩ := I.tuple ha
    obtain ⟨its2, r2, p2, _⟩ := I.tuple hb
    refine icat_tup p1 p2 (fun z => hx (r1.nil_iff.mp z)) (fun z => ⟨.ref a, H, I, rfl, q1 hx (r2.nil_iff.mp z)⟩) (fun z => ?_) (by rw [← r1.length, ← r2.length]; exact hz)
    refine ⟨.ref s.heap.objs.size, _, I.laid (t' := s.toks) (o := .tup (xs ++ ys)) (fun b ob q => Heap.get?_push_of_some _ q) (Nat.le_refl _) ?_, rfl, q2 hx (fun w => z (r2.nil_iff.mpr w)) _ (I.hok.fresh (Nat.le_refl _))⟩
    exact ⟨by rw [List.length_append]; exact hz, _, r1.append r2, IsTup.new _ _⟩
/-- an own def called from within a builtin -/
theorem run_own {A : Around} {CX : CXT} {k : Nat} {f : Addr} {fd : FuncData} {ps : List Str} {sp : Sp} {E : XK} {pins : List (Addr × Obj)} {σ : L2.St} {H : Hp} {s : Shared} {Q : VK} {us : List Value} {vs : List V}
    (F : FnOk X.prog X.w X.K X.mg X.base CX k f fd ps sp) (hb : Binds X.K fd ps []) (hx : Passes CX X E) (hA : Room k A) (fr : A.frames = X.A.frames) (I : Inv X pins σ H s) (r : Vals vs us) (h : sp vs H Q E) :
    wpAny (model X.prog X.w) A (call (.ref f) us) (EP X pins σ Q) X.xe s := by
  have e0 : Env0 X.prog X.w X.K X.mg X.base A X.stack s H := by
    have e := I.env0
    exact ⟨by rw [fr]; exact e.frames, e.mod, e.bs, e.bsz, e.funs, e.frf, e.hok, e.bare⟩
  have hl := F.len _ _ _ _ h
  refine wpAny_call (codeAny_mono (F.run A X.stack s H ⟨us, []⟩ us vs Q E hA e0 (by
    have := hb s us I.kIn (by simpa using r.length.symm.trans hl)
    simpa using this) r h) fun r s' hq => ?_)
  cases r with
  | error e => exact hx pins σ H s e s' I hq
  | ok fl =>
    cases fl with
    | ret w => exact I.after hq
    | next => exact False.elim hq
    | brk => exact False.elim hq
    | cont => exact False.elim hq
theorem ins_inst {pins : List (Addr × Obj)} {σ : L2.St} {H : Hp} {s : Shared} {a C dx : Addr} {fs : List (Str × V)} (I : Inv X pins σ H s) (ha : H a = some (.ins C dx fs)) : ∃ ox od, PySem.W.InstAt s.heap a ox C od := by
  obtain ⟨mA, J, _⟩ := ins_get I.hok ha
  obtain ⟨od, J, _⟩ := J.look
  exact ⟨_, _, J⟩
/-- len(o), o's class with an own __len__ -/
def rLenOwn (C : Addr) (sp : Sp) (E : XK) : List V → Hp → VK → Prop := fun xs H Q => ∃ a dx fs, xs = [V.ref a] ∧ H a = some (.ins C dx fs) ∧ sp [.ref a] H (fun v H' => ∃ n : Int, v = .int n ∧ (0 ≤ n ∧ n < 2 ^ 63) ∧ Q (.int n) H') E
theorem cr_lenOwn {CX : CXT} {k : Nat} {C f : Addr} {fd : FuncData} {ps : List Str} {sp : Sp} {E : XK} (F : FnOk X.prog X.w X.K X.mg X.base CX k f fd ps sp) (hs : PySem.W.findIn X.K (.ref C) "__len__" = some (some (.ref f))) (hf : PySem.W.isFn X.K (.ref f) = true)
    (hb : Binds X.K fd ps []) (hx : Passes CX X E) (hr : Room (k + 1) X.A) : CallR X (.builtin "len") (rLenOwn C sp E) := by
  intro pins s σ H xs us Q I r h
  obtain ⟨a, dx, fs, rfl, ha, hsp⟩ := h
  rw [Vals.ref1 r]
  obtain ⟨ox, od, J⟩ := ins_inst I ha
  obtain ⟨m, hF⟩ := I.fr
  refine PySem.W.len_K hF I.ok.mod.kin J hs hf (wpAny_mono (run_own F hb hx hr.in1 rfl I (us := [.ref a]) (vs := [.ref a]) (.cons rfl .nil) hsp) (fun v s' z => ?_) fun _ _ x => x)
  obtain ⟨v', H', I', rv, n, rfl, hn, q⟩ := z
  obtain ⟨t, rfl⟩ := (show ∃ t, v = Value.int n t from rv)
  exact ⟨hn, .int n, H', I'.tok _, ⟨_, rfl⟩, q⟩
/-- str(o), o's class with an own __str__ -/
def rStrOwn (C : Addr) (sp : Sp) (E : XK) : List V → Hp → VK → Prop := fun xs H Q => ∃ a dx fs, xs = [V.ref a] ∧ H a = some (.ins C dx fs) ∧ sp [.ref a] H (fun v H' => ∃ n : Str, v = .str n ∧ Q (.str n) H') E
theorem cr_strOwn {CX : CXT} {k : Nat} {C f : Addr} {fd : FuncData} {ps : List Str} {sp : Sp} {E : XK} (F : FnOk X.prog X.w X.K X.mg X.base CX k f fd ps sp) (hs : PySem.W.findIn X.K (.ref C) "__str__" = some (some (.ref f))) (hf : PySem.W.isFn X.K (.ref f) = true)
    (hb : Binds X.K fd ps []) (hx : Passes CX X E) (hr : Room (k + 2) X.A) : CallR X (.type "str") (rStrOwn C sp E) := by
  intro pins s σ H xs us Q I r h
  obtain ⟨a, dx, fs, rfl, ha, hsp⟩ := h
  rw [Vals.ref1 r]
  obtain ⟨ox, od, J⟩ := ins_inst I ha
  have h2 : Room k X.A.in1.in1 := hr.in1.in1
  refine PySem.W.kso_call (h2.units0) I.kIn J hs hf (wpAny_mono (run_own F hb hx h2 rfl I (us := [.ref a]) (vs := [.ref a]) (.cons rfl .nil) hsp) (fun v s' z => ?_) fun _ _ x => x)
  obtain ⟨v', H', I', rv, n, rfl, q⟩ := z
  obtain ⟨t, rfl⟩ := (show ∃ t, v = Value.str n t from rv)
  exact ⟨.str n, H', I', ⟨_, rfl⟩, q⟩
/-- o.m(k = v, ..) -/
def tMethK (C : Addr) (m : Str) (n : Nat) (sp : Sp) (gV : List V → List V → List V) (E : XK) (ta : TE) (tk : TA) : TE := fun σ H Q => ta σ H fun x H1 => ∃ a dx fs, x = .ref a ∧ H1 a = some (.ins C dx fs) ∧ fs.lookup m = none ∧
  tk σ H1 fun zs H2 => zs.length = n ∧ sp (gV [.ref a] zs) H2 Q E
theorem pe_methK0 {CX : CXT} {k : Nat} {f C : Addr} {fd : FuncData} {ps ks : List Str} {sp : Sp} {E : XK} {m : Str} {pos apos : Pos} {o : Expr} {kws : List Keyword} {ta : TE} {tk : TA} {g : List Value → List Value → List Value} {gV : List V → List V → List V} {pl : Sem Bool}
    (he : PE X o ta) (c : Cls X.K C) (hm : Meth X.K C m f) (F : FnOk X.prog X.w X.K X.mg X.base CX k f fd ps sp) (hr : Room k X.A) (hb : KBn X.K fd ps 1 ks g gV) (hx : Passes CX X E) (hkw : PK X kws tk)
    (hall : (backToKw pos (keywordEach kws X.env)).all (·.1.isSome) = true := by rfl) (hks : (backToKw pos (keywordEach kws X.env)).filterMap (·.1) = ks := by rfl)
    (hpl : ((backTo pos (starEach [] X.env)).any (·.1) || (backToKw pos (keywordEach kws X.env)).any (·.1.isNone)) = false := by rfl)
    (ht : eval (.Call (.Attribute o m apos) [] kws pos) X.env = (do
      let ov ← eval o X.env
      standAt apos.atName
      let (f, first) ← holding [ov] (getMethod ov m pl)
      callWith pos f first (backTo pos (starEach [] X.env)) (backToKw pos (keywordEach kws X.env))) := by rfl) :
    PE X (.Call (.Attribute o m apos) [] kws pos) (tMethK C m ks.length sp gV E ta tk) := by
  refine ⟨fun pins s σ H Q I h => ?_⟩
  refine PySem.W.methodCall_KW (pl := pl) (thn (he.run pins s σ H _ I h) fun u s1 ⟨x, H1, I1, rx, a, dx, fs, ex, ea, l, q⟩ => ?_) ht
  subst ex
  obtain rfl : u = Value.ref a := rx
  refine getmeth_ok I1 ea c hm l ?_
  refine PySem.W.callWith_KW0 (first := [.ref a]) (h₀ := X.base) I.ok.mod.kin hm.kp hall (thn (hkw.run pos pins s1 σ H1 _ I1 q) fun ws s2 ⟨zs, H2, I2, rz, l2, q2⟩ => ⟨I2.kIn, ?_⟩) hpl
  rw [hks]
  exact run_fnN (us := [.ref a]) (vs := [.ref a]) F hr hb hx I2 (.cons rfl .nil) rz rfl l2 q2
end

/-! ### own errors without own __init__: raised without arguments, out of a method; isinstance of a caught one -/
abbrev bmVE : List Value := [.type "ValueError", .type "Exception", .type "BaseException", .type "object"]
/-- a class that a clause or isinstance names -/
structure XcN (K : PySem.W.Frag) (mg : Str → Option Value) (x : Str) (C : Addr) : Prop where
  g : mg x = some (.ref C)
  ic : PySem.W.isClsIn K C = true
  ty : PySem.W.typeIn K (.ref C) = some (.type "type")
  ba : PySem.W.subIn K (.ref C) (.type "BaseException") = some true
/-- a class that is raised -/
structure XcR (K : PySem.W.Frag) (C : Addr) : Prop where
  xP : PySem.W.excIn K C bmVE "ValueError.__new__" = true
  kP : PySem.W.keepIn K (.ref C) = true
  ex : ExcC K C
section
variable {K : PySem.W.Frag} {mg : Str → Option Value}
theorem XcN.exm {x : Str} {D C : Addr} {b : Bool} (N : XcN K mg x C) (s : PySem.W.subIn K (.ref D) (.ref C) = some b) : PySem.W.exmOne K (.ref D) (.ref C) = some b := by
  have e1 : (PySem.W.subIn K (.ref C) (.type "BaseException") == some true) = true := by rw [N.ba] <;> rfl
  have e2 : ((PySem.W.clsIn K C).isSome && PySem.W.typeIn K (.ref C) == some (.type "type")) = true := by
    have h : (PySem.W.clsIn K C).isSome = true := N.ic
    rw [h, N.ty] <;> rfl
  show (if (PySem.W.subIn K (.ref C) (.type "BaseException") == some true) = true then (if ((PySem.W.clsIn K C).isSome && PySem.W.typeIn K (.ref C) == some (.type "type")) = true then PySem.W.subIn K (.ref D) (.ref C) else none) else none) = some b
  rw [if_pos e1, if_pos e2]
  exact s
theorem XcN.kit {x : Str} {D C : Addr} {b : Bool} (N : XcN K mg x C) (s : PySem.W.subIn K (.ref D) (.ref C) = some b) (ne : D ≠ C) : PySem.W.kitOne K (.ref D) (.ref C) = some b := by
  have e2 : ((PySem.W.clsIn K C).isSome && PySem.W.typeIn K (.ref C) == some (.type "type")) = true := by
    have h : (PySem.W.clsIn K C).isSome = true := N.ic
    rw [h, N.ty] <;> rfl
  have e0 : ¬ ((Value.ref D == Value.ref C) = true) := fun h => ne (Value.ref.inj (beq_iff_eq.mp h))
  show (if (Value.ref D == Value.ref C) = true then some true else (if ((PySem.W.clsIn K C).isSome && PySem.W.typeIn K (.ref C) == some (.type "type")) = true then PySem.W.subIn K (.ref D) (.ref C) else none)) = some b
  rw [if_neg e0, if_pos e2]
  exact s
theorem kit_self {D : Addr} : PySem.W.kitOne K (.ref D) (.ref D) = some true := by
  show (if (Value.ref D == Value.ref D) = true then some true else _) = some true
  rw [if_pos (beq_self_eq_true _)]
theorem kit_bltn {D : Addr} {T : String} {b : Bool} (m : PySem.W.kitMeta T = true) (s : PySem.W.subIn K (.ref D) (.type T) = some b) : PySem.W.kitOne K (.ref D) (.type T) = some b := by
  have e0 : ¬ ((Value.ref D == Value.type T) = true) := fun h => nomatch beq_iff_eq.mp h
  show (if (Value.ref D == Value.type T) = true then some true else (if PySem.W.kitMeta T = true then PySem.W.subIn K (.ref D) (.type T) else none)) = some b
  rw [if_neg e0, if_pos m]
  exact s
theorem exc_self {C : Addr} {bmB : List Value} {n : String} (q : PySem.W.excIn K C bmB n = true) : PySem.W.subIn K (.ref C) (.ref C) = some true := by
  unfold PySem.W.excIn at q
  split at q
  · rename_i dd cd sl ho
    split at q
    · rename_i C' bm k0 k1 k2 k3 n' k5 hm hs
      simp only [Bool.and_eq_true, beq_iff_eq] at q
      obtain ⟨⟨⟨⟨⟨rfl, _⟩, _⟩, _⟩, _⟩, _⟩ := q
      have hc : PySem.W.clsIn K C' = some cd := by
        unfold PySem.W.clsIn
        rw [ho] <;> rfl
      show PySem.W.mroIn K C' (.ref C') = some true
      unfold PySem.W.mroIn
      rw [hc]
      show (if cd.mro.isEmpty = true then none else some (cd.mro.contains (.ref C'))) = some true
      rw [hm, List.contains_cons, beq_self_eq_true]
      rfl
    · cases q
  · cases q
theorem XcR.ne {C D : Addr} (R : XcR K D) (h : PySem.W.subIn K (.ref D) (.ref C) = some false) : D ≠ C := fun e => by
  have z := exc_self R.xP
  rw [e] at z h
  rw [z] at h
  cases h
/-- no instance of any of these -/
theorem kit_none {D : Addr} (R : XcR K D) : ∀ {l : List (Str × Addr)}, (∀ p ∈ l, XcN K mg p.1 p.2 ∧ PySem.W.subIn K (.ref D) (.ref p.2) = some false) → PySem.W.kitAny K (.ref D) (l.map fun p => Value.ref p.2) = some false
  | [], _ => rfl
  | p :: l, h => kitAny_cons ((h p List.mem_cons_self).1.kit (h p List.mem_cons_self).2 (R.ne (h p List.mem_cons_self).2)) (fun _ => kit_none R fun q hq => h q (List.mem_cons_of_mem _ hq)) (fun z => nomatch z)
end
section
variable {X : Cx}
theorem pmk_own0 {C : Addr} {bmB : List Value} {B newId initId : String} {x : Str} {p pos : Pos} (F : ExcBaseFacts B newId initId bmB) (q : PySem.W.excIn X.K C bmB newId = true) (gC : X.mg x = some (.ref C)) (kC : PySem.W.keepIn X.K (.ref C) = true) (r : Raises X (.ref C)) (hg : Gl X x)
    (hdb : (x == ("__debug__" : Str)) = false := by decide) : PMk X (.Call (.Name x p) [] [] pos) (fun _ H Q => Q (.ref C) none H) := by
  intro pins s σ H Q I h
  refine wpAny_Call_Name_kw (ld_glob I hg gC ?_ hdb)
  refine PySem.W.callWith_K0 (first := []) I.kIn kC ?_
  show wpAny _ _ (call (.ref C) []) _ _ _
  obtain ⟨bm, N, nm, qn, bs, hdct, sn, sub, ab, col, dd, k0, k1, k2, k3, k5, mN, hC, hN, hni, T⟩ := exc_obj I.kIn q
  refine wpAny_call_exc_subT F T hC hN hni (fun h' e hm => ?_) (by show 0 ≤ sizeLine; decide)
  exact mk_of I hm r h (I.hok.gone hm.new)
/-- raise C() -/
theorem ps_raise0 {W : WX} {C : Addr} {x : Str} {p pos pos2 : Pos} (hc : X.calm = true) (tk : Takes X W) (N : XcN X.K X.mg x C) (R : XcR X.K C) (hg : Gl X x) (hdb : (x == ("__debug__" : Str)) = false := by decide) :
    PS X (.Raise (some (.Call (.Name x p) [] [] pos)) none pos2) (fun _ σ H => W (.ref C) none σ H) :=
  ps_raise hc tk (pmk_own0 PySem.F.excBase_ValueError R.xP N.g R.kP (raises_own N.ba N.ty) hg hdb)
variable {CX : CXT} {k : Nat} {f C : Addr} {fd : FuncData} {ps : List Str} {sp : Sp} {E : L2.St → XK} {x m : Str} {p pos apos : Pos} {e o : Expr} {es : List Expr} {ta : TE} {t : TA}
def tMethL (C : Addr) (m : Str) (sp : Sp) (E : L2.St → XK) (ta : TE) (t : TA) : TE := fun σ H Q => ta σ H fun x H1 => ∃ a dx fs, x = .ref a ∧ H1 a = some (.ins C dx fs) ∧ fs.lookup m = none ∧ t σ H1 fun vs H2 => sp (.ref a :: vs) H2 Q (E σ)
/-- o.m(), which may raise -/
theorem pe_methL0 {pl : Sem Bool} (he : PE X o ta) (c : Cls X.K C) (hm : Meth X.K C m f) (F : FnOk X.prog X.w X.K X.mg X.base CX k f fd ps sp) (hr : Room k X.A) (hb : Binds X.K fd ps []) (hx : ∀ σ, PassesAt CX X σ (E σ))
    (ht : eval (.Call (.Attribute o m apos) [] [] pos) X.env = (do
      let ov ← eval o X.env
      standAt apos.atName
      let (f, first) ← holding [ov] (getMethod ov m pl)
      callWith pos f first (backTo pos (starEach [] X.env)) (backToKw pos (keywordEach [] X.env))) := by rfl) :
    PE X (.Call (.Attribute o m apos) [] [] pos) (tMethL C m sp E ta tNil) := by
  refine ⟨fun pins s σ H Q I h => ?_⟩
  refine PySem.W.methodCall_KW (pl := pl) (thn (he.run pins s σ H _ I h) fun u s1 ⟨x, H1, I1, rx, a, dx, fs, ex, ea, l, q⟩ => ?_) ht
  subst ex
  obtain rfl : u = Value.ref a := rx
  refine getmeth_ok I1 ea c hm l ?_
  exact PySem.W.callWith_K0 (first := [.ref a]) I1.kIn hm.kp (run_fnS (us := [.ref a]) (vs := [.ref a]) F hr hb (hx σ) I1 (.cons rfl .nil) q)
/-- o.m(e, ..), which may raise -/
theorem pe_methL {pl : Sem Bool} (he : PE X o ta) (c : Cls X.K C) (hm : Meth X.K C m f) (F : FnOk X.prog X.w X.K X.mg X.base CX k f fd ps sp) (hr : Room k X.A) (hb : Binds X.K fd ps []) (hx : ∀ σ, PassesAt CX X σ (E σ)) (ha : PA X (e :: es) t)
    (hst : starEach (e :: es) X.env = (false, eval e X.env) :: starEach es X.env := by rfl) (hpl : (backTo pos (starEach es X.env)).any (·.1) = false := by rfl)
    (ht : eval (.Call (.Attribute o m apos) (e :: es) [] pos) X.env = (do
      let ov ← eval o X.env
      standAt apos.atName
      let (f, first) ← holding [ov] (getMethod ov m pl)
      callWith pos f first (backTo pos (starEach (e :: es) X.env)) (backToKw pos (keywordEach [] X.env))) := by rfl) :
    PE X (.Call (.Attribute o m apos) (e :: es) [] pos) (tMethL C m sp E ta t) := by
  refine ⟨fun pins s σ H Q I h => ?_⟩
  refine PySem.W.methodCall_KW (pl := pl) (thn (he.run pins s σ H _ I h) fun u s1 ⟨x, H1, I1, rx, a, dx, fs, ex, ea, l, q⟩ => ?_) ht
  subst ex
  obtain rfl : u = Value.ref a := rx
  refine getmeth_ok I1 ea c hm l ?_
  refine PySem.W.callWith_K (first := [.ref a]) (h₀ := X.base) I.ok.mod.kin hm.kp (thn (ha.run pos pins s1 σ H1 _ I1 q) fun us s2 ⟨vs, H2, I2, r, q2⟩ => ⟨I2.kIn, ?_⟩) hst hpl
  exact run_fnS (us := .ref a :: us) (vs := .ref a :: vs) F hr hb (hx σ) I2 (.cons rfl r) q2
/-- isinstance(e, c), e the exception (without a dict) that the suite holds -/
def rIsX (K : PySem.W.Frag) (a : Addr) (cls : Value) (d : Option Addr) : List V → Hp → VK → Prop := fun xs H Q => ∃ (D : Addr) (c : V) (cv : Value) (b : Bool), xs = [.ref a, c] ∧ cls = .ref D ∧ d = none ∧ ExcC K D ∧ ClsV c cv ∧ PySem.W.kitOne K (.ref D) cv = some b ∧ Q (.bl b) H
/-- isinstance(e, (c1, c2, ..)) -/
def rIsXT (K : PySem.W.Frag) (a : Addr) (cls : Value) (d : Option Addr) : List V → Hp → VK → Prop := fun xs H Q => ∃ (D tp : Addr) (cs : List V) (us : List Value) (b : Bool), xs = [.ref a, .ref tp] ∧ cls = .ref D ∧ d = none ∧ ExcC K D ∧ H tp = some (.tup cs) ∧ Paired ClsV cs us ∧ PySem.W.kitAny K (.ref D) us = some b ∧ Q (.bl b) H
theorem held_inst {a D : Addr} {oe : Obj} {pn pins : List (Addr × Obj)} {σ : L2.St} {H : Hp} {s : Shared} (I : Inv (X.suite a ((a, oe) :: pn)) pins σ H s) (hz : Zc (.ref D) none oe) (hf : ∃ vs, oe.data = .fields vs) : PySem.W.InstAt s.heap a oe D none := by
  obtain ⟨hget, _⟩ := I.pin (a, oe) (List.mem_append.mpr (.inl List.mem_cons_self))
  obtain ⟨vs, hv⟩ := hf
  obtain ⟨oc, od, oda, osl⟩ := oe
  obtain ⟨h1, h2⟩ := hz
  dsimp only at h1 h2 hv
  subst h1 h2 hv
  exact ⟨hget, rfl, rfl, trivial⟩
theorem call_isX {a : Addr} {cls : Value} {d : Option Addr} {oe : Obj} {pn : List (Addr × Obj)} (hz : Zc cls d oe) (hf : ∃ vs, oe.data = .fields vs) : CallR (X.suite a ((a, oe) :: pn)) (.builtin "isinstance") (rIsX X.K a cls d) := by
  intro pins s σ H xs us Q I r h
  obtain ⟨D, c, cv, b, rfl, rfl, rfl, C, hcv, e, q⟩ := h
  cases r with
  | cons rx rr =>
    cases rr with
    | cons rt rr =>
      cases rr
      cases rx
      have ec := hcv.eq rt
      subst ec
      exact PySem.W.kia_one (PySem.W.handS_kitx_exc C.hg C.hk C.hs C.hd C.ha C.hn C.ht C.hm) I.kIn (held_inst I hz hf) e (fun z => nomatch z) fun tk => ⟨.bl b, H, I.kept (t' := tk) fun _ _ z => z, rfl, q⟩
theorem call_isXT {a : Addr} {cls : Value} {d : Option Addr} {oe : Obj} {pn : List (Addr × Obj)} (hz : Zc cls d oe) (hf : ∃ vs, oe.data = .fields vs) : CallR (X.suite a ((a, oe) :: pn)) (.builtin "isinstance") (rIsXT X.K a cls d) := by
  intro pins s σ H xs us Q I r h
  obtain ⟨D, tp, cs, ws, b, rfl, rfl, rfl, C, hT, k, e, q⟩ := h
  cases r with
  | cons rx rr =>
    cases rr with
    | cons rt rr =>
      cases rr
      cases rx
      cases rt
      obtain ⟨_, its, rv, o, h1, h2, n, h3⟩ := (show ObjOk X.prog X.w H s.heap tp (.tup cs) from I.hok tp _ hT)
      have e3 := ClsV.all k rv
      subst e3
      obtain ⟨oc, od, dt, sl⟩ := o
      simp only at h2 h3
      subst h2 h3
      exact PySem.W.kia_tup (PySem.W.handS_kitx_exc C.hg C.hk C.hs C.hd C.ha C.hn C.ht C.hm) I.kIn (held_inst I hz hf) h1 e (fun z => nomatch z) fun tk => ⟨.bl b, H, I.tok tk, rfl, q⟩
end

/-! ### own errors with an own __init__ of one field: raised, asked for their class, their field read -/
section
open PySem.W
variable {prog : Program} {w : World} {A : Around} {E : Value → Shared → Prop} {K : Frag} {D x : Addr} {ox : Obj} {od : Option Obj} {s : Shared}
/-- e.__class__ of an error that has a dict (the library has it of one without) -/
theorem cls_of_dict {Q : Option Value → Shared → Prop} (C : ExcC K D) (X : K.In s.heap) (I : InstAt s.heap x ox D od) (h : Q (some (.ref D)) { s with toks := s.toks + 1 }) : wpAny (model prog w) A (getAttr? (.ref x) "__class__") Q E s := by
  have some_cls : (clsIn K D).isSome = true := by
    obtain ⟨cd, hc, _⟩ := any_some C.hd
    rw [hc]
    rfl
  have found := looks_find (M := model prog w) X I (findObj_dataE (od := od) some_cls C.ha C.hn C.ht)
  obtain ⟨hp, g, d, t, os⟩ := s
  have own := I.type (M := model prog w)
  have isE : Looks (model prog w) hp (isInstance (.ref x) (.type "BaseException")) true := own.andThen (looks_subIn X C.hs)
  have notObj : (Value.builtin "BaseException.__getattribute__" == Value.builtin "object.__getattribute__") = false := by decide +kernel
  unfold getAttr? getAttrBy? getAttrBy
  refine wpAny_bind (wpAny_mkText (wpAny_bind (wpAny_attempt (wpAny_holding (wpAny_bind (own.at (wpAny_bind ((looks_findIn X C.hg).at ?_))))))))
  show wpAny _ _ (if (onTheHeap (Value.ref D) && Value.builtin "BaseException.__getattribute__" == Value.builtin "object.__getattribute__") = true then _ else _) _ _ _
  rw [show (onTheHeap (Value.ref D) && Value.builtin "BaseException.__getattribute__" == Value.builtin "object.__getattribute__") = false by rw [notObj]; rfl, if_neg Bool.false_ne_true]
  unfold getAttrByItsOwn hookBefore
  refine wpAny_bind ?_
  rw [if_pos (show onTheHeap (Value.ref D) = true from rfl)]
  refine (looks_findIn X C.hk).at (wpAny_bind (wpAny_attempt (wpAny_holding ?_)))
  unfold callGetattribute
  rw [show (false && onTheHeap (Value.builtin "BaseException.__getattribute__")) = false from rfl, if_neg Bool.false_ne_true]
  unfold boundAndCalled
  rw [PySem.F.excAttr_ValueError.ga.bind (.ref x)]
  refine wpAny_bind (wpAny_pure ?_)
  show wpAny _ _ (call (.builtin "BaseException.__getattribute__") [.ref x, .str "__class__" t]) _ _ _
  refine wpAny_call (codeAny_call_builtin PySem.F.excAttr_ValueError.ga.plain PySem.F.entry_bexc_ga ?_)
  refine @check_slot (model prog w) _ _ ⟨hp, g, d, t + 1, os⟩ "BaseException.__getattribute__" "BaseException" "__getattribute__" (.ref x) [.str "__class__" t] [] _ (by decide +kernel) (by decide +kernel) isE (PySem.F.args_bexc_ga (.ref x) (.str "__class__" t)) ?_
  unfold Builtin.«object.__getattribute__»
  refine wpAny_bind (wpAny_of_eq (a := ((Value.ref x : Value), [Value.str "__class__" t])) (by first | rfl | (simp only [slotArgs]; rfl)) ?_)
  refine wpAny_bind (wpAny_pure (wpAny_bind (own.at (wpAny_bind (found.at ?_)))))
  show wpAny _ _ (holding [Value.builtin "object.__class__"] (call (.builtin "getset_descriptor.__get__") [.builtin "object.__class__", .ref x, .ref D]) >>= ret) _ _ _
  refine wpAny_bind (wpAny_holding (wpAny_call (class_get (s := ⟨hp, g, d, t + 1, os⟩) X I C.hm (wpAny_pure ?_))))
  show wpAny _ _ (handedOut (.ref D)) _ _ _
  rw [handedOut_of (v := .ref D) rfl]
  first
    | exact wpAny_pure (wpAny_pure h)
    | exact wpAny_pure h
    | exact wpAny_pure (wpAny_bind (wpAny_pure (wpAny_pure h)))
theorem kitx_dict (C : ExcC K D) : KitX K (.ref x) (.ref D) (fun h => InstAt h x ox D od) where
  ty := fun _ _ _ I => I.type
  it := fun _ _ X _ => by
    obtain ⟨cd, hc, _⟩ := any_some C.hd
    unfold clsIn at hc
    split at hc
    · rename_i ho
      intro A' Q' E' s' k q
      unfold isType loadHead
      exact wpAny_bind (wpAny_loadPart (k _ _ (X _ _ ho)) (wpAny_pure q))
    · cases hc
  ne := fun h tp dd its n sl X htp => by
    obtain ⟨cd, hc, _⟩ := any_some C.hd
    refine Bool.eq_false_iff.mpr fun q => ?_
    obtain rfl : D = tp := Value.ref.inj (beq_iff_eq.mp q)
    unfold clsIn at hc
    split at hc
    · rename_i ho
      have z := (X _ _ ho).symm.trans htp
      cases z
    · cases hc
  ca := fun X I k => cls_of_dict C X I k
end
/-- an error's dict, if it has one -/
def ExD (H : Hp) (d : Option Addr) : Prop := d = none ∨ ∃ dd fs, d = some dd ∧ H dd = some (.xd fs)
/-- what the written part says of a class with an own __init__ that sets the field f -/
structure XcI (K : PySem.W.Frag) (C fI : Addr) (f : Str) : Prop where
  ox : OexC K C
  iC : PySem.W.findIn K (.ref C) "__init__" = some (some (.ref fI))
  tI : PySem.W.typeIn K (.ref fI) = some (.type "function")
  no : PySem.W.findIn K (.ref C) f = some none
  ex : ExcC K C
theorem XcI.xf {K : PySem.W.Frag} {C fI : Addr} {f : Str} (I : XcI K C fI f) : XfC K C := ⟨I.ex.hg, I.ex.hk, I.ex.hs, I.ex.hd⟩
theorem oex_self {K : PySem.W.Frag} {C : Addr} (O : OexC K C) : PySem.W.subIn K (.ref C) (.ref C) = some true := by
  obtain ⟨nm, q, N, bs, bm, sn, sub, ab, col, dd, k0, k1, k2, k3, k5, h, _⟩ := O.cls
  show PySem.W.mroIn K C (.ref C) = some true
  unfold PySem.W.mroIn PySem.W.clsIn
  rw [h]
  show (if (Value.ref C :: bm).isEmpty = true then none else some ((Value.ref C :: bm).contains (.ref C))) = some true
  rw [List.contains_cons, beq_self_eq_true]
  rfl
theorem XcI.ne {K : PySem.W.Frag} {C D fI : Addr} {f : Str} (R : XcI K D fI f) (h : PySem.W.subIn K (.ref D) (.ref C) = some false) : D ≠ C := fun e => by
  have z := oex_self R.ox
  rw [e] at z h
  rw [z] at h
  cases h
theorem kit_noneI {K : PySem.W.Frag} {mg : Str → Option Value} {D fI : Addr} {f : Str} (R : XcI K D fI f) : ∀ {l : List (Str × Addr)}, (∀ p ∈ l, XcN K mg p.1 p.2 ∧ PySem.W.subIn K (.ref D) (.ref p.2) = some false) → PySem.W.kitAny K (.ref D) (l.map fun p => Value.ref p.2) = some false
  | [], _ => rfl
  | p :: l, h => kitAny_cons ((h p List.mem_cons_self).1.kit (h p List.mem_cons_self).2 (R.ne (h p List.mem_cons_self).2)) (fun _ => kit_noneI R fun q hq => h q (List.mem_cons_of_mem _ hq)) (fun z => nomatch z)
def sp_exc_init (K : PySem.W.Frag) (C : Addr) (f : Str) : Sp := fun vs H Q _ => ∃ (a : Addr) (v : V), vs = [.ref a, v] ∧ H a = some (exo a C none) ∧ ∀ dx, H dx = none → dx ≠ a → Q .non (upd (upd H dx (exd dx [(f, v)])) a (exo a C (some dx)))
section
variable {X : Cx}
/-- the args, with more said of them than is asked -/
def tMono (ta : TA) : TA := fun σ H R => ∃ S, ta σ H S ∧ ∀ vs H1, S vs H1 → R vs H1
theorem pa_mono {es : List Expr} {ta : TA} (h : PA X es ta) : PA X es (tMono ta) := ⟨fun pos pins s σ H Q I q => by
  obtain ⟨S, h1, h2⟩ := q
  refine thn (h.run pos pins s σ H S I h1) fun us s1 hh => ?_
  obtain ⟨vs, H1, I1, r, z⟩ := hh
  exact ⟨vs, H1, I1, r, h2 _ _ z⟩⟩
def tMk1 (C : Addr) (f : Str) (ta : TA) : L2.St → Hp → XK → Prop := fun σ H Q => ta σ H fun vs H1 => ∃ v, vs = [v] ∧ ∀ d, H1 d = none → Q (.ref C) (some d) (upd H1 d (.xd [(f, v)]))
theorem pmk_1 {x f : Str} {C fI : Addr} {k : Nat} {fd : FuncData} {ps : List Str} {p pos : Pos} {e : Expr} {ta : TA} (N : XcN X.K X.mg x C) (I : XcI X.K C fI f) (F1 : FnOk X.prog X.w X.K X.mg X.base CX0 k fI fd ps (sp_exc_init X.K C f)) (hr : Room (k + 1) X.A) (hb : Binds X.K fd ps [])
    (hg : Gl X x) (ha : PA X [e] ta) (hdb : (x == ("__debug__" : Str)) = false := by decide) (he : starEach (e :: []) X.env = (false, eval e X.env) :: starEach [] X.env := by rfl) (hpl : (backTo pos (starEach [] X.env)).any (·.1) = false := by rfl) :
    PMk X (.Call (.Name x p) [e] [] pos) (tMk1 C f ta) := by
  intro pins s σ H Q J h
  refine pmk_oex (dvs := []) I.ox I.iC I.tI F1 hr hb .nil (fun _ _ _ _ _ _ _ h => h.elim) hg N.g (pa_mono ha) hdb he hpl pins s σ H Q J ⟨_, h, fun vs H1 h1 => ?_⟩
  obtain ⟨v, rfl, q⟩ := h1
  refine ⟨by show 1 ≤ 1000; decide, fun a na => ⟨a, v, rfl, upd_same, fun dx nd ne => ⟨rfl, dx, [(f, v)], upd_same, ?_, ?_, ?_⟩⟩⟩
  · rw [upd_ne ne]
    exact upd_same
  · rw [upd_ne ne] at nd
    exact nd
  · have nd1 : H1 dx = none := by
      rw [upd_ne ne] at nd
      exact nd
    have z := q dx nd1
    have e2 : upd H1 dx (.xd [(f, v)]) = upd (del (upd (upd (upd H1 a (exo a C none)) dx (exd dx [(f, v)])) a (exo a C (some dx))) a) dx (.xd [(f, v)]) := by
      funext b
      by_cases hb : b = dx
      · rw [hb, upd_same, upd_same]
      · rw [upd_ne hb, upd_ne hb]
        by_cases ha : b = a
        · rw [ha, del_same, na]
        · rw [del_ne ha, upd_ne ha, upd_ne hb, upd_ne ha]
    rw [← e2]
    exact z
/-- raise C(e) -/
theorem ps_raise1 {W : WX} {x f : Str} {C fI : Addr} {k : Nat} {fd : FuncData} {ps : List Str} {p pos pos2 : Pos} {e : Expr} {ta : TA} (hc : X.calm = true) (tk : Takes X W) (N : XcN X.K X.mg x C) (I : XcI X.K C fI f) (F1 : FnOk X.prog X.w X.K X.mg X.base CX0 k fI fd ps (sp_exc_init X.K C f)) (hr : Room (k + 1) X.A) (hb : Binds X.K fd ps [])
    (hg : Gl X x) (ha : PA X [e] ta) (hdb : (x == ("__debug__" : Str)) = false := by decide) (he : starEach (e :: []) X.env = (false, eval e X.env) :: starEach [] X.env := by rfl) (hpl : (backTo pos (starEach [] X.env)).any (·.1) = false := by rfl) :
    PS X (.Raise (some (.Call (.Name x p) [e] [] pos)) none pos2) (fun _ σ H => tMk1 C f ta σ H fun cls d H' => W cls d σ H') := ps_raise hc tk (pmk_1 N I F1 hr hb hg ha hdb he hpl)
/-- isinstance(e, c), e the error that the suite holds, with a dict or without -/
def rIsY (K : PySem.W.Frag) (a : Addr) (cls : Value) (d : Option Addr) : List V → Hp → VK → Prop := fun xs H Q => ∃ (D : Addr) (c : V) (cv : Value) (b : Bool), xs = [.ref a, c] ∧ cls = .ref D ∧ ExD H d ∧ ExcC K D ∧ ClsV c cv ∧ PySem.W.kitOne K (.ref D) cv = some b ∧ Q (.bl b) H
def rIsYT (K : PySem.W.Frag) (a : Addr) (cls : Value) (d : Option Addr) : List V → Hp → VK → Prop := fun xs H Q => ∃ (D tp : Addr) (cs : List V) (us : List Value) (b : Bool), xs = [.ref a, .ref tp] ∧ cls = .ref D ∧ ExD H d ∧ ExcC K D ∧ H tp = some (.tup cs) ∧ Paired ClsV cs us ∧ PySem.W.kitAny K (.ref D) us = some b ∧ Q (.bl b) H
theorem held_instD {a D : Addr} {oe : Obj} {d : Option Addr} {pn pins : List (Addr × Obj)} {σ : L2.St} {H : Hp} {s : Shared} (I : Inv (X.suite a ((a, oe) :: pn)) pins σ H s) (hz : Zc (.ref D) d oe) (hf : ∃ vs, oe.data = .fields vs) (hd : ExD H d) : ∃ od, PySem.W.InstAt s.heap a oe D od := by
  rcases hd with rfl | ⟨dd, fs, rfl, e⟩
  · exact ⟨none, held_inst I hz hf⟩
  · obtain ⟨hget, _⟩ := I.pin (a, oe) (List.mem_append.mpr (.inl List.mem_cons_self))
    obtain ⟨vs, hv⟩ := hf
    obtain ⟨mA, hns, _⟩ := (show ObjOk X.prog X.w H s.heap dd (.xd fs) from I.hok dd _ e)
    obtain ⟨od, ho, _⟩ := lookIn_ns hns
    exact ⟨some od, hget, hz.1, by unfold PySem.W.notCls; rw [hv] <;> rfl, by rw [hz.2]; exact ho⟩
theorem call_isY {a : Addr} {cls : Value} {d : Option Addr} {oe : Obj} {pn : List (Addr × Obj)} (hz : Zc cls d oe) (hf : ∃ vs, oe.data = .fields vs) : CallR (X.suite a ((a, oe) :: pn)) (.builtin "isinstance") (rIsY X.K a cls d) := by
  intro pins s σ H xs us Q I r h
  obtain ⟨D, c, cv, b, rfl, rfl, hd, C, hcv, e, q⟩ := h
  obtain ⟨od, J⟩ := held_instD I hz hf hd
  cases r with
  | cons rx rr =>
    cases rr with
    | cons rt rr =>
      cases rr
      cases rx
      have ec := hcv.eq rt
      subst ec
      exact PySem.W.kia_one (kitx_dict C) I.kIn J e (fun z => nomatch z) fun tk => ⟨.bl b, H, I.kept (t' := tk) fun _ _ z => z, rfl, q⟩
theorem call_isYT {a : Addr} {cls : Value} {d : Option Addr} {oe : Obj} {pn : List (Addr × Obj)} (hz : Zc cls d oe) (hf : ∃ vs, oe.data = .fields vs) : CallR (X.suite a ((a, oe) :: pn)) (.builtin "isinstance") (rIsYT X.K a cls d) := by
  intro pins s σ H xs us Q I r h
  obtain ⟨D, tp, cs, ws, b, rfl, rfl, hd, C, hT, k, e, q⟩ := h
  obtain ⟨od, J⟩ := held_instD I hz hf hd
  cases r with
  | cons rx rr =>
    cases rr with
    | cons rt rr =>
      cases rr
      cases rx
      cases rt
      obtain ⟨_, its, rv, o, h1, h2, n, h3⟩ := (show ObjOk X.prog X.w H s.heap tp (.tup cs) from I.hok tp _ hT)
      have e3 := ClsV.all k rv
      subst e3
      obtain ⟨oc, oD, dt, sl⟩ := o
      simp only at h2 h3
      subst h2 h3
      exact PySem.W.kia_tup (kitx_dict C) I.kIn J h1 e (fun z => nomatch z) fun tk => ⟨.bl b, H, I.tok tk, rfl, q⟩
end

/-! ### two promises of one def; a class of the program whose __init__ may raise -/
section
variable {P : Program} {w : World} {K : PySem.W.Frag} {mg : Str → Option Value} {base : Heap} {k : Nat} {f : Addr} {fd : FuncData} {ps : List Str} {sp0 sp1 : Sp}
/-- what a def does where all is well (no error leaves it), and what it raises elsewhere, shown apart -/
theorem fn_or (F0 : FnOk P w K mg base CX0 k f fd ps sp0) (F1 : FnOk P w K mg base (L2.CX P w) k f fd ps sp1) : FnOk P w K mg base (L2.CX P w) k f fd ps (fun vs H Q E => sp0 vs H Q E ∨ sp1 vs H Q E) where
  len := fun vs H Q E h => h.elim (F0.len vs H Q E) (F1.len vs H Q E)
  run := fun A outer s H args us vs Q E hr he hb hv h => by
    rcases h with h | h
    · refine codeAny_mono (F0.run A outer s H args us vs Q E hr he hb hv h) fun r s' q => ?_
      cases r with
      | error e => exact False.elim q
      | ok fl => cases fl <;> exact q
    · exact F1.run A outer s H args us vs Q E hr he hb hv h
end
section
variable {X : Cx} {CX : CXT} {k : Nat} {f C : Addr} {fd : FuncData} {ps : List Str} {sp : Sp} {E : L2.St → XK} {x : Str} {p pos : Pos} {e : Expr} {es : List Expr} {t : TA} {dvs : List V} {ds : List Value}
def tMakeL (C : Addr) (sp : Sp) (dvs : List V) (E : L2.St → XK) (t : TA) : TE := fun σ H Q => t σ H fun vs H1 => ∀ x dx, H1 x = none → H1 dx = none → dx ≠ x → sp (.ref x :: (vs ++ dvs)) (upd (upd H1 dx (.own x)) x (.ins C dx [])) (fun v H2 => v = .non ∧ Q (.ref x) H2) (E σ)
theorem run_makeL {pins : List (Addr × Obj)} {σ : L2.St} {H : Hp} {s : Shared} {Q : VK} {us : List Value} {vs : List V} (M : Mk X.K C f) (F : FnOk X.prog X.w X.K X.mg X.base CX k f fd ps sp) (hr : Room (k + 1) X.A) (hb : Binds X.K fd ps ds) (hd : Vals dvs ds) (hx : PassesAt CX X σ (E σ))
    (I : Inv X pins σ H s) (r : Vals vs us) (h : ∀ x dx, H x = none → H dx = none → dx ≠ x → sp (.ref x :: (vs ++ dvs)) (upd (upd H dx (.own x)) x (.ins C dx [])) (fun v H2 => v = .non ∧ Q (.ref x) H2) (E σ)) :
    wpAny (model X.prog X.w) X.A (call (.ref C) us) (EP X pins σ Q) X.xe s := by
  have hq := h (s.heap.objs.size + 1) s.heap.objs.size (I.hok.fresh (Nat.le_succ _)) (I.hok.fresh (Nat.le_refl _)) (Nat.ne_of_lt (Nat.lt_succ_self _))
  have I2 := Inv.made (C := C) I
  have r2 : Vals (V.ref (s.heap.objs.size + 1) :: (vs ++ dvs)) (Value.ref (s.heap.objs.size + 1) :: (us ++ ds)) := .cons rfl (r.append hd)
  have hl : (Value.ref (s.heap.objs.size + 1) :: us ++ ds).length = ps.length := by
    have e := r2.length
    rw [F.len _ _ _ _ hq] at e
    exact e.symm
  refine wpAny_call (make_map (f := f) I.kIn M.makes M.init (beq_iff_eq.mp M.fn) (codeAny_mono (F.run _ X.stack _ _ ⟨Value.ref (s.heap.objs.size + 1) :: us, []⟩ (Value.ref (s.heap.objs.size + 1) :: (us ++ ds)) _ _ (E σ) (hr.make C us [])
    (I2.env0.make C us []) (hb _ (Value.ref (s.heap.objs.size + 1) :: us) I2.kIn hl) r2 hq) fun r s' hq' => ?_))
  cases r with
  | error e => exact hx pins _ _ e s' I2 hq'
  | ok fl =>
    cases fl with
    | ret u =>
      obtain ⟨v, H', I3, rv, ev, q3⟩ := I2.after hq'
      subst ev
      exact ⟨rv, ⟨V.ref (s.heap.objs.size + 1), H', I3, rfl, q3⟩⟩
    | next => exact False.elim hq'
    | brk => exact False.elim hq'
    | cont => exact False.elim hq'
/-- C(e, ..), whose __init__ may raise -/
theorem pe_makeL (M : Mk X.K C f) (F : FnOk X.prog X.w X.K X.mg X.base CX k f fd ps sp) (hr : Room (k + 1) X.A) (hg : Gl X x) (hm : X.mg x = some (.ref C)) (hb : Binds X.K fd ps ds) (hd : Vals dvs ds) (hx : ∀ σ, PassesAt CX X σ (E σ))
    (ha : PA X (e :: es) t) (hdb : (x == ("__debug__" : Str)) = false := by decide) (he : starEach (e :: es) X.env = (false, eval e X.env) :: starEach es X.env := by rfl) (hpl : (backTo pos (starEach es X.env)).any (·.1) = false := by rfl) :
    PE X (.Call (.Name x p) (e :: es) [] pos) (tMakeL C sp dvs E t) := by
  refine ⟨fun pins s σ H Q I h => ?_⟩
  refine wpAny_Call_Name_kw (ld_glob I hg hm ?_ hdb)
  refine PySem.W.callWith_K (h₀ := X.base) I.ok.mod.kin M.kp (thn (ha.run pos pins s σ H _ I h) fun us s1 ⟨vs, H1, I1, r, q⟩ => ⟨I1.kIn, ?_⟩) he hpl
  exact run_makeL M F hr hb hd (hx σ) I1 r q
end

/-! ### errors with an own __init__ of one field over any built-in error (LookupError) -/
section
open PySem.W Builtin Builtin.ObjectAttr
variable {prog : Program} {w : World} {A : Around} {R : Result → Shared → Prop} {hp : Heap} {g : Array GenState} {d : Drawn} {tk0 : Nat} {os : OsState}
theorem osa_anyB {K : Frag} {name : Str} {tk : Tok} {v : Value} {x C t : Addr} {bmB : List Value} {B : String} (SF : StoreFacts B bmB "object.__setattr__" "object") (X : K.In hp) (hx : hp.get? x = some (excObj C t none .none)) (ho : excOver K C bmB = true) (hd : hasDictIn K C = true)
    (ha : findIn K (.ref C) name = some none)
    (hq : ∀ h' tk', (∀ b o, b ≠ x → hp.get? b = some o → h'.get? b = some o) → h'.get? x = some (excObj C t (some hp.objs.size) .none) → h'.Ns1 hp.objs.size (fun y => if y = name then some v else none) → R (.ok (.ret .none)) ⟨h', g, d, tk', os⟩) :
    codeAny (model prog w) A (.call (.builtin "object.__setattr__") ⟨[.ref x, .str name tk, v], []⟩) R ⟨hp, g, d, tk0, os⟩ := by
  have hxs : x ≠ hp.objs.size := Nat.ne_of_lt (Heap.lt_size hx)
  refine osa_openX (s := ⟨hp, g, d, tk0, os⟩) (od := none) (r := none) SF X ⟨hx, rfl, rfl, trivial⟩ ho (by unfold takerIn; rw [ha]; rfl) fun b => ?_
  obtain ⟨cd, hc, hd'⟩ := any_some hd
  refine wpAny_bind (wpAny_pure (wpAny_bind (instanceDict_exc hx (looks_clsIn X hc) hd' ?_)))
  show wpAny _ _ (storeInDict hp.objs.size (.str name tk) name v) _ _ _
  have at0 : (hp.push (dictOf [] 0)).get? hp.objs.size = some (dictOf [] 0) := Heap.get?_push_size _ rfl
  have x0 : (hp.push (dictOf [] 0)).get? x = some (excObj C t none .none) := Heap.get?_push_of_some _ hx
  refine HandSPX.store_in_new ⟨_, #[], _, (Heap.get?_update_ne _ _ _ _ hxs.symm).trans at0, rfl, fun e he => absurd he (by simp), fun _ => rfl⟩ fun h' tk' hn' hs => ?_
  refine hq h' tk' (fun b o hb e => ?_) ?_ hn'
  · exact (hs.2 b (Nat.ne_of_lt (Heap.lt_size e))).trans ((Heap.get?_update_ne _ _ _ _ hb).trans (Heap.get?_push_of_some _ e))
  · exact (hs.2 x hxs).trans (Heap.get?_update_self _ x0 rfl)
end
/-- a class of the program over the built-in error B, with an own __init__ that sets the field f -/
structure XcG (K : PySem.W.Frag) (bmB : List Value) (newId : String) (C fI : Addr) (f : Str) : Prop where
  ini : PySem.W.excInitIn K C bmB newId = true
  over : PySem.W.excOver K C bmB = true
  sa : PySem.W.findIn K (.ref C) "__setattr__" = some (some (.builtin "object.__setattr__"))
  kC : PySem.W.keepIn K (.ref C) = true
  ty : PySem.W.typeIn K (.ref C) = some (.type "type")
  iC : PySem.W.findIn K (.ref C) "__init__" = some (some (.ref fI))
  tI : PySem.W.typeIn K (.ref fI) = some (.type "function")
  no : PySem.W.findIn K (.ref C) f = some none
  ex : ExcC K C
section
variable {X : Cx} {pins : List (Addr × Obj)} {σ : L2.St} {H : Hp} {s : Shared} {bmB : List Value} {B newId initId : String} {C fI : Addr} {f : Str}
theorem set_field {a : Addr} {y : V} {u : Value} {Q : Unit → Shared → Prop} {E : Value → Shared → Prop} {A : Around} (SF : StoreFacts B bmB "object.__setattr__" "object") (G : XcG X.K bmB newId C fI f) (I : Inv X pins σ H s) (e : H a = some (exo a C none)) (ry : RelV y u)
    (h : ∀ dx s', H dx = none → dx ≠ a → Inv X pins σ (upd (upd H dx (exd dx [(f, y)])) a (exo a C (some dx))) s' → Q () s') : wpAny (model X.prog X.w) A (setAttr (.ref a) f u) Q E s := by
  obtain ⟨t1, ho⟩ := exo_at I.hok e
  have lt := Heap.lt_size ho
  have n0 : H s.heap.objs.size = none := I.hok.fresh (Nat.le_refl _)
  obtain ⟨hp, g, d, t, os⟩ := s
  refine PySem.W.set_plain I.kIn (ox := PySem.W.excObj C t1 none .none) (od := none) ⟨ho, rfl, rfl, trivial⟩ G.sa ?_
  refine osa_anyB SF I.kIn ho G.over G.ex.hd G.no fun h' tk' k hx hn => ?_
  have notA : ∀ {b : Addr}, H b = none → b ≠ a := fun n z => by
    rw [z, e] at n
    cases n
  have notN : ∀ {b : Addr} {o : Obj}, hp.get? b = some o → b ≠ hp.objs.size := fun q => Nat.ne_of_lt (Heap.lt_size q)
  have old : ∀ {b : Addr} {o : HO}, H b = some o → b ≠ a → upd (upd H hp.objs.size (exd hp.objs.size [(f, y)])) a (exo a C (some hp.objs.size)) b = some o := fun q n => by
    rw [upd_ne n, upd_ne (ne_of_none q n0)]
    exact q
  have U : Un X.fs [] H (upd (upd H hp.objs.size (exd hp.objs.size [(f, y)])) a (exo a C (some hp.objs.size))) hp h' :=
    ⟨fun b o q n _ _ => k b o (notA n) q, fun b o q n _ _ => ⟨_, k b o (notA n) q⟩, fun b o q n _ => by rw [upd_ne (notA n), upd_ne (notN q)]; exact n,
      fun b o q _ => by
        by_cases hb : b = a
        · subst hb
          exact ⟨_, hx⟩
        · exact ⟨o, k b o hb q⟩,
      fun b xs q => old q (at_ne e q exo_tup), fun b o v q => old q (at_ne e q exo_frz), fun b ps q => ⟨#[], by rw [old q (at_ne e q exo_tbl)]; simp⟩⟩
  refine h _ _ n0 (Nat.ne_of_gt lt) (I.un (t' := tk') U fun b o q => ?_)
  by_cases hb : b = a
  · subst hb
    rw [upd_same] at q
    cases q
    exact exo_ok hx
  · rw [upd_ne hb] at q
    by_cases hd : b = hp.objs.size
    · subst hd
      rw [upd_same] at q
      cases q
      exact exd_ok hn (relO_put (fs := []) ry fun g => True.intro)
    · rw [upd_ne hd] at q
      refine (I.hok b o q).stay (fun c v hc z => k c v ?_ z) (fun c hc => old hc (at_ne e hc exo_own)) (fun c xs hc => old hc (at_ne e hc exo_tup))
      rcases hc with rfl | hc
      · exact hb
      · exact at_ne e hc exo_own
/-- self.f = e in such an __init__ -/
theorem ps_field {o e : Expr} {to te : TE} {p' pos : Pos} (SF : StoreFacts B bmB "object.__setattr__" "object") (ho : PE X o to) (he : PE X e te) (hs : swapsWith e (some (.Attribute o f p')) pos.line X.env = pure false := by rfl) :
    PS X (.Assign [.Attribute o f p'] e pos) (fun D σ H => te σ H fun y H1 => to σ H1 fun x H2 => ∃ a C fI : Addr, x = .ref a ∧ XcG X.K bmB newId C fI f ∧ H2 a = some (exo a C none) ∧ ∀ dx, H2 dx = none → dx ≠ a → D.nx σ (upd (upd H2 dx (exd dx [(f, y)])) a (exo a C (some dx)))) := by
  refine ⟨fun pins s σ H D I h => ?_⟩
  refine plainObj_wpAny_Assign_Attribute (thn (he.run pins s σ H _ I h) fun v s1 hv => ?_) hs
  obtain ⟨y, H1, I1, r1, q1⟩ := hv
  refine thn (ho.run pins s1 σ H1 _ I1 q1) fun u s2 hu => ?_
  obtain ⟨x, H2, I2, r2, a, C, fI, rfl, G, ea, q⟩ := hu
  obtain rfl : u = Value.ref a := r2
  exact set_field SF G I2 ea r1 fun dx s' n ne J => ⟨σ, _, J, q dx n ne⟩
/-- C(e) -/
theorem pmk_G {x : Str} {k : Nat} {fd : FuncData} {ps : List Str} {p pos : Pos} {e : Expr} {ta : TA} (F : ExcBaseFacts B newId initId bmB) (N : XcN X.K X.mg x C) (G : XcG X.K bmB newId C fI f) (F1 : FnOk X.prog X.w X.K X.mg X.base CX0 k fI fd ps (sp_exc_init X.K C f)) (hr : Room (k + 1) X.A) (hb : Binds X.K fd ps [])
    (hg : Gl X x) (ha : PA X [e] ta) (hdb : (x == ("__debug__" : Str)) = false := by decide) (he : starEach (e :: []) X.env = (false, eval e X.env) :: starEach [] X.env := by rfl) (hpl : (backTo pos (starEach [] X.env)).any (·.1) = false := by rfl) :
    PMk X (.Call (.Name x p) [e] [] pos) (tMk1 C f ta) := by
  intro pins s σ H Q I h
  refine wpAny_Call_Name_kw (ld_glob I hg N.g ?_ hdb)
  refine PySem.W.callWith_K (h₀ := X.base) I.ok.mod.kin G.kC (thn (ha.run pos pins s σ H _ I h) fun us s1 hh => ?_) he hpl
  obtain ⟨vs, H1, I1, r1, v, rfl, q⟩ := hh
  refine ⟨I1.kIn, ?_⟩
  cases r1 with
  | cons rv rn =>
    rename_i u us'
    cases rn
    show wpAny _ _ (call (.ref C) [u]) _ _ _
    obtain ⟨nm, Nn, qn, bs, bm, hdct, sn, sub, ab, col, dd, k0, k1, k2, k3, k5, hC, hT⟩ := PySem.W.excInit_of I1.kIn G.ini
    obtain ⟨hp, g, dr, tk, os⟩ := s1
    have big : hp.objs.size ≤ hp.objs.size + 1 := Nat.le_succ _
    have na : H1 (hp.objs.size + 1) = none := I1.hok.fresh big
    have got : ((hp.push (PySem.W.kdv_tup [u])).push (PySem.HandSPX.excO C hp.objs.size)).get? (hp.objs.size + 1) = some (PySem.HandSPX.excO C hp.objs.size) := by heap_get
    have kk : ∀ b o, hp.get? b = some o → ((hp.push (PySem.W.kdv_tup [u])).push (PySem.HandSPX.excO C hp.objs.size)).get? b = some o := fun b o z => Heap.get?_push_of_some _ (Heap.get?_push_of_some _ z)
    have I2 := I1.laid (t' := tk) (a := hp.objs.size + 1) (o := exo (hp.objs.size + 1) C none) kk big (exo_ok got)
    have lay : ∀ dx, upd H1 (hp.objs.size + 1) (exo (hp.objs.size + 1) C none) dx = none → dx ≠ hp.objs.size + 1 → H1 dx = none := fun dx n ne => by
      rw [upd_ne ne] at n
      exact n
    refine wpAny_call (PySem.HandSPX.call_own F hT hC (PySem.W.looks_findIn I1.kIn G.iC) (fun self => PySem.W.bind_fn I1.kIn self G.tI) (by show 1 ≤ sizeLine; rw [sizeLine_eq]; decide)
      (codeAny_mono (F1.run _ X.stack _ _ ⟨[.ref (hp.objs.size + 1), u], []⟩ [.ref (hp.objs.size + 1), u] [.ref (hp.objs.size + 1), v] (fun r H2 => r = .non ∧ ∃ dx, H1 dx = none ∧ dx ≠ hp.objs.size + 1 ∧ H2 = upd (upd (upd H1 (hp.objs.size + 1) (exo (hp.objs.size + 1) C none)) dx (exd dx [(f, v)])) (hp.objs.size + 1) (exo (hp.objs.size + 1) C (some dx)))
        (fun _ _ _ => False) (hr.make C [u] []) (I2.env0.make C [u] []) (hb _ [.ref (hp.objs.size + 1), u] I2.kIn (F1.len [.ref (hp.objs.size + 1), v] (upd H1 (hp.objs.size + 1) (exo (hp.objs.size + 1) C none)) (fun _ _ => True) (fun _ _ _ => True) ⟨_, v, rfl, upd_same, fun _ _ _ => trivial⟩)) (.cons rfl (.cons rv .nil)) ⟨_, v, rfl, upd_same, fun dx n ne => ⟨rfl, dx, lay dx n ne, ne, rfl⟩⟩) fun r s' hq => ?_))
    cases r with
    | error er => exact hq.elim
    | ok fl =>
      cases fl with
      | next => exact False.elim hq
      | brk => exact False.elim hq
      | cont => exact False.elim hq
      | ret ur =>
        obtain ⟨z, H2, os2, bare2, un2, hok2, rz, ez, dx, nd, ne, eH⟩ := hq
        subst ez eH
        obtain ⟨h2, g2, d2, t2, os'⟩ := s'
        refine ⟨rz, mk_end (d := dx) (fs := [(f, v)]) (raises_own N.ba N.ty) I1 big kk un2 hok2 os2 bare2 upd_same (by rw [upd_ne ne]; exact upd_same) nd ?_⟩
        have eq : upd (del (upd (upd (upd H1 (hp.objs.size + 1) (exo (hp.objs.size + 1) C none)) dx (exd dx [(f, v)])) (hp.objs.size + 1) (exo (hp.objs.size + 1) C (some dx))) (hp.objs.size + 1)) dx (.xd [(f, v)]) = upd H1 dx (.xd [(f, v)]) := by
          funext b
          by_cases hb : b = dx
          · rw [hb, upd_same, upd_same]
          · rw [upd_ne hb, upd_ne hb]
            by_cases ha : b = hp.objs.size + 1
            · rw [ha, del_same, na]
            · rw [del_ne ha, upd_ne ha, upd_ne hb, upd_ne ha]
        rw [eq]
        exact q dx nd
end
abbrev bmLE : List Value := [.type "LookupError", .type "Exception", .type "BaseException", .type "object"]
section
variable {K : PySem.W.Frag} {mg : Str → Option Value} {bmB : List Value} {newId : String} {C D fI : Addr} {f : Str}
theorem XcG.xf (G : XcG K bmB newId C fI f) : XfC K C := ⟨G.ex.hg, G.ex.hk, G.ex.hs, G.ex.hd⟩
theorem init_self (q : PySem.W.excInitIn K C bmB newId = true) : PySem.W.subIn K (.ref C) (.ref C) = some true := by
  unfold PySem.W.excInitIn at q
  split at q
  · rename_i dd cd sl ho
    split at q
    · rename_i C' bm k0 k1 k2 k3 n' k5 hm hs
      simp only [Bool.and_eq_true, beq_iff_eq] at q
      obtain ⟨⟨⟨rfl, _⟩, _⟩, _⟩ := q
      have hc : PySem.W.clsIn K C' = some cd := by
        unfold PySem.W.clsIn
        rw [ho] <;> rfl
      show PySem.W.mroIn K C' (.ref C') = some true
      unfold PySem.W.mroIn
      rw [hc]
      show (if cd.mro.isEmpty = true then none else some (cd.mro.contains (.ref C'))) = some true
      rw [hm, List.contains_cons, beq_self_eq_true]
      rfl
    · cases q
  · cases q
theorem XcG.ne (G : XcG K bmB newId D fI f) (h : PySem.W.subIn K (.ref D) (.ref C) = some false) : D ≠ C := fun e => by
  have z := init_self G.ini
  rw [e] at z h
  rw [z] at h
  cases h
end
section
variable {X : Cx}
/-- raise C(e), C over the built-in error B -/
theorem ps_raiseG {bmB : List Value} {B newId initId : String} {W : WX} {x f : Str} {C fI : Addr} {k : Nat} {fd : FuncData} {ps : List Str} {p pos pos2 : Pos} {e : Expr} {ta : TA} (F : ExcBaseFacts B newId initId bmB) (hc : X.calm = true) (tk : Takes X W) (N : XcN X.K X.mg x C) (G : XcG X.K bmB newId C fI f)
    (F1 : FnOk X.prog X.w X.K X.mg X.base CX0 k fI fd ps (sp_exc_init X.K C f)) (hr : Room (k + 1) X.A) (hb : Binds X.K fd ps []) (hg : Gl X x) (ha : PA X [e] ta) (hdb : (x == ("__debug__" : Str)) = false := by decide)
    (he : starEach (e :: []) X.env = (false, eval e X.env) :: starEach [] X.env := by rfl) (hpl : (backTo pos (starEach [] X.env)).any (·.1) = false := by rfl) :
    PS X (.Raise (some (.Call (.Name x p) [e] [] pos)) none pos2) (fun _ σ H => tMk1 C f ta σ H fun cls d H' => W cls d σ H') := ps_raise hc tk (pmk_G F N G F1 hr hb hg ha hdb he hpl)
end

/-! ### a comprehension out of whose items an exception may fly -/
section
variable {M : Model} {A : Around} {E : Value → Shared → Prop} {s : Shared} {env : Env}
/-- behind the block, the block's own frame told -/
def ovr (M : Model) (A : Around) (E : Value → Shared → Prop) (use : Option (Value → Sem Unit)) (Q : Value → Shared → Prop) (acc : Value) (ce : Env) : Result → Shared → Prop
  | .ok _, t => match use with
    | none => ∃ m, t.heap.Ns ce.locals m ∧ ∀ k, Heap.SameBut ce.locals t.heap k → Q acc { t with heap := k }
    | some f => wpAny M A (f acc) (fun _ t1 => ∃ m, t1.heap.Ns ce.locals m ∧ ∀ k, Heap.SameBut ce.locals t1.heap k → Q .none { t1 with heap := k }) E t
  | .error x, t => ∃ m, t.heap.Ns ce.locals m ∧ ∀ k, Heap.SameBut ce.locals t.heap k → wpAny M A (PySem.passOn "comprehension.variables-let-go" x ce : Sem Value) (fun _ _ => False) E { t with heap := k }
theorem comp_tell {e : Expr} {sc : Scope} {pos : Pos} {nw fi : Sem Value} {g : Comprehension} {gs : List Comprehension} {cl : List (Str × Addr)} {use : Option (Value → Sem Unit)} {Q : Value → Shared → Prop}
    (h1 : clausesOf e = g :: gs) (h2 : ∀ x, foldedSetIterable g.iter env x = pure x) (h3 : closureFor sc env = pure cl) (h4 : sc.kind = .function) (h5 : ∀ x ∈ sc.names, x.2 = .local → sc.names.lookup x.1 = some .local)
    (h : wpAny M A fi (fun x t1 => wpAny M A (pyIter x) (fun it t2 => wpAny M A nw (fun acc t3 => wpAny M A (newFunctionEnv sc env.globals cl [] env.qual none .none (some env)) (fun ce t4 =>
      codeAny M A (.compStart e 0 it acc { ce with scope := relabel sc env }) (ovr M A E use Q acc { ce with scope := relabel sc env }) t4) E t3) E t2) E t1) E s) :
    wpAny M A (comprehension e sc env pos nw false fi use) Q E s := by
  have up : ∀ {α : Type} {t : Sem α} {Q1 Q2 : α → Shared → Prop} {t0 : Shared}, wpAny M A t Q1 E t0 → (∀ a t1, Q1 a t1 → Q2 a t1) → wpAny M A t Q2 E t0 := fun p q => wpAny_mono p q fun _ _ z => z
  unfold comprehension
  rw [h3, h1]
  refine wpAny_bind (up h fun x t1 q1 => wpAny_bind (wpAny_standAt (wpAny_bind (wpAny_of_eq (h2 x) (wpAny_bind (wpAny_holding (up q1 fun it t2 q2 => wpAny_standIf (wpAny_bind (up q2 fun acc t3 q3 => wpAny_bind (wpAny_pure (wpAny_bind (up q3 fun ce t4 q4 => ?_))))))))))))
  dsimp only
  have loc : ∀ x ∈ (sc.names.filter fun x => (x.2 == .local || x.2 == .cell) && x.1 != (".0" : Str)).reverse, x.2 = .local → Env.kindOf { ce with scope := relabel sc env } x.1 = some .local :=
    fun x hx hl => lookup_relabel_local (h5 x (List.mem_filter.mp (List.mem_reverse.mp hx)).1 hl)
  refine wpAny_holding (wpAny_bind (wpAny_attempt (wpAny_holding (wpAny_run (codeAny_mono q4 fun r t' hr => ?_)))))
  cases r with
  | ok f =>
    cases use with
    | none =>
      obtain ⟨m, hn, hr⟩ := hr
      exact wpAny_bind (wpAny_holding (wpAny_comp_letGo (cenv := { ce with scope := relabel sc env }) h4 _ t' m loc hn fun k _ _ sb => wpAny_pure (hr k sb)))
    | some us =>
      have loc2 : ∀ x ∈ (sc.names.filter fun x => (x.2 == .local || x.2 == .cell) && x.1 != (".0" : Str)).reverse.drop 1 ++ (sc.names.filter fun x => (x.2 == .local || x.2 == .cell) && x.1 != (".0" : Str)).reverse.take 1, x.2 = .local → Env.kindOf { ce with scope := relabel sc env } x.1 = some .local :=
        fun x hx hl => (List.mem_append.mp hx).elim (fun z => loc x (List.mem_of_mem_drop z) hl) fun z => loc x (List.mem_of_mem_take z) hl
      refine wpAny_bind (wpAny_rule (wpAny_bind (wpAny_holding (up hr fun _ t1 ⟨m, hn, hq⟩ => ?_))))
      exact wpAny_bind (wpAny_comp_letGo (cenv := { ce with scope := relabel sc env }) h4 _ t1 m loc2 hn fun k _ _ sb => wpAny_pure (hq k sb))
  | error x =>
    obtain ⟨m, hn, hr⟩ : ∃ m, t'.heap.Ns ce.locals m ∧ ∀ k, Heap.SameBut ce.locals t'.heap k → wpAny M A (PySem.passOn "comprehension.variables-let-go" x { ce with scope := relabel sc env } : Sem Value) (fun _ _ => False) E { t' with heap := k } := hr
    exact wpAny_bind (wpAny_holding (wpAny_comp_letGo (cenv := { ce with scope := relabel sc env }) h4 _ t' m loc hn fun k _ _ sb => wpAny_mono (hr k sb) (fun _ _ f => f.elim) fun _ _ y => y))
end
theorem ns_slots {h k : Heap} {C : Addr} {m : Str → Option Value} (n : h.Ns C m) (u : h.UpToSlots k) : k.Ns C m := by
  obtain ⟨o, es, ep, e, d, r⟩ := n
  obtain ⟨sl, q⟩ := u C o e (fun vs z => by rw [d] at z; cases z)
  exact ⟨_, es, ep, q, d, r⟩
theorem frames_less {h B B' : Heap} (n : ∀ b, B.get? b = none → B'.get? b = none) : ∀ {l : List Env}, h.FunFrames B l → h.FunFrames B' l
  | [], _ => trivial
  | _ :: _, ⟨k, ⟨L, o, f, b, r⟩, z⟩ => ⟨k, ⟨L, o, f, n L b, r⟩, frames_less n z⟩
theorem frames_but {h k B : Heap} {C : Addr} (sb : Heap.SameBut C h k) : ∀ {l : List Env}, C ∉ frs l → h.FunFrames B l → k.FunFrames B l
  | [], _, _ => trivial
  | e :: l, nc, ⟨kd, ⟨L, o, f, b, g, r⟩, z⟩ => by
    have ne : L ≠ C := fun q => nc (List.mem_filterMap.mpr ⟨e, List.mem_cons_self, by rw [f, q]⟩)
    refine ⟨kd, ⟨L, o, f, b, (sb.2 L ne).trans g, r⟩, frames_but sb (fun q => nc ?_) z⟩
    obtain ⟨e', m', q'⟩ := List.mem_filterMap.mp q
    exact List.mem_filterMap.mpr ⟨e', List.mem_cons_of_mem _ m', q'⟩
/-- an exception in the air of X that came out of a block with the names' object C: the ground does without C -/
def XEC (X : Cx) (E : XK) (C : Addr) (u : Value) (t : Shared) : Prop :=
  ∃ (a : Addr) (B : Heap) (tI : Shared) (pins : List (Addr × Obj)) (σ : L2.St) (H : Hp) (cls : Value) (d : Option Addr), u = .ref a ∧ Inv X pins σ H tI ∧ (∀ b o, tI.heap.get? b = some o → b ∉ frs X.stack → B.get? b = some o) ∧ tI.heap.UpToSlots t.heap ∧
    HandSPX.FlyingZ B X.stack a (Zc cls d) t.heap ∧ B.get? C = none ∧ tI.heap.get? C = none ∧ C ∉ frs X.stack ∧ H a = none ∧ t.os = tI.os ∧ AllBare t.gens ∧ E cls d H ∧ ∃ m, t.heap.Ns C m
theorem xec_of {X : Cx} {pins : List (Addr × Obj)} {σ : L2.St} {H : Hp} {s t : Shared} {E : XK} {C : Addr} {m : Str → Option Value} {u : Value} (I : Inv X pins σ H s) (f : FpOk X pins H C) (hn : s.heap.Ns C m) (c : L2.CX X.prog X.w X.stack H s E u t) : XEC X E C u t := by
  obtain ⟨a, B, H', cls, d, rfl, fl, hok, ub, na, os, ag, hE⟩ := c
  obtain ⟨oC, es, ep, eC, dC, rC⟩ := id hn
  have nst : C ∉ frs X.stack := fun z => (List.mem_cons.mp (I.stkSub C z)).elim f.2.1 f.2.2.1
  have BC : B.get? C = some oC := ub.keep C oC eC f.1 nst
  have off : ∀ b, B.get? b = none → (PySem.W.hideAll B [C]).get? b = none := fun b z => by
    cases q : (PySem.W.hideAll B [C]).get? b with
    | none => rfl
    | some o =>
      rw [PySem.W.of_hideAll _ q] at z
      cases z
  have hidC : (PySem.W.hideAll B [C]).get? C = none := PySem.W.hideAll_none _ List.mem_cons_self
  have sub : ∀ b o, (PySem.W.hideAll B [C]).get? b = some o → B.get? b = some o := fun b o z => PySem.W.of_hideAll _ z
  have ins : ∀ b o, b ≠ C → B.get? b = some o → (PySem.W.hideAll B [C]).get? b = some o := fun b o n z => PySem.W.hideAll_get _ z (fun w => n (List.mem_singleton.mp w))
  generalize PySem.W.hideAll B [C] = B' at off hidC sub ins
  obtain ⟨G, g1, g2⟩ := restrict t.heap fun b => (B'.get? b).isSome || decide (b ∈ frs X.stack)
  have st : ∀ b o, B'.get? b = some o → t.heap.get? b = some o := fun b o e => fl.1 b o (sub b o e)
  have gB : ∀ b o, B'.get? b = some o → G.get? b = some o := fun b o e => by
    rw [g1 b (by simp [e])]
    exact st b o e
  have gF : ∀ b, b ∈ frs X.stack → G.get? b = t.heap.get? b := fun b hb => g1 b (by simp [hb])
  have gN : ∀ b o, G.get? b = some o → t.heap.get? b = some o ∧ ((B'.get? b).isSome = true ∨ b ∈ frs X.stack) := fun b o e => by
    cases q : ((B'.get? b).isSome || decide (b ∈ frs X.stack)) with
    | false =>
      rw [g2 b q] at e
      cases e
    | true =>
      rw [g1 b q] at e
      exact ⟨e, by simpa [Bool.or_eq_true] using q⟩
  have GC : G.get? C = none := by
    cases e : G.get? C with
    | none => rfl
    | some o =>
      rcases (gN C o e).2 with z | z
      · rw [hidC] at z
        cases z
      · exact absurd z nst
  have fl' : HandSPX.FlyingZ B' X.stack a (Zc cls d) t.heap := by
    obtain ⟨f1, f2, f3, oe, vs, T, oT, ts, r1, r2, r3, r4, r5, r6⟩ := fl
    exact ⟨st, off _ f2, frames_less off f3, oe, vs, T, oT, ts, r1, r2, r3, r4, off _ r5, r6⟩
  have nC' : H' C = none := ub.free C oC eC f.1
  have hokG : HOk X.prog X.w H' G := fun x o e => (hok x o e).stay (fun b v hb q => gB b v (ins b v (fun z => by
    rcases hb with rfl | hb
    · rw [z, nC'] at e
      cases e
    · rw [z, nC'] at hb
      cases hb) q)) (fun _ q => q) fun _ _ q => q
  have tC : ∃ m, t.heap.Ns C m := ⟨m, oC, es, ep, fl.1 _ _ BC, dC, rC⟩
  refine ⟨a, B', { s with heap := G, gens := t.gens, drawn := t.drawn, toks := t.toks }, pins, σ, H', cls, d, rfl, ?_, fun b o e hb => ?_, Heap.UpToSlots.of_keeps fun b o e => (gN b o e).1, fl', hidC, GC, nst, na, os, ag, hE, tC⟩
  · refine I.call (ch := [C]) ⟨fun b o e n hb hc => gB b o (ins b o (fun z => hc (by rw [z]; exact List.mem_cons_self)) (ub.keep b o e n hb)), fun b o e n hb _ => ?_, fun b o e n _ => ub.free b o e n, fun b o e hc => ?_, ub.tups, ub.frzs, ub.tbls⟩ hokG ag (fun b hb => ?_)
    · obtain ⟨sl, q⟩ := ub.slot b o e hb
      exact ⟨sl, (gF b hb).trans q⟩
    · by_cases hb : b ∈ frs X.stack
      · obtain ⟨sl, q⟩ := ub.slot b o e hb
        exact ⟨_, (gF b hb).trans q⟩
      · obtain ⟨o', q⟩ := ub.there b o e hb
        exact ⟨o', gB b o' (ins b o' (fun z => hc (by rw [z]; exact List.mem_cons_self)) q)⟩
    · rw [List.mem_singleton.mp hb]
      exact ⟨f.2.2.2.1, f.2.1, f.2.2.2.2.1, f.2.2.2.2.2⟩
  · obtain ⟨e', z⟩ := gN b o e
    rcases z with z | z
    · obtain ⟨o', q⟩ := Option.isSome_iff_exists.mp z
      have w := st b o' q
      rw [e'] at w
      cases w
      exact q
    · exact absurd z hb
/-- it leaves the block -/
theorem xec_out {X : Cx} {E : XK} {C : Addr} {u : Value} {t : Shared} {ce : Env} (hs : X.stack = X.env :: X.outer) (hf : X.env.frame = some X.env.locals) (hce : ce.frame = X.env.frame) (tk : Takes X fun cls d _ H => E cls d H) (x : XEC X E C u t) :
    notedBy (model X.prog X.w) X.A ce (fun e t1 => ∃ m, t1.heap.Ns C m ∧ ∀ k, Heap.SameBut C t1.heap k → wpAny (model X.prog X.w) X.A (PySem.passOn "comprehension.variables-let-go" e ce : Sem Value) (fun _ _ => False) X.xe { t1 with heap := k }) u t := by
  obtain ⟨a, B, tI, pins, σ, H, cls, d, rfl, I, nb, up, fl, bC, iC, nst, na, os, ag, w, m, hn⟩ := x
  have hfr : X.A.frames = some (X.env :: X.outer) := I.ok.frames.trans (congrArg some hs)
  have same : noteFrame (.ref a) ce = noteFrame (.ref a) X.env := by
    unfold noteFrame PySem.frameOf
    rw [hce]
  show wpAny (model X.prog X.w) X.A (noteFrame (.ref a) ce) _ _ t
  rw [same]
  rw [hs] at fl nst
  refine HandSPX.looks_onZ Zc.steady hfr hf fl fun k1 hh up1 => ?_
  refine ⟨m, ns_slots hn up1, fun k2 sb => ?_⟩
  obtain ⟨oC, es, ep, eC, dC, _⟩ := ns_slots hn up1
  obtain ⟨f1, f2, f3, oe, vs, T, oT, ts, r1, r2, r3, r4, r5, r6, r7, r8, r9⟩ := hh
  have nfl : ∀ {b : Addr} {o : Obj} {ws : Array Value}, k1.get? b = some o → o.data = .fields ws → b ≠ C := fun e z q => by
    rw [q] at e
    have eC : k1.get? C = some oC := eC
    rw [eC] at e
    cases e
    rw [dC] at z
    cases z
  have e1 : k2.get? a = some oe := (sb.2 a (nfl r1 r3)).trans r1
  have e2 : k2.get? T = some oT := (sb.2 T (nfl r7 r8)).trans r7
  have st2 : B.StaysIn k2 := fun b o e => (sb.2 b fun z => by rw [z, bC] at e; cases e).trans (f1 b o e)
  have up2 : tI.heap.UpToSlots k2 := fun b o e n => by
    obtain ⟨sl, q⟩ := (up.trans up1) b o e n
    exact ⟨sl, (sb.2 b fun z => by rw [z, iC] at e; cases e).trans q⟩
  unfold PySem.passOn
  refine wpAny_bind (wpAny_field e1 r3 r4 ?_)
  rw [if_neg (show ¬ ((Value.ref T == Value.none) = true) from by simp)]
  have fin : wpAny (model X.prog X.w) X.A (setFlight (.ref a) ce.frame) (fun _ t4 => wpAny (model X.prog X.w) X.A (throw (.ref a) : Sem Value) (fun _ _ => False) X.xe t4) X.xe { t with heap := k2 } := by
    rw [hce, hf]
    refine HandSPX.setFlight_anyZ (base := B) (l := X.env :: X.outer) (fl := rawInt X.env.locals) (Z := Zc cls d) st2 (frames_but sb nst f3) ⟨oe, vs, T, oT, ts, e1, r2, r3, r4, r5, r6, e2, r8, r9⟩ fun k4 g1 g2 g3 up4 => wpAny_throw (tk _ _ ?_)
    exact ⟨a, B, tI, pins, σ, H, cls, d, rfl, I, nb, up2.trans up4, .inr (.inr (by rw [hs]; exact ⟨g1, f2, g2, g3⟩)), na, os, ag, w⟩
  first
    | exact wpAny_bind (wpAny_pure (wpAny_bind fin))
    | exact wpAny_bind fin
/-- the block, from whose items an exception may fly: told raw -/
abbrev rawX (X : Cx) (Y : Cx) (E : XK) (u : Value) (t : Shared) : Prop := ∃ pins σ H s, Inv Y pins σ H s ∧ L2.CX X.prog X.w X.stack H s E u t
abbrev blkX (X : Cx) (E : XK) (s : Shared) (H : Hp) (sc : Scope) (ce : Env) (fp : List Addr) : Cx := (X.blk s H sc ce fp).wish (rawX X (X.blk s H sc ce fp) E)
theorem pass_blk {X : Cx} {E : XK} {s : Shared} {H : Hp} {sc : Scope} {ce : Env} {fp : List Addr} (σ : L2.St) : PassesAt (L2.CX X.prog X.w) (blkX X E s H sc ce fp) σ (WE (fun cls d _ H => E cls d H) σ) := fun pins H' s' e t I c => ⟨pins, σ, H', s', I.unwish, c⟩
theorem lcX_core {X : Cx} {E : XK} {pins : List (Addr × Obj)} {s : Shared} {σ : L2.St} {H : Hp} {Q : VK} {use : Option (Value → Sem Unit)} {Qf : Value → Shared → Prop} {elt tg iter : Expr} {ifs : List Expr} {sc : Scope} {own : List (Str × Nat)} {pos pos' : Pos} {wi : TI} {g : TG} {tt : TT} {te : TE} (hc : X.calm = true) (hN : X.N.Nodup) (hi : PI X tg iter wi) (ok : BlkOk X.N X.env.scope sc own)
    (hs : X.stack = X.env :: X.outer) (hf : X.env.frame = some X.env.locals) (tk : Takes X fun cls d _ H => E cls d H)
    (hg : ∀ (s : Shared) (H : Hp) (C : Addr) (cl : List (Str × Addr)) (fp : List Addr), PG (X.blk s H sc (compEnvC sc cl C X.env) fp) tg g) (ht : ∀ (s : Shared) (H : Hp) (C : Addr) (cl : List (Str × Addr)) (fp : List Addr), PTs (X.blk s H sc (compEnvC sc cl C X.env) fp) ifs tt)
    (he : ∀ (s : Shared) (H : Hp) (C : Addr) (cl : List (Str × Addr)) (fp : List Addr), PE (blkX X E s H sc (compEnvC sc cl C X.env) fp) elt te) (hfi : ∀ x, foldedSetIterable iter X.env x = pure x) (I : Inv X pins σ H s) (h : tLc wi g tt te (own.map (·.2)) σ H Q)
    (hRR : ∀ D ce t m G, Inv X pins σ G t → Q (.ref D) G → t.heap.Ns ce.locals m → FpOk X pins G ce.locals → ovr (model X.prog X.w) X.A X.xe use Qf (.ref D) ce (.ok .next) t) :
    wpAny (model X.prog X.w) X.A (comprehension (.ListComp elt [⟨tg, iter, ifs, 0⟩] sc pos) sc X.env pos' (newList []) false (eval iter X.env) use) Qf X.xe s := by
  have frees : ∀ y ∈ sc.names, y.2 = .free → ∃ c, X.env.cells.lookup y.1 = some c := fun y hy e => (ok.free y hy e).elim (fun k => I.ok.has _ (.inl k)) fun k => I.ok.has _ (.inr k)
  refine comp_tell rfl hfi (closure_ok frees) ok.kind (fun y hy e => by rw [ok.uniq y hy, e]) (thn (hi.run pins s σ H _ I h) fun xv u1 hx => thn hx fun itv u2 q2 => ?_)
  obtain ⟨it, fp, tn, J, G2, rfl, J2, T, stu2, fu2, q⟩ := q2
  refine wpAny_newObj_type (newEnv_comp ?_) (by show 0 ≤ sizeLine; decide)
  generalize eD : u2.heap.objs.size = D
  have nD : G2 D = none := J2.hok.fresh (Nat.le_of_eq eD)
  obtain ⟨W, ⟨m0, w0⟩, turn⟩ := q D nD
  generalize eu3 : ({ u2 with heap := u2.heap.push { cls := .type "list", data := .seq ([] : List Value).toArray } } : Shared) = u3
  have J3 : Inv X pins σ (upd G2 D (.lst [])) u3 := by
    rw [← eu3]
    refine J2.laid (t' := u2.toks) (fun b o e => Heap.get?_push_of_some _ e) (Nat.le_of_eq eD) ⟨Nat.zero_le _, [], 0, .nil, ?_⟩
    rw [← eD]
    exact Heap.get?_push_size _ rfl
  have hp3 : u3.heap = u2.heap.push { cls := .type "list", data := .seq ([] : List Value).toArray } := by rw [← eu3]
  have fu3 : ∀ b ∈ fp, FpOk X pins (upd G2 D (.lst [])) b ∧ b < u3.heap.objs.size := fun b hb => by
    obtain ⟨o, e, _⟩ := T.obj _ _ stu2 b hb
    have lt := Heap.lt_size e
    refine ⟨⟨?_, (fu2 b hb).2⟩, by rw [hp3, Heap.size_push]; exact Nat.lt_succ_of_lt lt⟩
    rw [upd_ne (by rw [← eD]; exact Nat.ne_of_lt lt)]
    exact (fu2 b hb).1
  have stu3 : tn 0 u3.heap := T.keep _ _ _ stu2 fun b _ o e => by rw [hp3]; exact Heap.get?_push_of_some _ e
  have J4 := block_start J3 ok hN fu3
  have pg := hg u3 (upd G2 D (.lst [])) u3.heap.objs.size (cellsFrom (u3.heap.objs.size + 1) sc.names (cloFrom X.env.cells sc.names [])) fp
  have pt := ht u3 (upd G2 D (.lst [])) u3.heap.objs.size (cellsFrom (u3.heap.objs.size + 1) sc.names (cloFrom X.env.cells sc.names [])) fp
  have pe := he u3 (upd G2 D (.lst [])) u3.heap.objs.size (cellsFrom (u3.heap.objs.size + 1) sc.names (cloFrom X.env.cells sc.names [])) fp
  show codeAny (model X.prog X.w) X.A (.compStart (.ListComp elt [⟨tg, iter, ifs, 0⟩] sc pos) 0 (.ref it) (.ref D) (compEnvC sc (cellsFrom (u3.heap.objs.size + 1) sc.names (cloFrom X.env.cells sc.names [])) u3.heap.objs.size X.env)) (ovr (model X.prog X.w) X.A X.xe use Qf (.ref D) (compEnvC sc (cellsFrom (u3.heap.objs.size + 1) sc.names (cloFrom X.env.cells sc.names [])) u3.heap.objs.size X.env)) _
  have nfp : ∀ b ∈ fp, (upd G2 D (.lst [])) b = none := fun b hb => (fu3 b hb).1.1
  have ceF : (compEnvC sc (cellsFrom (u3.heap.objs.size + 1) sc.names (cloFrom X.env.cells sc.names [])) u3.heap.objs.size X.env).frame = X.env.frame := rfl
  have ceL : (compEnvC sc (cellsFrom (u3.heap.objs.size + 1) sc.names (cloFrom X.env.cells sc.names [])) u3.heap.objs.size X.env).locals = u3.heap.objs.size := rfl
  generalize compEnvC sc (cellsFrom (u3.heap.objs.size + 1) sc.names (cloFrom X.env.cells sc.names [])) u3.heap.objs.size X.env = ce at J4 pg pt pe ceF ceL ⊢
  generalize upd G2 D (.lst []) = G3 at J3 J4 pg pt pe w0 nfp fu3
  generalize eu4 : ({ u3 with heap := pushCells (u3.heap.push { cls := .type "dict", data := .dict #[] }) sc.names } : Shared) = u4 at J4 ⊢
  have stu4 : tn 0 u4.heap := T.keep _ _ _ stu3 fun b _ o e => by rw [← eu4]; exact pushCells_keeps _ _ _ _ (Heap.get?_push_of_some _ e)
  -- the def's own context, and what is told of the block's names
  have home : ∀ {pn : List (Addr × Obj)} {σ5 : L2.St} {G5 : Hp} {u5 : Shared}, Inv (X.blk u3 G3 sc ce fp) pn σ5 G5 u5 → Inv X pins σ G5 u5 ∧ FpOk X pins G5 ce.locals ∧ ∃ m, u5.heap.Ns ce.locals m := fun {pn σ5 G5 u5} K => by
    have nC : G5 u3.heap.objs.size = none := by
      have z : G5 ce.locals = none := K.free
      rw [ceL] at z
      exact z
    obtain ⟨m, hn, _⟩ := K.loc
    rw [ceL]
    exact ⟨J3.call' (ch := fp) K.os K.base K.hok K.bare fun b hb => ⟨(fu3 b hb).1.2.2.2.1, (fu3 b hb).1.2.1, (fu3 b hb).1.2.2.2.2.1, (fu3 b hb).1.2.2.2.2.2⟩, J3.fpOk (Nat.le_refl _) nC, m, by rw [← ceL]; exact hn⟩
  have stat : ∀ {σ5 : L2.St} {G5 : Hp} {u5 : Shared}, Inv (X.blk u3 G3 sc ce fp) [] σ5 G5 u5 → (∀ b ∈ fp, G5 b = none) → ∀ b ∈ fp, FpOk (X.blk u3 G3 sc ce fp) [] G5 b := fun {σ5 G5 u5} K n b hb =>
    ⟨n b hb, (K.ok.exf b hb).1, K.ok.exfs b hb, .inl hb, fun x c e => (K.ok.exf b hb).2 x c e, fun p hp => absurd (show p ∈ ([] : List (Addr × Obj)) ++ [] from hp) (by simp)⟩
  have loop : codeAny (model X.prog X.w) X.A (.compLoop (.ListComp elt [⟨tg, iter, ifs, 0⟩] sc pos) 0 (.ref it) (.ref D) ce) (ovr (model X.prog X.w) X.A X.xe use Qf (.ref D) ce) u4 := by
    refine compLoop_any (fun n t => ∃ i G, Inv (X.blk u3 G3 sc ce fp) [] (wipe σ (own.map (·.2))) G t ∧ tn i t.heap ∧ (∀ b ∈ fp, G b = none) ∧ W i n G) ?_ m0 ⟨0, G3, J4, stu4, nfp, w0⟩
    rintro n u5 ⟨i, G5, J5, stu5, n5, w5⟩
    rcases turn i n G5 w5 with ⟨stop, qq⟩ | ⟨go, Nx, hNx, step⟩
    · refine thnF (T.done (X.blk u3 G3 sc ce fp) rfl rfl rfl hc i [] u5 _ G5 (fun _ _ => False) J5 (stat J5 n5) stu5 stop) fun r u6 ⟨hr, J6⟩ => ?_
      subst hr
      obtain ⟨J7, f7, m, hn⟩ := home J6
      exact hRR D ce u6 m G5 J7 qq hn f7
    · refine thnF (T.item (X.blk u3 G3 sc ce fp) rfl rfl rfl hc i [] u5 _ G5 (fun _ _ => False) J5 (stat J5 n5) stu5 go) fun r u6 ⟨v, hr, h6⟩ => ?_
      subst hr
      refine thnF h6 fun _ u7 ⟨x, G7, J7, r7, y7, stu7, n7⟩ => ?_
      refine thnF (pg.run _ u7 _ G7 x v _ (J7.pinned (stat J7 n7) (T.obj _ _ stu7)) r7 (step x G7 y7)) fun _ u8 ⟨σ8, G8, J8, hw8, q8⟩ => ?_
      refine thnF (pt.run _ u8 σ8 G8 _ J8 q8) fun b u9 ⟨G9, J9, q9⟩ => ?_
      have fin : ∀ {t : Shared} {G : Hp}, Inv (X.blk u3 G3 sc ce fp) ([] ++ pinsAt fp u7.heap) σ8 G t → Nx G → ∃ m, m < n ∧ ∃ i G, Inv (X.blk u3 G3 sc ce fp) [] (wipe σ (own.map (·.2))) G t ∧ tn i t.heap ∧ (∀ b ∈ fp, G b = none) ∧ W i m G := fun {t G} K nx => by
        obtain ⟨m', hm, w'⟩ := hNx G nx
        have pin' : ∀ b ∈ fp, ∀ o, u7.heap.get? b = some o → t.heap.get? b = some o ∧ G b = none := fun b hb o e => ⟨(K.pin (b, o) (List.mem_append_right _ (List.mem_append_right _ (mem_pinsAt hb e)))).1, (K.pin (b, o) (List.mem_append_right _ (List.mem_append_right _ (mem_pinsAt hb e)))).2.1⟩
        have hl : (wipe σ (own.map (·.2))).length = σ8.length := by rw [← hw8, wipe_length]
        refine ⟨m', hm, i + 1, G, (K.unpinned (pins := [])).weak hl (fun j v e => ?_), T.keep _ _ _ stu7 fun b hb o e => (pin' b hb o e).1, fun b hb => ?_, w'⟩
        · rw [← hw8] at e
          exact (wipe_some e).1
        · obtain ⟨o, e, _⟩ := T.obj _ _ stu7 b hb
          exact (pin' b hb o e).2
      cases b with
      | false =>
        rw [if_neg Bool.false_ne_true] at q9 ⊢
        exact fin J9 q9
      | true =>
        rw [if_pos rfl] at q9 ⊢
        refine wpAny_mono (pe.run _ u9 σ8 G9 _ (J9.wish _) q9) (fun z u10 ⟨yv, G10, J10, r10, acc, hD10, hz10, nx⟩ => ?_) fun e t ⟨pn, σe, He, se, K, cx⟩ => ?_
        · exact wpAny_mono (app_ok (X := X.blk u3 G3 sc ce fp) (E := fun _ _ => False) J10.unwish hD10 hz10 r10 fun u11 J11 => fin J11 nx) (fun _ _ z => z) fun _ _ z => z.elim
        · obtain ⟨JO, fO, m, hn⟩ := home K
          exact xec_out hs hf ceF tk (xec_of JO fO hn cx)
  exact codeAny_compStart_list loop (T.self X.A 0 _ _ _ stu4 loop)
/-- as a value -/
theorem pe_lcX {X : Cx} {E : XK} {elt tg iter : Expr} {ifs : List Expr} {sc : Scope} {own : List (Str × Nat)} {pos : Pos} {wi : TI} {g : TG} {tt : TT} {te : TE} (hs : X.stack = X.env :: X.outer) (hf : X.env.frame = some X.env.locals) (tk : Takes X fun cls d _ H => E cls d H) (hc : X.calm = true) (hN : X.N.Nodup) (hi : PI X tg iter wi) (ok : BlkOk X.N X.env.scope sc own)
    (hg : ∀ (s : Shared) (H : Hp) (C : Addr) (cl : List (Str × Addr)) (fp : List Addr), PG (X.blk s H sc (compEnvC sc cl C X.env) fp) tg g) (ht : ∀ (s : Shared) (H : Hp) (C : Addr) (cl : List (Str × Addr)) (fp : List Addr), PTs (X.blk s H sc (compEnvC sc cl C X.env) fp) ifs tt)
    (he : ∀ (s : Shared) (H : Hp) (C : Addr) (cl : List (Str × Addr)) (fp : List Addr), PE (blkX X E s H sc (compEnvC sc cl C X.env) fp) elt te) (hfi : ∀ x, foldedSetIterable iter X.env x = pure x := by intro _; rfl) :
    PE X (.ListComp elt [⟨tg, iter, ifs, 0⟩] sc pos) (tLc wi g tt te (own.map (·.2))) := by
  refine ⟨fun pins s σ H Q I h => ?_⟩
  rw [eval_ListComp]
  refine lcX_core hc hN hi ok hs hf tk hg ht he hfi I h fun D ce t m G K q hn f => ⟨m, hn, fun k sb => ?_⟩
  obtain ⟨f0, f1, f2, f3, f4, f5⟩ := f
  exact ⟨.ref D, G, K.turned (t' := t.toks) (fun b o hb e => (sb.2 b hb).trans e) f0 f1 f3 f4 f5, rfl, q⟩
/-- name = [..] on one row, the name a local -/
theorem ps_setLcX {X : Cx} {E : XK} {i : Nat} {y : Str} {py : Pos} {elt tg iter : Expr} {ifs : List Expr} {sc : Scope} {own : List (Str × Nat)} {pos spos : Pos} {wi : TI} {g : TG} {tt : TT} {te : TE} (hs : X.stack = X.env :: X.outer) (hf : X.env.frame = some X.env.locals) (tk : Takes X fun cls d _ H => E cls d H) (hc : X.calm = true) (hN : X.N.Nodup) (hy : X.N[i]? = some y) (hyl : X.env.scope.names.lookup y = some .local)
    (hsw : swapsWith (.ListComp elt [⟨tg, iter, ifs, 0⟩] sc pos) (some (.Name y py)) spos.line X.env = pure true) (hi : PI X tg iter wi) (ok : BlkOk X.N X.env.scope sc own)
    (hg : ∀ (s : Shared) (H : Hp) (C : Addr) (cl : List (Str × Addr)) (fp : List Addr), PG (X.blk s H sc (compEnvC sc cl C X.env) fp) tg g) (ht : ∀ (s : Shared) (H : Hp) (C : Addr) (cl : List (Str × Addr)) (fp : List Addr), PTs (X.blk s H sc (compEnvC sc cl C X.env) fp) ifs tt)
    (he : ∀ (s : Shared) (H : Hp) (C : Addr) (cl : List (Str × Addr)) (fp : List Addr), PE (blkX X E s H sc (compEnvC sc cl C X.env) fp) elt te) (hfi : ∀ x, foldedSetIterable iter X.env x = pure x := by intro _; rfl) :
    PS X (.Assign [.Name y py] (.ListComp elt [⟨tg, iter, ifs, 0⟩] sc pos) spos) (tAsg (tLc wi g tt te (own.map (·.2))) (gName i)) := by
  refine ⟨fun pins s σ H D I h => ?_⟩
  rw [exec_Assign_Name_used _ _ _ _ hsw]
  refine wpAny_bind (wpAny_standAt (wpAny_bind ?_))
  have h : tLc wi g tt te (own.map (·.2)) σ H (fun x H1 => gName i x σ H1 D.nx) := h
  refine wpAny_bind (thn (lcX_core (pos' := firstIterPos [⟨tg, iter, ifs, 0⟩] pos) (use := some (assign (.Name y py) X.env)) (Qf := fun _ t => SP X pins D .next t) hc hN hi ok hs hf tk hg ht he hfi I h fun L ce t m G K q hn f => ?_) fun _ t hq => wpAny_pure (wpAny_pure hq))
  show wpAny _ _ (assign (.Name y py) X.env (.ref L)) _ _ _
  refine wpAny_assign_Name (store_ok2 (v := V.ref L) K hN hy (.inl hyl) rfl (fun t2 K2 ⟨a, sb, ha⟩ => ?_) (.inr hyl))
  obtain ⟨f0, f1, f2, f3, f4, f5⟩ := f
  have ne : ce.locals ≠ a := ha.elim (fun z => by rw [z]; exact f1) fun z e => f4 y a z e.symm
  exact ⟨m, hn.sameBut sb ne, fun k sb3 => ⟨_, G, K2.turned (t' := t2.toks) (fun b o hb e => (sb3.2 b hb).trans e) f0 f1 f3 f4 f5, q⟩⟩

/-! ### a lambda of one parameter p with one captured name c, made in a def and called by a built-in -/
structure Lam1 (sc scope : Scope) (cap par : Str) : Prop where
  kind : scope.kind = .function
  co : scope.isCoroutine = false
  gen : scope.isGenerator = false
  parL : scope.names.lookup par = some .local
  cells : ∀ y ∈ scope.names, y.2 ≠ .cell
  locs : ∀ y, scope.names.lookup y = some .local → y = par
  free : ∀ y ∈ scope.names, y.2 = .free → sc.names.lookup y.1 = some .cell ∨ sc.names.lookup y.1 = some .free
  ne : cap ≠ par
def lam1B (sc scope : Scope) (cap par : Str) : Bool :=
  decide (scope.kind = .function) && !scope.isCoroutine && !scope.isGenerator && decide (scope.names.lookup par = some .local) && (scope.names.all fun y => !decide (y.2 = .cell)) && (scope.names.all fun y => !decide (y.2 = .local) || decide (y.1 = par))
    && (scope.names.all fun y => !decide (y.2 = .free) || decide (sc.names.lookup y.1 = some .cell) || decide (sc.names.lookup y.1 = some .free)) && !decide (cap = par)
theorem lam1_by {sc scope : Scope} {cap par : Str} (h : lam1B sc scope cap par = true) : Lam1 sc scope cap par := by
  unfold lam1B at h
  simp only [Bool.and_eq_true, Bool.or_eq_true, Bool.not_eq_true', decide_eq_true_eq, decide_eq_false_iff_not, List.all_eq_true] at h
  obtain ⟨⟨⟨⟨⟨⟨⟨h1, h2⟩, h3⟩, h4⟩, h5⟩, h6⟩, h7⟩, h8⟩ := h
  refine ⟨h1, h2, h3, h4, h5, fun y e => ?_, fun y hy e => ?_, h8⟩
  · rcases h6 _ (PySem.mem_of_lookup e) with z | z
    · exact absurd rfl z
    · exact z
  · rcases h7 y hy with (z | z) | z
    · exact absurd e z
    · exact .inl z
    · exact .inr z
theorem Lam1.has {X : Cx} {scope : Scope} {cap par : Str} (L : Lam1 X.env.scope scope cap par) (ok : X.Ok) : ∀ y ∈ scope.names, y.2 = .free → ∃ c, X.env.cells.lookup y.1 = some c := fun y hy e => by
  rcases L.free y hy e with k | k
  · exact ok.has _ (.inl k)
  · exact ok.has _ (.inr k)
/-- the context of the lambda's body -/
def lamCx1 (X : Cx) (A : Around) (s : Shared) (H : Hp) (scope : Scope) (cap par : Str) (f c' : Addr) : Cx where
  prog := X.prog
  w := X.w
  K := X.K
  mg := X.mg
  base := X.base
  A := A.deeper (LamX.lamEnv X scope s.heap.objs.size f c')
  N := [cap, par]
  s_0 := s
  H_0 := H
  env := LamX.lamEnv X scope s.heap.objs.size f c'
  outer := X.stack
  stack := LamX.lamEnv X scope s.heap.objs.size f c' :: X.stack
  ex := []
  fn := fun _ => false
  calm := true
  pn := []
  xe := fun _ _ => False
section
variable {X : Cx} {pins : List (Addr × Obj)} {σ : L2.St} {HZ : Hp} {s1 : Shared}
theorem lam_start1 {A : Around} {scope : Scope} {cap par : Str} {f c' : Addr} {h₁ : Heap} {tk i : Nat} {cv pv : V} {u : Value} (I : Inv X pins σ HZ s1) (L : Lam1 X.env.scope scope cap par) (hi : X.N[i]? = some cap) (hσ : σ[i]? = some (some cv))
    (hA : A.frames = some X.stack) (hd : A.handled = none) (hns : h₁.Ns s1.heap.objs.size fun y => ([(par, u)] : List (Str × Value)).reverse.lookup y) (rv : RelV pv u) (keep1 : ∀ b o, s1.heap.get? b = some o → h₁.get? b = some o) :
    Inv (lamCx1 X A s1 HZ scope cap par f c') [] [some cv, some pv] HZ { s1 with heap := h₁, toks := tk } := by
  have e0 := I.env0
  have caps := L.has I.ok
  have ofClo : ∀ {y c}, (cloFrom X.env.cells scope.names []).lookup y = some c → X.env.cells.lookup y = some c := fun {y c} e => by
    rcases cloFrom_mem (PySem.mem_of_lookup e) with zz | ⟨q1, q2⟩
    · cases zz
    · obtain ⟨cc, hc⟩ := caps _ q1 rfl
      have hc : X.env.cells.lookup y = some cc := hc
      have e2 : c = cc := by
        rw [q2, hc] <;> rfl
      rw [e2]
      exact hc
  have hasC : ∀ {y}, scope.names.lookup y = some .free → ∃ c, (cloFrom X.env.cells scope.names []).lookup y = some c := fun {y} hl => by
    have hy : (y, NameKind.free) ∈ scope.names := PySem.mem_of_lookup hl
    exact mem_lookup (cloFrom_has (cells := X.env.cells) (acc := []) hy)
  have cellK : ∀ {c : Addr} {v : Option Value}, s1.heap.IsCell c v → h₁.IsCell c v := fun {c v} ⟨o, ho, hd⟩ => ⟨o, keep1 _ _ ho, hd⟩
  have noEx : ∀ b : Addr, b ∉ (lamCx1 X A s1 HZ scope cap par f c').ex := fun b z => absurd (show b ∈ ([] : List Addr) from z) (by simp)
  refine ⟨⟨e0.mod, L.kind, rfl, rfl, Nat.le_refl _, fun y z c e1 e2 => I.ok.inj y z c (ofClo e1) (ofClo e2), fun y hy => ?_, fun y c z _ => ?_, fun _ => hd, Around.frames_deeper hA, .inr ⟨rfl, rfl⟩, fun b z => absurd z (noEx b), e0.bs, e0.bsz, fun b _ _ => noEx b,
      fun b z => absurd z (noEx b), e0.funs, e0.frf⟩,
    rfl, e0.bare, Un.kept keep1, ⟨_, hns, fun j y v e1 e2 e3 => ?_⟩, fun y c e => ?_, e0.hok.fresh (Nat.le_refl _), fun y c e => ?_, fun q hq => absurd (show q ∈ ([] : List (Addr × Obj)) ++ [] from hq) (by simp), e0.hok.kept keep1, rfl⟩
  · have hy : scope.names.lookup y = some .cell ∨ scope.names.lookup y = some .free := hy
    rcases hy with hy | hy
    · exact absurd rfl (L.cells _ (PySem.mem_of_lookup hy))
    · exact hasC hy
  · have z : false = true := z
    cases z
  · have e3 : Vis scope y := e3
    match j, e1, e2 with
    | 0, e1, e2 =>
      cases e1
      cases e2
      rcases e3 with k | k | k
      · exact absurd (L.locs _ k) L.ne
      · exact absurd rfl (L.cells _ (PySem.mem_of_lookup k))
      · obtain ⟨m, hn, hl⟩ := I.loc
        have hvis : Vis X.env.scope cap := (L.free _ (PySem.mem_of_lookup k) rfl).elim (fun k => .inr (.inl k)) (fun k => .inr (.inr k))
        obtain ⟨w', r, q⟩ := hl i cap cv hi hσ hvis
        obtain ⟨c2, h2⟩ := hasC k
        refine ⟨w', r, .inr ⟨.inr k, c2, h2, ?_⟩⟩
        have c1 := ofClo h2
        rcases q with ⟨k', _⟩ | ⟨_, c3, e', z⟩
        · have k' : X.env.scope.names.lookup cap = some .local := k'
          rcases L.free _ (PySem.mem_of_lookup k) rfl with k2 | k2 <;> rw [show X.env.scope.names.lookup cap = _ from k2] at k' <;> cases k'
        · rw [c1] at e'
          cases e'
          exact cellK z
    | 1, e1, e2 =>
      cases e1
      cases e2
      refine ⟨u, rv, .inl ⟨L.parL, ?_⟩⟩
      simp [List.lookup]
    | n + 2, e1, e2 => cases e1
  · obtain ⟨w', z⟩ := I.cell y c (ofClo e)
    exact ⟨w', cellK z⟩
  · exact I.freeC y c (ofClo e)
/-- the lambda called with u -/
theorem lam_call1 {A : Around} {scope : Scope} {cap par : Str} {f c' : Addr} {pm ctv : Value} {params : Arguments} {body : Expr} {k i : Nat} {cv pv : V} {u : Value} {tb : TE} {Q : VK} (I : Inv X pins σ HZ s1) (L : Lam1 X.env.scope scope cap par) (hi : X.N[i]? = some cap) (hσ : σ[i]? = some (some cv))
    (hA : A.frames = some X.stack) (hr : Room (k + 1) A)
    (hf : s1.heap.get? f = some (PySem.W.kla_obj "<lambda>" (X.env.qual ++ "<lambda>") params body scope (cloFrom X.env.cells scope.names []) pm c' ctv)) (hc : HZ c' = some (LamX.CodeO c' (X.env.qual ++ "<lambda>")))
    (hbind : bindArgs (PySem.W.kla_fn "<lambda>" (X.env.qual ++ "<lambda>") params body scope (cloFrom X.env.cells scope.names []) pm (.ref c') ctv) ⟨[u], []⟩ = pure [(par, u)])
    (hbody : Room k (A.deeper (LamX.lamEnv X scope s1.heap.objs.size f c')) → PE (lamCx1 X A s1 HZ scope cap par f c') body tb) (rv : RelV pv u) (ht : tb [some cv, some pv] HZ Q) :
    wpAny (model X.prog X.w) A (call (.ref f) [u]) (fun x s' => ∃ v H', Inv X pins σ H' s' ∧ RelV v x ∧ Q v H' ∧ Un (frs X.stack) [] HZ H' s1.heap s'.heap) (fun _ _ => False) s1 := by
  obtain ⟨⟨oc, vs, t, hoc, hdc, hvc⟩, _, _⟩ := I.hok c' _ hc
  have rc : codeAny (model X.prog X.w) A (.call (.ref f) ⟨[u], []⟩) (CR CX0 X.stack X.prog X.w HZ s1 Q E0) s1 := by
    refine PySem.W.kla_callFunE hr.depth hf rfl L.co L.gen rfl ⟨c', oc, vs, t, rfl, hoc, hdc, hvc⟩ ?_
    rw [hbind]
    refine wpAny_pure (wpAny_newFunctionEnv L.cells (fun y hy => by rw [List.mem_singleton.mp hy]; exact L.parL) (fun h₁ hns hsb => ⟨I.nolimit.fresh _ hsb, ?_⟩) L.kind)
    show codeAny _ _ (.expr body (LamX.lamEnv X scope s1.heap.objs.size f c')) _ _
    have keep1 : ∀ b o, s1.heap.get? b = some o → h₁.get? b = some o := fun b o e => hsb.extBut b o (Nat.ne_of_lt (Heap.lt_size e)) (Heap.get?_push_of_some _ e)
    have J := lam_start1 (A := A) (f := f) (c' := c') (tk := s1.toks + ([(par, u)] : List (Str × Value)).length) I L hi hσ hA hr.hd hns rv keep1
    refine PySem.W.kla_codeExpr (wpAny_mono ((hbody (hr.deeper _)).run [] _ _ HZ Q J ht) (fun v s' hq => ?_) fun e s' hq => hq.elim)
    obtain ⟨w', H', J', rv', q⟩ := hq
    exact ⟨w', H', J'.os, J'.bare, J'.base, J'.hok, rv', q⟩
  refine wpAny_call (codeAny_mono rc fun r s' hq => ?_)
  cases r with
  | error e => exact (show False from hq).elim
  | ok fl =>
    cases fl with
    | ret x =>
      obtain ⟨v, H', os, bare, un, hok, r, q⟩ := hq
      exact ⟨v, H', I.call' os un hok bare (fun b z => absurd z (by simp)), r, q, un⟩
    | next => exact False.elim hq
    | brk => exact False.elim hq
    | cont => exact False.elim hq
end

/-! ### min(xs, key=f), f a function of the program's own -/
/-- the first of the least keys -/
def Lowest (kf : Nat → Int) (n i : Nat) : Prop := ∀ j, j < n → kf i ≤ kf j ∧ (j < i → kf i < kf j)
structure RawA (X : Cx) (pins : List (Addr × Obj)) (b : Addr) : Prop where
  sz : X.s_0.heap.objs.size ≤ b
  loc : b ≠ X.env.locals
  cell : ∀ x c, X.env.cells.lookup x = some c → c ≠ b
  pin : ∀ p ∈ X.pn ++ pins, p.1 ≠ b
  fr : b ∉ frs X.stack
theorem RawA.of {X : Cx} {pins : List (Addr × Obj)} {σ : L2.St} {H : Hp} {s : Shared} (I : Inv X pins σ H s) {b : Addr} (h : s.heap.objs.size ≤ b) : RawA X pins b where
  sz := Nat.le_trans I.sz h
  loc := (Nat.ne_of_lt (Nat.lt_of_lt_of_le I.lt h)).symm
  cell := fun x c e => by
    obtain ⟨v, o, ho, _⟩ := I.cell x c e
    exact Nat.ne_of_lt (Nat.lt_of_lt_of_le (Heap.lt_size ho) h)
  pin := fun p hp => Nat.ne_of_lt (Nat.lt_of_lt_of_le (Heap.lt_size (I.pin p hp).1) h)
  fr := fun z => by
    rcases List.mem_cons.mp (I.stkSub _ z) with e | e
    · have h1 := I.lt
      rw [← e] at h1
      exact Nat.lt_irrefl _ (Nat.lt_of_lt_of_le h1 h)
    · exact I.nofs h e
structure InLp (X : Cx) (pins : List (Addr × Obj)) (σ : L2.St) (Φ : Hp → Prop) (I S f : Addr) (fo : Obj) (s : Shared) : Prop where
  ex : ∃ H, Inv X pins σ H s ∧ Φ H ∧ H I = none ∧ H S = none ∧ H f = none
  fn : s.heap.get? f = some fo
section
variable {X : Cx} {pins : List (Addr × Obj)} {σ : L2.St} {Φ : Hp → Prop} {l I S f : Addr} {fo : Obj} {as : List Addr} {R : Result → Shared → Prop}
theorem InLp.turn {s : Shared} (L : InLp X pins σ Φ I S f fo s) {it : Addr} {h' : Heap} {t' : Nat} (hit : it = I ∨ it = S) (r : RawA X pins it) (ne : it ≠ f) (k : ∀ b o, b ≠ it → s.heap.get? b = some o → h'.get? b = some o) : InLp X pins σ Φ I S f fo { s with heap := h', toks := t' } := by
  obtain ⟨H, inv, φ, n1, n2, n3⟩ := L.ex
  refine ⟨⟨H, inv.turned (it := it) k ?_ r.loc (.inr r.sz) r.cell r.pin, φ, n1, n2, n3⟩, k _ _ ne.symm L.fn⟩
  rcases hit with rfl | rfl
  · exact n1
  · exact n2
def KeyI (X : Cx) (pins : List (Addr × Obj)) (σ : L2.St) (Φ : Hp → Prop) (f : Addr) (fo : Obj) (as : List Addr) (kf : Nat → Int) : Prop :=
  ∀ (i : Nat) (a : Addr), as[i]? = some a → ∀ (s : Shared) (H : Hp), Inv X pins σ H s → Φ H → H f = none → s.heap.get? f = some fo →
    wpAny (model X.prog X.w) X.A.in1 (call (.ref f) [.ref a]) (fun x s' => (∃ t, x = .int (kf i) t) ∧ ∃ H', Inv X pins σ H' s' ∧ Φ H' ∧ Un (frs X.stack) [] H H' s.heap s'.heap) (fun _ _ => False) s
theorem minL_loop (kf : Nat → Int) (hh : X.A.handled = none) (isL : ∀ s H, Inv X pins σ H s → Φ H → s.heap.IsList l (as.map Value.ref).toArray) (lI : l ≠ I) (SI : S ≠ I) (If : I ≠ f) (Sf : S ≠ f) (rI : RawA X pins I) (rS : RawA X pins S) (nf : f ∉ frs X.stack) (key : KeyI X pins σ Φ f fo as kf)
    (fin : ∀ i a s, as[i]? = some a → Lowest kf as.length i → InLp X pins σ Φ I S f fo s → R (.ok (.ret (.ref a))) s) :
    ∀ (r j i : Nat) (s : Shared) (ab : Addr) (tb : Tok) (c : Nat), as.length - (j + 1) = r → j + 1 ≤ as.length → InLp X pins σ Φ I S f fo s →
      s.heap.get? S = some (seqObj "list" #[.ref ab, .int (kf i) tb] c) → s.heap.IsListIter I l (j + 1) → as[i]? = some ab → i ≤ j → Lowest kf (j + 1) i →
      codeAny (model X.prog X.w) X.A (.builtin "min.loop" ⟨[.ref I, .ref f, .ref S], []⟩) R s := by
  have nm : (toString "min" ++ toString ".loop" : String) = "min.loop" := by decide
  have wk := Walks.list (prog := X.prog) (w := X.w) (A := X.A.in1) hh I l lI (as.map Value.ref).toArray
  have sz : (as.map Value.ref).toArray.size = as.length := by simp
  intro r
  induction r with
  | zero =>
    intro j i s ab tb c er jl L gS it ev ij top
    have last : j + 1 = as.length := by omega
    refine codeAny_builtin PySem.F.entry_min_loop ?_
    rw [Around.under_plainId PySem.F.plain_min_loop _]
    show wpAny _ X.A.in1 (seqItems? (Value.ref S) >>= _) _ _ _
    refine wpAny_bind (wpAny_seqItems gS rfl ?_)
    show wpAny _ X.A.in1 (tryCatch (pyNext (Value.ref I)) _ >>= _) _ _ _
    refine wpAny_bind (wpAny_tryCatch (wk.done _ _ _ ⟨by rw [sz, ← last]; exact it, by
      obtain ⟨H, inv, φ, _⟩ := L.ex
      exact isL _ _ inv φ⟩ fun h1 tk1 k1 => ?_))
    have k1' : ∀ b o, b ≠ I → s.heap.get? b = some o → h1.get? b = some o := fun b o nb e => k1 b o (fun z => nb (List.mem_singleton.mp z)) e
    have L1 := L.turn (t' := tk1) (.inl rfl) rI If k1'
    have gS1 := k1' S _ SI gS
    have u1 := Heap.SameBut.update h1 S (Obj.mapSeq (fun _ => (#[] : Array Value)))
    show wpAny _ X.A.in1 (updateSeq S (fun _ => #[]) >>= fun _ => _) _ _ _
    refine wpAny_bind (wpAny_updateSeq gS1 rfl (wpAny_bind (wpAny_letGo (wpAny_pure ?_))))
    exact fin i ab _ ev (by rw [← last]; exact top) (L1.turn (.inr rfl) rS Sf fun b o nb e => (u1.2 b nb).trans e)
  | succ r ih =>
    intro j i s ab tb c er jl L gS it ev ij top
    have more : j + 1 < as.length := by omega
    refine codeAny_builtin PySem.F.entry_min_loop ?_
    rw [Around.under_plainId PySem.F.plain_min_loop _]
    show wpAny _ X.A.in1 (seqItems? (Value.ref S) >>= _) _ _ _
    refine wpAny_bind (wpAny_seqItems gS rfl ?_)
    show wpAny _ X.A.in1 (tryCatch (pyNext (Value.ref I)) _ >>= _) _ _ _
    refine wpAny_bind (wpAny_tryCatch (wk.item (j + 1) _ _ _ (by rw [sz]; exact more) ⟨it, by
      obtain ⟨H, inv, φ, _⟩ := L.ex
      exact isL _ _ inv φ⟩ fun v h1 tk1 pv it1 k1 => ?_))
    obtain ⟨a1, ev1, rfl⟩ : ∃ a1, as[j + 1]? = some a1 ∧ v = Value.ref a1 := by
      have z : (as.map Value.ref)[j + 1]? = some v := by simpa using pv
      rw [List.getElem?_map] at z
      obtain ⟨a1, e1, e2⟩ := Option.map_eq_some_iff.mp z
      exact ⟨a1, e1, e2.symm⟩
    have k1' : ∀ b o, b ≠ I → s.heap.get? b = some o → h1.get? b = some o := fun b o nb e => k1 b o (fun z => nb (List.mem_singleton.mp z)) e
    have L1 := L.turn (t' := tk1) (.inl rfl) rI If k1'
    have gS1 := k1' S _ SI gS
    obtain ⟨oI, gI, cI, dI⟩ := it1.1
    obtain ⟨H1, inv1, φ1, nI1, nS1, nf1⟩ := L1.ex
    show wpAny _ X.A.in1 (tryCatch (holding [.ref a1] (call (Value.ref f) [.ref a1])) _ >>= _) _ _ _
    refine wpAny_bind (wpAny_tryCatch (wpAny_holding (wpAny_mono (key (j + 1) a1 ev1 _ H1 inv1 φ1 nf1 L1.fn) (fun x s2 hx => ?_) (fun _ _ no => no.elim))))
    obtain ⟨⟨t2, rfl⟩, H2, inv2, φ2, un⟩ := hx
    have gS2 : s2.heap.get? S = _ := un.keep S _ gS1 nS1 rS.fr (by simp)
    have gI2 : s2.heap.get? I = _ := un.keep I _ gI nI1 rI.fr (by simp)
    have gf2 : s2.heap.get? f = _ := un.keep f _ L1.fn nf1 nf (by simp)
    have L2' : InLp X pins σ Φ I S f fo s2 := ⟨⟨H2, inv2, φ2, un.free I _ gI nI1 (by simp), un.free S _ gS1 nS1 (by simp), un.free f _ L1.fn nf1 (by simp)⟩, gf2⟩
    show wpAny _ X.A.in1 (tryCatch (holding [.ref a1, Value.int (kf (j + 1)) t2] (richCompare .Lt (.int (kf (j + 1)) t2) (.int (kf i) tb) >>= _)) _ >>= _) _ _ _
    refine wpAny_bind (wpAny_tryCatch (wpAny_holding (wpAny_bind (CmpOf.ints_lt (prog := X.prog) (w := X.w) (A := X.A.in1) (P := fun n u => ∃ t, u = .int (kf n) t) kf (fun n u z => z) (j + 1) i _ _ _ _ _ ⟨t2, rfl⟩ ⟨tb, rfl⟩ ?_))))
    refine wpAny_bind (wpAny_holding (wpAny_truthy_bool (wpAny_bind (wpAny_letGo (wpAny_pure ?_)))))
    by_cases up : kf (j + 1) < kf i
    · have u1 := Heap.SameBut.update s2.heap S (Obj.mapSeq (fun _ => #[.ref a1, .int (kf (j + 1)) t2]))
      obtain ⟨c2, gS3⟩ : ∃ c2, (s2.heap.update S (Obj.mapSeq fun _ => #[.ref a1, .int (kf (j + 1)) t2])).get? S = some (seqObj "list" #[.ref a1, .int (kf (j + 1)) t2] c2) := ⟨_, get?_update_seq gS2 fun _ => _⟩
      simp only [up, decide_true, if_true]
      refine wpAny_bind (wpAny_updateSeq gS2 rfl (wpAny_bind (wpAny_letGo ?_)))
      rw [nm]
      refine wpAny_pure ⟨plainId_quiet PySem.F.plain_min_loop _, ih (j + 1) (j + 1) _ a1 t2 c2 (by omega) more (L2'.turn (.inr rfl) rS Sf fun b o nb e => (u1.2 b nb).trans e) gS3 ⟨oI, (u1.2 I SI.symm).trans gI2, cI, dI⟩ ev1 (Nat.le_refl _) fun n hn => ?_⟩
      by_cases e : n = j + 1
      · subst e
        exact ⟨Int.le_refl _, fun z => absurd z (Nat.lt_irrefl _)⟩
      · have := (top n (by omega)).1
        exact ⟨by omega, fun _ => by omega⟩
    · simp only [up, decide_false, Bool.false_eq_true, if_false]
      refine wpAny_bind (wpAny_letGo ?_)
      rw [nm]
      refine wpAny_pure ⟨plainId_quiet PySem.F.plain_min_loop _, ih (j + 1) i _ ab tb c (by omega) more (L2'.turn (.inr rfl) rS Sf fun b o nb e => e) gS2 ⟨oI, gI2, cI, dI⟩ ev (by omega) fun n hn => ?_⟩
      by_cases e : n = j + 1
      · subst e
        exact ⟨by omega, fun z => absurd z (by omega)⟩
      · exact top n (by omega)
theorem minL {s : Shared} {Q : Value → Shared → Prop} {E : Value → Shared → Prop} {H : Hp} (kf : Nat → Int) (inv : Inv X pins σ H s) (φ : Φ H) (hh : X.A.handled = none) (isL : ∀ s H, Inv X pins σ H s → Φ H → s.heap.IsList l (as.map Value.ref).toArray) (some1 : 0 < as.length) (hf : s.heap.get? f = some fo) (hn : H f = none) (nf : f ∉ frs X.stack) (key : KeyI X pins σ Φ f fo as kf)
    (fin : ∀ i a s H, as[i]? = some a → Lowest kf as.length i → Inv X pins σ H s → Φ H → Q (.ref a) s) :
    wpAny (model X.prog X.w) X.A (call (.builtin "min") [.ref l] [(Str.ofString "key", .ref f)]) Q E s := by
  have nm : (toString "min" ++ toString ".loop" : String) = "min.loop" := by decide
  have isL0 := isL s H inv φ
  have isL1 := isL0
  obtain ⟨ol, gl, _⟩ := isL1
  have ll : l < s.heap.objs.size := Heap.lt_size gl
  have lf : f < s.heap.objs.size := Heap.lt_size hf
  refine kmb_tree PySem.F.kind_min PySem.F.plain_min PySem.F.entry_min (kmb_min_key _ _) ?_
  show wpAny _ X.A.in1 (Builtin.Builtins.bindParams "min" ["key", "default"] 0 ⟨[], [(Str.ofString "key", Value.ref f)]⟩ >>= _) _ _ s
  refine wpAny_bind (wpAny_of_eq (show Builtin.Builtins.bindParams "min" ["key", "default"] 0 ⟨[], [(Str.ofString "key", Value.ref f)]⟩ = pure [some (.ref f), none] from rfl) ?_)
  refine wpAny_bind (wpAny_pure (wpAny_bind (wpAny_pyIter_list isL0 (wpAny_bind (wpAny_newList ?_ (Nat.zero_le _))))))
  rw [nm]
  have it0 := Heap.get?_push_size s.heap (o := { cls := .type "list_iterator", data := .fields #[.ref l, .int 0 0] }) rfl
  have z1 : (s.heap.push { cls := .type "list_iterator", data := .fields #[.ref l, .int 0 0] }).objs.size = s.heap.objs.size + 1 := Heap.size_push ..
  have k1 : Stay s.heap (s.heap.push { cls := .type "list_iterator", data := .fields #[.ref l, .int 0 0] }) := fun b o e => Heap.get?_push_of_some _ e
  generalize s.heap.push { cls := .type "list_iterator", data := .fields #[.ref l, .int 0 0] } = g1 at *
  have gS := Heap.get?_push_size g1 (o := seqObj "list" #[] 0) rfl
  have k2 : Stay g1 (g1.push (seqObj "list" #[] 0)) := fun b o e => Heap.get?_push_of_some _ e
  have gI := k2 _ _ it0
  generalize g1.push (seqObj "list" #[] 0) = g2 at *
  rw [z1] at gS ⊢
  have st2 : Stay s.heap g2 := fun b o e => k2 b o (k1 b o e)
  have SI : s.heap.objs.size + 1 ≠ s.heap.objs.size := Nat.succ_ne_self _
  have lI : l ≠ s.heap.objs.size := Nat.ne_of_lt ll
  have If : s.heap.objs.size ≠ f := (Nat.ne_of_lt lf).symm
  have Sf : s.heap.objs.size + 1 ≠ f := (Nat.ne_of_lt (Nat.lt_succ_of_lt lf)).symm
  have rI : RawA X pins s.heap.objs.size := RawA.of inv (Nat.le_refl _)
  have rS : RawA X pins (s.heap.objs.size + 1) := RawA.of inv (Nat.le_succ _)
  have L0 : InLp X pins σ Φ s.heap.objs.size (s.heap.objs.size + 1) f fo { s with heap := g2 } := ⟨⟨H, inv.kept st2, φ, inv.hok.fresh (Nat.le_refl _), inv.hok.fresh (Nat.le_succ _), hn⟩, st2 _ _ hf⟩
  have wk := Walks.list (prog := X.prog) (w := X.w) (A := X.A.in1) hh s.heap.objs.size l lI (as.map Value.ref).toArray
  have sz : (as.map Value.ref).toArray.size = as.length := by simp
  refine wpAny_pure ⟨plainId_quiet PySem.F.plain_min_loop _, codeAny_builtin PySem.F.entry_min_loop ?_⟩
  rw [Around.under_plainId PySem.F.plain_min_loop _]
  show wpAny _ X.A.in1 (seqItems? (Value.ref _) >>= _) _ _ _
  refine wpAny_bind (wpAny_seqItems gS rfl ?_)
  show wpAny _ X.A.in1 (tryCatch (pyNext (Value.ref s.heap.objs.size)) _ >>= _) _ _ _
  refine wpAny_bind (wpAny_tryCatch (wk.item 0 _ _ _ (by rw [sz]; exact some1) ⟨⟨_, gI, rfl, rfl⟩, isL_stay st2 isL0⟩ fun v h1 tk1 pv it1 kk => ?_))
  obtain ⟨a1, ev1, rfl⟩ : ∃ a1, as[0]? = some a1 ∧ v = Value.ref a1 := by
    have z : (as.map Value.ref)[0]? = some v := by simpa using pv
    rw [List.getElem?_map] at z
    obtain ⟨a1, e1, e2⟩ := Option.map_eq_some_iff.mp z
    exact ⟨a1, e1, e2.symm⟩
  have kk' : ∀ b o, b ≠ s.heap.objs.size → g2.get? b = some o → h1.get? b = some o := fun b o nb e => kk b o (fun z => nb (List.mem_singleton.mp z)) e
  have L1 := L0.turn (t' := tk1) (.inl rfl) rI If kk'
  have gS1 := kk' _ _ SI gS
  obtain ⟨oI, gI1, cI, dI⟩ := it1.1
  obtain ⟨H1, inv1, φ1, nI1, nS1, nf1⟩ := L1.ex
  show wpAny _ X.A.in1 (tryCatch (holding [.ref a1] (call (Value.ref f) [.ref a1])) _ >>= _) _ _ _
  refine wpAny_bind (wpAny_tryCatch (wpAny_holding (wpAny_mono (key 0 a1 ev1 _ H1 inv1 φ1 nf1 L1.fn) (fun x s2 hx => ?_) (fun _ _ no => no.elim))))
  obtain ⟨⟨t2, rfl⟩, H2, inv2, φ2, un⟩ := hx
  have gS2 := un.keep _ _ gS1 nS1 rS.fr (by simp)
  have gI2 := un.keep _ _ gI1 nI1 rI.fr (by simp)
  have gf2 := un.keep f _ L1.fn nf1 nf (by simp)
  have L2' : InLp X pins σ Φ s.heap.objs.size (s.heap.objs.size + 1) f fo s2 := ⟨⟨H2, inv2, φ2, un.free _ _ gI1 nI1 (by simp), un.free _ _ gS1 nS1 (by simp), un.free f _ L1.fn nf1 (by simp)⟩, gf2⟩
  have u1 := Heap.SameBut.update s2.heap (s.heap.objs.size + 1) (Obj.mapSeq (fun _ => #[.ref a1, .int (kf 0) t2]))
  obtain ⟨c2, gS3⟩ : ∃ c2, (s2.heap.update (s.heap.objs.size + 1) (Obj.mapSeq fun _ => #[.ref a1, .int (kf 0) t2])).get? (s.heap.objs.size + 1) = some (seqObj "list" #[.ref a1, .int (kf 0) t2] c2) := ⟨_, get?_update_seq gS2 fun _ => _⟩
  show wpAny _ X.A.in1 (updateSeq (s.heap.objs.size + 1) (fun _ => #[.ref a1, .int (kf 0) t2]) >>= _) _ _ _
  refine wpAny_bind (wpAny_updateSeq gS2 rfl ?_)
  rw [nm]
  refine wpAny_pure ⟨plainId_quiet PySem.F.plain_min_loop _, minL_loop kf hh isL lI SI If Sf rI rS nf key (fun i a s' e low L => ?_) _ 0 0 _ a1 t2 c2 rfl some1 (L2'.turn (.inr rfl) rS Sf fun b o nb e => (u1.2 b nb).trans e) gS3 ⟨oI, (u1.2 _ SI.symm).trans gI2, cI, dI⟩ ev1 (Nat.le_refl _) fun n hn => ?_⟩
  · obtain ⟨H', inv', φ', _⟩ := L.ex
    exact fin i a s' H' e low inv' φ'
  · have e : n = 0 := by omega
    subst e
    exact ⟨Int.le_refl _, fun z => absurd z (Nat.lt_irrefl _)⟩
end

/-- all but what stands at P stays -/
abbrev ButAt (P : Addr) (H H' : Hp) : Prop := ∀ b o, b ≠ P → H b = some o → H' b = some o
/-- the lambda is made: nothing but its maker's table changes -/
theorem lam_make3 {X : Cx} {pins : List (Addr × Obj)} {σ : L2.St} {H : Hp} {s : Shared} {c P : Addr} {params : Arguments} {body : Expr} {scope : Scope} {pos : Pos} {E : Value → Shared → Prop} {Q : Value → Shared → Prop} (I : Inv X pins σ H s) (TB : LamX.TabB X.base X.mg c P) (hcode : X.env.code = .ref c)
    (tab : LamX.TabS H P (X.env.qual ++ "<lambda>")) (hdef : defaultsOf params X.env = ([], [])) (caps : ∀ y ∈ scope.names, y.2 = .free → ∃ c, X.env.cells.lookup y.1 = some c)
    (fin : ∀ (f c' : Addr) (pm ctv : Value) (H1 : Hp) (s' : Shared), Inv X pins σ H1 s' → ButAt P H H1 → LamX.TabS H1 P (X.env.qual ++ "<lambda>") →
      s'.heap.get? f = some (PySem.W.kla_obj "<lambda>" (X.env.qual ++ "<lambda>") params body scope (cloFrom X.env.cells scope.names []) pm c' ctv) → H1 f = none → f ∉ frs X.stack → H1 c' = some (LamX.CodeO c' (X.env.qual ++ "<lambda>")) → Q (.ref f) s') :
    wpAny (model X.prog X.w) X.A (eval (.Lambda params body scope pos) X.env) Q E s := by
  obtain ⟨ps, hP, tri, known⟩ := tab
  have raw : s.heap.get? P = some { cls := .none, data := .fields ps } := I.hok P _ hP
  have glob := I.mod.glob.keeps I.bk
  have code := TB.code.keeps I.bk
  have bm := TB.bm.keeps I.bk
  apply PySem.W.kla_eval hdef
  cases found : codeAmong pos ps.toList with
  | some cv =>
    obtain ⟨c', rfl, co⟩ := known pos cv found
    apply PySem.W.kla_makeFunctionHit (closure_ok caps) I.ok.glob glob hcode code raw tri found bm
    intro ctv h' tk keep size
    exact fin _ c' _ ctv H _ (I.kept fun b o e => Heap.get?_push_of_some _ (keep b o e)) (fun _ _ _ e => e) ⟨ps, hP, tri, known⟩ (Heap.get?_push_size _ rfl) (I.hok.fresh size) (RawA.of I size).fr co
  | none =>
    apply PySem.W.kla_makeFunction (closure_ok caps) I.ok.glob glob hcode code raw tri found TB.gP bm
    intro c' ctv h' tk ext old lt rec grown
    obtain ⟨_, oc, vs, t, e2, hoc, hd, hv⟩ := rec
    cases e2
    have size : s.heap.objs.size ≤ h'.objs.size := Nat.le_trans old (Nat.le_of_lt lt)
    have nC : H c' = none := I.hok.fresh old
    have PC : P ≠ c' := ne_of_none hP nC
    have J := LamX.inv_table (t' := tk) (more := #[rawInt pos.line, rawInt pos.col, .ref c']) (h' := h'.push (PySem.W.kla_obj "<lambda>" (X.env.qual ++ "<lambda>") params body scope (cloFrom X.env.cells scope.names []) ((X.mg "__name__").getD .none) c' ctv)) I hP
      (fun b o nb e => Heap.get?_push_of_some _ (ext b o nb e)) (Heap.get?_push_of_some _ grown) old ⟨oc, vs, t, Heap.get?_push_of_some _ hoc, hd, hv⟩
    have but : ButAt P H (upd (upd H P (.tbl (ps ++ #[rawInt pos.line, rawInt pos.col, .ref c']))) c' (LamX.CodeO c' (X.env.qual ++ "<lambda>"))) := fun b o nb e => by
      rw [upd_ne (ne_of_none e nC), upd_ne nb]
      exact e
    have asList : (ps ++ #[rawInt pos.line, rawInt pos.col, .ref c']).toList = ps.toList ++ [rawInt pos.line, rawInt pos.col, .ref c'] := by simp
    refine fin h'.objs.size c' _ ctv _ _ J but ⟨_, (upd_ne PC).trans upd_same, ?_, fun pos' cv hc => ?_⟩ (Heap.get?_push_size _ rfl) ?_ (RawA.of I size).fr upd_same
    · rw [asList]
      exact PySem.TriplesOk_snoc _ _ _ _ tri
    · rw [asList] at hc
      rcases LamX.among_app _ tri hc with z | z
      · obtain ⟨c0, q1, q2⟩ := known pos' cv z
        refine ⟨c0, q1, but _ _ (fun w => ?_) q2⟩
        rw [w, hP] at q2
        exact LamX.codeO_ne ps (Option.some.inj q2).symm
      · exact ⟨c', z, upd_same⟩
    · rw [upd_ne (Nat.ne_of_gt lt), upd_ne (Nat.ne_of_gt (Nat.lt_of_lt_of_le (Heap.lt_size raw) size))]
      exact I.hok.fresh size
/-- min(xs, key=lambda par: body), xs a list of objects; body makes ints and changes nothing that stands -/
def tMinLam (P : Addr) (q : Str) (i : Nat) (ta : TA) (tb : TE) : TE := fun σ H Q => ta σ H fun vs H1 => ∃ (a : Addr) (as : List Addr) (kf : Nat → Int) (cv : V), vs = [.ref a] ∧ H1 a = some (.lst (as.map V.ref)) ∧ 0 < as.length ∧ LamX.TabS H1 P q ∧ σ[i]? = some (some cv) ∧
  ∀ H2, ButAt P H1 H2 → LamX.TabS H2 P q → (∀ (j : Nat) (b : Addr) (H' : Hp), as[j]? = some b → Same H2 H' → tb [some cv, some (.ref b)] H' fun v H'' => v = .int (kf j) ∧ Same H' H'') ∧
    ∀ (j : Nat) (b : Addr) (H' : Hp), as[j]? = some b → Lowest kf as.length j → Same H2 H' → Q (.ref b) H'
theorem vals_refs : ∀ {as : List Addr} {us : List Value}, Vals (as.map V.ref) us → us = as.map Value.ref
  | [], _, .nil => rfl
  | a :: as, _, .cons r t => by
    cases r
    rw [vals_refs t] <;> rfl
theorem pe_minLam {X : Cx} {c P : Addr} {k : Nat} {e : Expr} {params : Arguments} {body : Expr} {scope : Scope} {cap par : Str} {p kp lpos pos : Pos} {ta : TA} {tb : TE} (i : Nat) (hc : X.calm = true) (hg : Gl X "min") (hm : X.mg "min" = none) (hr : Room (k + 2) X.A) (TB : LamX.TabB X.base X.mg c P) (hcode : X.env.code = .ref c)
    (L : Lam1 X.env.scope scope cap par) (hi : X.N[i]? = some cap) (hdef : defaultsOf params X.env = ([], []))
    (hbind : ∀ (q : Str) (cl : List (Str × Addr)) (pm cv ctv u : Value), bindArgs (PySem.W.kla_fn "<lambda>" q params body scope cl pm cv ctv) ⟨[u], []⟩ = pure [(par, u)]) (ha : PA X [e] ta)
    (hbody : ∀ (A : Around) (s : Shared) (H : Hp) (f c' : Addr), Room k (A.deeper (LamX.lamEnv X scope s.heap.objs.size f c')) → PE (lamCx1 X A s H scope cap par f c') body tb)
    (he : backTo pos (starEach [e] X.env) = (false, eval e X.env) :: backTo pos (starEach [] X.env) := by rfl) (hpl : (backTo pos (starEach [e] X.env)).any (·.1) = false := by rfl) :
    PE X (.Call (.Name "min" p) [e] [⟨some "key", .Lambda params body scope lpos, kp⟩] pos) (tMinLam P (X.env.qual ++ "<lambda>") i ta tb) := by
  refine ⟨fun pins s σ H Q I h => ?_⟩
  refine wpAny_Call_Name_kw (ld_blt (u := .builtin "min") I hg hm (by decide +kernel) ?_)
  refine PyProof.Rows.callWith_kw (thn (ha.run pos pins s σ H _ I h) fun us s1 ⟨vs, H1, I1, r1, q1⟩ => ?_) he hpl (by rfl) (by rfl)
  show wpAny _ _ (evalAll [(do let v ← eval (.Lambda params body scope lpos) X.env; standAt pos; pure v)]) _ _ s1
  obtain ⟨a, as, kf, cv, rfl, hl, pos1, tab, hσ, hq⟩ := q1
  rw [Vals.ref1 r1]
  refine wpAny_evalAll_cons (wpAny_bind (lam_make3 I1 TB hcode tab hdef (L.has I1.ok) fun f c' pm ctv H2 s2 I2 eN T2 hf hfn hfr hco => ?_))
  refine wpAny_bind (wpAny_standAt (wpAny_pure (wpAny_evalAll_nil ?_)))
  obtain ⟨k1, k2⟩ := hq H2 eN T2
  have hl2 : H2 a = some (.lst (as.map V.ref)) := eN _ _ (fun z => by
    obtain ⟨ps, h4, _⟩ := tab
    rw [z, h4] at hl
    cases hl) hl
  refine minL (Φ := fun H' => Same H2 H') (as := as) (f := f) (H := H2) kf I2 (Same.refl _) (I2.ok.hd hc) (fun s H inv φ => ?_) pos1 hf hfn hfr (fun j b eb s H inv φ hn hg => ?_) fun j b s H eb low inv φ => ⟨.ref b, H, inv, rfl, k2 j b H eb low φ⟩
  · obtain ⟨its, rv, isL, _⟩ := inv.list (SqL.of (φ _ _ hl2))
    rw [vals_refs rv] at isL
    exact isL.isList
  · refine wpAny_mono (lam_call1 (A := X.A.in1) (pv := .ref b) (u := .ref b) inv L hi hσ inv.ok.frames hr.in1 hg (φ _ _ hco) (hbind _ _ _ _ _ _) (fun hr' => hbody _ _ _ _ _ hr') rfl (k1 j b H eb φ)) (fun x s' hx => ?_) fun _ _ no => no
    obtain ⟨v, H', inv', rv, ⟨rfl, sm⟩, un⟩ := hx
    exact ⟨rv, H', inv', φ.trans sm, un⟩

/-! ### the end of a law row of the quiet kind whose program makes a lambda: its maker's table of code objects stands empty at the start -/
abbrev emptyTab : Obj := { cls := .none, data := .fields #[] }
/-- H tells the script and the table, nothing else -/
structure Start (P : Program) (w : World) (K : PySem.W.Frag) (h : Heap) (a T : Addr) (H : Hp) : Prop where
  tab : H T = some (.tbl #[])
  ok : HOk P w H h
  only : ∀ b u, H b = some u → (b = T ∧ u = .tbl #[]) ∨ (b = a ∧ K.lookup b = none ∧ ∃ o xs, u = .frz o (.lst xs))
theorem Start.untold {P : Program} {w : World} {K : PySem.W.Frag} {h : Heap} {a T : Addr} {H : Hp} (S : Start P w K h a T H) {b : Addr} (h1 : b ≠ T) (h2 : b ≠ a) : H b = none := by
  cases q : H b with
  | none => rfl
  | some u =>
    rcases S.only b u q with z | z
    · exact absurd z.1 h1
    · exact absurd z.1 h2
theorem quiet_lawT {P : Program} {w : World} {K : PySem.W.Frag} {mg mb : Str → Option Value} {k : Nat} {fa a c T : Addr} {fd : FuncData} {x : Str} {sp : Sp} {s₁ : Shared} {vs : List Value} {ns : List Int}
    (inK : K.In s₁.heap) (glob : s₁.heap.Ns mainGlobals mg) (blt : s₁.heap.Ns builtinsNs mb) (bltIs : ∀ y : Str, y ≠ "__name__" → mb y = bootBuiltins y) (lim : s₁.heap.NoLimit) (gens : s₁.gens = #[]) (mods : ∃ mm, s₁.heap.Ns sysModules mm)
    (tab : s₁.heap.get? T = some emptyTab) (noT : K.lookup T = none) (code : PySem.W.CodeHd s₁.heap c T)
    (bmain : ∃ (bm : Addr) (ob : Obj), mg "__builtins__" = some (.ref bm) ∧ bm ≠ builtinsNs ∧ s₁.heap.get? bm = some ob ∧ ob.cls = .type "module" ∧ ob.dict = some builtinsNs ∧ ob.data = .plain)
    (here : s₁.heap.get? a = some { cls := .type "list", data := .seq vs.toArray }) (whole : IntsAre vs ns) (few : ns.length ≤ sizeLine) (room : Room k callerA)
    (F : ∀ base : Heap, K.In base → base.Ns mainGlobals mg → (∃ mm, base.Ns sysModules mm) → LamX.TabB base mg c T → FnG P w K mg base k fa fd [x] sp) (bind : ∀ (s : Shared) (u : Value), BindsTo s fd ⟨[u], []⟩ [(x, u)])
    (want : ∀ H : Hp, H T = some (.tbl #[]) → SqL K H a (ns.map V.int) → sp [.ref a] H (fun v _ => v = .bl true) E0) :
    codeAny (model P w) callerA (.call (.ref fa) ⟨[.ref a], []⟩) (fun r s' => r = .ok (.ret (.bool true)) ∧ OldK s₁.heap s'.heap ∧ s'.os = s₁.os ∧ AllBare s'.gens) s₁ := by
  have rel := vals_ints whole
  have aT : a ≠ T := fun z => by
    have q := tab
    rw [← z, here] at q
    injection q with q
    exact nomatch congrArg Obj.data q
  have main : ∀ H : Hp, Start P w K s₁.heap a T H → SqL K H a (ns.map V.int) →
      codeAny (model P w) callerA (.call (.ref fa) ⟨[.ref a], []⟩) (fun r s' => r = .ok (.ret (.bool true)) ∧ OldK s₁.heap s'.heap ∧ s'.os = s₁.os ∧ AllBare s'.gens) s₁ := by
    intro H S sq
    -- what is neither a list nor a table's empty fields is not told
    have plainO : ∀ {b o}, s₁.heap.get? b = some o → (∀ ys n, o.data ≠ .seq ys n) → o.data ≠ .fields #[] → (hidT s₁.heap H).get? b = some o := fun {b o} e h1 h2 => hidT_get e (S.untold (fun z => by
        rw [z, tab] at e
        cases e
        exact h2 rfl) fun z => by
        rw [z, here] at e
        cases e
        exact h1 _ _ rfl)
    have ns1 : ∀ {b m}, s₁.heap.Ns b m → (hidT s₁.heap H).Ns b m := by
      rintro b m ⟨o, es, ep, e, d, r⟩
      refine ⟨o, es, ep, plainO e (fun ys n z => ?_) (fun z => ?_), d, r⟩
      · rw [d] at z
        cases z
      · rw [d] at z
        cases z
    have kIn : K.In (hidT s₁.heap H) := by
      intro b o e
      refine hidT_get (inK b o e) ?_
      cases q : H b with
      | none => rfl
      | some u =>
        rcases S.only b u q with z | z
        · rw [z.1, noT] at e
          cases e
        · rw [z.2.1] at e
          cases e
    have lim1 : (hidT s₁.heap H).NoLimit := by
      obtain ⟨mc, h1, h2⟩ := lim
      exact ⟨mc, ns1 h1, h2⟩
    have code1 : PySem.W.CodeHd (hidT s₁.heap H) c T := by
      obtain ⟨o, us, file, tf, flags, tg, inF, text, tt, e1, r1, r2, r3, rr⟩ := code
      refine ⟨o, us, file, tf, flags, tg, inF, text, tt, plainO e1 (fun ys n z => ?_) (fun z => ?_), r1, r2, r3, rr⟩
      · rw [r2] at z
        cases z
      · rw [r2] at z
        cases z
        cases r3
    have table : LamX.TabB (hidT s₁.heap H) mg c T := by
      refine ⟨code1, ?_, fun z => ?_⟩
      · obtain ⟨bm, ob, b1, b2, b3, b4, b5, b6⟩ := bmain
        refine ⟨bm, ob, b1, b2, fun z => ?_, fun z => ?_, plainO b3 (fun ys n z => ?_) (fun z => ?_), b4, b5, b6⟩
        · obtain ⟨o, es, ep, e, d, _⟩ := glob
          rw [z, e] at b3
          cases b3
          rw [d] at b6
          cases b6
        · rw [z, tab] at b3
          cases b3
          cases b6
        · rw [b6] at z
          cases z
        · rw [b6] at z
          cases z
      · obtain ⟨o, es, ep, e, d, _⟩ := glob
        rw [z, tab] at e
        cases e
        cases d
    have e0 : Env0 P w K mg (hidT s₁.heap H) callerA [] s₁ H := {
      frames := rfl, mod := ⟨kIn, ns1 glob, ⟨mb, ns1 blt, bltIs⟩, lim1⟩, bs := fun _ _ e => of_hidT e, bsz := Nat.le_of_eq (hidT_size _ _), funs := True.intro, frf := (fun _ hb => nomatch hb), hok := S.ok, bare := .of_eq gens }
    apply codeAny_mono ((F _ kIn (ns1 glob) (mods.elim fun mm h => ⟨mm, ns1 h⟩) table).go (us := [.ref a]) (vs := [.ref a]) room rfl e0 (bind s₁ _) (.cons rfl .nil) (want H S.tab sq))
    intro r s' hr
    match r, hr with
    | .error _, hr => exact hr.elim
    | .ok .next, hr => exact False.elim hr
    | .ok .brk, hr => exact False.elim hr
    | .ok .cont, hr => exact False.elim hr
    | .ok (.ret u), hr =>
      obtain ⟨v, H', os, bare, un, ok', rv, q⟩ := hr
      cases (show v = V.bl true from q)
      cases (show u = Value.bool true from rv)
      obtain ⟨more, grown⟩ := un.tbls T #[] S.tab
      have gT := ok' T _ grown
      have rest : ∀ b o, b ≠ T → s₁.heap.get? b = some o → s'.heap.get? b = some o := by
        intro b o nb e
        cases q : H b with
        | none => exact un.keep b o e q (fun z => nomatch z) (fun z => nomatch z)
        | some u =>
          rcases S.only b u q with z | ⟨_, _, ob, xs, rfl⟩
          · exact absurd z.1 nb
          · have e1 := (S.ok b _ q).1
            have e2 := (ok' b _ (un.frzs b ob _ q)).1
            rw [e] at e1
            cases e1
            exact e2
      refine ⟨rfl, ⟨fun b o e => ?_, fun b o e => ?_⟩, os, bare⟩
      · by_cases hb : b = T
        · subst hb
          rw [tab] at e
          cases e
          exact .inr (.inl ⟨(code.tab tab).isCodeTable, rfl, #[], more, rfl, gT⟩)
        · exact .inl (rest b o hb e)
      · by_cases hb : b = T
        · subst hb
          exact ⟨_, gT⟩
        · exact ⟨o, rest b o hb e⟩
  have small : (ns.map V.int).length ≤ sizeLine := by rw [List.length_map]; exact few
  cases known : K.lookup a with
  | some o =>
    have e := inK a o known
    rw [here] at e
    cases e
    have sz : vs.length ≤ sizeLine := by rw [← rel.length]; exact small
    have H0 : ∀ {b u}, (if b = T then some (HO.tbl #[]) else none) = some u → b = T ∧ u = .tbl #[] := by
      intro b u z
      by_cases hb : b = T
      · rw [if_pos hb] at z
        cases z
        exact ⟨hb, rfl⟩
      · rw [if_neg hb] at z
        cases z
    refine main (fun b => if b = T then some (.tbl #[]) else none) ⟨if_pos rfl, fun b u z => ?_, fun b u z => .inl (H0 z)⟩ (.inr ⟨_, vs.toArray, _, known, rfl, rfl, rfl, by simpa using sz, by simpa using rel⟩)
    obtain ⟨rfl, rfl⟩ := H0 z
    exact tab
  | none =>
    have H1 : ∀ {b u}, (if b = T then some (HO.tbl #[]) else if b = a then some (HO.frz { cls := .type "list", data := .seq vs.toArray } (.lst (ns.map V.int))) else none) = some u → (b = T ∧ u = .tbl #[]) ∨ (b = a ∧ u = HO.frz { cls := .type "list", data := .seq vs.toArray } (.lst (ns.map V.int))) := by
      intro b u z
      by_cases hb : b = T
      · rw [if_pos hb] at z
        cases z
        exact .inl ⟨hb, rfl⟩
      · rw [if_neg hb] at z
        by_cases hc : b = a
        · rw [if_pos hc] at z
          cases z
          exact .inr ⟨hc, rfl⟩
        · rw [if_neg hc] at z
          cases z
    refine main (fun b => if b = T then some (.tbl #[]) else if b = a then some (.frz { cls := .type "list", data := .seq vs.toArray } (.lst (ns.map V.int))) else none) ⟨if_pos rfl, fun b u z => ?_, fun b u z => ?_⟩ (.inl (.inr ⟨{ cls := .type "list", data := .seq vs.toArray }, (if_neg aT).trans (if_pos rfl)⟩))
    · rcases H1 z with ⟨rfl, rfl⟩ | ⟨rfl, rfl⟩
      · exact tab
      · exact ⟨here, small, vs, _, rel, here⟩
    · rcases H1 z with z | ⟨rfl, rfl⟩
      · exact .inl z
      · exact .inr ⟨rfl, known, _, _, rfl⟩
theorem quiet_walkT {l : PySem.W.OpenLaw} {n k : Nat} {q : Program} {loose : List Str} {XP : (Str → Option Value) → Heap → Prop} {YP : World → Heap → Prop} {d : DefRec} {K : Params → PySem.W.Frag} {x : Str}
    (noImport : importsNone q = true) (most : l.most = some n) (n2 : n ≤ sizeLine) (defaults : d.params.defaults = []) (room : Room k callerA) (hY : ∀ (w : World) (h : Heap), YP w h → (K w.params).In h)
    (F : ∀ (w : World) (mg : Str → Option Value) (fa : Addr) (h : Heap), (K w.params).In h → h.Ns mainGlobals mg → mg d.name = some (.ref fa) → (∀ (d' : DefRec) (y : Str) (c P : Addr), (recsOf q).find? (fun e => e.name == y) = some d' → PySem.W.tabIn (K w.params) y = some (c, P) → PySem.W.CodeHd h c P ∧ h.get? P = some emptyTab) →
      ∃ (fd : FuncData) (c T : Addr) (sp : Sp), PySem.W.CodeHd h c T ∧ h.get? T = some emptyTab ∧ (K w.params).lookup T = none ∧ (∀ (s : Shared) (u : Value), BindsTo s fd ⟨[u], []⟩ [(x, u)]) ∧
        (∀ (H : Hp) (a : Addr) (ns : List Int), ns.length ≤ n → H T = some (.tbl #[]) → SqL (K w.params) H a (ns.map V.int) → sp [.ref a] H (fun v _ => v = .bl true) E0) ∧
        ∀ base : Heap, (K w.params).In base → base.Ns mainGlobals mg → (∃ mm, base.Ns sysModules mm) → LamX.TabB base mg c T → FnG l.prog w (K w.params) mg base k fa fd [x] sp) :
    PySem.W.WalkO q loose XP YP l.row.toRowW d [] (fun f vs => PySem.call f vs) := by
  apply Att.attach_call most defaults
  intro w s₀ s₁ mg mb fa o pm cd doc a vs ns G Y ho hd hcd hmg hobj hints hlen hg
  obtain ⟨fd, c, T, sp, code, tab, noT, hb, want, hF⟩ := F w mg fa _ (hY w _ Y) G.T.g hmg fun d' y c P h1 h2 => PySem.W.tab_of G.T (hY w _ Y) h1 h2
  exact quiet_lawT (hY w _ Y) G.T.g G.T.b G.T.builtins G.T.nolimit hg ((G.T.seer noImport).mods.elim fun mm h => ⟨mm, h.1⟩) tab noT code G.T.bmain hobj hints (Nat.le_trans hlen n2) room hF hb fun H o1 s1 => want H a ns hlen o1 s1
theorem tabIn_of {K : PySem.W.Frag} {y : Str} {f cc T : Addr} {o1 p1 : Value} {o2 p2 : Option Addr} {fd : FuncData} {vs : Array Value} {o3 p3 : Array (Option Value)} (a : PySem.W.nsIn K mainGlobals y = some (some (.ref f))) (l : K.lookup f = some ⟨o1, o2, .func fd, o3⟩) (e : fd.code = .ref cc)
    (c : K.lookup cc = some ⟨p1, p2, .fields vs, p3⟩) (v : (vs[11]? : Option Value) = some (.ref T)) : PySem.W.tabIn K y = some (cc, T) := by
  unfold PySem.W.tabIn
  rw [a]
  simp only [l, e, c, v]
theorem endT {l : PySem.W.OpenLaw} {w : World} {K : PySem.W.Frag} {mg : Str → Option Value} {h : Heap} {q : Program} {k n : Nat} {fa : Addr} {x y : Str} {sp : Sp} {f cc T : Addr} {o1 p1 : Value} {o2 p2 : Option Addr} {fdm : FuncData} {vs : Array Value} {o3 p3 : Array (Option Value)}
    (tabOf : ∀ (d' : DefRec) (y : Str) (c P : Addr), (recsOf q).find? (fun e => e.name == y) = some d' → PySem.W.tabIn K y = some (c, P) → PySem.W.CodeHd h c P ∧ h.get? P = some emptyTab)
    (a : PySem.W.nsIn K mainGlobals y = some (some (.ref f))) (lk : K.lookup f = some ⟨o1, o2, .func fdm, o3⟩) (e : fdm.code = .ref cc) (c : K.lookup cc = some ⟨p1, p2, .fields vs, p3⟩) (v : (vs[11]? : Option Value) = some (.ref T))
    (there : ((recsOf q).find? fun e => e.name == y).isSome = true) (noT : (K.lookup T).isNone = true)
    (all : ∃ fd : FuncData, (∀ (s : Shared) (v : Value), BindsTo s fd ⟨[v], []⟩ [(x, v)]) ∧ ∀ base : Heap, K.In base → base.Ns mainGlobals mg → (∃ mm, base.Ns sysModules mm) → LamX.TabB base mg cc T → FnG l.prog w K mg base k fa fd [x] sp)
    (want : ∀ (H : Hp) (a : Addr) (ns : List Int), ns.length ≤ n → H T = some (.tbl #[]) → SqL K H a (ns.map V.int) → sp [.ref a] H (fun v _ => v = .bl true) E0) :
    ∃ (fd : FuncData) (c T : Addr) (sp : Sp), PySem.W.CodeHd h c T ∧ h.get? T = some emptyTab ∧ K.lookup T = none ∧ (∀ (s : Shared) (u : Value), BindsTo s fd ⟨[u], []⟩ [(x, u)]) ∧
        (∀ (H : Hp) (a : Addr) (ns : List Int), ns.length ≤ n → H T = some (.tbl #[]) → SqL K H a (ns.map V.int) → sp [.ref a] H (fun v _ => v = .bl true) E0) ∧
        ∀ base : Heap, K.In base → base.Ns mainGlobals mg → (∃ mm, base.Ns sysModules mm) → LamX.TabB base mg c T → FnG l.prog w K mg base k fa fd [x] sp := by
  obtain ⟨fd, b, F⟩ := all
  obtain ⟨d', hd⟩ := Option.isSome_iff_exists.mp there
  obtain ⟨code, tab⟩ := tabOf d' y cc T hd (tabIn_of a lk e c v)
  exact ⟨fd, cc, T, sp, code, tab, Option.isNone_iff_eq_none.mp noT, b, want, F⟩

/-! ### the def that makes a lambda: its code object, the table at P -/
abbrev TabH (base : Heap) (mg : Str → Option Value) (fd : FuncData) (P : Addr) : Prop := ∃ c, LamX.TabB base mg c P ∧ fd.code = .ref c
theorem okC {P : Program} {w : World} {K : PySem.W.Frag} {mg : Str → Option Value} {base : Heap} {x qual : Str} {st : Stmt} {f : Addr} {fd : FuncData} {N ps : List Str} {k : Nat} {sp : Sp} (F : Fun K x qual st f fd) (S : FnScope N ps (defScope st)) (len : ∀ vs H Q E, sp vs H Q E → vs.length = ps.length)
    (body : ∀ (cdv : Value), fd.code = cdv → ∀ (A : Around) (outer : List Env) (s : Shared) (H : Hp) (vs : List V) (Q : VK) (E : XK), Room k (A.deeper (envOfC qual (defScope st) s.heap.objs.size f cdv)) → sp vs H Q E →
      ∃ t, PSs (cxOf CX0 P w K mg base N qual (defScope st) f cdv A outer s H E).nox (defBody st) t ∧ t { nx := fun _ H' => Q .non H', rt := Q } (start N vs) H) : FnOk P w K mg base CX0 (k + 1) f fd ps sp := by
  obtain ⟨oc, od, kV, doc, pm, an, cdv, ct, osl, e, look, code⟩ := F.ex
  subst e
  refine fn_of look code S len fun A outer s H vs Q E room want => ?_
  obtain ⟨t, ht, hq⟩ := body cdv rfl A outer s H vs Q E room want
  exact ⟨t, ht.nox, hq⟩

def topS (i : Nat) : Stmt := PySem.Challenge.pw_fewspans_k29_too_wide.main.body.getD i (.Pass ⟨0, 0, 0, 0⟩)
abbrev s_depth_changes : Stmt := topS 1
abbrev N_depth_changes : List Str := ["intervals", "changes", "low", "high"]
theorem sc_depth_changes : FnScope N_depth_changes ["intervals"] (defScope s_depth_changes) := ⟨rfl, rfl, rfl, by decide +kernel, rfl, by decide +kernel, by decide +kernel⟩
abbrev s_find_blocks : Stmt := topS 2
abbrev N_find_blocks : List Str := ["intervals", "changes", "borders", "blocks", "depth", "low", "after"]
theorem sc_find_blocks : FnScope N_find_blocks ["intervals"] (defScope s_find_blocks) := ⟨rfl, rfl, rfl, by decide +kernel, rfl, by decide +kernel, by decide +kernel⟩
abbrev s_is_number : Stmt := topS 6
abbrev N_is_number : List Str := ["value"]
theorem sc_is_number : FnScope N_is_number ["value"] (defScope s_is_number) := ⟨rfl, rfl, rfl, by decide +kernel, rfl, by decide +kernel, by decide +kernel⟩
abbrev s_is_position : Stmt := topS 7
abbrev N_is_position : List Str := ["value"]
theorem sc_is_position : FnScope N_is_position ["value"] (defScope s_is_position) := ⟨rfl, rfl, rfl, by decide +kernel, rfl, by decide +kernel, by decide +kernel⟩
abbrev s_is_tuple_of : Stmt := topS 8
abbrev N_is_tuple_of : List Str := ["value", "length"]
theorem sc_is_tuple_of : FnScope N_is_tuple_of ["value", "length"] (defScope s_is_tuple_of) := ⟨rfl, rfl, rfl, by decide +kernel, rfl, by decide +kernel, by decide +kernel⟩
abbrev s_is_interval : Stmt := topS 9
abbrev N_is_interval : List Str := ["value", "low", "high"]
theorem sc_is_interval : FnScope N_is_interval ["value"] (defScope s_is_interval) := ⟨rfl, rfl, rfl, by decide +kernel, rfl, by decide +kernel, by decide +kernel⟩
abbrev s_is_ascending : Stmt := topS 10
abbrev N_is_ascending : List Str := ["value", "is_item", "item", "before"]
theorem sc_is_ascending : FnScope N_is_ascending ["value", "is_item"] (defScope s_is_ascending) := ⟨rfl, rfl, rfl, by decide +kernel, rfl, by decide +kernel, by decide +kernel⟩
abbrev s_has_position : Stmt := topS 11
abbrev N_has_position : List Str := ["interval", "position"]
theorem sc_has_position : FnScope N_has_position ["interval", "position"] (defScope s_has_position) := ⟨rfl, rfl, rfl, by decide +kernel, rfl, by decide +kernel, by decide +kernel⟩
abbrev s_contains : Stmt := topS 12
abbrev N_contains : List Str := ["outer", "inner"]
theorem sc_contains : FnScope N_contains ["outer", "inner"] (defScope s_contains) := ⟨rfl, rfl, rfl, by decide +kernel, rfl, by decide +kernel, by decide +kernel⟩
abbrev s_intersect : Stmt := topS 13
abbrev N_intersect : List Str := ["first", "second", "low", "high"]
theorem sc_intersect : FnScope N_intersect ["first", "second"] (defScope s_intersect) := ⟨rfl, rfl, rfl, by decide +kernel, rfl, by decide +kernel, by decide +kernel⟩
abbrev s_is_demand : Stmt := topS 15
abbrev N_is_demand : List Str := ["value", "position", "target"]
theorem sc_is_demand : FnScope N_is_demand ["value"] (defScope s_is_demand) := ⟨rfl, rfl, rfl, by decide +kernel, rfl, by decide +kernel, by decide +kernel⟩
abbrev s_serves : Stmt := topS 16
abbrev N_serves : List Str := ["piece", "demand", "position", "target"]
theorem sc_serves : FnScope N_serves ["piece", "demand"] (defScope s_serves) := ⟨rfl, rfl, rfl, by decide +kernel, rfl, by decide +kernel, by decide +kernel⟩
abbrev s_conflict : Stmt := topS 17
abbrev N_conflict : List Str := ["first", "second"]
theorem sc_conflict : FnScope N_conflict ["first", "second"] (defScope s_conflict) := ⟨rfl, rfl, rfl, by decide +kernel, rfl, by decide +kernel, by decide +kernel⟩
abbrev s_is_independent : Stmt := topS 18
abbrev N_is_independent : List Str := ["value", "item", "index", "first", "second"]
theorem sc_is_independent : FnScope N_is_independent ["value"] (defScope s_is_independent) := ⟨rfl, rfl, rfl, by decide +kernel, rfl, by decide +kernel, by decide +kernel⟩
abbrev s_demands_at_blocks : Stmt := topS 19
abbrev N_demands_at_blocks : List Str := ["targets", "blocks", "low", "high", "target"]
theorem sc_demands_at_blocks : FnScope N_demands_at_blocks ["targets", "blocks"] (defScope s_demands_at_blocks) := ⟨rfl, rfl, rfl, by decide +kernel, rfl, by decide +kernel, by decide +kernel⟩
abbrev s_is_open : Stmt := topS 20
abbrev N_is_open : List Str := ["pieces", "demand", "piece"]
theorem sc_is_open : FnScope N_is_open ["pieces", "demand"] (defScope s_is_open) := ⟨rfl, rfl, rfl, by decide +kernel, rfl, by decide +kernel, by decide +kernel⟩
abbrev s_open_demands : Stmt := topS 21
abbrev N_open_demands : List Str := ["targets", "pieces", "demands", "demand"]
theorem sc_open_demands : FnScope N_open_demands ["targets", "pieces"] (defScope s_open_demands) := ⟨rfl, rfl, rfl, by decide +kernel, rfl, by decide +kernel, by decide +kernel⟩
abbrev s_shadow_target : Stmt := topS 22
abbrev N_shadow_target : List Str := ["targets", "demand", "position", "whole", "target"]
theorem sc_shadow_target : FnScope N_shadow_target ["targets", "demand"] (defScope s_shadow_target) := ⟨rfl, rfl, rfl, by decide +kernel, rfl, by decide +kernel, by decide +kernel⟩
abbrev s_pieces_inside : Stmt := topS 30
abbrev N_pieces_inside : List Str := ["pieces", "target", "piece"]
theorem sc_pieces_inside : FnScope N_pieces_inside ["pieces", "target"] (defScope s_pieces_inside) := ⟨rfl, rfl, rfl, by decide +kernel, rfl, by decide +kernel, by decide +kernel⟩
abbrev s_first_gap : Stmt := topS 31
abbrev N_first_gap : List Str := ["pieces", "target", "position", "last", "low", "high"]
theorem sc_first_gap : FnScope N_first_gap ["pieces", "target"] (defScope s_first_gap) := ⟨rfl, rfl, rfl, by decide +kernel, rfl, by decide +kernel, by decide +kernel⟩
abbrev s_generates : Stmt := topS 32
abbrev N_generates : List Str := ["pieces", "target"]
theorem sc_generates : FnScope N_generates ["pieces", "target"] (defScope s_generates) := ⟨rfl, rfl, rfl, by decide +kernel, rfl, by decide +kernel, by decide +kernel⟩
abbrev s_find_missing : Stmt := topS 33
abbrev N_find_missing : List Str := ["targets", "pieces", "target", "gap"]
theorem sc_find_missing : FnScope N_find_missing ["targets", "pieces"] (defScope s_find_missing) := ⟨rfl, rfl, rfl, by decide +kernel, rfl, by decide +kernel, by decide +kernel⟩
abbrev s_without_item : Stmt := topS 34
abbrev N_without_item : List Str := ["items", "item", "other"]
theorem sc_without_item : FnScope N_without_item ["items", "item"] (defScope s_without_item) := ⟨rfl, rfl, rfl, by decide +kernel, rfl, by decide +kernel, by decide +kernel⟩
abbrev s_require_few_blocks : Stmt := topS 36
abbrev N_require_few_blocks : List Str := ["intervals"]
theorem sc_require_few_blocks : FnScope N_require_few_blocks ["intervals"] (defScope s_require_few_blocks) := ⟨rfl, rfl, rfl, by decide +kernel, rfl, by decide +kernel, by decide +kernel⟩
abbrev s_decisive_demands : Stmt := topS 37
abbrev N_decisive_demands : List Str := ["targets", "pieces", "demand"]
theorem sc_decisive_demands : FnScope N_decisive_demands ["targets", "pieces"] (defScope s_decisive_demands) := ⟨rfl, rfl, rfl, by decide +kernel, rfl, by decide +kernel, by decide +kernel⟩
abbrev s_largest_independent : Stmt := topS 38
abbrev N_largest_independent : List Str := ["demands", "first", "rest", "chosen", "demand", "position", "target"]
theorem sc_largest_independent : FnScope N_largest_independent ["demands"] (defScope s_largest_independent) := ⟨rfl, rfl, rfl, by decide +kernel, rfl, by decide +kernel, by decide +kernel⟩
abbrev s_unserved_demands : Stmt := topS 39
abbrev N_unserved_demands : List Str := ["demands", "piece", "demand"]
theorem sc_unserved_demands : FnScope N_unserved_demands ["demands", "piece"] (defScope s_unserved_demands) := ⟨rfl, rfl, rfl, by decide +kernel, rfl, by decide +kernel, by decide +kernel⟩
abbrev s_helpful_piece : Stmt := topS 40
abbrev N_helpful_piece : List Str := ["demands", "blocks", "pieces", "low", "end", "start", "high"]
theorem sc_helpful_piece : FnScope N_helpful_piece ["demands", "blocks"] (defScope s_helpful_piece) := ⟨rfl, rfl, rfl, by decide +kernel, rfl, by decide +kernel, by decide +kernel⟩
abbrev s_smallest_solution : Stmt := topS 41
abbrev N_smallest_solution : List Str := ["targets", "pieces", "blocks", "demands", "witnesses", "added", "piece"]
theorem sc_smallest_solution : FnScope N_smallest_solution ["targets", "pieces"] (defScope s_smallest_solution) := ⟨rfl, rfl, rfl, by decide +kernel, rfl, by decide +kernel, by decide +kernel⟩
abbrev s_count_needed : Stmt := topS 42
abbrev N_count_needed : List Str := ["targets", "pieces"]
theorem sc_count_needed : FnScope N_count_needed ["targets", "pieces"] (defScope s_count_needed) := ⟨rfl, rfl, rfl, by decide +kernel, rfl, by decide +kernel, by decide +kernel⟩
abbrev s_solve : Stmt := topS 43
abbrev N_solve : List Str := ["targets", "pieces"]
theorem sc_solve : FnScope N_solve ["targets", "pieces"] (defScope s_solve) := ⟨rfl, rfl, rfl, by decide +kernel, rfl, by decide +kernel, by decide +kernel⟩
abbrev s_are_witnesses : Stmt := topS 44
abbrev N_are_witnesses : List Str := ["targets", "pieces", "value", "demand"]
theorem sc_are_witnesses : FnScope N_are_witnesses ["targets", "pieces", "value"] (defScope s_are_witnesses) := ⟨rfl, rfl, rfl, by decide +kernel, rfl, by decide +kernel, by decide +kernel⟩
abbrev s_solution_holds : Stmt := topS 45
abbrev N_solution_holds : List Str := ["targets", "pieces", "value", "added", "witnesses"]
theorem sc_solution_holds : FnScope N_solution_holds ["targets", "pieces", "value"] (defScope s_solution_holds) := ⟨rfl, rfl, rfl, by decide +kernel, rfl, by decide +kernel, by decide +kernel⟩
abbrev s_helps : Stmt := topS 46
abbrev N_helps : List Str := ["targets", "pieces", "interval"]
theorem sc_helps : FnScope N_helps ["targets", "pieces", "interval"] (defScope s_helps) := ⟨rfl, rfl, rfl, by decide +kernel, rfl, by decide +kernel, by decide +kernel⟩
abbrev s_helpful_interval : Stmt := topS 47
abbrev N_helpful_interval : List Str := ["targets", "pieces", "demands"]
theorem sc_helpful_interval : FnScope N_helpful_interval ["targets", "pieces"] (defScope s_helpful_interval) := ⟨rfl, rfl, rfl, by decide +kernel, rfl, by decide +kernel, by decide +kernel⟩
abbrev s_has_open_demand : Stmt := topS 48
abbrev N_has_open_demand : List Str := ["target", "pieces", "interval", "parts", "piece", "part"]
theorem sc_has_open_demand : FnScope N_has_open_demand ["target", "pieces", "interval"] (defScope s_has_open_demand) := ⟨rfl, rfl, rfl, by decide +kernel, rfl, by decide +kernel, by decide +kernel⟩
abbrev s_widen : Stmt := topS 49
abbrev N_widen : List Str := ["targets", "pieces", "interval", "served", "target", "low", "high"]
theorem sc_widen : FnScope N_widen ["targets", "pieces", "interval"] (defScope s_widen) := ⟨rfl, rfl, rfl, by decide +kernel, rfl, by decide +kernel, by decide +kernel⟩
abbrev s_essential_targets : Stmt := topS 51
abbrev N_essential_targets : List Str := ["targets", "needed", "target"]
theorem sc_essential_targets : FnScope N_essential_targets ["targets"] (defScope s_essential_targets) := ⟨rfl, rfl, rfl, by decide +kernel, rfl, by decide +kernel, by decide +kernel⟩
abbrev s_core_targets : Stmt := topS 52
abbrev N_core_targets : List Str := ["targets", "needed", "left", "target", "rest"]
theorem sc_core_targets : FnScope N_core_targets ["targets"] (defScope s_core_targets) := ⟨rfl, rfl, rfl, by decide +kernel, rfl, by decide +kernel, by decide +kernel⟩
abbrev s_is_free : Stmt := topS 53
abbrev N_is_free : List Str := ["targets", "interval"]
theorem sc_is_free : FnScope N_is_free ["targets", "interval"] (defScope s_is_free) := ⟨rfl, rfl, rfl, by decide +kernel, rfl, by decide +kernel, by decide +kernel⟩
abbrev s_growth_counts : Stmt := topS 54
abbrev N_growth_counts : List Str := ["targets", "many"]
theorem sc_growth_counts : FnScope N_growth_counts ["targets"] (defScope s_growth_counts) := ⟨rfl, rfl, rfl, by decide +kernel, rfl, by decide +kernel, by decide +kernel⟩
abbrev s_law_draws : Stmt := topS 56
abbrev N_law_draws : List Str := ["_law_script", "_law_cells", "_law_cell"]
theorem sc_law_draws : FnScope N_law_draws ["_law_script"] (defScope s_law_draws) := ⟨rfl, rfl, rfl, by decide +kernel, rfl, by decide +kernel, by decide +kernel⟩
abbrev s_law_next : Stmt := topS 57
abbrev N_law_next : List Str := ["_law_state", "_law_many", "_law_cells", "_law_count", "_law_rests", "_law_index", "_law_digit", "_law_mixed"]
theorem sc_law_next : FnScope N_law_next ["_law_state", "_law_many"] (defScope s_law_next) := ⟨rfl, rfl, rfl, by decide +kernel, rfl, by decide +kernel, by decide +kernel⟩
abbrev s_law_blocks : Stmt := topS 61
abbrev N_law_blocks : List Str := ["_law_intervals", "_law_cuts", "_law_low", "_law_high", "_law_found", "_law_one_here"]
theorem sc_law_blocks : FnScope N_law_blocks ["_law_intervals"] (defScope s_law_blocks) := ⟨rfl, rfl, rfl, by decide +kernel, rfl, by decide +kernel, by decide +kernel⟩
abbrev s_law_wide : Stmt := topS 62
abbrev N_law_wide : List Str := ["_law_state", "_law_kind", "_law_many", "_law_found", "_law_k", "_law_cut"]
theorem sc_law_wide : FnScope N_law_wide ["_law_state"] (defScope s_law_wide) := ⟨rfl, rfl, rfl, by decide +kernel, rfl, by decide +kernel, by decide +kernel⟩
abbrev s_law_call : Stmt := topS 63
abbrev N_law_call : List Str := ["_law_index", "_law_targets_here", "_law_pieces", "_law_interval"]
theorem sc_law_call : FnScope N_law_call ["_law_index", "_law_targets_here", "_law_pieces", "_law_interval"] (defScope s_law_call) := ⟨rfl, rfl, rfl, by decide +kernel, rfl, by decide +kernel, by decide +kernel⟩
abbrev s_law_raised : Stmt := topS 64
abbrev N_law_raised : List Str := ["_law_index", "_law_targets_here", "_law_pieces", "_law_interval", "error", "_law_alone", "_law_good"]
theorem sc_law_raised : FnScope N_law_raised ["_law_index", "_law_targets_here", "_law_pieces", "_law_interval"] (defScope s_law_raised) := ⟨rfl, rfl, rfl, by decide +kernel, rfl, by decide +kernel, by decide +kernel⟩
abbrev s_law_judged : Stmt := topS 65
abbrev N_law_judged : List Str := ["_law_state", "_law_wide_here", "_law_k", "_law_proof", "_law_low", "_law_high", "_law_found"]
theorem sc_law_judged : FnScope N_law_judged ["_law_state"] (defScope s_law_judged) := ⟨rfl, rfl, rfl, by decide +kernel, rfl, by decide +kernel, by decide +kernel⟩
abbrev s_law : Stmt := topS 66
abbrev N_law : List Str := ["_law_script", "_law_state", "_law_turn", "_law_targets_here", "_law_pieces", "_law_low", "_law_interval", "_law_index", "_law_some", "_law_many", "_law_due"]
theorem sc_law : FnScope N_law ["_law_script"] (defScope s_law) := ⟨rfl, rfl, rfl, by decide +kernel, rfl, by decide +kernel, by decide +kernel⟩
abbrev s_TooWide_init : Stmt := inClass (topS 25) 0
abbrev N_TooWide_init : List Str := ["self", "bound"]
theorem sc_TooWide_init : FnScope N_TooWide_init ["self", "bound"] (defScope s_TooWide_init) := ⟨rfl, rfl, rfl, by decide +kernel, rfl, by decide +kernel, by decide +kernel⟩
/-! ### the deck of three: the cells, how many draws, the rests of large cells -/
structure Dk3 (H : Hp) (d : Addr) (c : Addr × Addr) (n : Int) : Prop where
  ex : ∃ (xs ys : List Int), H d = some (.lst [.ref c.2, .int n, .ref c.1]) ∧ H c.2 = some (.lst (xs.map V.int)) ∧ H c.1 = some (.lst (ys.map V.int)) ∧ c.2 ≠ c.1 ∧ 0 < xs.length ∧ xs.length ≤ 64 ∧ ys.length = xs.length ∧ ∀ y ∈ ys, 0 ≤ y
theorem ints_ne {H : Hp} {d c e : Addr} {n : Int} {ys : List Int} (h1 : H d = some (.lst [.ref e, .int n, .ref c])) (h3 : H c = some (.lst (ys.map V.int))) : c ≠ d := by
  intro z
  subst z
  have q := h3.symm.trans h1
  match ys, q with
  | [], q => cases q
  | y :: r, q => cases q
def Kp3 (d : Addr) (c : Addr × Addr) (H H' : Hp) : Prop := ∀ b o, b ≠ d → b ≠ c.1 → H b = some o → H' b = some o
theorem Kp3.trans {d : Addr} {c : Addr × Addr} {H H1 H2 : Hp} (h1 : Kp3 d c H H1) (h2 : Kp3 d c H1 H2) : Kp3 d c H H2 := fun b o n1 n2 e => h2 b o n1 n2 (h1 b o n1 n2 e)
theorem Kp3.same {d : Addr} {c : Addr × Addr} {H H1 : Hp} (h : Same H H1) : Kp3 d c H H1 := fun b o _ _ e => h b o e
theorem Dk3.two {H : Hp} {d : Addr} {c : Addr × Addr} {n : Int} (h : Dk3 H d c n) : (∃ us, H d = some (.lst us)) ∧ (∃ us, H c.1 = some (.lst us)) ∧ ∃ us, H c.2 = some (.lst us) := by
  obtain ⟨xs, ys, h1, h2, h3, _⟩ := h.ex
  exact ⟨⟨_, h1⟩, ⟨_, h3⟩, _, h2⟩
theorem Kp3.none {d : Addr} {c : Addr × Addr} {H H' : Hp} (k : Kp3 d c H H') {n m : Int} (h : Dk3 H d c n) (h' : Dk3 H' d c m) {t : Addr} (e : H' t = none) : H t = none := by
  obtain ⟨⟨u1, e1⟩, ⟨u2, e2⟩, _⟩ := h'.two
  by_cases c1 : t = d
  · rw [c1, e1] at e
    cases e
  · by_cases c2 : t = c.1
    · rw [c2, e2] at e
      cases e
    · cases q : H t with
      | none => rfl
      | some o =>
        rw [k t o c1 c2 q] at e
        cases e
theorem Dk3.kept {H H' : Hp} {d : Addr} {c : Addr × Addr} {n : Int} (h : Dk3 H d c n) (s : Same H H') : Dk3 H' d c n :=
  let ⟨xs, ys, h1, h2, h3, r⟩ := h.ex
  ⟨xs, ys, s _ _ h1, s _ _ h2, s _ _ h3, r⟩
theorem Dk3.eq {H : Hp} {d : Addr} {c : Addr × Addr} {n m : Int} (h : Dk3 H d c n) (e : n = m) : Dk3 H d c m := e ▸ h
theorem same_new {H : Hp} {p : Addr} {o : HO} (h : H p = none) : Same H (upd H p o) := fun b x e => by
  rw [upd_ne (ne_of_none e h)]
  exact e
theorem cutTo (xs : List V) (j : Nat) : cutV xs none (some (j : Int)) = xs.take j := by
  unfold cutV
  rw [HT.sIx_none, show HT.sIx xs.length xs.length (some (j : Int)) = min j xs.length from HT.sIx_nat xs.length xs.length j]
  rw [Nat.sub_zero, List.drop_zero]
  rcases Nat.le_total j xs.length with h | h
  · rw [Nat.min_eq_left h]
  · rw [Nat.min_eq_right h, List.take_length, List.take_of_length_le h]
/-- p is no part of the deck -/
abbrev Off3 (d : Addr) (c : Addr × Addr) (p : Addr) : Prop := p ≠ d ∧ p ≠ c.1 ∧ p ≠ c.2
theorem Kp3.keep {d : Addr} {c : Addr × Addr} {H H' : Hp} (k : Kp3 d c H H') {a : Addr} {o : HO} (n1 : Off3 d c a) (h : H a = some o) : H' a = some o := k a o n1.1 n1.2.1 h
theorem Kp3.tup {d : Addr} {c : Addr × Addr} {n : Int} {H H' : Hp} (k : Kp3 d c H H') (dk : Dk3 H d c n) {a : Addr} {xs : List V} (h : H a = some (.tup xs)) : H' a = some (.tup xs) := by
  obtain ⟨⟨u1, e1⟩, ⟨u2, e2⟩, _⟩ := dk.two
  exact k a _ (ne_of h e1 (fun z => by cases z)) (ne_of h e2 (fun z => by cases z)) h
theorem Dk3.off {H : Hp} {d : Addr} {c : Addr × Addr} {n : Int} (h : Dk3 H d c n) {p : Addr} (e : H p = none) : Off3 d c p := by
  obtain ⟨⟨u1, e1⟩, ⟨u2, e2⟩, u3, e3⟩ := h.two
  exact ⟨(ne_of_none e1 e).symm, (ne_of_none e2 e).symm, (ne_of_none e3 e).symm⟩
theorem Dk3.upd {H : Hp} {d : Addr} {c : Addr × Addr} {n : Int} (h : Dk3 H d c n) {p : Addr} {o : HO} (off : Off3 d c p) : Dk3 (upd H p o) d c n := by
  obtain ⟨xs, ys, h1, h2, h3, r⟩ := h.ex
  exact ⟨xs, ys, by rw [upd_ne off.1.symm]; exact h1, by rw [upd_ne off.2.2.symm]; exact h2, by rw [upd_ne off.2.1.symm]; exact h3, r⟩
def mxI (i j : Int) : Int := if j > i then j else i
def mnI (i j : Int) : Int := if j < i then j else i
def sp3_law_draws (K : PySem.W.Frag) : Sp := fun vs H Q _ => ∃ (a : Addr) (ns : List Int), vs = [.ref a] ∧ SqL K H a (ns.map V.int) ∧ ns.length ≤ 63 ∧
  ∀ H' d c, Same H H' → H d = none → Dk3 H' d c 0 → Q (.ref d) H'
def sp3_law_next : Sp := fun vs H Q _ => ∃ (d : Addr) (c : Addr × Addr) (n lim : Int), vs = [.ref d, .int lim] ∧ Dk3 H d c n ∧ 0 ≤ n ∧ n < 1000000 ∧ 0 < lim ∧ lim < 2 ^ 63 ∧
  ∀ H' r, Kp3 d c H H' → Dk3 H' d c (n + 1) → 0 ≤ r → r < lim → Q (.int r) H'
section
structure Tx (K : PySem.W.Frag) (mg : Str → Option Value) (f_depth_changes f_find_blocks f_is_number f_is_position f_is_tuple_of f_is_interval f_is_ascending f_has_position f_contains f_intersect f_is_demand f_serves f_conflict f_is_independent f_demands_at_blocks f_is_open f_open_demands f_shadow_target f_pieces_inside f_first_gap f_generates f_find_missing f_without_item f_require_few_blocks f_decisive_demands f_largest_independent f_unserved_demands f_helpful_piece f_smallest_solution f_count_needed f_solve f_are_witnesses f_solution_holds f_helps f_helpful_interval f_has_open_demand f_widen f_essential_targets f_core_targets f_is_free f_growth_counts f_law_draws f_law_next f_law_blocks f_law_wide f_law_call f_law_raised f_law_judged f_law f_TooWide_init X_TooWide X_NotGenerated X_OutOfRange X_TooMany X_SpanError : Addr) (d_depth_changes d_find_blocks d_is_number d_is_position d_is_tuple_of d_is_interval d_is_ascending d_has_position d_contains d_intersect d_is_demand d_serves d_conflict d_is_independent d_demands_at_blocks d_is_open d_open_demands d_shadow_target d_pieces_inside d_first_gap d_generates d_find_missing d_without_item d_require_few_blocks d_decisive_demands d_largest_independent d_unserved_demands d_helpful_piece d_smallest_solution d_count_needed d_solve d_are_witnesses d_solution_holds d_helps d_helpful_interval d_has_open_demand d_widen d_essential_targets d_core_targets d_is_free d_growth_counts d_law_draws d_law_next d_law_blocks d_law_wide d_law_call d_law_raised d_law_judged d_law d_TooWide_init : FuncData) (t_LAST_POSITION t_MAX_BLOCKS : Tok) : Prop where
  F_depth_changes : Fun K "depth_changes" "depth_changes" s_depth_changes f_depth_changes d_depth_changes
  b_depth_changes : Binds K d_depth_changes ["intervals"] []
  g_depth_changes : mg "depth_changes" = some (.ref f_depth_changes)
  F_find_blocks : Fun K "find_blocks" "find_blocks" s_find_blocks f_find_blocks d_find_blocks
  b_find_blocks : Binds K d_find_blocks ["intervals"] []
  g_find_blocks : mg "find_blocks" = some (.ref f_find_blocks)
  F_is_number : Fun K "is_number" "is_number" s_is_number f_is_number d_is_number
  b_is_number : Binds K d_is_number ["value"] []
  g_is_number : mg "is_number" = some (.ref f_is_number)
  F_is_position : Fun K "is_position" "is_position" s_is_position f_is_position d_is_position
  b_is_position : Binds K d_is_position ["value"] []
  g_is_position : mg "is_position" = some (.ref f_is_position)
  F_is_tuple_of : Fun K "is_tuple_of" "is_tuple_of" s_is_tuple_of f_is_tuple_of d_is_tuple_of
  b_is_tuple_of : Binds K d_is_tuple_of ["value", "length"] []
  g_is_tuple_of : mg "is_tuple_of" = some (.ref f_is_tuple_of)
  F_is_interval : Fun K "is_interval" "is_interval" s_is_interval f_is_interval d_is_interval
  b_is_interval : Binds K d_is_interval ["value"] []
  g_is_interval : mg "is_interval" = some (.ref f_is_interval)
  F_is_ascending : Fun K "is_ascending" "is_ascending" s_is_ascending f_is_ascending d_is_ascending
  b_is_ascending : Binds K d_is_ascending ["value", "is_item"] []
  g_is_ascending : mg "is_ascending" = some (.ref f_is_ascending)
  F_has_position : Fun K "has_position" "has_position" s_has_position f_has_position d_has_position
  b_has_position : Binds K d_has_position ["interval", "position"] []
  g_has_position : mg "has_position" = some (.ref f_has_position)
  F_contains : Fun K "contains" "contains" s_contains f_contains d_contains
  b_contains : Binds K d_contains ["outer", "inner"] []
  g_contains : mg "contains" = some (.ref f_contains)
  F_intersect : Fun K "intersect" "intersect" s_intersect f_intersect d_intersect
  b_intersect : Binds K d_intersect ["first", "second"] []
  g_intersect : mg "intersect" = some (.ref f_intersect)
  F_is_demand : Fun K "is_demand" "is_demand" s_is_demand f_is_demand d_is_demand
  b_is_demand : Binds K d_is_demand ["value"] []
  g_is_demand : mg "is_demand" = some (.ref f_is_demand)
  F_serves : Fun K "serves" "serves" s_serves f_serves d_serves
  b_serves : Binds K d_serves ["piece", "demand"] []
  g_serves : mg "serves" = some (.ref f_serves)
  F_conflict : Fun K "conflict" "conflict" s_conflict f_conflict d_conflict
  b_conflict : Binds K d_conflict ["first", "second"] []
  g_conflict : mg "conflict" = some (.ref f_conflict)
  F_is_independent : Fun K "is_independent" "is_independent" s_is_independent f_is_independent d_is_independent
  b_is_independent : Binds K d_is_independent ["value"] []
  g_is_independent : mg "is_independent" = some (.ref f_is_independent)
  F_demands_at_blocks : Fun K "demands_at_blocks" "demands_at_blocks" s_demands_at_blocks f_demands_at_blocks d_demands_at_blocks
  b_demands_at_blocks : Binds K d_demands_at_blocks ["targets", "blocks"] []
  g_demands_at_blocks : mg "demands_at_blocks" = some (.ref f_demands_at_blocks)
  F_is_open : Fun K "is_open" "is_open" s_is_open f_is_open d_is_open
  b_is_open : Binds K d_is_open ["pieces", "demand"] []
  g_is_open : mg "is_open" = some (.ref f_is_open)
  F_open_demands : Fun K "open_demands" "open_demands" s_open_demands f_open_demands d_open_demands
  b_open_demands : Binds K d_open_demands ["targets", "pieces"] []
  g_open_demands : mg "open_demands" = some (.ref f_open_demands)
  F_shadow_target : Fun K "shadow_target" "shadow_target" s_shadow_target f_shadow_target d_shadow_target
  b_shadow_target : Binds K d_shadow_target ["targets", "demand"] []
  g_shadow_target : mg "shadow_target" = some (.ref f_shadow_target)
  F_pieces_inside : Fun K "pieces_inside" "pieces_inside" s_pieces_inside f_pieces_inside d_pieces_inside
  b_pieces_inside : Binds K d_pieces_inside ["pieces", "target"] []
  g_pieces_inside : mg "pieces_inside" = some (.ref f_pieces_inside)
  F_first_gap : Fun K "first_gap" "first_gap" s_first_gap f_first_gap d_first_gap
  b_first_gap : Binds K d_first_gap ["pieces", "target"] []
  g_first_gap : mg "first_gap" = some (.ref f_first_gap)
  F_generates : Fun K "generates" "generates" s_generates f_generates d_generates
  b_generates : Binds K d_generates ["pieces", "target"] []
  g_generates : mg "generates" = some (.ref f_generates)
  F_find_missing : Fun K "find_missing" "find_missing" s_find_missing f_find_missing d_find_missing
  b_find_missing : Binds K d_find_missing ["targets", "pieces"] []
  g_find_missing : mg "find_missing" = some (.ref f_find_missing)
  F_without_item : Fun K "without_item" "without_item" s_without_item f_without_item d_without_item
  b_without_item : Binds K d_without_item ["items", "item"] []
  g_without_item : mg "without_item" = some (.ref f_without_item)
  F_require_few_blocks : Fun K "require_few_blocks" "require_few_blocks" s_require_few_blocks f_require_few_blocks d_require_few_blocks
  b_require_few_blocks : Binds K d_require_few_blocks ["intervals"] []
  g_require_few_blocks : mg "require_few_blocks" = some (.ref f_require_few_blocks)
  F_decisive_demands : Fun K "decisive_demands" "decisive_demands" s_decisive_demands f_decisive_demands d_decisive_demands
  b_decisive_demands : Binds K d_decisive_demands ["targets", "pieces"] []
  g_decisive_demands : mg "decisive_demands" = some (.ref f_decisive_demands)
  F_largest_independent : Fun K "largest_independent" "largest_independent" s_largest_independent f_largest_independent d_largest_independent
  b_largest_independent : Binds K d_largest_independent ["demands"] []
  g_largest_independent : mg "largest_independent" = some (.ref f_largest_independent)
  F_unserved_demands : Fun K "unserved_demands" "unserved_demands" s_unserved_demands f_unserved_demands d_unserved_demands
  b_unserved_demands : Binds K d_unserved_demands ["demands", "piece"] []
  g_unserved_demands : mg "unserved_demands" = some (.ref f_unserved_demands)
  F_helpful_piece : Fun K "helpful_piece" "helpful_piece" s_helpful_piece f_helpful_piece d_helpful_piece
  b_helpful_piece : Binds K d_helpful_piece ["demands", "blocks"] []
  g_helpful_piece : mg "helpful_piece" = some (.ref f_helpful_piece)
  F_smallest_solution : Fun K "smallest_solution" "smallest_solution" s_smallest_solution f_smallest_solution d_smallest_solution
  b_smallest_solution : Binds K d_smallest_solution ["targets", "pieces"] []
  g_smallest_solution : mg "smallest_solution" = some (.ref f_smallest_solution)
  F_count_needed : Fun K "count_needed" "count_needed" s_count_needed f_count_needed d_count_needed
  b_count_needed : Binds K d_count_needed ["targets", "pieces"] []
  g_count_needed : mg "count_needed" = some (.ref f_count_needed)
  F_solve : Fun K "solve" "solve" s_solve f_solve d_solve
  b_solve : Binds K d_solve ["targets", "pieces"] []
  g_solve : mg "solve" = some (.ref f_solve)
  F_are_witnesses : Fun K "are_witnesses" "are_witnesses" s_are_witnesses f_are_witnesses d_are_witnesses
  b_are_witnesses : Binds K d_are_witnesses ["targets", "pieces", "value"] []
  g_are_witnesses : mg "are_witnesses" = some (.ref f_are_witnesses)
  F_solution_holds : Fun K "solution_holds" "solution_holds" s_solution_holds f_solution_holds d_solution_holds
  b_solution_holds : Binds K d_solution_holds ["targets", "pieces", "value"] []
  g_solution_holds : mg "solution_holds" = some (.ref f_solution_holds)
  F_helps : Fun K "helps" "helps" s_helps f_helps d_helps
  b_helps : Binds K d_helps ["targets", "pieces", "interval"] []
  g_helps : mg "helps" = some (.ref f_helps)
  F_helpful_interval : Fun K "helpful_interval" "helpful_interval" s_helpful_interval f_helpful_interval d_helpful_interval
  b_helpful_interval : Binds K d_helpful_interval ["targets", "pieces"] []
  g_helpful_interval : mg "helpful_interval" = some (.ref f_helpful_interval)
  F_has_open_demand : Fun K "has_open_demand" "has_open_demand" s_has_open_demand f_has_open_demand d_has_open_demand
  b_has_open_demand : Binds K d_has_open_demand ["target", "pieces", "interval"] []
  g_has_open_demand : mg "has_open_demand" = some (.ref f_has_open_demand)
  F_widen : Fun K "widen" "widen" s_widen f_widen d_widen
  b_widen : Binds K d_widen ["targets", "pieces", "interval"] []
  g_widen : mg "widen" = some (.ref f_widen)
  F_essential_targets : Fun K "essential_targets" "essential_targets" s_essential_targets f_essential_targets d_essential_targets
  b_essential_targets : Binds K d_essential_targets ["targets"] []
  g_essential_targets : mg "essential_targets" = some (.ref f_essential_targets)
  F_core_targets : Fun K "core_targets" "core_targets" s_core_targets f_core_targets d_core_targets
  b_core_targets : Binds K d_core_targets ["targets"] []
  g_core_targets : mg "core_targets" = some (.ref f_core_targets)
  F_is_free : Fun K "is_free" "is_free" s_is_free f_is_free d_is_free
  b_is_free : Binds K d_is_free ["targets", "interval"] []
  g_is_free : mg "is_free" = some (.ref f_is_free)
  F_growth_counts : Fun K "growth_counts" "growth_counts" s_growth_counts f_growth_counts d_growth_counts
  b_growth_counts : Binds K d_growth_counts ["targets"] []
  g_growth_counts : mg "growth_counts" = some (.ref f_growth_counts)
  F_law_draws : Fun K "_law_draws" "_law_draws" s_law_draws f_law_draws d_law_draws
  b_law_draws : Binds K d_law_draws ["_law_script"] []
  g_law_draws : mg "_law_draws" = some (.ref f_law_draws)
  F_law_next : Fun K "_law_next" "_law_next" s_law_next f_law_next d_law_next
  b_law_next : Binds K d_law_next ["_law_state", "_law_many"] []
  g_law_next : mg "_law_next" = some (.ref f_law_next)
  F_law_blocks : Fun K "_law_blocks" "_law_blocks" s_law_blocks f_law_blocks d_law_blocks
  b_law_blocks : Binds K d_law_blocks ["_law_intervals"] []
  g_law_blocks : mg "_law_blocks" = some (.ref f_law_blocks)
  F_law_wide : Fun K "_law_wide" "_law_wide" s_law_wide f_law_wide d_law_wide
  b_law_wide : Binds K d_law_wide ["_law_state"] []
  g_law_wide : mg "_law_wide" = some (.ref f_law_wide)
  F_law_call : Fun K "_law_call" "_law_call" s_law_call f_law_call d_law_call
  b_law_call : Binds K d_law_call ["_law_index", "_law_targets_here", "_law_pieces", "_law_interval"] []
  g_law_call : mg "_law_call" = some (.ref f_law_call)
  F_law_raised : Fun K "_law_raised" "_law_raised" s_law_raised f_law_raised d_law_raised
  b_law_raised : Binds K d_law_raised ["_law_index", "_law_targets_here", "_law_pieces", "_law_interval"] []
  g_law_raised : mg "_law_raised" = some (.ref f_law_raised)
  F_law_judged : Fun K "_law_judged" "_law_judged" s_law_judged f_law_judged d_law_judged
  b_law_judged : Binds K d_law_judged ["_law_state"] []
  g_law_judged : mg "_law_judged" = some (.ref f_law_judged)
  F_law : Fun K "law" "law" s_law f_law d_law
  b_law : Binds K d_law ["_law_script"] []
  g_law : mg "law" = some (.ref f_law)
  F_TooWide_init : Fun K "__init__" "TooWide.__init__" s_TooWide_init f_TooWide_init d_TooWide_init
  b_TooWide_init : Binds K d_TooWide_init ["self", "bound"] []
  c_LAST_POSITION : mg "LAST_POSITION" = some (.int 1000000000000 t_LAST_POSITION)
  c_MAX_BLOCKS : mg "MAX_BLOCKS" = some (.int 8 t_MAX_BLOCKS)
  z_ValueError : mg "ValueError" = none
  z_abs : mg "abs" = none
  z_all : mg "all" = none
  z_any : mg "any" = none
  z_bool : mg "bool" = none
  z_enumerate : mg "enumerate" = none
  z_int : mg "int" = none
  z_isinstance : mg "isinstance" = none
  z_len : mg "len" = none
  z_max : mg "max" = none
  z_min : mg "min" = none
  z_piece : mg "piece" = none
  z_range : mg "range" = none
  z_repr : mg "repr" = none
  z_set : mg "set" = none
  z_sorted : mg "sorted" = none
  z_tuple : mg "tuple" = none
  z_zip : mg "zip" = none
  xn_TooWide : XcN K mg "TooWide" X_TooWide
  xn_NotGenerated : XcN K mg "NotGenerated" X_NotGenerated
  xn_OutOfRange : XcN K mg "OutOfRange" X_OutOfRange
  xn_TooMany : XcN K mg "TooMany" X_TooMany
  xn_SpanError : XcN K mg "SpanError" X_SpanError
  xi_TooWide : XcI K X_TooWide f_TooWide_init "bound"
  xv_TooWide : PySem.W.subIn K (.ref X_TooWide) (.type "ValueError") = some true
  xl_TooWide : PySem.W.subIn K (.ref X_TooWide) (.type "LookupError") = some false
  xs_TooWide_NotGenerated : PySem.W.subIn K (.ref X_TooWide) (.ref X_NotGenerated) = some false
  xs_TooWide_OutOfRange : PySem.W.subIn K (.ref X_TooWide) (.ref X_OutOfRange) = some false
  xs_TooWide_TooMany : PySem.W.subIn K (.ref X_TooWide) (.ref X_TooMany) = some false
  xs_TooWide_SpanError : PySem.W.subIn K (.ref X_TooWide) (.ref X_SpanError) = some true
  xs_TooWide_TooWide : PySem.W.subIn K (.ref X_TooWide) (.ref X_TooWide) = some true
variable {P : Program} {w : World} {K : PySem.W.Frag} {mg : Str → Option Value} {base : Heap} {f_depth_changes f_find_blocks f_is_number f_is_position f_is_tuple_of f_is_interval f_is_ascending f_has_position f_contains f_intersect f_is_demand f_serves f_conflict f_is_independent f_demands_at_blocks f_is_open f_open_demands f_shadow_target f_pieces_inside f_first_gap f_generates f_find_missing f_without_item f_require_few_blocks f_decisive_demands f_largest_independent f_unserved_demands f_helpful_piece f_smallest_solution f_count_needed f_solve f_are_witnesses f_solution_holds f_helps f_helpful_interval f_has_open_demand f_widen f_essential_targets f_core_targets f_is_free f_growth_counts f_law_draws f_law_next f_law_blocks f_law_wide f_law_call f_law_raised f_law_judged f_law f_TooWide_init X_TooWide X_NotGenerated X_OutOfRange X_TooMany X_SpanError : Addr} {d_depth_changes d_find_blocks d_is_number d_is_position d_is_tuple_of d_is_interval d_is_ascending d_has_position d_contains d_intersect d_is_demand d_serves d_conflict d_is_independent d_demands_at_blocks d_is_open d_open_demands d_shadow_target d_pieces_inside d_first_gap d_generates d_find_missing d_without_item d_require_few_blocks d_decisive_demands d_largest_independent d_unserved_demands d_helpful_piece d_smallest_solution d_count_needed d_solve d_are_witnesses d_solution_holds d_helps d_helpful_interval d_has_open_demand d_widen d_essential_targets d_core_targets d_is_free d_growth_counts d_law_draws d_law_next d_law_blocks d_law_wide d_law_call d_law_raised d_law_judged d_law d_TooWide_init : FuncData} {t_LAST_POSITION t_MAX_BLOCKS : Tok} {pT : Addr}
abbrev TxA (K : PySem.W.Frag) (mg : Str → Option Value) (f_depth_changes f_find_blocks f_is_number f_is_position f_is_tuple_of f_is_interval f_is_ascending f_has_position f_contains f_intersect f_is_demand f_serves f_conflict f_is_independent f_demands_at_blocks f_is_open f_open_demands f_shadow_target f_pieces_inside f_first_gap f_generates f_find_missing f_without_item f_require_few_blocks f_decisive_demands f_largest_independent f_unserved_demands f_helpful_piece f_smallest_solution f_count_needed f_solve f_are_witnesses f_solution_holds f_helps f_helpful_interval f_has_open_demand f_widen f_essential_targets f_core_targets f_is_free f_growth_counts f_law_draws f_law_next f_law_blocks f_law_wide f_law_call f_law_raised f_law_judged f_law f_TooWide_init X_TooWide X_NotGenerated X_OutOfRange X_TooMany X_SpanError : Addr) (d_depth_changes d_find_blocks d_is_number d_is_position d_is_tuple_of d_is_interval d_is_ascending d_has_position d_contains d_intersect d_is_demand d_serves d_conflict d_is_independent d_demands_at_blocks d_is_open d_open_demands d_shadow_target d_pieces_inside d_first_gap d_generates d_find_missing d_without_item d_require_few_blocks d_decisive_demands d_largest_independent d_unserved_demands d_helpful_piece d_smallest_solution d_count_needed d_solve d_are_witnesses d_solution_holds d_helps d_helpful_interval d_has_open_demand d_widen d_essential_targets d_core_targets d_is_free d_growth_counts d_law_draws d_law_next d_law_blocks d_law_wide d_law_call d_law_raised d_law_judged d_law d_TooWide_init : FuncData) (t_LAST_POSITION t_MAX_BLOCKS : Tok) := Tx K mg f_depth_changes f_find_blocks f_is_number f_is_position f_is_tuple_of f_is_interval f_is_ascending f_has_position f_contains f_intersect f_is_demand f_serves f_conflict f_is_independent f_demands_at_blocks f_is_open f_open_demands f_shadow_target f_pieces_inside f_first_gap f_generates f_find_missing f_without_item f_require_few_blocks f_decisive_demands f_largest_independent f_unserved_demands f_helpful_piece f_smallest_solution f_count_needed f_solve f_are_witnesses f_solution_holds f_helps f_helpful_interval f_has_open_demand f_widen f_essential_targets f_core_targets f_is_free f_growth_counts f_law_draws f_law_next f_law_blocks f_law_wide f_law_call f_law_raised f_law_judged f_law f_TooWide_init X_TooWide X_NotGenerated X_OutOfRange X_TooMany X_SpanError d_depth_changes d_find_blocks d_is_number d_is_position d_is_tuple_of d_is_interval d_is_ascending d_has_position d_contains d_intersect d_is_demand d_serves d_conflict d_is_independent d_demands_at_blocks d_is_open d_open_demands d_shadow_target d_pieces_inside d_first_gap d_generates d_find_missing d_without_item d_require_few_blocks d_decisive_demands d_largest_independent d_unserved_demands d_helpful_piece d_smallest_solution d_count_needed d_solve d_are_witnesses d_solution_holds d_helps d_helpful_interval d_has_open_demand d_widen d_essential_targets d_core_targets d_is_free d_growth_counts d_law_draws d_law_next d_law_blocks d_law_wide d_law_call d_law_raised d_law_judged d_law d_TooWide_init t_LAST_POSITION t_MAX_BLOCKS
theorem ok3_law_draws (T : Tx K mg f_depth_changes f_find_blocks f_is_number f_is_position f_is_tuple_of f_is_interval f_is_ascending f_has_position f_contains f_intersect f_is_demand f_serves f_conflict f_is_independent f_demands_at_blocks f_is_open f_open_demands f_shadow_target f_pieces_inside f_first_gap f_generates f_find_missing f_without_item f_require_few_blocks f_decisive_demands f_largest_independent f_unserved_demands f_helpful_piece f_smallest_solution f_count_needed f_solve f_are_witnesses f_solution_holds f_helps f_helpful_interval f_has_open_demand f_widen f_essential_targets f_core_targets f_is_free f_growth_counts f_law_draws f_law_next f_law_blocks f_law_wide f_law_call f_law_raised f_law_judged f_law f_TooWide_init X_TooWide X_NotGenerated X_OutOfRange X_TooMany X_SpanError d_depth_changes d_find_blocks d_is_number d_is_position d_is_tuple_of d_is_interval d_is_ascending d_has_position d_contains d_intersect d_is_demand d_serves d_conflict d_is_independent d_demands_at_blocks d_is_open d_open_demands d_shadow_target d_pieces_inside d_first_gap d_generates d_find_missing d_without_item d_require_few_blocks d_decisive_demands d_largest_independent d_unserved_demands d_helpful_piece d_smallest_solution d_count_needed d_solve d_are_witnesses d_solution_holds d_helps d_helpful_interval d_has_open_demand d_widen d_essential_targets d_core_targets d_is_free d_growth_counts d_law_draws d_law_next d_law_blocks d_law_wide d_law_call d_law_raised d_law_judged d_law d_TooWide_init t_LAST_POSITION t_MAX_BLOCKS) : FnOk P w K mg base CX0 1 f_law_draws d_law_draws ["_law_script"] (sp3_law_draws K) := by
  refine T.F_law_draws.ok sc_law_draws (fun vs H Q E h => ?_) (fun cdv A outer s H vs Q E hr h => ?_)
  · obtain ⟨a, ns0, rfl, _⟩ := h
    rfl
  · obtain ⟨a, ns0, rfl, hS, hlen, q⟩ := h
    refine ⟨_, (pss_cons (ps_set (i := 1) sc_law_draws.nd rfl (Or.inl rfl) (pe_op op_cat (pe_lc (own := [("_law_cell", 2)]) (g := (gName 2)) (tt := tYes) (by rfl) sc_law_draws.nd (pi_list (pe_slice sl_list (pv 0) po_none (po_some pe_int))) (blkOk_by (own := [("_law_cell", 2)]) (N := N_law_draws) (sc := defScope s_law_draws) (by decide +kernel)) (fun _ _ _ _ _ => (pg_name (i := 2) sc_law_draws.nd rfl (Or.inl rfl))) (fun _ _ _ _ _ => pts_nil) (fun _ _ _ _ _ => (pe_callB call_abs (by rfl) T.z_abs (by decide +kernel) (pa_cons (pv 2) pa_nil)))) (pe_op op_rep (pe_lst (pa_cons pe_int pa_nil)) (pe_callTy call_int1 (by rfl) T.z_int (by decide +kernel) (pa_cons (pe_cmpR op_eq (pe_callB call_len_seq (by rfl) T.z_len PySem.boot_len (pa_cons (pv 0) pa_nil)) pe_int (nomark _)) pa_nil)))))
      (pss_one (ps_ret (pe_lst (pa_cons (pv 1) (pa_cons pe_int (pa_cons (pe_lc (own := [("_law_cell", 2)]) (g := (gName 2)) (tt := tYes) (by rfl) sc_law_draws.nd (pi_list (pv 1)) (blkOk_by (own := [("_law_cell", 2)]) (N := N_law_draws) (sc := defScope s_law_draws) (by decide +kernel)) (fun _ _ _ _ _ => (pg_name (i := 2) sc_law_draws.nd rfl (Or.inl rfl))) (fun _ _ _ _ _ => pts_nil) (fun _ _ _ _ _ => (pe_op op_mul (pv 2) (pe_callTy call_int1 (by rfl) T.z_int (by decide +kernel) (pa_cons (pe_cmpR op_ge (pv 2) (pe_op op_pow pe_int pe_int) (nomark _)) pa_nil))))) pa_nil))))))), ?_⟩
    refine ⟨.ref a, rfl, 63, rfl, a, ns0.map V.int, rfl, hS, fun p np => ?_⟩
    rw [show cutV (ns0.map V.int) none (some 63) = (ns0.take 63).map V.int by rw [List.map_take]; exact cutTo _ 63]
    have tk : ns0.take 63 = ns0 := List.take_of_length_le hlen
    rw [tk]
    have s1 := same_new (o := .lst (ns0.map V.int)) np
    have e1 := upd_same (H := H) (a := p) (o := .lst (ns0.map V.int))
    generalize upd H p (.lst (ns0.map V.int)) = H1 at *
    have hS1 := s1.seq hS
    refine ⟨p, rfl, ⟨_, SqL.of e1⟩, fun D nD => ?_⟩
    refine lc_list (K := K) (a := p) (xs := ns0.map V.int) (fun i H' => Same H1 H' ∧ H' D = some (.lst (((ns0.take i).map fun (x : Int) => if x < 0 then -x else x).map V.int))) ⟨same_new nD, upd_same⟩ (fun i H' _ h => SqL.of (h.1 _ _ e1)) ?_ ?_
    · rintro i x H' hi ⟨sm, eD⟩
      rw [List.getElem?_map] at hi
      obtain ⟨n, en, rfl⟩ := Option.map_eq_some_iff.mp hi
      refine ⟨rfl, .int n, rfl, n, rfl, _, eD, ?_, ?_, ?_⟩
      · have : (List.take i ns0).length ≤ ns0.length := List.length_take_le' i ns0
        simp only [List.length_map]
        exact small1000 (by omega)
      · intro b o e
        rw [upd_ne (ne_of_none e nD)]
        exact sm b o e
      · rw [upd_same, List.take_add_one, en]
        simp
    rintro H2 ⟨s2, eD⟩
    rw [List.length_map, List.take_length] at eD
    have s12 := s1.trans s2
    refine ⟨by show 1 ≤ sizeLine; decide, fun z nz => ?_⟩
    have s3 := same_new (o := .lst [.int 0]) nz
    have ez := upd_same (H := H2) (a := z) (o := .lst [.int 0])
    generalize upd H2 z (.lst [.int 0]) = H3 at *
    have s13 := s12.trans s3
    refine ⟨.ref a, rfl, a, _, rfl, .inl (s13.seq hS), rfl, .inr ⟨_, rfl, ?_⟩⟩
    obtain ⟨k, ek⟩ : ∃ k : Int, k = (if decide (V.int ((ns0.map V.int).length : Int) = V.int 0) = true then 1 else 0) := ⟨_, rfl⟩
    have ek2 : (k = 1 ∧ ns0.length = 0) ∨ (k = 0 ∧ 0 < ns0.length) := by
      rw [List.length_map] at ek
      by_cases c : ns0.length = 0
      · rw [if_pos (decide_eq_true (by rw [c]; rfl))] at ek
        exact .inl ⟨ek, c⟩
      · rw [if_neg (fun z => c (by have := of_decide_eq_true z; injection this with this; omega))] at ek
        exact .inr ⟨ek, by omega⟩
    rw [← ek]
    refine ⟨z, k, _, rfl, rfl, ez, by omega, by omega, by rw [show sizeLine = 16777216 by decide]; show 1 * _ ≤ _; omega, fun zz nzz => ?_⟩
    have s4 := same_new (o := .lst (List.replicate k.toNat [V.int 0]).flatten) nzz
    have ezz := upd_same (H := H3) (a := zz) (o := .lst (List.replicate k.toNat [V.int 0]).flatten)
    generalize upd H3 zz (.lst (List.replicate k.toNat [V.int 0]).flatten) = H4 at *
    obtain ⟨cs, ecs⟩ : ∃ cs : List Int, cs = ((ns0.map fun (x : Int) => if x < 0 then -x else x) ++ List.replicate k.toNat 0) := ⟨_, rfl⟩
    have elst : (ns0.map fun (x : Int) => if x < 0 then -x else x).map V.int ++ (List.replicate k.toNat [V.int 0]).flatten = cs.map V.int := by
      rw [ecs, List.map_append, List.map_replicate]
      rcases ek2 with ⟨e, _⟩ | ⟨e, _⟩ <;> rw [e] <;> rfl
    have lcs : 0 < cs.length ∧ cs.length ≤ 64 := by
      rw [ecs, List.length_append, List.length_map, List.length_replicate]
      omega
    have pcs : ∀ x ∈ cs, 0 ≤ x := fun x hx => by
      rw [ecs] at hx
      rcases List.mem_append.mp hx with hx | hx
      · obtain ⟨y, _, rfl⟩ := List.mem_map.mp hx
        split <;> omega
      · rw [(List.mem_replicate.mp hx).2]
        exact Int.le_refl _
    have s34 := s3.trans s4
    refine ⟨D, zz, _, _, rfl, rfl, s34 _ _ eD, ezz, ?_, fun e ne => ?_⟩
    · have := congrArg List.length elst
      rw [List.length_append, List.length_map (f := V.int)] at this
      rw [show sizeLine = 16777216 by decide]
      simp only [List.length_map] at *
      omega
    rw [elst]
    have s5 := same_new (o := .lst (cs.map V.int)) ne
    have ee := upd_same (H := H4) (a := e) (o := .lst (cs.map V.int))
    generalize upd H4 e (.lst (cs.map V.int)) = H5 at *
    have s05 := s12.trans (s34.trans s5)
    refine ⟨.ref e, rfl, .ref e, rfl, e, rfl, ⟨_, SqL.of ee⟩, fun c nc => ?_⟩
    refine lc_list (K := K) (a := e) (xs := cs.map V.int) (fun i H' => Same H5 H' ∧ ∃ ys : List Int, H' c = some (.lst (ys.map V.int)) ∧ ys.length = i ∧ ∀ y ∈ ys, 0 ≤ y) ⟨same_new nc, [], upd_same, rfl, fun y hy => nomatch hy⟩ (fun i H' _ h => SqL.of (h.1 _ _ ee)) ?_ ?_
    · rintro i x H' hi ⟨sm, ys, eC, ly, py⟩
      have il := (List.getElem?_eq_some_iff.mp hi).1
      rw [List.getElem?_map] at hi
      obtain ⟨n, en, rfl⟩ := Option.map_eq_some_iff.mp hi
      have pn := pcs n (List.mem_of_getElem? en)
      rw [List.length_map] at il
      refine ⟨rfl, .int n, rfl, .int n, rfl, 10, 18, rfl, rfl, ⟨by decide, by decide, by decide⟩, _, _, rfl, rfl, .inr ⟨_, rfl, ?_⟩⟩
      obtain ⟨k2, ek3, h0, h1⟩ : ∃ k2 : Int, (if decide ((10 : Int) ^ (18 : Int).toNat ≤ n) = true then 1 else 0) = k2 ∧ 0 ≤ k2 ∧ k2 ≤ 1 := ⟨_, rfl, by split <;> decide, by split <;> decide⟩
      rw [ek3]
      refine ⟨_, _, rfl, rfl, .inr ⟨by omega, by omega⟩, ys.map V.int, eC, by rw [List.length_map]; exact small1000 (by omega), (fun b u e => by rw [upd_ne (ne_of_none e nc)]; exact sm b u e), ys ++ [n * k2], ?_, by rw [List.length_append, ly]; rfl, fun y hy => ?_⟩
      · rw [upd_same, List.map_append]
        rfl
      · rcases List.mem_append.mp hy with hy | hy
        · exact py y hy
        · rw [List.mem_singleton.mp hy]
          exact Int.mul_nonneg pn h0
    rintro H6 ⟨s6, ys, eC, ly, py⟩
    rw [List.length_map] at ly
    refine ⟨by show 3 ≤ sizeLine; decide, fun d nd => ?_⟩
    have s7 := same_new (o := .lst [.ref e, .int 0, .ref c]) nd
    have s07 := s05.trans (s6.trans s7)
    refine q _ d (c, e) s07 ((s05.trans s6).free nd) ⟨cs, ys, upd_same, s7 _ _ (s6 _ _ ee), s7 _ _ eC, ne_of_none ee nc, lcs.1, lcs.2, ly, py⟩
theorem ok3_law_next (T : Tx K mg f_depth_changes f_find_blocks f_is_number f_is_position f_is_tuple_of f_is_interval f_is_ascending f_has_position f_contains f_intersect f_is_demand f_serves f_conflict f_is_independent f_demands_at_blocks f_is_open f_open_demands f_shadow_target f_pieces_inside f_first_gap f_generates f_find_missing f_without_item f_require_few_blocks f_decisive_demands f_largest_independent f_unserved_demands f_helpful_piece f_smallest_solution f_count_needed f_solve f_are_witnesses f_solution_holds f_helps f_helpful_interval f_has_open_demand f_widen f_essential_targets f_core_targets f_is_free f_growth_counts f_law_draws f_law_next f_law_blocks f_law_wide f_law_call f_law_raised f_law_judged f_law f_TooWide_init X_TooWide X_NotGenerated X_OutOfRange X_TooMany X_SpanError d_depth_changes d_find_blocks d_is_number d_is_position d_is_tuple_of d_is_interval d_is_ascending d_has_position d_contains d_intersect d_is_demand d_serves d_conflict d_is_independent d_demands_at_blocks d_is_open d_open_demands d_shadow_target d_pieces_inside d_first_gap d_generates d_find_missing d_without_item d_require_few_blocks d_decisive_demands d_largest_independent d_unserved_demands d_helpful_piece d_smallest_solution d_count_needed d_solve d_are_witnesses d_solution_holds d_helps d_helpful_interval d_has_open_demand d_widen d_essential_targets d_core_targets d_is_free d_growth_counts d_law_draws d_law_next d_law_blocks d_law_wide d_law_call d_law_raised d_law_judged d_law d_TooWide_init t_LAST_POSITION t_MAX_BLOCKS) : FnOk P w K mg base CX0 1 f_law_next d_law_next ["_law_state", "_law_many"] sp3_law_next := by
  refine T.F_law_next.ok sc_law_next (fun vs H Q E h => ?_) (fun cdv A outer s H vs Q E hr h => ?_)
  · obtain ⟨d, c, n, lim, rfl, _⟩ := h
    rfl
  · obtain ⟨d, c, n, lim, rfl, dk, n0, n1, l0, l1, q⟩ := h
    refine ⟨_, (pss_cons (ps_asg (pv 0) (pg_unl rfl (pgs_cons (pg_name (i := 2) sc_law_next.nd rfl (Or.inl rfl)) (pgs_cons (pg_name (i := 3) sc_law_next.nd rfl (Or.inl rfl)) (pgs_cons (pg_name (i := 4) sc_law_next.nd rfl (Or.inl rfl)) pgs_nil)))))
      (pss_cons (ps_set (i := 5) sc_law_next.nd rfl (Or.inl rfl) (pe_op op_mod (pv 3) (pe_callB call_len_seq (by rfl) T.z_len PySem.boot_len (pa_cons (pv 2) pa_nil))))
      (pss_cons (ps_asg (pe_op op_add (pv 3) pe_int) (pg_sub (pv 0) pe_int set_list))
      (pss_cons (ps_if (pt_cmpR op_gt (pe_ix ix_list (pv 4) (pv 5) (fun _ _ => rfl)) pe_int (nomark _))
      (pss_cons (ps_set (i := 6) sc_law_next.nd rfl (Or.inl rfl) (pe_op op_mod (pe_ix ix_list (pv 4) (pv 5) (fun _ _ => rfl)) (pv 1)))
      (pss_cons (ps_asg (pe_op op_fdivW (pe_ix ix_list (pv 4) (pv 5) (fun _ _ => rfl)) (pv 1)) (pg_sub (pv 4) (pv 5) set_list))
      (pss_one (ps_ret (pv 6)))))
      pss_nil)
      (pss_cons (ps_set (i := 7) sc_law_next.nd rfl (Or.inl rfl) (pe_op op_mod (pe_op op_pow (pe_op op_add (pe_op op_add (pe_op op_mod (pe_ix ix_list (pv 2) (pv 5) (fun _ _ => rfl)) pe_int) (pe_op op_mulW pe_int (pv 3))) pe_int) pe_int) pe_int))
      (pss_cons (ps_set (i := 7) sc_law_next.nd rfl (Or.inl rfl) (pe_op op_mod (pe_op op_pow (pe_op op_add (pe_op op_add (pv 7) (pe_op op_mulW (pe_op op_mulW pe_int (pv 3)) (pv 3))) pe_int) pe_int) pe_int))
      (pss_one (ps_ret (pe_op op_mod (pe_op op_fdivW (pe_op op_mod (pe_op op_mulW (pv 7) pe_int) pe_int) pe_int) (pv 1)))))))))), ?_⟩
    obtain ⟨xs, ys, h1, h2, h3, ec, x0, x64, ly, py⟩ := dk.ex
    have nd1 : c.1 ≠ d := ints_ne h1 h3
    have nd2 : c.2 ≠ d := fun z => by
      have q := (z ▸ h2).symm.trans h1
      match xs, q with
      | [], q => cases q
      | y :: r, q => cases q
    have n64 : n.natAbs < 2 ^ 64 := by omega
    have l64 : lim.natAbs < 2 ^ 64 := by omega
    refine ⟨.ref d, rfl, d, _, rfl, SqL.of h1, rfl, .ref c.2, _, rfl, .int n, _, rfl, .ref c.1, [], rfl, rfl, ?_⟩
    refine ⟨.int n, rfl, .ref c.2, rfl, c.2, _, rfl, .inl (SqL.of h2), _, _, rfl, rfl, by rw [List.length_map]; omega, ?_⟩
    rw [List.length_map]
    obtain ⟨j, ej, jl⟩ : ∃ j : Nat, n % (xs.length : Int) = j ∧ j < xs.length := ⟨(n % (xs.length : Int)).toNat, (Int.toNat_of_nonneg (Int.emod_nonneg _ (by omega))).symm, by
      have := Int.emod_lt_of_pos n (show (0 : Int) < xs.length by omega)
      have := Int.emod_nonneg n (show (xs.length : Int) ≠ 0 by omega)
      omega⟩
    show gName 5 (V.int (n % (xs.length : Int))) _ _ _
    rw [ej]
    have gx : (xs.map V.int)[j]? = some (.int xs[j]) := by rw [List.getElem?_map, List.getElem?_eq_getElem jl]; rfl
    have jl2 : j < ys.length := by omega
    have gy : (ys.map V.int)[j]? = some (.int ys[j]) := by rw [List.getElem?_map, List.getElem?_eq_getElem jl2]; rfl
    have yp := py _ (List.getElem_mem jl2)
    generalize ys[j] = y at *
    generalize xs[j] = x at *
    refine ⟨.int n, rfl, _, _, rfl, rfl, .ref d, rfl, d, _, 1, 1, rfl, rfl, h1, rfl, ?_⟩
    generalize eH : upd H d (.lst ([V.ref c.2, V.int n, V.ref c.1].set 1 (.int (n + 1)))) = H1
    have d1 : H1 d = some (.lst [.ref c.2, .int (n + 1), .ref c.1]) := by
      rw [← eH, upd_same]
      rfl
    have kp1 : Kp3 d c H H1 := fun b o nb _ e => by
      rw [← eH, upd_ne nb]
      exact e
    have a2 : H1 c.2 = some (.lst (xs.map V.int)) := by rw [← eH, upd_ne nd2]; exact h2
    have a3 : H1 c.1 = some (.lst (ys.map V.int)) := by rw [← eH, upd_ne nd1]; exact h3
    have dk1 : Dk3 H1 d c (n + 1) := ⟨xs, ys, d1, a2, a3, ec, x0, x64, ly, py⟩
    refine ⟨.ref c.1, rfl, .int j, rfl, c.1, _, _, .int y, rfl, rfl, SqL.of a3, atI_nat gy, _, _, rfl, rfl, _, rfl, ite2 (fun e => ?_) (fun e => ?_)⟩
    · refine ⟨.ref c.1, rfl, .int j, rfl, c.1, _, _, .int y, rfl, rfl, SqL.of a3, atI_nat gy, .int lim, rfl, _, _, rfl, rfl, l0, ?_⟩
      refine ⟨.ref c.1, rfl, .int j, rfl, c.1, _, _, .int y, rfl, rfl, SqL.of a3, atI_nat gy, .int lim, rfl, _, _, rfl, rfl, wide_div l0 l64 (by decide) (by decide), .ref c.1, rfl, .int j, rfl, c.1, _, _, j, rfl, rfl, a3, ?_, ?_⟩
      · unfold ixN
        rw [if_pos (by omega), if_pos (by rw [List.length_map]; omega)]
        rfl
      refine ⟨_, rfl, ?_⟩
      refine q _ _ (fun b o nb nc e => ?_) ⟨xs, ys.set j (y / lim), ?_, ?_, ?_, ec, x0, x64, by rw [List.length_set]; exact ly, fun z hz => ?_⟩ (Int.emod_nonneg _ (by omega)) (Int.emod_lt_of_pos _ l0)
      · rw [upd_ne nc]
        exact kp1 b o nb nc e
      · rw [upd_ne nd1.symm]
        exact d1
      · rw [upd_ne ec]
        exact a2
      · rw [upd_same, List.map_set]
      · rcases List.mem_or_eq_of_mem_set hz with hm | he
        · exact py z hm
        · rw [he]
          exact Int.ediv_nonneg yp (by omega)
    · refine ⟨.ref c.2, rfl, .int j, rfl, c.2, _, _, .int x, rfl, rfl, SqL.of a2, atI_nat gx, _, _, rfl, rfl, (by show (0 : Int) < 2147483629; decide), .int n, rfl, _, _, rfl, rfl, wide_mul (a := 17) (b := 64) (by decide) n64 (by decide) (by decide) (by decide), _, _, rfl, rfl, _, _, rfl, rfl, _, _, rfl, rfl, ⟨by decide, by decide, ?_⟩, _, _, rfl, rfl, (by show (0 : Int) < 2147483587; decide), ?_⟩
      · have a0 := Int.emod_nonneg x (show (2147483629 : Int) ≠ 0 by decide)
        have a1 := Int.emod_lt_of_pos x (show (0 : Int) < 2147483629 by decide)
        omega
      generalize (x % 2147483629 + 40009 * n + 6287) ^ (3 : Int).toNat = big
      have b0 := Int.emod_nonneg big (show (2147483587 : Int) ≠ 0 by decide)
      have b1 := Int.emod_lt_of_pos big (show (0 : Int) < 2147483587 by decide)
      have nn : (5003 * n * n).natAbs ≤ 5003 * 1000000 * 1000000 := by
        rw [Int.natAbs_mul, Int.natAbs_mul]
        exact Nat.mul_le_mul (Nat.mul_le_mul (by decide) (by omega)) (by omega)
      have nn0 : 0 ≤ 5003 * n * n := Int.mul_nonneg (Int.mul_nonneg (by decide) n0) n0
      refine ⟨_, rfl, .int n, rfl, _, _, rfl, rfl, wide_mul (a := 17) (b := 64) (by decide) n64 (by decide) (by decide) (by decide), .int n, rfl, _, _, rfl, rfl, wide_mul (a := 100) (b := 64) ?_ n64 (by decide) (by decide) (by decide), _, _, rfl, rfl, _, _, rfl, rfl, _, _, rfl, rfl, ⟨by decide, by decide, ?_⟩, _, _, rfl, rfl, (by show (0 : Int) < 2147483563; decide), ?_⟩
      · have : (5003 * n).natAbs ≤ 5003 * 1000000 := by
          rw [Int.natAbs_mul]
          exact Nat.mul_le_mul (by decide) (by omega)
        omega
      · omega
      generalize (big % 2147483587 + 5003 * n * n + 29) ^ (3 : Int).toNat = big2
      have c0 := Int.emod_nonneg big2 (show (2147483563 : Int) ≠ 0 by decide)
      have c1 := Int.emod_lt_of_pos big2 (show (0 : Int) < 2147483563 by decide)
      refine ⟨_, rfl, _, _, rfl, rfl, wide_mul (a := 40) (b := 18) (by show (big2 % 2147483563).natAbs < _; omega) (by decide) (by decide) (by decide) (by decide), _, _, rfl, rfl, (by show (0 : Int) < 2305843009213693951; decide), _, _, rfl, rfl, wide_div (b := 5) (by decide) (by decide) (by decide) (by decide), .int lim, rfl, _, _, rfl, rfl, l0, ?_⟩
      exact q _ _ kp1 dk1 (Int.emod_nonneg _ (by omega)) (Int.emod_lt_of_pos _ l0)
/-! ### the deck, and the table of code objects of the def that makes a lambda: c.1 the rests, c.2.1 the cells, c.2.2 the table -/
def qLam : Str := (envOfC (Str.ofString "helpful_piece") (defScope s_helpful_piece) 0 0 .none).qual ++ "<lambda>"
abbrev in3 (c : Addr × Addr × Addr) : Addr × Addr := (c.1, c.2.1)
structure Dk (H : Hp) (d : Addr) (c : Addr × Addr × Addr) (n : Int) : Prop where
  deck : Dk3 H d (in3 c) n
  tab : LamX.TabS H c.2.2 qLam
def Kp (d : Addr) (c : Addr × Addr × Addr) (H H' : Hp) : Prop := ∀ b o, b ≠ d → (b ≠ c.1 ∧ b ≠ c.2.2) → H b = some o → H' b = some o
theorem Kp.trans {d : Addr} {c : Addr × Addr × Addr} {H H1 H2 : Hp} (h1 : Kp d c H H1) (h2 : Kp d c H1 H2) : Kp d c H H2 := fun b o n1 n2 e => h2 b o n1 n2 (h1 b o n1 n2 e)
theorem Kp.same {d : Addr} {c : Addr × Addr × Addr} {H H1 : Hp} (h : Same H H1) : Kp d c H H1 := fun b o _ _ e => h b o e
theorem Dk.two {H : Hp} {d : Addr} {c : Addr × Addr × Addr} {n : Int} (h : Dk H d c n) : (∃ us, H d = some (.lst us)) ∧ (∃ us, H c.1 = some (.lst us)) ∧ (∃ us, H c.2.1 = some (.lst us)) ∧ ∃ ps, H c.2.2 = some (.tbl ps) := by
  obtain ⟨h1, h2, h3⟩ := h.deck.two
  obtain ⟨ps, h4, _⟩ := h.tab
  exact ⟨h1, h2, h3, ps, h4⟩
theorem Kp.none {d : Addr} {c : Addr × Addr × Addr} {H H' : Hp} (k : Kp d c H H') {n m : Int} (h : Dk H d c n) (h' : Dk H' d c m) {t : Addr} (e : H' t = none) : H t = none := by
  obtain ⟨⟨u1, e1⟩, ⟨u2, e2⟩, _, ps, e4⟩ := h'.two
  by_cases c1 : t = d
  · rw [c1, e1] at e
    cases e
  · by_cases c2 : t = c.1
    · rw [c2, e2] at e
      cases e
    · by_cases c4 : t = c.2.2
      · rw [c4, e4] at e
        cases e
      · cases q : H t with
        | none => rfl
        | some o =>
          rw [k t o c1 ⟨c2, c4⟩ q] at e
          cases e
theorem Dk.kept {H H' : Hp} {d : Addr} {c : Addr × Addr × Addr} {n : Int} (h : Dk H d c n) (s : Same H H') : Dk H' d c n := ⟨h.deck.kept s, h.tab.ext s⟩
theorem Dk.eq {H : Hp} {d : Addr} {c : Addr × Addr × Addr} {n m : Int} (h : Dk H d c n) (e : n = m) : Dk H d c m := e ▸ h
theorem Dk.but {H H' : Hp} {d : Addr} {c : Addr × Addr × Addr} {n : Int} (h : Dk H d c n) (k : ButAt c.2.2 H H') (t : LamX.TabS H' c.2.2 qLam) : Dk H' d c n := by
  obtain ⟨xs, ys, h1, h2, h3, r⟩ := h.deck.ex
  obtain ⟨ps, h4, _⟩ := h.tab
  have nt : ∀ {a : Addr} {ls : List V}, H a = some (.lst ls) → a ≠ c.2.2 := fun {a ls} e z => by
    rw [z, h4] at e
    cases e
  exact ⟨⟨xs, ys, k _ _ (nt h1) h1, k _ _ (nt h2) h2, k _ _ (nt h3) h3, r⟩, t⟩
/-- p is no part of the deck -/
abbrev Off (d : Addr) (c : Addr × Addr × Addr) (p : Addr) : Prop := p ≠ d ∧ (p ≠ c.1 ∧ p ≠ c.2.2) ∧ p ≠ c.2.1
theorem Kp.keep {d : Addr} {c : Addr × Addr × Addr} {H H' : Hp} (k : Kp d c H H') {a : Addr} {o : HO} (n1 : Off d c a) (h : H a = some o) : H' a = some o := k a o n1.1 n1.2.1 h
theorem Kp.tup {d : Addr} {c : Addr × Addr × Addr} {n : Int} {H H' : Hp} (k : Kp d c H H') (dk : Dk H d c n) {a : Addr} {xs : List V} (h : H a = some (.tup xs)) : H' a = some (.tup xs) := by
  obtain ⟨⟨u1, e1⟩, ⟨u2, e2⟩, _, ps, e4⟩ := dk.two
  exact k a _ (ne_of h e1 (fun z => by cases z)) ⟨ne_of h e2 (fun z => by cases z), ne_of h e4 (fun z => by cases z)⟩ h
theorem Dk.off {H : Hp} {d : Addr} {c : Addr × Addr × Addr} {n : Int} (h : Dk H d c n) {p : Addr} (e : H p = none) : Off d c p := by
  obtain ⟨⟨u1, e1⟩, ⟨u2, e2⟩, ⟨u3, e3⟩, ps, e4⟩ := h.two
  exact ⟨(ne_of_none e1 e).symm, ⟨(ne_of_none e2 e).symm, (ne_of_none e4 e).symm⟩, (ne_of_none e3 e).symm⟩
/-- p holds no code object -/
abbrev NoCode (H : Hp) (p : Addr) : Prop := ∀ q, H p ≠ some (LamX.CodeO p q)
theorem noCode_none {H : Hp} {p : Addr} (h : H p = none) : NoCode H p := fun q e => by
  rw [h] at e
  cases e
theorem noCode_lst {H : Hp} {p : Addr} {xs : List V} (h : H p = some (.lst xs)) : NoCode H p := fun q e => by
  rw [h] at e
  unfold LamX.CodeO at e
  cases e
theorem Dk.upd {H : Hp} {d : Addr} {c : Addr × Addr × Addr} {n : Int} (h : Dk H d c n) {p : Addr} {o : HO} (off : Off d c p) (nc : NoCode H p := by first | exact noCode_none (by assumption) | exact noCode_lst (by assumption)) : Dk (upd H p o) d c n := by
  refine ⟨h.deck.upd ⟨off.1, off.2.1.1, off.2.2⟩, ?_⟩
  obtain ⟨ps, h1, h2, h3⟩ := h.tab
  refine ⟨ps, by rw [upd_ne off.2.1.2.symm]; exact h1, h2, fun pos cv hc => ?_⟩
  obtain ⟨c', e1, e2⟩ := h3 pos cv hc
  refine ⟨c', e1, ?_⟩
  rw [upd_ne (fun z => ?_)]
  · exact e2
  · subst z
    exact nc _ e2
theorem TabS.kp3 {H H' : Hp} {d : Addr} {c : Addr × Addr} {n : Int} {P : Addr} {q : Str} (t : LamX.TabS H P q) (dk : Dk3 H d c n) (k : Kp3 d c H H') : LamX.TabS H' P q := by
  obtain ⟨⟨u1, e1⟩, ⟨u2, e2⟩, _⟩ := dk.two
  obtain ⟨ps, h1, h2, h3⟩ := t
  refine ⟨ps, k _ _ (ne_of h1 e1 (fun z => by cases z)) (ne_of h1 e2 (fun z => by cases z)) h1, h2, fun pos cv hc => ?_⟩
  obtain ⟨c', z1, z2⟩ := h3 pos cv hc
  exact ⟨c', z1, k _ _ (fun z => noCode_lst (z ▸ e1) _ z2) (fun z => noCode_lst (z ▸ e2) _ z2) z2⟩
def sp_law_draws (K : PySem.W.Frag) (pT : Addr) : Sp := fun vs H Q _ => ∃ (a : Addr) (ns : List Int), vs = [.ref a] ∧ SqL K H a (ns.map V.int) ∧ ns.length ≤ 63 ∧ LamX.TabS H pT qLam ∧
  ∀ H' d c, Same H H' → H d = none → c.2.2 = pT → Dk H' d c 0 → Q (.ref d) H'
def sp_law_next : Sp := fun vs H Q _ => ∃ (d : Addr) (c : Addr × Addr × Addr) (n lim : Int), vs = [.ref d, .int lim] ∧ Dk H d c n ∧ 0 ≤ n ∧ n < 1000000 ∧ 0 < lim ∧ lim < 2 ^ 63 ∧
  ∀ H' r, Kp d c H H' → Dk H' d c (n + 1) → 0 ≤ r → r < lim → Q (.int r) H'
theorem ok_law_draws (T : Tx K mg f_depth_changes f_find_blocks f_is_number f_is_position f_is_tuple_of f_is_interval f_is_ascending f_has_position f_contains f_intersect f_is_demand f_serves f_conflict f_is_independent f_demands_at_blocks f_is_open f_open_demands f_shadow_target f_pieces_inside f_first_gap f_generates f_find_missing f_without_item f_require_few_blocks f_decisive_demands f_largest_independent f_unserved_demands f_helpful_piece f_smallest_solution f_count_needed f_solve f_are_witnesses f_solution_holds f_helps f_helpful_interval f_has_open_demand f_widen f_essential_targets f_core_targets f_is_free f_growth_counts f_law_draws f_law_next f_law_blocks f_law_wide f_law_call f_law_raised f_law_judged f_law f_TooWide_init X_TooWide X_NotGenerated X_OutOfRange X_TooMany X_SpanError d_depth_changes d_find_blocks d_is_number d_is_position d_is_tuple_of d_is_interval d_is_ascending d_has_position d_contains d_intersect d_is_demand d_serves d_conflict d_is_independent d_demands_at_blocks d_is_open d_open_demands d_shadow_target d_pieces_inside d_first_gap d_generates d_find_missing d_without_item d_require_few_blocks d_decisive_demands d_largest_independent d_unserved_demands d_helpful_piece d_smallest_solution d_count_needed d_solve d_are_witnesses d_solution_holds d_helps d_helpful_interval d_has_open_demand d_widen d_essential_targets d_core_targets d_is_free d_growth_counts d_law_draws d_law_next d_law_blocks d_law_wide d_law_call d_law_raised d_law_judged d_law d_TooWide_init t_LAST_POSITION t_MAX_BLOCKS) : FnOk P w K mg base CX0 1 f_law_draws d_law_draws ["_law_script"] (sp_law_draws K pT) :=
  (ok3_law_draws T).imp fun vs H Q E h => by
    obtain ⟨a, ns, e, h1, h2, tab, q⟩ := h
    exact ⟨a, ns, e, h1, h2, fun H' d c s nd dk => q H' d (c.1, c.2, pT) s nd rfl ⟨dk, tab.ext s⟩⟩
theorem ok_law_next (T : Tx K mg f_depth_changes f_find_blocks f_is_number f_is_position f_is_tuple_of f_is_interval f_is_ascending f_has_position f_contains f_intersect f_is_demand f_serves f_conflict f_is_independent f_demands_at_blocks f_is_open f_open_demands f_shadow_target f_pieces_inside f_first_gap f_generates f_find_missing f_without_item f_require_few_blocks f_decisive_demands f_largest_independent f_unserved_demands f_helpful_piece f_smallest_solution f_count_needed f_solve f_are_witnesses f_solution_holds f_helps f_helpful_interval f_has_open_demand f_widen f_essential_targets f_core_targets f_is_free f_growth_counts f_law_draws f_law_next f_law_blocks f_law_wide f_law_call f_law_raised f_law_judged f_law f_TooWide_init X_TooWide X_NotGenerated X_OutOfRange X_TooMany X_SpanError d_depth_changes d_find_blocks d_is_number d_is_position d_is_tuple_of d_is_interval d_is_ascending d_has_position d_contains d_intersect d_is_demand d_serves d_conflict d_is_independent d_demands_at_blocks d_is_open d_open_demands d_shadow_target d_pieces_inside d_first_gap d_generates d_find_missing d_without_item d_require_few_blocks d_decisive_demands d_largest_independent d_unserved_demands d_helpful_piece d_smallest_solution d_count_needed d_solve d_are_witnesses d_solution_holds d_helps d_helpful_interval d_has_open_demand d_widen d_essential_targets d_core_targets d_is_free d_growth_counts d_law_draws d_law_next d_law_blocks d_law_wide d_law_call d_law_raised d_law_judged d_law d_TooWide_init t_LAST_POSITION t_MAX_BLOCKS) : FnOk P w K mg base CX0 1 f_law_next d_law_next ["_law_state", "_law_many"] sp_law_next :=
  (ok3_law_next T).imp fun vs H Q E h => by
    obtain ⟨d, c, n, lim, e, dk, h1, h2, h3, h4, q⟩ := h
    exact ⟨d, in3 c, n, lim, e, dk.deck, h1, h2, h3, h4, fun H' r kp dk' r0 r1 => q H' r (fun b o n1 n2 e => kp b o n1 n2.1 e) ⟨dk', TabS.kp3 dk.tab dk.deck kp⟩ r0 r1⟩

/-! ### what stays when the heap grows, or the deck is drawn from -/
theorem rd_same {H H' : Hp} (s : Same H H') {a : Addr} {u : HO} (h : Rd H a u) : Rd H' a u := by
  rcases h with h | ⟨o, h⟩
  · exact .inl (s _ _ h)
  · exact .inr ⟨o, s _ _ h⟩
theorem sqT_same {K : PySem.W.Frag} {H H' : Hp} (s : Same H H') {a : Addr} {xs : List V} (h : SqT K H a xs) : SqT K H' a xs := by
  rcases h with h | h
  · exact .inl (rd_same s h)
  · exact .inr h
theorem dp_same {K : PySem.W.Frag} {H H' : Hp} (s : Same H H') {v : V} {d : PyData} (h : Dp K H v d) : Dp K H' v d := by
  refine Dp.rec (K := K) (H := H) (motive_1 := fun v d _ => Dp K H' v d) (motive_2 := fun vs ds _ => DpAll K H' vs ds) .non (fun b => .bl b) (fun i => .int i) (fun x => .str x) (fun hs _ q => .lst (s.seq hs) q) (fun hs _ q => .tup (sqT_same s hs) q) .nil (fun _ _ a b => .cons a b) h
theorem dp2 {K : PySem.W.Frag} {H : Hp} {t : Addr} {x y : Int} (h : H t = some (.tup [.int x, .int y])) : Dp K H (.ref t) (.tuple [.int x, .int y]) := .tup (SqT.of h) (.cons (.int x) (.cons (.int y) .nil))
theorem sm2 {x y : Int} (h1 : x.natAbs < 10 ^ 30) (h2 : y.natAbs < 10 ^ 30) : Sm 202 1 (.tuple [.int x, .int y]) := by
  have h := Sm.tup (n := 100) (dp := 0) (ds := [.int x, .int y]) (fun d hd => by
    rcases List.mem_cons.mp hd with rfl | hd
    · exact Sm.int h1
    · rcases List.mem_cons.mp hd with rfl | hd
      · exact Sm.int h2
      · cases hd)
  exact h
/-- an interval, or None -/
def optD : Option (Int × Int) → PyData
  | none => .none
  | some (x, y) => .tuple [.int x, .int y]
def OV (H : Hp) (v : V) : Option (Int × Int) → Prop
  | none => v = .non
  | some (x, y) => ∃ t, v = .ref t ∧ H t = some (.tup [.int x, .int y])
theorem OV.same {H H' : Hp} (s : Same H H') {v : V} {o : Option (Int × Int)} (h : OV H v o) : OV H' v o := by
  match o, h with
  | none, h => exact h
  | some (x, y), h =>
    obtain ⟨t, e, z⟩ := h
    exact ⟨t, e, s _ _ z⟩
theorem OV.kp {d : Addr} {c : Addr × Addr × Addr} {n : Int} {H H' : Hp} (k : Kp d c H H') (dk : Dk H d c n) {v : V} {o : Option (Int × Int)} (h : OV H v o) : OV H' v o := by
  match o, h with
  | none, h => exact h
  | some (x, y), h =>
    obtain ⟨t, e, z⟩ := h
    exact ⟨t, e, k.tup dk z⟩
theorem OV.dp {K : PySem.W.Frag} {H : Hp} {v : V} {o : Option (Int × Int)} (h : OV H v o) : Dp K H v (optD o) := by
  match o, h with
  | none, h =>
    cases h
    exact .non
  | some (x, y), h =>
    obtain ⟨t, e, z⟩ := h
    subst e
    exact dp2 z

/-! ### rows of intervals -/
inductive Ivs (H : Hp) : List V → List (Int × Int) → Prop
  | nil : Ivs H [] []
  | cons {a : Addr} {x y : Int} {vs : List V} {ps : List (Int × Int)} : H a = some (.tup [.int x, .int y]) → Ivs H vs ps → Ivs H (.ref a :: vs) ((x, y) :: ps)
theorem Ivs.length {H : Hp} {vs : List V} {ps : List (Int × Int)} (h : Ivs H vs ps) : vs.length = ps.length := by
  induction h with
  | nil => rfl
  | cons _ _ ih => rw [List.length_cons, List.length_cons, ih]
theorem Ivs.same {H H' : Hp} (s : Same H H') {vs : List V} {ps : List (Int × Int)} (h : Ivs H vs ps) : Ivs H' vs ps := by
  induction h with
  | nil => exact .nil
  | cons e _ ih => exact .cons (s _ _ e) ih
theorem Ivs.kp {d : Addr} {c : Addr × Addr × Addr} {n : Int} {H H' : Hp} (k : Kp d c H H') (dk : Dk H d c n) {vs : List V} {ps : List (Int × Int)} (h : Ivs H vs ps) : Ivs H' vs ps := by
  induction h with
  | nil => exact .nil
  | cons e _ ih => exact .cons (k.tup dk e) ih
theorem Ivs.get {H : Hp} {vs : List V} {ps : List (Int × Int)} (h : Ivs H vs ps) : ∀ {i : Nat} {v : V}, vs[i]? = some v → ∃ a x y, v = .ref a ∧ ps[i]? = some (x, y) ∧ H a = some (.tup [.int x, .int y]) := by
  induction h with
  | nil =>
    intro i v e
    simp at e
  | cons e _ ih =>
    intro i v q
    cases i with
    | zero =>
      cases q
      exact ⟨_, _, _, rfl, rfl, e⟩
    | succ i => exact ih q
theorem Ivs.snoc {H : Hp} {vs : List V} {ps : List (Int × Int)} {a : Addr} {x y : Int} (h : Ivs H vs ps) (e : H a = some (.tup [.int x, .int y])) : Ivs H (vs ++ [.ref a]) (ps ++ [(x, y)]) := by
  induction h with
  | nil => exact .cons e .nil
  | cons z _ ih => exact .cons z ih
def pairD (p : Int × Int) : PyData := .tuple [.int p.1, .int p.2]
theorem Ivs.dp {K : PySem.W.Frag} {H : Hp} {vs : List V} {ps : List (Int × Int)} (h : Ivs H vs ps) : DpAll K H vs (ps.map pairD) := by
  induction h with
  | nil => exact .nil
  | cons e _ ih => exact .cons (dp2 e) ih

/-! ### comprehensions that change nothing but make new objects -/
/-- the tuples stay -/
def Tps (H H' : Hp) : Prop := ∀ b xs, H b = some (.tup xs) → H' b = some (.tup xs)
theorem Tps.refl (H : Hp) : Tps H H := fun _ _ e => e
theorem Tps.trans {H H1 H2 : Hp} (h : Tps H H1) (h2 : Tps H1 H2) : Tps H H2 := fun b xs e => h2 b xs (h b xs e)
theorem Tps.same {H H1 : Hp} (h : Same H H1) : Tps H H1 := fun b xs e => h b _ e
theorem Kp.tps {d : Addr} {c : Addr × Addr × Addr} {n : Int} {H H' : Hp} (k : Kp d c H H') (dk : Dk H d c n) : Tps H H' := fun _ _ e => k.tup dk e
theorem Tps.lst {H : Hp} {D : Addr} {ws vs : List V} (e : H D = some (.lst ws)) : Tps H (upd H D (.lst vs)) := fun b xs h => by
  rw [upd_ne (ne_of h e (fun z => by cases z))]
  exact h
theorem same_off {H0 H : Hp} {D : Addr} {o : HO} (n : H0 D = none) (s : Same H0 H) : Same H0 (upd H D o) := fun b u e => by
  rw [upd_ne (ne_of_none e n)]
  exact s b u e
theorem few_line {n : Nat} (h : n < 1000) : n < sizeLine := by
  rw [show sizeLine = 16777216 by decide]
  omega
theorem lcL {K : PySem.W.Frag} {a : Addr} {xs : List V} {g : TG} {tt : TT} {te : TE} {vs : List Nat} {σ : L2.St} {H1 : Hp} {D : Addr} {Qd : Hp → Prop} (R : Nat → Hp → List V → Prop) (nD : H1 D = none) (hl : ∀ H', Same H1 H' → SqL K H' a xs) (few : xs.length < 1000)
    (mono : ∀ i H' H'' ws, Tps H' H'' → R i H' ws → R i H'' ws) (len : ∀ i H' ws, R i H' ws → ws.length ≤ i) (r0 : ∀ H', R 0 H' [])
    (hs : ∀ i x H' (N : Hp → Prop) acc, xs[i]? = some x → Same H1 H' → H' D = some (.lst acc) → acc.length < sizeLine → R i H' acc → (∀ H'', Same H' H'' → R (i + 1) H'' acc → N H'') → (∀ H'' y, Same H' H'' → R (i + 1) H'' (acc ++ [y]) → ∃ acc', H'' D = some (.lst acc') ∧ acc'.length < sizeLine ∧ N (upd H'' D (.lst (acc' ++ [y])))) →
      g x (wipe σ vs) H' fun σ2 H2 => wipe σ2 vs = wipe σ vs ∧ tt σ2 H2 fun b H3 => if b = true then te σ2 H3 fun y H4 => ∃ acc, H4 D = some (.lst acc) ∧ acc.length < sizeLine ∧ N (upd H4 D (.lst (acc ++ [y]))) else N H3)
    (hd : ∀ H' ws, Same H1 H' → H' D = some (.lst ws) → R xs.length H' ws → Qd H') :
    ∃ W : Nat → Nat → Hp → Prop, (∃ m, W 0 m (upd H1 D (.lst []))) ∧ ∀ i m H, W i m H →
      ((Itl K a).stop i H ∧ Qd H) ∨ ((Itl K a).go i H ∧ ∃ Nx : Hp → Prop, (∀ H', Nx H' → ∃ m', m' < m ∧ W (i + 1) m' H') ∧ ∀ x H', (Itl K a).yld i H x H' → g x (wipe σ vs) H' fun σ2 H2 => wipe σ2 vs = wipe σ vs ∧ tt σ2 H2 fun b H3 =>
        if b = true then te σ2 H3 fun y H4 => ∃ acc, H4 D = some (.lst acc) ∧ acc.length < sizeLine ∧ Nx (upd H4 D (.lst (acc ++ [y]))) else Nx H3) := by
  refine lc_list (K := K) (a := a) (xs := xs) (fun i H' => Same H1 H' ∧ ∃ ws, H' D = some (.lst ws) ∧ R i H' ws) ⟨same_new nD, [], upd_same, r0 _⟩ (fun i H' _ h => hl H' h.1) ?_ ?_
  · rintro i x H' hi ⟨sm, ws, eD, r⟩
    have lt := (List.getElem?_eq_some_iff.mp hi).1
    have lw := len i H' ws r
    have sz : ws.length < sizeLine := few_line (by omega)
    refine hs i x H' _ ws hi sm eD sz r (fun H'' s r2 => ⟨sm.trans s, ws, s _ _ eD, r2⟩) (fun H'' y s r2 => ?_)
    exact ⟨ws, s _ _ eD, sz, same_off nD (sm.trans s), _, upd_same, mono _ _ _ _ (Tps.lst (s _ _ eD)) r2⟩
  · rintro H' ⟨sm, ws, eD, r⟩
    exact hd H' ws sm eD r
theorem lcT {K : PySem.W.Frag} {a : Addr} {xs : List V} {g : TG} {tt : TT} {te : TE} {vs : List Nat} {σ : L2.St} {H1 : Hp} {D : Addr} {Qd : Hp → Prop} (R : Nat → Hp → List V → Prop) (nD : H1 D = none) (hl : ∀ H', Same H1 H' → SqT K H' a xs) (few : xs.length < 1000)
    (mono : ∀ i H' H'' ws, Tps H' H'' → R i H' ws → R i H'' ws) (len : ∀ i H' ws, R i H' ws → ws.length ≤ i) (r0 : ∀ H', R 0 H' [])
    (hs : ∀ i x H' (N : Hp → Prop) acc, xs[i]? = some x → Same H1 H' → H' D = some (.lst acc) → acc.length < sizeLine → R i H' acc → (∀ H'', Same H' H'' → R (i + 1) H'' acc → N H'') → (∀ H'' y, Same H' H'' → R (i + 1) H'' (acc ++ [y]) → ∃ acc', H'' D = some (.lst acc') ∧ acc'.length < sizeLine ∧ N (upd H'' D (.lst (acc' ++ [y])))) →
      g x (wipe σ vs) H' fun σ2 H2 => wipe σ2 vs = wipe σ vs ∧ tt σ2 H2 fun b H3 => if b = true then te σ2 H3 fun y H4 => ∃ acc, H4 D = some (.lst acc) ∧ acc.length < sizeLine ∧ N (upd H4 D (.lst (acc ++ [y]))) else N H3)
    (hd : ∀ H' ws, Same H1 H' → H' D = some (.lst ws) → R xs.length H' ws → Qd H') :
    ∃ W : Nat → Nat → Hp → Prop, (∃ m, W 0 m (upd H1 D (.lst []))) ∧ ∀ i m H, W i m H →
      ((Itt K a).stop i H ∧ Qd H) ∨ ((Itt K a).go i H ∧ ∃ Nx : Hp → Prop, (∀ H', Nx H' → ∃ m', m' < m ∧ W (i + 1) m' H') ∧ ∀ x H', (Itt K a).yld i H x H' → g x (wipe σ vs) H' fun σ2 H2 => wipe σ2 vs = wipe σ vs ∧ tt σ2 H2 fun b H3 =>
        if b = true then te σ2 H3 fun y H4 => ∃ acc, H4 D = some (.lst acc) ∧ acc.length < sizeLine ∧ Nx (upd H4 D (.lst (acc ++ [y]))) else Nx H3) := by
  refine lc_tup (K := K) (a := a) (xs := xs) (fun i H' => Same H1 H' ∧ ∃ ws, H' D = some (.lst ws) ∧ R i H' ws) ⟨same_new nD, [], upd_same, r0 _⟩ (fun i H' _ h => hl H' h.1) ?_ ?_
  · rintro i x H' hi ⟨sm, ws, eD, r⟩
    have lt := (List.getElem?_eq_some_iff.mp hi).1
    have lw := len i H' ws r
    have sz : ws.length < sizeLine := few_line (by omega)
    refine hs i x H' _ ws hi sm eD sz r (fun H'' s r2 => ⟨sm.trans s, ws, s _ _ eD, r2⟩) (fun H'' y s r2 => ?_)
    exact ⟨ws, s _ _ eD, sz, same_off nD (sm.trans s), _, upd_same, mono _ _ _ _ (Tps.lst (s _ _ eD)) r2⟩
  · rintro H' ⟨sm, ws, eD, r⟩
    exact hd H' ws sm eD r
theorem map_filter_len {α : Type} {ns : List α} {p : α → Bool} {f : α → V} (i : Nat) : (((ns.take i).filter p).map f).length ≤ i := by
  rw [List.length_map]
  exact Nat.le_trans (List.length_filter_le _ _) (List.length_take_le _ _)
theorem take_filter {α : Type} {ns : List α} {i : Nat} {n : α} {p : α → Bool} (h : ns[i]? = some n) : (ns.take (i + 1)).filter p = (ns.take i).filter p ++ (if p n = true then [n] else []) := by
  rw [List.take_add_one, h, List.filter_append]
  congr 1
  show List.filter p [n] = _
  rw [List.filter_cons]
  split <;> rfl
theorem nodup_le {α : Type} [DecidableEq α] : ∀ {l m : List α}, l.Nodup → (∀ x ∈ l, x ∈ m) → l.length ≤ m.length
  | [], _, _, _ => Nat.zero_le _
  | a :: l, m, h, hs => by
    have hm := hs a List.mem_cons_self
    have h' := List.nodup_cons.mp h
    have ih := nodup_le (l := l) (m := m.erase a) h'.2 (fun x hx => (List.mem_erase_of_ne (fun e => h'.1 (by rw [← e]; exact hx))).mpr (hs x (List.mem_cons_of_mem _ hx)))
    rw [List.length_erase_of_mem hm] at ih
    have := List.length_pos_of_mem hm
    rw [List.length_cons]
    omega

/-! ### demands, and rows of them -/
structure Dm (H : Hp) (v : V) (p lo hi : Int) : Prop where
  ex : ∃ u t, v = .ref u ∧ H u = some (.tup [.int p, .ref t]) ∧ H t = some (.tup [.int lo, .int hi])
  low : lo ≤ p
  high : p ≤ hi
theorem Dm.tps {H H' : Hp} (s : Tps H H') {v : V} {p lo hi : Int} (h : Dm H v p lo hi) : Dm H' v p lo hi := by
  obtain ⟨u, t, rfl, e1, e2⟩ := h.ex
  exact ⟨⟨u, t, rfl, s _ _ e1, s _ _ e2⟩, h.low, h.high⟩
theorem Dm.same {H H' : Hp} (s : Same H H') {v : V} {p lo hi : Int} (h : Dm H v p lo hi) : Dm H' v p lo hi := h.tps (Tps.same s)
inductive Dms (H : Hp) : List V → List (Int × Int × Int) → Prop
  | nil : Dms H [] []
  | cons {v : V} {p lo hi : Int} {vs : List V} {ds : List (Int × Int × Int)} : Dm H v p lo hi → Dms H vs ds → Dms H (v :: vs) ((p, lo, hi) :: ds)
theorem Dms.length {H : Hp} {vs : List V} {ds : List (Int × Int × Int)} (h : Dms H vs ds) : vs.length = ds.length := by
  induction h with
  | nil => rfl
  | cons _ _ ih => rw [List.length_cons, List.length_cons, ih]
theorem Dms.tps {H H' : Hp} (s : Tps H H') {vs : List V} {ds : List (Int × Int × Int)} (h : Dms H vs ds) : Dms H' vs ds := by
  induction h with
  | nil => exact .nil
  | cons e _ ih => exact .cons (e.tps s) ih
theorem Dms.same {H H' : Hp} (s : Same H H') {vs : List V} {ds : List (Int × Int × Int)} (h : Dms H vs ds) : Dms H' vs ds := h.tps (Tps.same s)
theorem Dms.get {H : Hp} {vs : List V} {ds : List (Int × Int × Int)} (h : Dms H vs ds) : ∀ {i : Nat} {v : V}, vs[i]? = some v → ∃ p lo hi, ds[i]? = some (p, lo, hi) ∧ Dm H v p lo hi := by
  induction h with
  | nil =>
    intro i v e
    simp at e
  | cons e _ ih =>
    intro i v q
    cases i with
    | zero =>
      cases q
      exact ⟨_, _, _, rfl, e⟩
    | succ i => exact ih q
theorem Dms.append {H : Hp} {vs us : List V} {ds es : List (Int × Int × Int)} (h : Dms H vs ds) (h2 : Dms H us es) : Dms H (vs ++ us) (ds ++ es) := by
  induction h with
  | nil => exact h2
  | cons e _ ih => exact .cons e ih
theorem Dms.snoc {H : Hp} {vs : List V} {ds : List (Int × Int × Int)} {v : V} {p lo hi : Int} (h : Dms H vs ds) (e : Dm H v p lo hi) : Dms H (vs ++ [v]) (ds ++ [(p, lo, hi)]) := h.append (.cons e .nil)
theorem Dms.take {H : Hp} {vs : List V} {ds : List (Int × Int × Int)} (h : Dms H vs ds) : ∀ n : Nat, Dms H (vs.take n) (ds.take n) := by
  induction h with
  | nil =>
    intro n
    rw [List.take_nil, List.take_nil]
    exact .nil
  | cons e _ ih =>
    intro n
    cases n with
    | zero => exact .nil
    | succ n => exact .cons e (ih n)
theorem Dms.reverse {H : Hp} {vs : List V} {ds : List (Int × Int × Int)} (h : Dms H vs ds) : Dms H vs.reverse ds.reverse := by
  induction h with
  | nil => exact .nil
  | cons e _ ih =>
    rw [List.reverse_cons, List.reverse_cons]
    exact ih.snoc e
theorem Dms.isEmpty {H : Hp} {vs : List V} {ds : List (Int × Int × Int)} (h : Dms H vs ds) : vs.isEmpty = ds.isEmpty := by
  cases h <;> rfl
theorem Dms.ok {H : Hp} {vs : List V} {ds : List (Int × Int × Int)} (h : Dms H vs ds) : ∀ q ∈ ds, q.2.1 ≤ q.1 ∧ q.1 ≤ q.2.2 := by
  induction h with
  | nil =>
    intro q hq
    cases hq
  | cons e _ ih =>
    intro q hq
    rcases List.mem_cons.mp hq with rfl | hq
    · exact ⟨e.low, e.high⟩
    · exact ih q hq
/-! ### comprehensions over a range that draw -/
theorem lcK {d : Addr} {c : Addr × Addr × Addr} {n0 per : Int} {lo : Int} {n : Nat} {g : TG} {tt : TT} {te : TE} {vs : List Nat} {σ : L2.St} {H1 : Hp} {D : Addr} {Qd : Hp → Prop} (R : Nat → Hp → List V → Prop) (nD : H1 D = none) (dk : Dk H1 d c n0) (few : n < 1000)
    (mono : ∀ i H' H'' ws, Tps H' H'' → R i H' ws → R i H'' ws) (len : ∀ i H' ws, R i H' ws → ws.length ≤ i) (r0 : ∀ H', R 0 H' [])
    (hs : ∀ i H' (N : Hp → Prop) acc, i < n → Kp d c H1 H' → Dk H' d c (n0 + per * i) → H' D = some (.lst acc) → R i H' acc → (∀ H'' y, Kp d c H' H'' → Dk H'' d c (n0 + per * i + per) → R (i + 1) H'' (acc ++ [y]) → ∃ acc', H'' D = some (.lst acc') ∧ acc'.length < sizeLine ∧ N (upd H'' D (.lst (acc' ++ [y])))) →
      g (.int (lo + i)) (wipe σ vs) H' fun σ2 H2 => wipe σ2 vs = wipe σ vs ∧ tt σ2 H2 fun b H3 => if b = true then te σ2 H3 fun y H4 => ∃ acc, H4 D = some (.lst acc) ∧ acc.length < sizeLine ∧ N (upd H4 D (.lst (acc ++ [y]))) else N H3)
    (hd : ∀ H' ws, Kp d c H1 H' → Dk H' d c (n0 + per * n) → H' D = some (.lst ws) → R n H' ws → Qd H') :
    ∃ W : Nat → Nat → Hp → Prop, (∃ m, W 0 m (upd H1 D (.lst []))) ∧ ∀ i m H, W i m H →
      ((Itr lo n).stop i H ∧ Qd H) ∨ ((Itr lo n).go i H ∧ ∃ Nx : Hp → Prop, (∀ H', Nx H' → ∃ m', m' < m ∧ W (i + 1) m' H') ∧ ∀ x H', (Itr lo n).yld i H x H' → g x (wipe σ vs) H' fun σ2 H2 => wipe σ2 vs = wipe σ vs ∧ tt σ2 H2 fun b H3 =>
        if b = true then te σ2 H3 fun y H4 => ∃ acc, H4 D = some (.lst acc) ∧ acc.length < sizeLine ∧ Nx (upd H4 D (.lst (acc ++ [y]))) else Nx H3) := by
  have off := dk.off nD
  refine lc_range (lo := lo) (n := n) (fun i H' => Kp d c H1 H' ∧ Dk H' d c (n0 + per * i) ∧ ∃ ws, H' D = some (.lst ws) ∧ R i H' ws) ⟨Kp.same (same_new nD), (dk.upd off).eq (by simp), [], upd_same, r0 _⟩ ?_ ?_
  · rintro i H' hi ⟨kp, dk', ws, eD, r⟩
    have lw := len i H' ws r
    have sz : ws.length < sizeLine := few_line (by omega)
    refine hs i H' _ ws hi kp dk' eD r (fun H'' y kp2 dk2 r2 => ?_)
    have eD2 := kp2.keep off eD
    refine ⟨ws, eD2, sz, fun b o n1 n2 e => ?_, (dk2.upd off).eq ?_, _, upd_same, mono _ _ _ _ (Tps.lst eD2) r2⟩
    · rw [upd_ne (ne_of_none e nD)]
      exact kp2 b o n1 n2 (kp b o n1 n2 e)
    · rw [Int.natCast_succ, Int.mul_add, Int.mul_one]
      omega
  · rintro H' ⟨kp, dk', ws, eD, r⟩
    exact hd H' ws kp dk' eD r

theorem Ivs.tps {H H' : Hp} (s : Tps H H') {vs : List V} {ps : List (Int × Int)} (h : Ivs H vs ps) : Ivs H' vs ps := by
  induction h with
  | nil => exact .nil
  | cons e _ ih => exact .cons (s _ _ e) ih
theorem Ivs.append {H : Hp} {vs us : List V} {ps qs : List (Int × Int)} (h : Ivs H vs ps) (h2 : Ivs H us qs) : Ivs H (vs ++ us) (ps ++ qs) := by
  induction h with
  | nil => exact h2
  | cons e _ ih => exact .cons e ih
theorem Ivs.isEmpty {H : Hp} {vs : List V} {ps : List (Int × Int)} (h : Ivs H vs ps) : vs.isEmpty = ps.isEmpty := by
  cases h <;> rfl

/-! ### the program: contains, has_position, serves -/
def inI (x y u v : Int) : Bool := decide (x ≤ u) && decide (v ≤ y)
def atP (x y p : Int) : Bool := decide (x ≤ p) && decide (p ≤ y)
def sp_contains : Sp := fun vs H Q _ => ∃ (a b : Addr) (x y u v : Int), vs = [.ref a, .ref b] ∧ H a = some (.tup [.int x, .int y]) ∧ H b = some (.tup [.int u, .int v]) ∧ Q (.bl (inI x y u v)) H
theorem ok_contains (T : Tx K mg f_depth_changes f_find_blocks f_is_number f_is_position f_is_tuple_of f_is_interval f_is_ascending f_has_position f_contains f_intersect f_is_demand f_serves f_conflict f_is_independent f_demands_at_blocks f_is_open f_open_demands f_shadow_target f_pieces_inside f_first_gap f_generates f_find_missing f_without_item f_require_few_blocks f_decisive_demands f_largest_independent f_unserved_demands f_helpful_piece f_smallest_solution f_count_needed f_solve f_are_witnesses f_solution_holds f_helps f_helpful_interval f_has_open_demand f_widen f_essential_targets f_core_targets f_is_free f_growth_counts f_law_draws f_law_next f_law_blocks f_law_wide f_law_call f_law_raised f_law_judged f_law f_TooWide_init X_TooWide X_NotGenerated X_OutOfRange X_TooMany X_SpanError d_depth_changes d_find_blocks d_is_number d_is_position d_is_tuple_of d_is_interval d_is_ascending d_has_position d_contains d_intersect d_is_demand d_serves d_conflict d_is_independent d_demands_at_blocks d_is_open d_open_demands d_shadow_target d_pieces_inside d_first_gap d_generates d_find_missing d_without_item d_require_few_blocks d_decisive_demands d_largest_independent d_unserved_demands d_helpful_piece d_smallest_solution d_count_needed d_solve d_are_witnesses d_solution_holds d_helps d_helpful_interval d_has_open_demand d_widen d_essential_targets d_core_targets d_is_free d_growth_counts d_law_draws d_law_next d_law_blocks d_law_wide d_law_call d_law_raised d_law_judged d_law d_TooWide_init t_LAST_POSITION t_MAX_BLOCKS) : FnOk P w K mg base CX0 1 f_contains d_contains ["outer", "inner"] sp_contains := by
  refine T.F_contains.ok sc_contains (fun vs H Q E h => ?_) (fun cdv A outer s H vs Q E hr h => ?_)
  · obtain ⟨a, b, x, y, u, v, rfl, _⟩ := h
    rfl
  · obtain ⟨a, b, x, y, u, v, rfl, ha, hb, q⟩ := h
    refine ⟨_, (pss_one (ps_ret (pe_and (pe_cmpR op_le (pe_ix ix_tup (pv 0) pe_int (fun _ _ => rfl)) (pe_ix ix_tup (pv 1) pe_int (fun _ _ => rfl)) (nomark _)) (pe_one (pe_cmpR op_le (pe_ix ix_tup (pv 1) pe_int (fun _ _ => rfl)) (pe_ix ix_tup (pv 0) pe_int (fun _ _ => rfl)) (nomark _)))))), ?_⟩
    unfold inI at q
    refine ⟨.ref a, rfl, a, _, 0, .int x, rfl, rfl, SqT.of ha, rfl, .ref b, rfl, b, _, 0, .int u, rfl, rfl, SqT.of hb, rfl, _, _, rfl, rfl, _, rfl, ite2 (fun e => ?_) (fun e => ?_)⟩
    · refine ⟨.ref b, rfl, b, _, 1, .int v, rfl, rfl, SqT.of hb, rfl, .ref a, rfl, a, _, 1, .int y, rfl, rfl, SqT.of ha, rfl, _, _, rfl, rfl, ?_⟩
      rw [e] at q
      exact q
    · rw [Bool.not_eq_true] at e
      rw [e] at q
      exact q
def sp_has_position : Sp := fun vs H Q _ => ∃ (a : Addr) (x y p : Int), vs = [.ref a, .int p] ∧ H a = some (.tup [.int x, .int y]) ∧ Q (.bl (atP x y p)) H
theorem ok_has_position (T : Tx K mg f_depth_changes f_find_blocks f_is_number f_is_position f_is_tuple_of f_is_interval f_is_ascending f_has_position f_contains f_intersect f_is_demand f_serves f_conflict f_is_independent f_demands_at_blocks f_is_open f_open_demands f_shadow_target f_pieces_inside f_first_gap f_generates f_find_missing f_without_item f_require_few_blocks f_decisive_demands f_largest_independent f_unserved_demands f_helpful_piece f_smallest_solution f_count_needed f_solve f_are_witnesses f_solution_holds f_helps f_helpful_interval f_has_open_demand f_widen f_essential_targets f_core_targets f_is_free f_growth_counts f_law_draws f_law_next f_law_blocks f_law_wide f_law_call f_law_raised f_law_judged f_law f_TooWide_init X_TooWide X_NotGenerated X_OutOfRange X_TooMany X_SpanError d_depth_changes d_find_blocks d_is_number d_is_position d_is_tuple_of d_is_interval d_is_ascending d_has_position d_contains d_intersect d_is_demand d_serves d_conflict d_is_independent d_demands_at_blocks d_is_open d_open_demands d_shadow_target d_pieces_inside d_first_gap d_generates d_find_missing d_without_item d_require_few_blocks d_decisive_demands d_largest_independent d_unserved_demands d_helpful_piece d_smallest_solution d_count_needed d_solve d_are_witnesses d_solution_holds d_helps d_helpful_interval d_has_open_demand d_widen d_essential_targets d_core_targets d_is_free d_growth_counts d_law_draws d_law_next d_law_blocks d_law_wide d_law_call d_law_raised d_law_judged d_law d_TooWide_init t_LAST_POSITION t_MAX_BLOCKS) : FnOk P w K mg base CX0 1 f_has_position d_has_position ["interval", "position"] sp_has_position := by
  refine T.F_has_position.ok sc_has_position (fun vs H Q E h => ?_) (fun cdv A outer s H vs Q E hr h => ?_)
  · obtain ⟨a, x, y, p, rfl, _⟩ := h
    rfl
  · obtain ⟨a, x, y, p, rfl, ha, q⟩ := h
    refine ⟨_, (pss_one (ps_ret (pe_chain op_le op_le (pe_ix ix_tup (pv 0) pe_int (fun _ _ => rfl)) (pv 1) (pe_ix ix_tup (pv 0) pe_int (fun _ _ => rfl))))), ?_⟩
    unfold atP at q
    refine ⟨.ref a, rfl, a, _, 0, .int x, rfl, rfl, SqT.of ha, rfl, .int p, rfl, _, _, rfl, rfl, _, rfl, ite2 (fun e => ?_) (fun e => ?_)⟩
    · refine ⟨.ref a, rfl, a, _, 1, .int y, rfl, rfl, SqT.of ha, rfl, _, _, rfl, rfl, ?_⟩
      rw [e] at q
      exact q
    · rw [Bool.not_eq_true] at e
      rw [e] at q
      exact q
def svI (x y p lo hi : Int) : Bool := inI lo hi x y && atP x y p
def sp_serves : Sp := fun vs H Q _ => ∃ (a u t : Addr) (x y p lo hi : Int), vs = [.ref a, .ref u] ∧ H a = some (.tup [.int x, .int y]) ∧ H u = some (.tup [.int p, .ref t]) ∧ H t = some (.tup [.int lo, .int hi]) ∧ Q (.bl (svI x y p lo hi)) H
theorem ok_serves (T : Tx K mg f_depth_changes f_find_blocks f_is_number f_is_position f_is_tuple_of f_is_interval f_is_ascending f_has_position f_contains f_intersect f_is_demand f_serves f_conflict f_is_independent f_demands_at_blocks f_is_open f_open_demands f_shadow_target f_pieces_inside f_first_gap f_generates f_find_missing f_without_item f_require_few_blocks f_decisive_demands f_largest_independent f_unserved_demands f_helpful_piece f_smallest_solution f_count_needed f_solve f_are_witnesses f_solution_holds f_helps f_helpful_interval f_has_open_demand f_widen f_essential_targets f_core_targets f_is_free f_growth_counts f_law_draws f_law_next f_law_blocks f_law_wide f_law_call f_law_raised f_law_judged f_law f_TooWide_init X_TooWide X_NotGenerated X_OutOfRange X_TooMany X_SpanError d_depth_changes d_find_blocks d_is_number d_is_position d_is_tuple_of d_is_interval d_is_ascending d_has_position d_contains d_intersect d_is_demand d_serves d_conflict d_is_independent d_demands_at_blocks d_is_open d_open_demands d_shadow_target d_pieces_inside d_first_gap d_generates d_find_missing d_without_item d_require_few_blocks d_decisive_demands d_largest_independent d_unserved_demands d_helpful_piece d_smallest_solution d_count_needed d_solve d_are_witnesses d_solution_holds d_helps d_helpful_interval d_has_open_demand d_widen d_essential_targets d_core_targets d_is_free d_growth_counts d_law_draws d_law_next d_law_blocks d_law_wide d_law_call d_law_raised d_law_judged d_law d_TooWide_init t_LAST_POSITION t_MAX_BLOCKS) : FnOk P w K mg base CX0 2 f_serves d_serves ["piece", "demand"] sp_serves := by
  refine T.F_serves.ok sc_serves (fun vs H Q E h => ?_) (fun cdv A outer s H vs Q E hr h => ?_)
  · obtain ⟨a, u, t, x, y, p, lo, hi, rfl, _⟩ := h
    rfl
  · obtain ⟨a, u, t, x, y, p, lo, hi, rfl, ha, hu, ht, q⟩ := h
    refine ⟨_, (pss_cons (ps_asg (pv 1) (pg_tup rfl (pgs_cons (pg_name (i := 2) sc_serves.nd rfl (Or.inl rfl)) (pgs_cons (pg_name (i := 3) sc_serves.nd rfl (Or.inl rfl)) pgs_nil))))
      (pss_one (ps_ret (pe_and (pe_call (ok_contains T) (hr.mono (by decide)) (by rfl) T.g_contains T.F_contains.kp T.b_contains .nil pass0 (pa_cons (pv 3) (pa_cons (pv 0) pa_nil))) (pe_one (pe_call (ok_has_position T) (hr.mono (by decide)) (by rfl) T.g_has_position T.F_has_position.kp T.b_has_position .nil pass0 (pa_cons (pv 0) (pa_cons (pv 2) pa_nil)))))))), ?_⟩
    unfold svI at q
    refine ⟨.ref u, rfl, u, _, rfl, SqT.of hu, rfl, .int p, [.ref t], rfl, .ref t, [], rfl, rfl, ?_⟩
    refine ⟨.ref t, rfl, .ref a, rfl, t, a, lo, hi, x, y, rfl, ht, ha, _, rfl, ite2 (fun e => ?_) (fun e => ?_)⟩
    · refine ⟨.ref a, rfl, .int p, rfl, a, x, y, p, rfl, ha, ?_⟩
      rw [e] at q
      exact q
    · rw [Bool.not_eq_true] at e
      rw [e] at q
      exact q

def strI (f s : Int) (p : Int × Int) : Int × Int := (p.1 * f + s, p.2 * f + f - 1 + s)

/-! ### blocks, position by position -/
def depI (row : List (Int × Int)) (p : Int) : Int := (row.map fun q => if q.1 ≤ p ∧ p ≤ q.2 then (1 : Int) else 0).sum
def delI (row : List (Int × Int)) (p : Int) : Int := (row.map fun q => (if q.1 = p then (1 : Int) else 0) - (if q.2 + 1 = p then 1 else 0)).sum
def Bd (row : List (Int × Int)) (p : Int) : Prop := ∃ q ∈ row, q.1 = p ∨ q.2 + 1 = p
def Good (row : List (Int × Int)) : Prop := ∀ q ∈ row, 0 ≤ q.1 ∧ q.1 ≤ q.2
instance (row : List (Int × Int)) (p : Int) : Decidable (Bd row p) := by
  unfold Bd
  infer_instance
theorem Good.tail {q : Int × Int} {row : List (Int × Int)} (g : Good (q :: row)) : Good row := fun x hx => g x (List.mem_cons_of_mem _ hx)
theorem dep_step : ∀ {row : List (Int × Int)}, Good row → ∀ p : Int, depI row p = depI row (p - 1) + delI row p
  | [], _, _ => rfl
  | q :: row, g, p => by
    have ih := dep_step g.tail p
    have z := g q List.mem_cons_self
    unfold depI delI at *
    simp only [List.map_cons, List.sum_cons]
    rw [ih]
    split <;> split <;> split <;> split <;> omega
theorem del_zero : ∀ {row : List (Int × Int)} {p : Int}, ¬ Bd row p → delI row p = 0
  | [], _, _ => rfl
  | q :: row, p, h => by
    have ih := del_zero (row := row) (p := p) fun ⟨x, hx, e⟩ => h ⟨x, List.mem_cons_of_mem _ hx, e⟩
    have n1 : ¬ q.1 = p := fun e => h ⟨q, List.mem_cons_self, .inl e⟩
    have n2 : ¬ q.2 + 1 = p := fun e => h ⟨q, List.mem_cons_self, .inr e⟩
    unfold delI at *
    simp only [List.map_cons, List.sum_cons]
    rw [ih, if_neg n1, if_neg n2]
    rfl
theorem dep_nonneg : ∀ (row : List (Int × Int)) (p : Int), 0 ≤ depI row p
  | [], _ => Int.le_refl _
  | q :: row, p => by
    have ih := dep_nonneg row p
    unfold depI at *
    simp only [List.map_cons, List.sum_cons]
    split <;> omega
theorem dep_pos : ∀ {row : List (Int × Int)} {p : Int}, 0 < depI row p ↔ ∃ q ∈ row, q.1 ≤ p ∧ p ≤ q.2
  | [], p => by
    constructor
    · intro h
      exact absurd h (by show ¬ (0 : Int) < 0; decide)
    · rintro ⟨q, h, _⟩
      cases h
  | q :: row, p => by
    have ih := dep_pos (row := row) (p := p)
    have nn := dep_nonneg row p
    have e : depI (q :: row) p = (if q.1 ≤ p ∧ p ≤ q.2 then (1 : Int) else 0) + depI row p := by
      unfold depI
      rw [List.map_cons, List.sum_cons]
    rw [e]
    by_cases h : q.1 ≤ p ∧ p ≤ q.2
    · rw [if_pos h]
      constructor
      · intro _
        exact ⟨q, List.mem_cons_self, h⟩
      · intro _
        omega
    · rw [if_neg h]
      constructor
      · intro z
        obtain ⟨x, hx, w⟩ := ih.mp (by omega)
        exact ⟨x, List.mem_cons_of_mem _ hx, w⟩
      · rintro ⟨x, hx, w⟩
        rcases List.mem_cons.mp hx with rfl | hx
        · exact absurd w h
        · have := ih.mpr ⟨x, hx, w⟩
          omega
theorem dep_zero {row : List (Int × Int)} {p : Int} (h : ∀ q ∈ row, p < q.1 ∨ q.2 < p) : depI row p = 0 := by
  have nn := dep_nonneg row p
  by_cases z : 0 < depI row p
  · obtain ⟨q, hq, w⟩ := dep_pos.mp z
    have := h q hq
    omega
  · omega
theorem dep_const {row : List (Int × Int)} (g : Good row) {a : Int} : ∀ k : Nat, (∀ j : Int, a < j → j ≤ a + k → ¬ Bd row j) → depI row (a + k) = depI row a
  | 0, _ => by
    rw [show a + ((0 : Nat) : Int) = a by omega]
  | k + 1, h => by
    have ih := dep_const g k fun j h1 h2 => h j h1 (by omega)
    rw [dep_step g, del_zero (h _ (by omega) (Int.le_refl _)), show a + ((k + 1 : Nat) : Int) - 1 = a + (k : Int) by omega, ih]
    omega
def extl (l : List (Int × Int)) (p : Int) : List (Int × Int) := l.dropLast ++ (l.getLast?.map fun q => (q.1, p)).toList
theorem extl_snoc (l : List (Int × Int)) (q : Int × Int) (p : Int) : extl (l ++ [q]) p = l ++ [(q.1, p)] := by
  unfold extl
  rw [List.dropLast_concat, List.getLast?_concat]
  rfl
theorem extl_nil (p : Int) : extl [] p = [] := rfl
theorem extl_extl (l : List (Int × Int)) (p r : Int) : extl (extl l p) r = extl l r := by
  rcases List.eq_nil_or_concat l with rfl | ⟨m, q, rfl⟩
  · rfl
  · rw [List.concat_eq_append, extl_snoc, extl_snoc, extl_snoc]
theorem extl_ne {l : List (Int × Int)} (h : l ≠ []) (p : Int) : extl l p ≠ [] := by
  rcases List.eq_nil_or_concat l with rfl | ⟨m, q, rfl⟩
  · exact absurd rfl h
  · rw [List.concat_eq_append, extl_snoc]
    exact List.append_ne_nil_of_right_ne_nil _ (List.cons_ne_nil _ _)
theorem extl_map (f : Int × Int → Int × Int) {l : List (Int × Int)} {p r : Int} (h : ∀ q : Int × Int, f (q.1, p) = ((f q).1, r)) : extl (l.map f) r = (extl l p).map f := by
  rcases List.eq_nil_or_concat l with rfl | ⟨m, q, rfl⟩
  · rfl
  · rw [List.concat_eq_append, extl_snoc, List.map_append, List.map_singleton, extl_snoc, List.map_append, List.map_singleton, h]
/-- the blocks of the positions below n -/
def Cb (row : List (Int × Int)) : Nat → List (Int × Int)
  | 0 => []
  | n + 1 => if 0 < depI row n then (if Bd row n then Cb row n ++ [((n : Int), (n : Int))] else extl (Cb row n) n) else Cb row n
theorem Cb_succ (row : List (Int × Int)) (n : Nat) : Cb row (n + 1) = if 0 < depI row n then (if Bd row n then Cb row n ++ [((n : Int), (n : Int))] else extl (Cb row n) n) else Cb row n := rfl
theorem Cb_seg {row : List (Int × Int)} (g : Good row) {a : Nat} : ∀ k : Nat, (∀ j : Int, (a : Int) < j → j ≤ a + k → ¬ Bd row j) →
    Cb row (a + k + 1) = if 0 < depI row a then (if Bd row a then Cb row a ++ [((a : Int), (a : Int) + k)] else extl (Cb row a) (a + k)) else Cb row a
  | 0, _ => by
    rw [Nat.add_zero, Cb_succ, show (a : Int) + ((0 : Nat) : Int) = a by omega]
  | k + 1, h => by
    have ih := Cb_seg g k fun j h1 h2 => h j h1 (by omega)
    have dc := dep_const g (k + 1) h
    have cast : (((a + (k + 1)) : Nat) : Int) = (a : Int) + ((k + 1 : Nat) : Int) := by omega
    rw [Cb_succ, cast, dc]
    by_cases hd : 0 < depI row a
    · rw [if_pos hd, if_neg (h _ (by omega) (Int.le_refl _)), show a + (k + 1) = a + k + 1 by omega, ih, if_pos hd]
      by_cases hb : Bd row a
      · rw [if_pos hb, if_pos hb, if_pos hd, extl_snoc]
      · rw [if_neg hb, if_neg hb, if_pos hd, extl_extl]
    · rw [if_neg hd, if_neg hd, show a + (k + 1) = a + k + 1 by omega, ih, if_neg hd]
theorem Cb_top {row : List (Int × Int)} {N : Nat} (h : ∀ q ∈ row, q.2 + 1 ≤ N) : ∀ k : Nat, Cb row (N + k) = Cb row N
  | 0 => rfl
  | k + 1 => by
    have z : depI row ((N + k : Nat) : Int) = 0 := dep_zero fun q hq => by
      have := h q hq
      omega
    rw [show N + (k + 1) = (N + k) + 1 by omega, Cb_succ, z, if_neg (by omega)]
    exact Cb_top h k
theorem Cb_low {row : List (Int × Int)} : ∀ {N : Nat}, (∀ q ∈ row, (N : Int) ≤ q.1) → Cb row N = []
  | 0, _ => rfl
  | N + 1, h => by
    have z : depI row (N : Int) = 0 := dep_zero fun q hq => by
      have := h q hq
      omega
    rw [Cb_succ, z, if_neg (by omega)]
    exact Cb_low fun q hq => by
      have := h q hq
      omega
def topN : List (Int × Int) → Nat
  | [] => 0
  | q :: r => max (q.2 + 1).toNat (topN r)
theorem topN_le : ∀ {row : List (Int × Int)} {q : Int × Int}, q ∈ row → q.2 + 1 ≤ topN row
  | r :: row, q, h => by
    rcases List.mem_cons.mp h with rfl | h
    · show q.2 + 1 ≤ ((max (q.2 + 1).toNat (topN row) : Nat) : Int)
      omega
    · have := topN_le h
      show q.2 + 1 ≤ ((max (r.2 + 1).toNat (topN row) : Nat) : Int)
      omega
def blocksOf (row : List (Int × Int)) : List (Int × Int) := Cb row (topN row)
theorem Cb_all {row : List (Int × Int)} {N : Nat} (h : ∀ q ∈ row, q.2 + 1 ≤ N) : Cb row N = blocksOf row := by
  unfold blocksOf
  rcases Nat.le_total N (topN row) with z | z
  · obtain ⟨k, e⟩ := Nat.le.dest z
    rw [← e, Cb_top h k]
  · obtain ⟨k, e⟩ := Nat.le.dest z
    rw [← e, Cb_top (fun q hq => topN_le hq) k]
theorem Cb_ne {row : List (Int × Int)} (g : Good row) : ∀ n : Nat, 0 < depI row n → Cb row (n + 1) ≠ []
  | 0, h => by
    obtain ⟨q, hq, w⟩ := dep_pos.mp h
    have z := g q hq
    have hb : Bd row ((0 : Nat) : Int) := ⟨q, hq, .inl (by omega)⟩
    rw [Cb_succ, if_pos h, if_pos hb]
    exact List.append_ne_nil_of_right_ne_nil _ (List.cons_ne_nil _ _)
  | n + 1, h => by
    rw [Cb_succ, if_pos h]
    by_cases hb : Bd row ((n + 1 : Nat) : Int)
    · rw [if_pos hb]
      exact List.append_ne_nil_of_right_ne_nil _ (List.cons_ne_nil _ _)
    · rw [if_neg hb]
      have e := dep_step g ((n + 1 : Nat) : Int)
      rw [del_zero hb, show ((n + 1 : Nat) : Int) - 1 = (n : Int) by omega] at e
      exact extl_ne (Cb_ne g n (by omega)) _
/-- the blocks of stretched intervals -/
theorem bd_str {row : List (Int × Int)} {f s : Int} {j : Int} : Bd (row.map (strI f s)) j ↔ ∃ b, Bd row b ∧ j = b * f + s := by
  constructor
  · rintro ⟨q, hq, h⟩
    obtain ⟨r, hr, rfl⟩ := List.mem_map.mp hq
    rcases h with h | h
    · exact ⟨r.1, ⟨r, hr, .inl rfl⟩, h.symm⟩
    · refine ⟨r.2 + 1, ⟨r, hr, .inr rfl⟩, ?_⟩
      rw [← h, Int.add_mul]
      show r.2 * f + f - 1 + s + 1 = r.2 * f + 1 * f + s
      omega
  · rintro ⟨b, ⟨r, hr, h⟩, rfl⟩
    refine ⟨strI f s r, List.mem_map.mpr ⟨r, hr, rfl⟩, ?_⟩
    rcases h with h | h
    · exact .inl (by rw [← h]; rfl)
    · refine .inr ?_
      rw [← h, Int.add_mul]
      show r.2 * f + f - 1 + s + 1 = r.2 * f + 1 * f + s
      omega
theorem mul_le_iff {a b f : Int} (hf : 0 < f) : a * f ≤ b * f ↔ a ≤ b := ⟨fun h => Int.le_of_mul_le_mul_right h hf, fun h => Int.mul_le_mul_of_nonneg_right h (by omega)⟩
theorem dep_str {f s : Int} (hf : 0 < f) : ∀ {row : List (Int × Int)} {N : Int}, depI (row.map (strI f s)) (N * f + s) = depI row N
  | [], _ => rfl
  | q :: row, N => by
    have ih := dep_str (s := s) hf (row := row) (N := N)
    have e1 := mul_le_iff (a := q.1) (b := N) hf
    have e2 := mul_le_iff (a := N) (b := q.2) hf
    have e3 : N * f ≤ q.2 * f + f - 1 ↔ N ≤ q.2 := by
      constructor
      · intro h
        by_cases z : N ≤ q.2
        · exact z
        · have w := (mul_le_iff (a := q.2 + 1) (b := N) hf).mpr (by omega)
          rw [Int.add_mul] at w
          omega
      · intro h
        have := e2.mpr h
        omega
    have c : (q.1 * f + s ≤ N * f + s ∧ N * f + s ≤ q.2 * f + f - 1 + s) ↔ (q.1 ≤ N ∧ N ≤ q.2) := by
      rw [← e1, ← e3]
      constructor
      · rintro ⟨h1, h2⟩
        exact ⟨by omega, by omega⟩
      · rintro ⟨h1, h2⟩
        exact ⟨by omega, by omega⟩
    unfold depI at *
    simp only [List.map_cons, List.sum_cons]
    rw [ih]
    congr 1
    show (if q.1 * f + s ≤ N * f + s ∧ N * f + s ≤ q.2 * f + f - 1 + s then (1 : Int) else 0) = _
    by_cases z : q.1 ≤ N ∧ N ≤ q.2
    · rw [if_pos z, if_pos (c.mpr z)]
    · rw [if_neg z, if_neg (fun w => z (c.mp w))]
theorem good_str {row : List (Int × Int)} (g : Good row) {f s : Int} (hf : 0 < f) (hs : 0 ≤ s) : Good (row.map (strI f s)) := by
  intro q hq
  obtain ⟨r, hr, rfl⟩ := List.mem_map.mp hq
  have z := g r hr
  have m1 := (mul_le_iff (a := 0) (b := r.1) hf).mpr z.1
  have m2 := (mul_le_iff (a := r.1) (b := r.2) hf).mpr z.2
  constructor
  · show 0 ≤ r.1 * f + s
    omega
  · show r.1 * f + s ≤ r.2 * f + f - 1 + s
    omega
theorem Cb_str {row : List (Int × Int)} (g : Good row) {f s : Int} (hf : 0 < f) (hs : 0 ≤ s) : ∀ N : Nat, Cb (row.map (strI f s)) ((N : Int) * f + s).toNat = (Cb row N).map (strI f s)
  | 0 => by
    have e : ((0 : Nat) : Int) * f + s = s := by
      rw [show ((0 : Nat) : Int) = 0 from rfl, Int.zero_mul]
      omega
    rw [e, Cb_low]
    · rfl
    · intro q hq
      obtain ⟨r, hr, rfl⟩ := List.mem_map.mp hq
      have z := g r hr
      have m1 := (mul_le_iff (a := 0) (b := r.1) hf).mpr z.1
      show ((s.toNat : Nat) : Int) ≤ r.1 * f + s
      omega
  | N + 1 => by
    have ih := Cb_str g hf hs N
    have nn := (mul_le_iff (a := 0) (b := N) hf).mpr (by omega)
    have cast : (((N : Int) * f + s).toNat : Int) = (N : Int) * f + s := by omega
    have e : (((N + 1 : Nat) : Int) * f + s).toNat = ((N : Int) * f + s).toNat + (f - 1).toNat + 1 := by
      have : ((N + 1 : Nat) : Int) * f = (N : Int) * f + f := by
        rw [show ((N + 1 : Nat) : Int) = (N : Int) + 1 by omega, Int.add_mul, Int.one_mul]
      omega
    have seg := Cb_seg (good_str g hf hs) (a := ((N : Int) * f + s).toNat) (f - 1).toNat (fun j h1 h2 hb => by
      obtain ⟨b, _, ej⟩ := bd_str.mp hb
      rw [cast] at h1 h2
      have l1 : (N : Int) < b := by
        by_cases z : b ≤ N
        · have := (mul_le_iff (a := b) (b := N) hf).mpr z
          omega
        · omega
      have := (mul_le_iff (a := (N : Int) + 1) (b := b) hf).mpr (by omega)
      rw [Int.add_mul] at this
      omega)
    have eb : Bd (row.map (strI f s)) ((N : Int) * f + s) ↔ Bd row N := by
      constructor
      · intro h
        obtain ⟨b, hb, ej⟩ := bd_str.mp h
        have : b = N := by
          rcases Int.lt_trichotomy b N with z | z | z
          · have := (mul_le_iff (a := b + 1) (b := N) hf).mpr (by omega)
            rw [Int.add_mul] at this
            omega
          · exact z
          · have := (mul_le_iff (a := (N : Int) + 1) (b := b) hf).mpr (by omega)
            rw [Int.add_mul] at this
            omega
        rw [← this]
        exact hb
      · intro h
        exact bd_str.mpr ⟨N, h, rfl⟩
    rw [e, seg, cast, dep_str hf, ih, Cb_succ]
    by_cases hd : 0 < depI row N
    · rw [if_pos hd, if_pos hd]
      have last : (N : Int) * f + s + ((f - 1).toNat : Int) = (N : Int) * f + f - 1 + s := by omega
      by_cases hb : Bd row N
      · rw [if_pos hb, if_pos (eb.mpr hb), List.map_append, List.map_singleton, last]
        rfl
      · rw [if_neg hb, if_neg (fun z => hb (eb.mp z)), last]
        exact extl_map (strI f s) fun q => rfl
    · rw [if_neg hd, if_neg hd]
theorem blocks_str {row : List (Int × Int)} (g : Good row) {f s : Int} (hf : 0 < f) (hs : 0 ≤ s) : blocksOf (row.map (strI f s)) = (blocksOf row).map (strI f s) := by
  rw [← Cb_all (row := row.map (strI f s)) (N := ((topN row : Int) * f + s).toNat)]
  · exact Cb_str g hf hs _
  · intro q hq
    obtain ⟨r, hr, rfl⟩ := List.mem_map.mp hq
    have z := topN_le hr
    have m := (mul_le_iff (a := r.2 + 1) (b := topN row) hf).mpr z
    have nn := (mul_le_iff (a := 0) (b := topN row) hf).mpr (by omega)
    rw [Int.add_mul] at m
    show r.2 * f + f - 1 + s + 1 ≤ ((((topN row : Int) * f + s).toNat : Nat) : Int)
    omega

/-! ### what the blocks are: ascending, apart, covering, begun at the borders that are covered -/
theorem extl_fst (l : List (Int × Int)) (p : Int) : (extl l p).map (·.1) = l.map (·.1) := by
  rcases List.eq_nil_or_concat l with rfl | ⟨m, q, rfl⟩
  · rfl
  · rw [List.concat_eq_append, extl_snoc, List.map_append, List.map_append]
    rfl
def stB (row : List (Int × Int)) (p : Nat) : Bool := decide (0 < depI row p) && decide (Bd row p)
structure Bl (row : List (Int × Int)) (N : Nat) (l : List (Int × Int)) : Prop where
  asc : l.Pairwise (fun a b => a.2 < b.1)
  ok : ∀ q ∈ l, 0 ≤ q.1 ∧ q.1 ≤ q.2 ∧ q.2 < N
  cov : ∀ p : Nat, p < N → (0 < depI row p ↔ ∃ q ∈ l, q.1 ≤ p ∧ (p : Int) ≤ q.2)
  fst : l.map (·.1) = ((List.range N).filter (stB row)).map (fun n : Nat => (n : Int))
theorem Cb_bl {row : List (Int × Int)} (g : Good row) : ∀ N : Nat, Bl row N (Cb row N)
  | 0 => ⟨.nil, (fun q hq => nomatch hq), (fun p hp => absurd hp (Nat.not_lt_zero p)), rfl⟩
  | n + 1 => by
    have ih := Cb_bl g n
    have fr : ((List.range (n + 1)).filter (stB row)).map (fun n : Nat => (n : Int)) = ((List.range n).filter (stB row)).map (fun n : Nat => (n : Int)) ++ (if stB row n then [(n : Int)] else []) := by
      rw [List.range_succ, List.filter_append, List.map_append]
      congr 1
      cases h : stB row n <;> simp [List.filter_cons, h]
    rw [Cb_succ]
    by_cases hd : 0 < depI row n
    · rw [if_pos hd]
      by_cases hb : Bd row n
      · rw [if_pos hb]
        refine ⟨?_, fun q hq => ?_, fun p hp => ?_, ?_⟩
        · refine List.pairwise_append.mpr ⟨ih.asc, List.pairwise_singleton _ _, fun a ha b hb2 => ?_⟩
          rw [List.mem_singleton.mp hb2]
          exact (ih.ok a ha).2.2
        · rcases List.mem_append.mp hq with hq | hq
          · have := ih.ok q hq
            exact ⟨this.1, this.2.1, by omega⟩
          · rw [List.mem_singleton.mp hq]
            refine ⟨?_, ?_, ?_⟩
            · show (0 : Int) ≤ (n : Int)
              omega
            · show (n : Int) ≤ (n : Int)
              omega
            · show (n : Int) < ((n + 1 : Nat) : Int)
              omega
        · rcases Nat.lt_or_ge p n with h | h
          · rw [ih.cov p h]
            constructor
            · rintro ⟨q, hq, w⟩
              exact ⟨q, List.mem_append_left _ hq, w⟩
            · rintro ⟨q, hq, w⟩
              rcases List.mem_append.mp hq with hq | hq
              · exact ⟨q, hq, w⟩
              · rw [List.mem_singleton.mp hq] at w
                have w1 : (n : Int) ≤ (p : Int) := w.1
                omega
          · have e : p = n := by omega
            subst e
            exact ⟨fun _ => ⟨((p : Int), (p : Int)), List.mem_append_right _ (List.mem_singleton.mpr rfl), Int.le_refl _, Int.le_refl _⟩, fun _ => hd⟩
        · rw [List.map_append, ih.fst, fr]
          have : stB row n = true := Bool.and_eq_true_iff.mpr ⟨decide_eq_true hd, decide_eq_true hb⟩
          rw [this]
          rfl
      · rw [if_neg hb]
        have sf : stB row n = false := by
          unfold stB
          rw [decide_eq_false hb, Bool.and_false]
        -- the last block ends just before n
        have e := dep_step g (n : Int)
        rw [del_zero hb] at e
        have n0 : 0 < n := by
          rcases Nat.eq_zero_or_pos n with z | z
          · subst z
            obtain ⟨q, hq, w⟩ := dep_pos.mp hd
            have := g q hq
            exact absurd ⟨q, hq, .inl (by omega)⟩ hb
          · exact z
        obtain ⟨k, rfl⟩ : ∃ k, n = k + 1 := ⟨n - 1, by omega⟩
        have dk : 0 < depI row k := by
          rw [show ((k + 1 : Nat) : Int) - 1 = (k : Int) by omega] at e
          omega
        obtain ⟨q, hq, w1, w2⟩ := (ih.cov k (by omega)).mp dk
        have oq := ih.ok q hq
        generalize Cb row (k + 1) = l at *
        rcases List.eq_nil_or_concat l with rfl | ⟨m, z, rfl⟩
        · cases hq
        · rw [List.concat_eq_append] at *
          rw [extl_snoc]
          have pa := List.pairwise_append.mp ih.asc
          have oz := ih.ok z (List.mem_append_right _ (List.mem_singleton.mpr rfl))
          have qz : q = z := by
            rcases List.mem_append.mp hq with h | h
            · have := pa.2.2 q h z (List.mem_singleton.mpr rfl)
              omega
            · exact List.mem_singleton.mp h
          subst qz
          have q2 : q.2 = (k : Int) := by omega
          refine ⟨?_, fun r hr => ?_, fun p hp => ?_, ?_⟩
          · refine List.pairwise_append.mpr ⟨pa.1, List.pairwise_singleton _ _, fun a ha b hb2 => ?_⟩
            rw [List.mem_singleton.mp hb2]
            exact pa.2.2 a ha q (List.mem_singleton.mpr rfl)
          · rcases List.mem_append.mp hr with hr | hr
            · have := ih.ok r (List.mem_append_left _ hr)
              exact ⟨this.1, this.2.1, by omega⟩
            · rw [List.mem_singleton.mp hr]
              refine ⟨oq.1, ?_, ?_⟩
              · show q.1 ≤ ((k + 1 : Nat) : Int)
                omega
              · show ((k + 1 : Nat) : Int) < ((k + 1 + 1 : Nat) : Int)
                omega
          · rcases Nat.lt_or_ge p (k + 1) with h | h
            · rw [ih.cov p h]
              constructor
              · rintro ⟨r, hr, w⟩
                rcases List.mem_append.mp hr with hr | hr
                · exact ⟨r, List.mem_append_left _ hr, w⟩
                · rw [List.mem_singleton.mp hr] at w
                  refine ⟨_, List.mem_append_right _ (List.mem_singleton.mpr rfl), w.1, ?_⟩
                  show (p : Int) ≤ ((k + 1 : Nat) : Int)
                  omega
              · rintro ⟨r, hr, w⟩
                rcases List.mem_append.mp hr with hr | hr
                · exact ⟨r, List.mem_append_left _ hr, w⟩
                · rw [List.mem_singleton.mp hr] at w
                  exact ⟨q, List.mem_append_right _ (List.mem_singleton.mpr rfl), w.1, by omega⟩
            · have e : p = k + 1 := by omega
              subst e
              refine ⟨fun _ => ⟨_, List.mem_append_right _ (List.mem_singleton.mpr rfl), ?_, ?_⟩, fun _ => hd⟩
              · show q.1 ≤ ((k + 1 : Nat) : Int)
                omega
              · exact Int.le_refl _
          · rw [fr, sf, ← ih.fst, List.map_append, List.map_append]
            simp
    · rw [if_neg hd]
      have sf : stB row n = false := by
        unfold stB
        rw [decide_eq_false hd, Bool.false_and]
      refine ⟨ih.asc, fun q hq => ?_, fun p hp => ?_, ?_⟩
      · have := ih.ok q hq
        exact ⟨this.1, this.2.1, by omega⟩
      · rcases Nat.lt_or_ge p n with h | h
        · exact ih.cov p h
        · have e : p = n := by omega
          subst e
          refine ⟨fun z => absurd z hd, ?_⟩
          rintro ⟨q, hq, w⟩
          have := (ih.ok q hq).2.2
          omega
      · rw [fr, sf, ih.fst]
        simp
theorem blocks_bl {row : List (Int × Int)} (g : Good row) : Bl row (topN row) (blocksOf row) := Cb_bl g _
def lowsOf (row : List (Int × Int)) : List Int := (blocksOf row).map (·.1)
def ixI (row : List (Int × Int)) (pos : Int) : Int := (((lowsOf row).filter fun c => decide (c ≤ pos)).length : Int) - 1
theorem cnt_at {pos : Int} : ∀ {l : List (Int × Int)} {j : Nat} {q : Int × Int}, l.Pairwise (fun a b => a.2 < b.1) → (∀ q ∈ l, q.1 ≤ q.2) → l[j]? = some q → q.1 ≤ pos → pos ≤ q.2 → ((l.map (·.1)).filter fun c => decide (c ≤ pos)).length = j + 1
  | [], _, _, _, _, e, _, _ => by simp at e
  | x :: r, 0, q, asc, ok, e, h1, h2 => by
    cases e
    have p := List.pairwise_cons.mp asc
    rw [List.map_cons, List.filter_cons, if_pos (decide_eq_true h1), List.length_cons]
    have nil : (r.map (·.1)).filter (fun c => decide (c ≤ pos)) = [] := by
      apply List.filter_eq_nil_iff.mpr
      intro c hc
      obtain ⟨y, hy, rfl⟩ := List.mem_map.mp hc
      have := p.1 y hy
      rw [decide_eq_true_eq]
      omega
    rw [nil]
    rfl
  | x :: r, j + 1, q, asc, ok, e, h1, h2 => by
    have p := List.pairwise_cons.mp asc
    have e' : r[j]? = some q := e
    have := p.1 q (List.mem_of_getElem? e')
    have := ok x List.mem_cons_self
    rw [List.map_cons, List.filter_cons, if_pos (decide_eq_true (by omega)), List.length_cons, cnt_at p.2 (fun z hz => ok z (List.mem_cons_of_mem _ hz)) e' h1 h2]
theorem ix_at {row : List (Int × Int)} (g : Good row) {pos : Int} {j : Nat} {q : Int × Int} (e : (blocksOf row)[j]? = some q) (h1 : q.1 ≤ pos) (h2 : pos ≤ q.2) : ixI row pos = j ∧ 0 < depI row pos := by
  have B := blocks_bl g
  have mq := List.mem_of_getElem? e
  have oq := B.ok q mq
  refine ⟨?_, ?_⟩
  · unfold ixI lowsOf
    rw [cnt_at B.asc (fun z hz => (B.ok z hz).2.1) e h1 h2]
    omega
  · obtain ⟨p, rfl⟩ : ∃ p : Nat, pos = p := ⟨pos.toNat, by omega⟩
    exact (B.cov p (by omega)).mpr ⟨q, mq, h1, h2⟩
theorem dep_in {row : List (Int × Int)} (g : Good row) {pos : Int} (h : 0 < depI row pos) : ∃ q ∈ blocksOf row, q.1 ≤ pos ∧ pos ≤ q.2 := by
  obtain ⟨r, hr, w⟩ := dep_pos.mp h
  have := g r hr
  have := topN_le hr
  obtain ⟨p, rfl⟩ : ∃ p : Nat, pos = p := ⟨pos.toNat, by omega⟩
  exact ((blocks_bl g).cov p (by omega)).mp h
theorem Bl.idx {row : List (Int × Int)} {N : Nat} {l : List (Int × Int)} (B : Bl row N l) {i j : Nat} {a b : Int × Int} (ij : i < j) (ea : l[i]? = some a) (eb : l[j]? = some b) : a.2 < b.1 := by
  obtain ⟨hi, rfl⟩ := List.getElem?_eq_some_iff.mp ea
  obtain ⟨hj, rfl⟩ := List.getElem?_eq_some_iff.mp eb
  exact List.pairwise_iff_getElem.mp B.asc i j hi hj ij
theorem low_at {row : List (Int × Int)} (g : Good row) {q : Int × Int} (hq : q ∈ row) : ∃ (j : Nat) (b : Int × Int), (blocksOf row)[j]? = some b ∧ b.1 = q.1 := by
  have B := blocks_bl g
  have gq := g q hq
  have tq := topN_le hq
  have d : 0 < depI row q.1 := dep_pos.mpr ⟨q, hq, Int.le_refl _, gq.2⟩
  have bd : Bd row q.1 := ⟨q, hq, .inl rfl⟩
  have m : q.1 ∈ (blocksOf row).map (·.1) := by
    rw [B.fst]
    refine List.mem_map.mpr ⟨q.1.toNat, List.mem_filter.mpr ⟨List.mem_range.mpr (by omega), ?_⟩, by omega⟩
    have c : ((q.1.toNat : Nat) : Int) = q.1 := by omega
    unfold stB
    rw [c]
    exact Bool.and_eq_true_iff.mpr ⟨decide_eq_true d, decide_eq_true bd⟩
  obtain ⟨b, hb, e⟩ := List.mem_map.mp m
  obtain ⟨j, ej⟩ := List.getElem?_of_mem hb
  exact ⟨j, b, ej, e⟩
/-- no border lies within a block -/
theorem Bl.inner {row : List (Int × Int)} {N : Nat} {l : List (Int × Int)} (B : Bl row N l) {q : Int × Int} (hq : q ∈ l) {p : Int} (h1 : q.1 < p) (h2 : p ≤ q.2) : ¬ Bd row p := by
  intro bd
  have oq := B.ok q hq
  have c : ((p.toNat : Nat) : Int) = p := by omega
  have d : 0 < depI row p := by
    have z := (B.cov p.toNat (by omega)).mpr ⟨q, hq, by omega, by omega⟩
    rw [c] at z
    exact z
  have m : p ∈ l.map (·.1) := by
    rw [B.fst]
    refine List.mem_map.mpr ⟨p.toNat, List.mem_filter.mpr ⟨List.mem_range.mpr (by omega), ?_⟩, by omega⟩
    unfold stB
    rw [c]
    exact Bool.and_eq_true_iff.mpr ⟨decide_eq_true d, decide_eq_true bd⟩
  obtain ⟨r, hr, e⟩ := List.mem_map.mp m
  obtain ⟨i, ei⟩ := List.getElem?_of_mem hq
  obtain ⟨j, ej⟩ := List.getElem?_of_mem hr
  rcases Nat.lt_trichotomy i j with z | z | z
  · have := B.idx z ei ej
    omega
  · subst z
    rw [ei] at ej
    cases ej
    omega
  · have := B.idx z ej ei
    have := B.ok r hr
    omega
theorem high_at {row : List (Int × Int)} (g : Good row) {q : Int × Int} (hq : q ∈ row) : ∃ (j : Nat) (b : Int × Int), (blocksOf row)[j]? = some b ∧ b.2 = q.2 ∧ b.1 ≤ q.2 := by
  have B := blocks_bl g
  have gq := g q hq
  obtain ⟨b, hb, w1, w2⟩ := dep_in g (dep_pos.mpr ⟨q, hq, gq.2, Int.le_refl _⟩)
  obtain ⟨j, ej⟩ := List.getElem?_of_mem hb
  refine ⟨j, b, ej, ?_, w1⟩
  rcases Int.lt_or_le q.2 b.2 with z | z
  · exact absurd ⟨q, hq, .inr rfl⟩ (B.inner hb (p := q.2 + 1) (by omega) (by omega))
  · omega
theorem nodup_sub {α : Type} [DecidableEq α] : ∀ {l m : List α}, l.Nodup → (∀ x ∈ l, x ∈ m) → l.length ≤ m.length
  | [], _, _, _ => Nat.zero_le _
  | a :: l, m, h, hs => by
    have hm := hs a List.mem_cons_self
    have h' := List.nodup_cons.mp h
    have ih := nodup_sub (l := l) (m := m.erase a) h'.2 (fun x hx => (List.mem_erase_of_ne (fun e => h'.1 (by rw [← e]; exact hx))).mpr (hs x (List.mem_cons_of_mem _ hx)))
    rw [List.length_erase_of_mem hm] at ih
    have := List.length_pos_of_mem hm
    rw [List.length_cons]
    omega
theorem blocks_few {row : List (Int × Int)} (g : Good row) : (blocksOf row).length ≤ 2 * row.length := by
  have B := blocks_bl g
  have nd : ((blocksOf row).map (·.1)).Nodup := by
    rw [B.fst]
    refine List.Pairwise.map _ (fun a b h e => h (Int.ofNat.inj e)) ((List.nodup_range).filter _)
  have z := nodup_sub (m := row.map (·.1) ++ row.map (fun q => q.2 + 1)) nd (fun c hc => by
    rw [B.fst] at hc
    obtain ⟨n, hn, rfl⟩ := List.mem_map.mp hc
    obtain ⟨q, hq, w⟩ := of_decide_eq_true (Bool.and_eq_true_iff.mp (List.mem_filter.mp hn).2).2
    rcases w with w | w
    · exact List.mem_append_left _ (List.mem_map.mpr ⟨q, hq, w⟩)
    · exact List.mem_append_right _ (List.mem_map.mpr ⟨q, hq, w⟩))
  rw [List.length_map, List.length_append, List.length_map, List.length_map] at z
  omega


/-! ### the program's find_blocks -/
structure Dd (row : List (Int × Int)) (kvs : List (Key × V)) : Prop where
  val : ∀ k : Int, valV kvs (Sum.inl k) = if Bd row k then some (.int (delI row k)) else none
  nd : (kvs.map (·.1)).Nodup
  keys : ∃ ks : List Int, kvs.map (·.1) = ks.map Sum.inl
  len : kvs.length ≤ 2 * row.length
theorem keys_put (kvs : List (Key × V)) (k : Key) (v : V) : ((putK kvs k v).map (·.1) = kvs.map (·.1) ∧ k ∈ kvs.map (·.1)) ∨ ((putK kvs k v).map (·.1) = kvs.map (·.1) ++ [k] ∧ k ∉ kvs.map (·.1)) := by
  cases e : valV kvs k with
  | none =>
    refine .inr ⟨?_, valV_not e⟩
    rw [putK_new v e, List.map_append]
    rfl
  | some u =>
    refine .inl ⟨?_, valV_in e⟩
    have h : (kvs.any fun kv => decide (kv.1 = k)) = true := by
      rw [valV_any, e]
      rfl
    unfold putK
    rw [if_pos h, List.map_map]
    apply List.map_congr_left
    intro p _
    show (if p.1 = k then (p.1, v) else p).1 = p.1
    split <;> rfl
theorem put_parts {kvs : List (Key × V)} {k : Int} {v : V} (nd : (kvs.map (·.1)).Nodup) (keys : ∃ ks : List Int, kvs.map (·.1) = ks.map Sum.inl) :
    ((putK kvs (Sum.inl k) v).map (·.1)).Nodup ∧ (∃ ks : List Int, (putK kvs (Sum.inl k) v).map (·.1) = ks.map Sum.inl) ∧ (putK kvs (Sum.inl k) v).length ≤ kvs.length + 1 := by
  obtain ⟨ks, ek⟩ := keys
  rcases keys_put kvs (Sum.inl k) v with ⟨e, _⟩ | ⟨e, hn⟩
  · refine ⟨by rw [e]; exact nd, ⟨ks, by rw [e, ek]⟩, ?_⟩
    have l := congrArg List.length e
    rw [List.length_map, List.length_map] at l
    omega
  · refine ⟨?_, ⟨ks ++ [k], by rw [e, ek, List.map_append]; rfl⟩, ?_⟩
    · rw [e]
      exact List.nodup_append.mpr ⟨nd, by simp, fun a ha b hb z => hn (by rw [List.mem_singleton.mp hb] at z; rw [← z]; exact ha)⟩
    · have l := congrArg List.length e
      rw [List.length_map, List.length_append, List.length_map] at l
      simp at l
      omega
theorem bd_snoc {row : List (Int × Int)} {q : Int × Int} {k : Int} : Bd (row ++ [q]) k ↔ Bd row k ∨ q.1 = k ∨ q.2 + 1 = k := by
  constructor
  · rintro ⟨x, hx, h⟩
    rcases List.mem_append.mp hx with hx | hx
    · exact .inl ⟨x, hx, h⟩
    · rw [List.mem_singleton.mp hx] at h
      exact .inr h
  · rintro (⟨x, hx, h⟩ | h)
    · exact ⟨x, List.mem_append_left _ hx, h⟩
    · exact ⟨q, List.mem_append_right _ (List.mem_singleton.mpr rfl), h⟩
theorem del_snoc (row : List (Int × Int)) (q : Int × Int) (k : Int) : delI (row ++ [q]) k = delI row k + ((if q.1 = k then (1 : Int) else 0) - (if q.2 + 1 = k then 1 else 0)) := by
  unfold delI
  rw [List.map_append, List.sum_append, List.map_singleton, List.sum_singleton]
theorem Dd.get {row : List (Int × Int)} {kvs : List (Key × V)} (h : Dd row kvs) (k : Int) : (valV kvs (Sum.inl k)).getD (.int 0) = .int (delI row k) := by
  rw [h.val]
  by_cases b : Bd row k
  · rw [if_pos b]
    rfl
  · rw [if_neg b, del_zero b]
    rfl
theorem Dd.step {row : List (Int × Int)} {kvs : List (Key × V)} (h : Dd row kvs) {x y : Int} (xy : x ≤ y) :
    Dd (row ++ [(x, y)]) (putK (putK kvs (Sum.inl x) (.int (delI row x + 1))) (Sum.inl (y + 1)) (.int (delI row (y + 1) - 1))) := by
  obtain ⟨n1, k1, l1⟩ := put_parts (k := x) (v := .int (delI row x + 1)) h.nd h.keys
  obtain ⟨n2, k2, l2⟩ := put_parts (k := y + 1) (v := .int (delI row (y + 1) - 1)) n1 k1
  refine ⟨fun k => ?_, n2, k2, ?_⟩
  · rw [valV_put, valV_put, h.val]
    by_cases e1 : k = y + 1
    · have b : Bd (row ++ [(x, y)]) k := bd_snoc.mpr (.inr (.inr e1.symm))
      rw [if_pos (by rw [e1]), if_pos b, del_snoc, e1, if_neg (show ¬ x = y + 1 by omega), if_pos rfl]
      congr 2
    · rw [if_neg (fun z => e1 (Sum.inl.inj z))]
      by_cases e2 : k = x
      · have b : Bd (row ++ [(x, y)]) k := bd_snoc.mpr (.inr (.inl e2.symm))
        rw [if_pos (by rw [e2]), if_pos b, del_snoc, e2, if_pos rfl, if_neg (show ¬ y + 1 = x by omega)]
        congr 2
      · rw [if_neg (fun z => e2 (Sum.inl.inj z))]
        have same : delI (row ++ [(x, y)]) k = delI row k := by
          rw [del_snoc, if_neg (fun z => e2 z.symm), if_neg (fun z => e1 z.symm)]
          omega
        by_cases b : Bd row k
        · rw [if_pos b, if_pos (bd_snoc.mpr (.inl b)), same]
        · rw [if_neg b, if_neg (fun z => (bd_snoc.mp z).elim b (fun w => w.elim (fun w => e2 w.symm) (fun w => e1 w.symm)))]
  · rw [List.length_append, List.length_singleton]
    have := h.len
    omega
def sp_depth_changes : Sp := fun vs H Q _ => ∃ (a : Addr) (us : List V) (row : List (Int × Int)), vs = [.ref a] ∧ H a = some (.tup us) ∧ Ivs H us row ∧ (∀ q ∈ row, q.1 ≤ q.2) ∧ row.length ≤ 100 ∧
  ∀ H' p kvs, Same H H' → H p = none → H' p = some (.dK kvs) → Dd row kvs → Q (.ref p) H'
theorem ok_depth_changes (T : Tx K mg f_depth_changes f_find_blocks f_is_number f_is_position f_is_tuple_of f_is_interval f_is_ascending f_has_position f_contains f_intersect f_is_demand f_serves f_conflict f_is_independent f_demands_at_blocks f_is_open f_open_demands f_shadow_target f_pieces_inside f_first_gap f_generates f_find_missing f_without_item f_require_few_blocks f_decisive_demands f_largest_independent f_unserved_demands f_helpful_piece f_smallest_solution f_count_needed f_solve f_are_witnesses f_solution_holds f_helps f_helpful_interval f_has_open_demand f_widen f_essential_targets f_core_targets f_is_free f_growth_counts f_law_draws f_law_next f_law_blocks f_law_wide f_law_call f_law_raised f_law_judged f_law f_TooWide_init X_TooWide X_NotGenerated X_OutOfRange X_TooMany X_SpanError d_depth_changes d_find_blocks d_is_number d_is_position d_is_tuple_of d_is_interval d_is_ascending d_has_position d_contains d_intersect d_is_demand d_serves d_conflict d_is_independent d_demands_at_blocks d_is_open d_open_demands d_shadow_target d_pieces_inside d_first_gap d_generates d_find_missing d_without_item d_require_few_blocks d_decisive_demands d_largest_independent d_unserved_demands d_helpful_piece d_smallest_solution d_count_needed d_solve d_are_witnesses d_solution_holds d_helps d_helpful_interval d_has_open_demand d_widen d_essential_targets d_core_targets d_is_free d_growth_counts d_law_draws d_law_next d_law_blocks d_law_wide d_law_call d_law_raised d_law_judged d_law d_TooWide_init t_LAST_POSITION t_MAX_BLOCKS) : FnOk P w K mg base CX0 1 f_depth_changes d_depth_changes ["intervals"] sp_depth_changes := by
  refine T.F_depth_changes.ok sc_depth_changes (fun vs H Q E h => ?_) (fun cdv A outer s H vs Q E hr h => ?_)
  · obtain ⟨a, us, row, rfl, _⟩ := h
    rfl
  · obtain ⟨a, us, row, rfl, ha, iv, xy, few, q⟩ := h
    refine ⟨_, (pss_cons (ps_set (i := 1) sc_depth_changes.nd rfl (Or.inl rfl) pe_dnewK)
      (pss_cons (ps_for PassesOwn.never rfl (pi_tup (pv 0)) (pg_tup rfl (pgs_cons (pg_name (i := 2) sc_depth_changes.nd rfl (Or.inl rfl)) (pgs_cons (pg_name (i := 3) sc_depth_changes.nd rfl (Or.inl rfl)) pgs_nil)))
      (pss_cons (ps_dput (hu_of hr) (pv 1) (pv 2) (pe_op op_add (pe_dget2 (hu_of hr) (pv 1) (pv 2) pe_int ⟨rfl, rfl, rfl, rfl⟩) pe_int) rfl)
      (pss_one (ps_dput (hu_of hr) (pv 1) (pe_op op_add (pv 3) pe_int) (pe_op op_sub (pe_dget2 (hu_of hr) (pv 1) (pe_op op_add (pv 3) pe_int) pe_int ⟨rfl, rfl, rfl, rfl⟩) pe_int) rfl))))
      (pss_one (ps_ret (pv 1))))), ?_⟩
    refine fun p np => ?_
    refine ⟨.ref a, rfl, a, rfl, ⟨_, SqT.of (same_new np _ _ ha)⟩, for_tup (K := K) (a := a) (xs := us) (fun i σ H' => Same H H' ∧ (∃ kvs, H' p = some (.dK kvs) ∧ Dd (row.take i) kvs) ∧ ∃ y2 y3, σ = [some (.ref a), some (.ref p), y2, y3])
      ⟨same_new np, ⟨[], upd_same, ⟨fun k => rfl, List.nodup_nil, ⟨[], rfl⟩, Nat.zero_le _⟩⟩, _, _, rfl⟩ (fun i σ H' _ h => SqT.of (h.1 _ _ ha)) ?_ ?_⟩
    · rintro i v σ H1 hi ⟨sm, ⟨kvs, ep, dd⟩, y2, y3, rfl⟩
      obtain ⟨b, x, y, rfl, er, eb⟩ := iv.get hi
      have le := xy _ (List.mem_of_getElem? er)
      have lt := List.length_take_le' i row
      have len := dd.len
      refine ⟨b, _, rfl, SqT.of (sm _ _ eb), rfl, .int x, [.int y], rfl, .int y, [], rfl, rfl, ?_⟩
      refine ⟨.ref p, rfl, p, rfl, .inl ⟨kvs, .inl ep⟩, .int x, rfl, _, DGet.k (k := Sum.inl x) ep, _, _, dd.get x, rfl, .ref p, rfl, .int x, rfl, p, _, rfl, DPut.k (k := Sum.inl x) ep (small1000 (by omega)), ?_⟩
      have e1 := upd_same (H := H1) (a := p) (o := .dK (putK kvs (Sum.inl x) (.int (delI (row.take i) x + 1))))
      have g1 : (valV (putK kvs (Sum.inl x) (.int (delI (row.take i) x + 1))) (Sum.inl (y + 1))).getD (.int 0) = .int (delI (row.take i) (y + 1)) := by
        rw [valV_put, if_neg (fun z => by
          have z' := Sum.inl.inj z
          have le' : x ≤ y := le
          omega)]
        exact dd.get (y + 1)
      obtain ⟨_, _, l1⟩ := put_parts (k := x) (v := .int (delI (row.take i) x + 1)) dd.nd dd.keys
      refine ⟨.ref p, rfl, p, rfl, .inl ⟨_, .inl e1⟩, .int y, rfl, _, _, rfl, rfl, _, DGet.k (k := Sum.inl (y + 1)) e1, _, _, g1, rfl, .ref p, rfl, .int y, rfl, _, _, rfl, rfl, p, _, rfl, DPut.k (k := Sum.inl (y + 1)) e1 (small1000 (by omega)), ?_⟩
      refine ⟨fun b' o eb' => ?_, ⟨_, upd_same, ?_⟩, _, _, rfl⟩
      · have nb := ne_of_none eb' np
        rw [upd_ne nb, upd_ne nb]
        exact sm _ _ eb'
      · rw [List.take_add_one, er]
        exact dd.step le
    · rintro σ H1 ⟨sm, ⟨kvs, ep, dd⟩, y2, y3, rfl⟩
      rw [iv.length, List.take_length] at dd
      exact ⟨.ref p, rfl, q _ p kvs sm np ep dd⟩

structure Bs (row : List (Int × Int)) (bs : List Int) : Prop where
  mem : ∀ k, k ∈ bs ↔ Bd row k
  srt : bs.Pairwise (· < ·)
theorem Bs.lt {row : List (Int × Int)} {bs : List Int} (h : Bs row bs) {i j : Nat} {a b : Int} (ij : i < j) (ea : bs[i]? = some a) (eb : bs[j]? = some b) : a < b := by
  obtain ⟨hi, rfl⟩ := List.getElem?_eq_some_iff.mp ea
  obtain ⟨hj, rfl⟩ := List.getElem?_eq_some_iff.mp eb
  exact List.pairwise_iff_getElem.mp h.srt i j hi hj ij
theorem Bs.gap {row : List (Int × Int)} {bs : List Int} (h : Bs row bs) {i : Nat} {a b : Int} (ea : bs[i]? = some a) (eb : bs[i + 1]? = some b) : ∀ j : Int, a < j → j < b → ¬ Bd row j := by
  intro j h1 h2 hb
  obtain ⟨m, hm⟩ := List.getElem?_of_mem ((h.mem j).mpr hb)
  rcases Nat.lt_trichotomy m i with z | z | z
  · have := h.lt z hm ea
    omega
  · subst z
    rw [ea] at hm
    cases hm
    omega
  · rcases Nat.lt_or_ge (i + 1) m with z2 | z2
    · have := h.lt z2 eb hm
      omega
    · have z3 : m = i + 1 := by omega
      subst z3
      rw [eb] at hm
      cases hm
      omega
theorem Bs.first {row : List (Int × Int)} {bs : List Int} (h : Bs row bs) {a : Int} (ea : bs[0]? = some a) {k : Int} (hb : Bd row k) : a ≤ k := by
  obtain ⟨m, hm⟩ := List.getElem?_of_mem ((h.mem k).mpr hb)
  rcases Nat.lt_or_ge 0 m with z | z
  · have := h.lt z ea hm
    omega
  · have z2 : m = 0 := by omega
    subst z2
    rw [ea] at hm
    cases hm
    exact Int.le_refl _
theorem Bs.last {row : List (Int × Int)} {bs : List Int} (h : Bs row bs) {i : Nat} {a : Int} (ea : bs[i]? = some a) (hi : i + 1 = bs.length) {k : Int} (hb : Bd row k) : k ≤ a := by
  obtain ⟨m, hm⟩ := List.getElem?_of_mem ((h.mem k).mpr hb)
  have hl := (List.getElem?_eq_some_iff.mp hm).1
  rcases Nat.lt_or_ge m i with z | z
  · have := h.lt z hm ea
    omega
  · have z2 : m = i := by omega
    subst z2
    rw [ea] at hm
    cases hm
    exact Int.le_refl _
theorem Dd.bs {row : List (Int × Int)} {kvs : List (Key × V)} (dd : Dd row kvs) {ks bs : List Int} (ek : kvs.map (·.1) = ks.map Sum.inl) (perm : bs.Perm ks) (srt : bs.Pairwise (· ≤ ·)) : Bs row bs := by
  have ndk : ks.Nodup := by
    have z := dd.nd
    rw [ek] at z
    exact List.Pairwise.of_map Sum.inl (fun a b h e => h (by rw [e])) z
  have ndb : bs.Nodup := perm.nodup_iff.mpr ndk
  refine ⟨fun k => ?_, ?_⟩
  · rw [perm.mem_iff]
    constructor
    · intro hk
      have hm : (Sum.inl k : Key) ∈ kvs.map (·.1) := by
        rw [ek]
        exact List.mem_map.mpr ⟨k, hk, rfl⟩
      by_cases b : Bd row k
      · exact b
      · have v := dd.val k
        rw [if_neg b] at v
        exact absurd hm (valV_not v)
    · intro b
      have v := dd.val k
      rw [if_pos b] at v
      have hm := valV_in v
      rw [ek] at hm
      obtain ⟨j, hj, e⟩ := List.mem_map.mp hm
      rw [← Sum.inl.inj e]
      exact hj
  · refine (srt.and ndb).imp fun {a b} h => ?_
    have h1 := h.1
    have h2 := h.2
    omega
theorem Cb_next {row : List (Int × Int)} (g : Good row) {bs : List Int} (h : Bs row bs) {i : Nat} {a b : Int} (ea : bs[i]? = some a) (eb : bs[i + 1]? = some b) (a0 : 0 ≤ a) :
    Cb row b.toNat = (if 0 < depI row a then Cb row a.toNat ++ [(a, b - 1)] else Cb row a.toNat) ∧ depI row (b - 1) = depI row a := by
  have ab := h.lt (Nat.lt_succ_self i) ea eb
  have gap := h.gap ea eb
  have hb : Bd row a := (h.mem a).mp (List.mem_of_getElem? ea)
  have ca : ((a.toNat : Nat) : Int) = a := by omega
  have seg := Cb_seg g (a := a.toNat) (b - a - 1).toNat (fun j h1 h2 => gap j (by omega) (by omega))
  have e : a.toNat + (b - a - 1).toNat + 1 = b.toNat := by omega
  rw [e, ca, if_pos hb, show a + ((b - a - 1).toNat : Int) = b - 1 by omega] at seg
  refine ⟨seg, ?_⟩
  have dc := dep_const g (a := a) (b - a - 1).toNat (fun j h1 h2 => gap j h1 (by omega))
  rw [show a + ((b - a - 1).toNat : Int) = b - 1 by omega] at dc
  exact dc
def atB (row : List (Int × Int)) (bs : List Int) (i : Nat) : List (Int × Int) := match bs[i]? with
  | some b => Cb row b.toNat
  | none => []
def depB (row : List (Int × Int)) (bs : List Int) (i : Nat) : Int := match bs[i]? with
  | some b => depI row (b - 1)
  | none => 0
theorem atB_some {row : List (Int × Int)} {bs : List Int} {i : Nat} {b : Int} (e : bs[i]? = some b) : atB row bs i = Cb row b.toNat := by
  unfold atB
  rw [e]
theorem depB_some {row : List (Int × Int)} {bs : List Int} {i : Nat} {b : Int} (e : bs[i]? = some b) : depB row bs i = depI row (b - 1) := by
  unfold depB
  rw [e]
theorem atB_start {row : List (Int × Int)} (g : Good row) {bs : List Int} (h : Bs row bs) : atB row bs 0 = [] ∧ depB row bs 0 = 0 := by
  cases e : bs[0]? with
  | none =>
    unfold atB depB
    rw [e]
    exact ⟨rfl, rfl⟩
  | some b =>
    rw [atB_some e, depB_some e]
    have low : ∀ q ∈ row, b ≤ q.1 := fun q hq => h.first e ⟨q, hq, .inl rfl⟩
    have b0 : 0 ≤ b := by
      obtain ⟨q, hq, w⟩ := (h.mem b).mp (List.mem_of_getElem? e)
      have := g q hq
      omega
    refine ⟨Cb_low fun q hq => ?_, dep_zero fun q hq => .inl ?_⟩
    · have := low q hq
      omega
    · have := low q hq
      omega
theorem atB_end {row : List (Int × Int)} (g : Good row) {bs : List Int} (h : Bs row bs) {i : Nat} (hi : i = bs.length - 1) : atB row bs i = blocksOf row := by
  cases e : bs[i]? with
  | none =>
    have le := List.getElem?_eq_none_iff.mp e
    have nil : bs = [] := by
      cases bs with
      | nil => rfl
      | cons x r =>
        rw [List.length_cons] at hi le
        omega
    have rn : row = [] := by
      cases row with
      | nil => rfl
      | cons q r =>
        have z := (h.mem q.1).mpr ⟨q, List.mem_cons_self, .inl rfl⟩
        rw [nil] at z
        cases z
    unfold atB
    rw [e, rn]
    rfl
  | some b =>
    have lt := (List.getElem?_eq_some_iff.mp e).1
    rw [atB_some e]
    apply Cb_all
    intro q hq
    have := h.last e (by omega) ⟨q, hq, .inr rfl⟩
    omega
/-- few enough keys -/
def FewK (row : List (Int × Int)) : Prop := row.length ≤ 31 ∨ (row.length ≤ 60 ∧ ∃ L : List Int, L.length < 64 ∧ ∀ q ∈ row, q.1 ∈ L ∧ q.2 + 1 ∈ L)
theorem FewK.le {row : List (Int × Int)} (h : FewK row) : row.length ≤ 60 := by
  rcases h with h | h
  · omega
  · exact h.1
theorem FewK.ks {row : List (Int × Int)} (h : FewK row) {kvs : List (Key × V)} (dd : Dd row kvs) {ks : List Int} (ek : kvs.map (·.1) = ks.map Sum.inl) : ks.length < 64 := by
  rcases h with h | ⟨_, L, hl, h⟩
  · have dl := dd.len
    have z := congrArg List.length ek
    rw [List.length_map, List.length_map] at z
    omega
  · have ndk : ks.Nodup := by
      have z := dd.nd
      rw [ek] at z
      exact List.Pairwise.of_map Sum.inl (fun a b h e => h (by rw [e])) z
    refine Nat.lt_of_le_of_lt (nodup_le ndk fun k hk => ?_) hl
    have hm : (Sum.inl k : Key) ∈ kvs.map (·.1) := by
      rw [ek]
      exact List.mem_map.mpr ⟨k, hk, rfl⟩
    by_cases b : Bd row k
    · obtain ⟨q, hq, e⟩ := b
      rcases e with e | e
      · rw [← e]
        exact (h q hq).1
      · rw [← e]
        exact (h q hq).2
    · have v := dd.val k
      rw [if_neg b] at v
      exact absurd hm (valV_not v)
def sp_find_blocks : Sp := fun vs H Q _ => ∃ (a : Addr) (us : List V) (row : List (Int × Int)), vs = [.ref a] ∧ H a = some (.tup us) ∧ Ivs H us row ∧ Good row ∧ FewK row ∧
  ∀ H' p ws, Same H H' → H' p = some (.tup ws) → Ivs H' ws (blocksOf row) → Q (.ref p) H'
theorem cutFrom1 (xs : List V) : cutV xs (some 1) none = xs.drop 1 := by
  unfold cutV
  rw [show HT.sIx xs.length 0 (some 1) = min 1 xs.length from HT.sIx_nat xs.length 0 1, HT.sIx_none]
  cases xs with
  | nil => rfl
  | cons x r =>
    rw [List.length_cons, show min 1 (r.length + 1) = 1 by omega]
    show List.take (r.length + 1 - 1) r = r
    rw [Nat.add_sub_cancel]
    exact List.take_length
theorem ok_find_blocks (T : Tx K mg f_depth_changes f_find_blocks f_is_number f_is_position f_is_tuple_of f_is_interval f_is_ascending f_has_position f_contains f_intersect f_is_demand f_serves f_conflict f_is_independent f_demands_at_blocks f_is_open f_open_demands f_shadow_target f_pieces_inside f_first_gap f_generates f_find_missing f_without_item f_require_few_blocks f_decisive_demands f_largest_independent f_unserved_demands f_helpful_piece f_smallest_solution f_count_needed f_solve f_are_witnesses f_solution_holds f_helps f_helpful_interval f_has_open_demand f_widen f_essential_targets f_core_targets f_is_free f_growth_counts f_law_draws f_law_next f_law_blocks f_law_wide f_law_call f_law_raised f_law_judged f_law f_TooWide_init X_TooWide X_NotGenerated X_OutOfRange X_TooMany X_SpanError d_depth_changes d_find_blocks d_is_number d_is_position d_is_tuple_of d_is_interval d_is_ascending d_has_position d_contains d_intersect d_is_demand d_serves d_conflict d_is_independent d_demands_at_blocks d_is_open d_open_demands d_shadow_target d_pieces_inside d_first_gap d_generates d_find_missing d_without_item d_require_few_blocks d_decisive_demands d_largest_independent d_unserved_demands d_helpful_piece d_smallest_solution d_count_needed d_solve d_are_witnesses d_solution_holds d_helps d_helpful_interval d_has_open_demand d_widen d_essential_targets d_core_targets d_is_free d_growth_counts d_law_draws d_law_next d_law_blocks d_law_wide d_law_call d_law_raised d_law_judged d_law d_TooWide_init t_LAST_POSITION t_MAX_BLOCKS) : FnOk P w K mg base CX0 2 f_find_blocks d_find_blocks ["intervals"] sp_find_blocks := by
  refine T.F_find_blocks.ok sc_find_blocks (fun vs H Q E h => ?_) (fun cdv A outer s H vs Q E hr h => ?_)
  · obtain ⟨a, us, row, rfl, _⟩ := h
    rfl
  · obtain ⟨a, us, row, rfl, ha, iv, good, few, q⟩ := h
    refine ⟨_, (pss_cons (ps_set (i := 1) sc_find_blocks.nd rfl (Or.inl rfl) (pe_call (ok_depth_changes T) (hr.mono (by decide)) (by rfl) T.g_depth_changes T.F_depth_changes.kp T.b_depth_changes .nil pass0 (pa_cons (pv 0) pa_nil)))
      (pss_cons (ps_set (i := 2) sc_find_blocks.nd rfl (Or.inl rfl) (pe_callB (call_sortedDI rfl) (by rfl) T.z_sorted (by decide +kernel) (pa_cons (pv 1) pa_nil)))
      (pss_cons (ps_set (i := 3) sc_find_blocks.nd rfl (Or.inl rfl) (pe_lst pa_nil))
      (pss_cons (ps_set (i := 4) sc_find_blocks.nd rfl (Or.inl rfl) pe_int)
      (pss_cons (ps_for PassesOwn.never rfl (pi_zip (by rfl) T.z_zip (pa_cons (pv 2) (pa_cons (pe_slice sl_list (pv 2) (po_some pe_int) po_none) pa_nil))) (pg_tup rfl (pgs_cons (pg_name (i := 5) sc_find_blocks.nd rfl (Or.inl rfl)) (pgs_cons (pg_name (i := 6) sc_find_blocks.nd rfl (Or.inl rfl)) pgs_nil)))
      (pss_cons (ps_aug (i := 4) sc_find_blocks.nd rfl (Or.inl rfl) (pe_dget (hu_of hr) (pv 1) (pv 5) (fun _ _ => rfl)) ip_add)
      (pss_one (ps_if (pt_cmpR op_gt (pv 4) pe_int (nomark _))
      (pss_one (ps_expr (pe_bm PySem.F.plainAttrs_list PySem.F.slot_list_append PySem.F.type_list_append mt_append (pv 3) (pa_cons (pe_tup (pa_cons (pv 5) (pa_cons (pe_op op_sub (pv 6) pe_int) pa_nil))) pa_nil))))
      pss_nil))))
      (pss_one (ps_ret (pe_callTy call_tuple_of (by rfl) T.z_tuple (by decide +kernel) (pa_cons (pv 3) pa_nil))))))))), ?_⟩
    refine ⟨.ref a, rfl, a, us, row, rfl, ha, iv, fun x hx => (good x hx).2, Nat.le_trans few.le (by decide), fun H1 pc kvs s1 npc ec dd => ?_⟩
    obtain ⟨ks, ek⟩ := dd.keys
    have lk : kvs.length = ks.length := by
      have z := congrArg List.length ek
      rw [List.length_map, List.length_map] at z
      exact z
    have dl := dd.len
    have few60 := few.le
    refine ⟨.ref pc, rfl, pc, kvs, ks, rfl, .inl ec, ek, few.ks dd ek, fun bs pb perm srt npb => ?_⟩
    have hB := dd.bs ek perm srt
    have lb : bs.length = ks.length := perm.length_eq
    have s2 := same_new (o := .lst (bs.map V.int)) npb
    have eb := upd_same (H := H1) (a := pb) (o := .lst (bs.map V.int))
    generalize upd H1 pb (.lst (bs.map V.int)) = H2 at *
    refine ⟨by show 0 ≤ sizeLine; decide, fun pl npl => ?_⟩
    have nbl : pb ≠ pl := ne_of_none eb npl
    have ncl : pc ≠ pl := ne_of_none (s2 _ _ ec) npl
    have npl0 : H pl = none := (s1.trans s2).free npl
    have s3 := same_new (o := .lst []) npl
    have el := upd_same (H := H2) (a := pl) (o := .lst [])
    generalize upd H2 pl (.lst []) = H3 at *
    refine ⟨.ref pb, rfl, .ref pb, rfl, 1, rfl, pb, _, rfl, SqL.of (s3 _ _ eb), fun pz npz => ?_⟩
    rw [cutFrom1]
    have nlz : pl ≠ pz := ne_of_none el npz
    have s4 := same_new (o := .lst ((bs.map V.int).drop 1)) npz
    have ez := upd_same (H := H3) (a := pz) (o := .lst ((bs.map V.int).drop 1))
    generalize upd H3 pz (.lst ((bs.map V.int).drop 1)) = H4 at *
    replace eb := s4 _ _ (s3 _ _ eb)
    replace ec := s4 _ _ (s3 _ _ (s2 _ _ ec))
    replace el := s4 _ _ el
    have sm4 : Same H H4 := s1.trans (s2.trans (s3.trans s4))
    obtain ⟨st1, st2⟩ := atB_start good hB
    refine ⟨pb, pz, bs.map V.int, (bs.map V.int).drop 1, rfl, SqL.of eb, SqL.of ez, ?_⟩
    refine ⟨fun i m σ H' => i + m = bs.length - 1 ∧ Same H H' ∧ H' pb = some (.lst (bs.map V.int)) ∧ H' pz = some (.lst ((bs.map V.int).drop 1)) ∧ H' pc = some (.dK kvs) ∧ (∃ ws, H' pl = some (.lst ws) ∧ ws.length ≤ i ∧ Ivs H' ws (atB row bs i)) ∧
        ∃ y5 y6, σ = [some (.ref a), some (.ref pc), some (.ref pb), some (.ref pl), some (.int (depB row bs i)), y5, y6],
      ⟨bs.length - 1, by omega, sm4, eb, ez, ec, ⟨[], el, Nat.zero_le _, by rw [st1]; exact .nil⟩, none, none, by rw [st2]; rfl⟩, fun i m σ H5 hW => ?_⟩
    obtain ⟨em, sm, fb, fz, fc, ⟨ws, fl, wl, ivw⟩, y5, y6, rfl⟩ := hW
    by_cases hi : i < bs.length - 1
    · obtain ⟨x, ex⟩ : ∃ x, bs[i]? = some x := ⟨bs[i], List.getElem?_eq_getElem (by omega)⟩
      obtain ⟨y, ey⟩ : ∃ y, bs[i + 1]? = some y := ⟨bs[i + 1], List.getElem?_eq_getElem (by omega)⟩
      have g1 : (bs.map V.int)[i]? = some (.int x) := by
        rw [List.getElem?_map, ex]
        rfl
      have g2 : ((bs.map V.int).drop 1)[i]? = some (.int y) := by
        rw [List.getElem?_drop, Nat.add_comm 1 i, List.getElem?_map, ey]
        rfl
      have hbx : Bd row x := (hB.mem x).mp (List.mem_of_getElem? ex)
      have x0 : 0 ≤ x := by
        obtain ⟨r, hr1, w1⟩ := hbx
        have := good r hr1
        omega
      obtain ⟨cn, dn⟩ := Cb_next good hB ex ey x0
      have hval : valV kvs (Sum.inl x) = some (.int (delI row x)) := by
        rw [dd.val, if_pos hbx]
      refine .inr ⟨⟨_, _, _, _, SqL.of fb, SqL.of fz, g1, g2⟩, fun σ' H' => Same H H' ∧ H' pb = some (.lst (bs.map V.int)) ∧ H' pz = some (.lst ((bs.map V.int).drop 1)) ∧ H' pc = some (.dK kvs) ∧ (∃ ws, H' pl = some (.lst ws) ∧ ws.length ≤ i + 1 ∧ Ivs H' ws (atB row bs (i + 1))) ∧
          ∃ y5 y6, σ' = [some (.ref a), some (.ref pc), some (.ref pb), some (.ref pl), some (.int (depB row bs (i + 1))), y5, y6], fun σ' H' hN => ?_, fun z H' hy => ?_⟩
      · obtain ⟨n1, n2, n3, n4, n5, n6⟩ := hN
        exact ⟨m - 1, by omega, by omega, n1, n2, n3, n4, n5, n6⟩
      · obtain ⟨tt, x1, x2, rfl, nT, rfl, f1, f2⟩ := hy
        have ex1 : x1 = .int x := Option.some.inj ((f1 _ (SqL.of fb)).symm.trans g1)
        have ex2 : x2 = .int y := Option.some.inj ((f2 _ (SqL.of fz)).symm.trans g2)
        subst ex1 ex2
        have sT := same_new (o := .tup [.int x, .int y]) nT
        have eT := upd_same (H := H5) (a := tt) (o := .tup [.int x, .int y])
        generalize upd H5 tt (.tup [.int x, .int y]) = H6 at *
        refine ⟨tt, _, rfl, SqT.of eT, rfl, .int x, [.int y], rfl, .int y, [], rfl, rfl, ?_⟩
        have dg := DGet.k (k := Sum.inl x) (sT _ _ fc)
        rw [hval] at dg
        refine ⟨_, rfl, .ref pc, rfl, .int x, rfl, pc, _, rfl, dg, _, _, rfl, rfl, ?_⟩
        have ed : depB row bs i + delI row x = depI row x := by
          rw [depB_some ex]
          exact (dep_step good x).symm
        have ed2 : depB row bs (i + 1) = depI row x := by
          rw [depB_some ey]
          exact dn
        have ea2 : atB row bs (i + 1) = if 0 < depI row x then atB row bs i ++ [(x, y - 1)] else atB row bs i := by
          rw [atB_some ey, atB_some ex]
          exact cn
        refine ⟨_, rfl, _, _, rfl, rfl, _, rfl, ite2 (fun e => ?_) (fun e => ?_)⟩
        · have e1 : 0 < depB row bs i + delI row x := of_decide_eq_true e
          rw [ed] at e1
          refine ⟨.ref pl, rfl, .inl ⟨rfl, _, SqL.of (sT _ _ fl)⟩, .int x, rfl, .int y, rfl, _, _, rfl, rfl, by show 2 ≤ sizeLine; decide, fun t nt => ?_⟩
          have st := same_new (o := .tup [.int x, .int (y - 1)]) nt
          have et := upd_same (H := H6) (a := t) (o := .tup [.int x, .int (y - 1)])
          generalize upd H6 t (.tup [.int x, .int (y - 1)]) = H7 at *
          have fl7 := st _ _ (sT _ _ fl)
          refine ⟨pl, ws, _, rfl, rfl, fl7, small1000 (by omega), ?_⟩
          have up : ∀ {b' : Addr} {o' : HO}, b' ≠ pl → H5 b' = some o' → (upd H7 pl (.lst (ws ++ [.ref t]))) b' = some o' := fun nb e' => by
            rw [upd_ne nb]
            exact st _ _ (sT _ _ e')
          have upI : ∀ {vs : List V} {qs : List (Int × Int)}, Ivs H5 vs qs → Ivs (upd H7 pl (.lst (ws ++ [.ref t]))) vs qs := by
            intro vs qs hv
            induction hv with
            | nil => exact .nil
            | cons e' _ ih => exact .cons (up (ne_of e' fl (fun z => by cases z)) e') ih
          refine ⟨fun b' o' e' => up (ne_of_none e' npl0) (sm _ _ e'), up nbl fb, up nlz.symm fz, up ncl fc, ⟨_, upd_same, ?_, ?_⟩, some (.int x), some (.int y), ?_⟩
          · rw [List.length_append, List.length_singleton]
            omega
          · rw [ea2, if_pos e1]
            refine (upI ivw).snoc ?_
            rw [upd_ne (ne_of et fl7 (fun z => by cases z))]
            exact et
          · rw [ed2, ← ed]
            rfl
        · have e1 : ¬ 0 < depI row x := fun z => e (by
            rw [← ed] at z
            exact decide_eq_true z)
          refine ⟨sm.trans sT, sT _ _ fb, sT _ _ fz, sT _ _ fc, ⟨ws, sT _ _ fl, by omega, ?_⟩, some (.int x), some (.int y), ?_⟩
          · rw [ea2, if_neg e1]
            exact ivw.same sT
          · rw [ed2, ← ed]
            rfl
    · refine .inl ⟨⟨_, _, SqL.of fb, SqL.of fz, .inr ?_⟩, ?_⟩
      · rw [List.length_drop, List.length_map]
        omega
      · have ei : i = bs.length - 1 := by omega
        rw [atB_end good hB ei] at ivw
        refine ⟨.ref pl, rfl, pl, ws, rfl, .inl ⟨SqL.of fl, fun p np => ?_⟩⟩
        exact q _ p ws (sm.trans (same_new np)) upd_same (ivw.same (same_new np))

/-! ### tuples joined and cut, whichever object comes out -/
theorem catA_any {K : PySem.W.Frag} {H : Hp} {a b : Addr} {xs ys : List V} {Q : VK} (h1 : H a = some (.tup xs)) (h2 : H b = some (.tup ys)) (sz : xs.length + ys.length ≤ sizeLine) (k : ∀ H' p, Same H H' → H' p = some (.tup (xs ++ ys)) → Q (.ref p) H') : rCatA K (.ref a) (.ref b) H Q := by
  refine ⟨a, b, xs, ys, rfl, rfl, SqT.of h1, SqT.of h2, sz, fun e => k H b (Same.refl _) ?_, fun _ e => k H a (Same.refl _) ?_, fun _ _ p np => k _ p (same_new np) upd_same⟩
  · rw [e]
    exact h2
  · rw [e, List.append_nil]
    exact h1
theorem slA_any {K : PySem.W.Frag} {H : Hp} {a : Addr} {xs : List V} {lo hi : Option Int} {Q : VK} (h1 : H a = some (.tup xs)) (k : ∀ H' p, Same H H' → H' p = some (.tup (cutV xs lo hi)) → Q (.ref p) H') : rSlA K (.ref a) lo hi H Q := by
  refine ⟨a, xs, rfl, SqT.of h1, fun e => k H a (Same.refl _) ?_, fun _ p np => k _ p (same_new np) upd_same⟩
  have e2 : cutV xs lo hi = xs := by
    unfold cutV
    rw [e.1, e.2]
    simp
  rw [e2]
  exact h1
theorem Ivs.take {H : Hp} {vs : List V} {ps : List (Int × Int)} (h : Ivs H vs ps) : ∀ n : Nat, Ivs H (vs.take n) (ps.take n) := by
  induction h with
  | nil =>
    intro n
    rw [List.take_nil, List.take_nil]
    exact .nil
  | cons e _ ih =>
    intro n
    cases n with
    | zero => exact .nil
    | succ n => exact .cons e (ih n)

/-! ### demands at the beginnings of blocks; open demands -/
def dabT (ts : List (Int × Int)) (x : Int) : List (Int × Int × Int) := (ts.filter fun t => atP t.1 t.2 x).map fun t => (x, t.1, t.2)
def dab (ts bs : List (Int × Int)) : List (Int × Int × Int) := bs.flatMap fun b => dabT ts b.1
theorem dab_snoc {ts bs : List (Int × Int)} {b : Int × Int} : dab ts (bs ++ [b]) = dab ts bs ++ dabT ts b.1 := by
  unfold dab
  rw [List.flatMap_append]
  simp
theorem dab_len {ts : List (Int × Int)} : ∀ {bs : List (Int × Int)}, (dab ts bs).length ≤ bs.length * ts.length
  | [] => Nat.zero_le _
  | b :: bs => by
    have ih := dab_len (ts := ts) (bs := bs)
    unfold dab at ih ⊢
    rw [List.flatMap_cons, List.length_append, List.length_cons, Nat.add_mul]
    have : (dabT ts b.1).length ≤ ts.length := by
      unfold dabT
      rw [List.length_map]
      exact List.length_filter_le _ _
    omega
def sp_demands_at_blocks : Sp := fun vs H Q _ => ∃ (a b : Addr) (us ws : List V) (ts bs : List (Int × Int)), vs = [.ref a, .ref b] ∧ H a = some (.tup us) ∧ H b = some (.tup ws) ∧ Ivs H us ts ∧ Ivs H ws bs ∧ ts.length ≤ 30 ∧ bs.length ≤ 200 ∧
  ∀ H' p zs, Same H H' → H' p = some (.lst zs) → Dms H' zs (dab ts bs) → Q (.ref p) H'
theorem ok_demands_at_blocks (T : Tx K mg f_depth_changes f_find_blocks f_is_number f_is_position f_is_tuple_of f_is_interval f_is_ascending f_has_position f_contains f_intersect f_is_demand f_serves f_conflict f_is_independent f_demands_at_blocks f_is_open f_open_demands f_shadow_target f_pieces_inside f_first_gap f_generates f_find_missing f_without_item f_require_few_blocks f_decisive_demands f_largest_independent f_unserved_demands f_helpful_piece f_smallest_solution f_count_needed f_solve f_are_witnesses f_solution_holds f_helps f_helpful_interval f_has_open_demand f_widen f_essential_targets f_core_targets f_is_free f_growth_counts f_law_draws f_law_next f_law_blocks f_law_wide f_law_call f_law_raised f_law_judged f_law f_TooWide_init X_TooWide X_NotGenerated X_OutOfRange X_TooMany X_SpanError d_depth_changes d_find_blocks d_is_number d_is_position d_is_tuple_of d_is_interval d_is_ascending d_has_position d_contains d_intersect d_is_demand d_serves d_conflict d_is_independent d_demands_at_blocks d_is_open d_open_demands d_shadow_target d_pieces_inside d_first_gap d_generates d_find_missing d_without_item d_require_few_blocks d_decisive_demands d_largest_independent d_unserved_demands d_helpful_piece d_smallest_solution d_count_needed d_solve d_are_witnesses d_solution_holds d_helps d_helpful_interval d_has_open_demand d_widen d_essential_targets d_core_targets d_is_free d_growth_counts d_law_draws d_law_next d_law_blocks d_law_wide d_law_call d_law_raised d_law_judged d_law d_TooWide_init t_LAST_POSITION t_MAX_BLOCKS) : FnOk P w K mg base CX0 2 f_demands_at_blocks d_demands_at_blocks ["targets", "blocks"] sp_demands_at_blocks := by
  refine T.F_demands_at_blocks.ok sc_demands_at_blocks (fun vs H Q E h => ?_) (fun cdv A outer s H vs Q E hr h => ?_)
  · obtain ⟨a, b, us, ws, ts, bs, rfl, _⟩ := h
    rfl
  · obtain ⟨a, b, us, ws, ts, bs, rfl, ha, hb, ivt, ivb, lt, lb, q⟩ := h
    have lu := ivt.length
    have lw := ivb.length
    refine ⟨_, (pss_one (ps_ret (pe_lc2 (own := [("low", 2), ("high", 3), ("target", 4)]) (vs1 := [4]) (g := (gTup K 2 (gCons (gName 2) (gCons (gName 3) gNil)))) (g1 := (gName 4)) (tt := tYes) (by rfl) sc_demands_at_blocks.nd (pi_tup (pv 1)) (blkOk_by (own := [("low", 2), ("high", 3), ("target", 4)]) (N := N_demands_at_blocks) (sc := defScope s_demands_at_blocks) (by decide +kernel)) (by decide) (fun _ _ _ _ _ => (pg_tup rfl (pgs_cons (pg_name (i := 2) sc_demands_at_blocks.nd rfl (Or.inl rfl)) (pgs_cons (pg_name (i := 3) sc_demands_at_blocks.nd rfl (Or.inl rfl)) pgs_nil)))) (fun _ _ _ _ _ => pts_nil) (fun _ _ _ _ _ => (pi_tupK (K := K) rfl (pv 0))) (fun _ _ _ _ _ => (pg_name (i := 4) sc_demands_at_blocks.nd rfl (Or.inl rfl))) (fun _ _ _ _ _ => pts_one (pt_val (pe_call (ok_has_position T) (hr.mono (by decide)) (by rfl) T.g_has_position T.F_has_position.kp T.b_has_position .nil pass0 (pa_cons (pv 4) (pa_cons (pv 2) pa_nil))))) (fun _ _ _ _ _ => (pe_tup (pa_cons (pv 2) (pa_cons (pv 4) pa_nil))))))), ?_⟩
    refine ⟨.ref b, rfl, b, rfl, ⟨_, SqT.of hb⟩, fun D nD => ?_⟩
    refine walkT (K := K) (a := b) (xs := ws) (fun i H' => Same H H' ∧ ∃ zs, H' D = some (.lst zs) ∧ Dms H' zs (dab ts (bs.take i))) ⟨same_new nD, [], upd_same, .nil⟩ (fun i H' _ h => SqT.of (h.1 _ _ hb)) ?_ ?_
    · rintro i v H1 hi ⟨s1, zs, eD, dm⟩
      obtain ⟨bb, x, y, rfl, ep, hbb⟩ := ivb.get hi
      have hil := (List.getElem?_eq_some_iff.mp ep).1
      refine ⟨bb, _, rfl, SqT.of (s1 _ _ hbb), rfl, .int x, [.int y], rfl, .int y, [], rfl, rfl, rfl, ?_⟩
      refine ⟨.ref a, rfl, a, rfl, ⟨_, SqT.of (s1 _ _ ha)⟩, ?_⟩
      refine walkT (K := K) (a := a) (xs := us) (fun j H' => Same H H' ∧ ∃ zs, H' D = some (.lst zs) ∧ Dms H' zs (dab ts (bs.take i) ++ dabT (ts.take j) x)) ⟨s1, zs, eD, by show Dms H1 zs (_ ++ []); rw [List.append_nil]; exact dm⟩ (fun j H' _ h => SqT.of (h.1 _ _ ha)) ?_ ?_
      · rintro j v H2 hj ⟨s2, zs2, eD2, dm2⟩
        obtain ⟨tt, lo, hi2, rfl, et, htt⟩ := ivt.get hj
        have hjl := (List.getElem?_eq_some_iff.mp et).1
        have sz : zs2.length < sizeLine := by
          have h1 := dm2.length
          have h2 := dab_len (ts := ts) (bs := bs.take i)
          have h3 : (dabT (ts.take j) x).length ≤ 30 := by
            unfold dabT
            rw [List.length_map]
            exact Nat.le_trans (List.length_filter_le _ _) (Nat.le_trans (List.length_take_le' _ _) lt)
          have h4 : (bs.take i).length ≤ 200 := Nat.le_trans (List.length_take_le' _ _) lb
          have h5 : (bs.take i).length * ts.length ≤ 200 * 30 := Nat.mul_le_mul h4 lt
          rw [List.length_append] at h1
          rw [show sizeLine = 16777216 by decide]
          omega
        refine ⟨rfl, .ref tt, rfl, .int x, rfl, tt, lo, hi2, x, rfl, s2 _ _ htt, _, rfl, ite2 (fun c => ?_) (fun c => ?_)⟩
        · refine ⟨.int x, rfl, .ref tt, rfl, by show 2 ≤ sizeLine; decide, fun t nt => ?_⟩
          have s3 := same_new (o := .tup [.int x, .ref tt]) nt
          have et3 := upd_same (H := H2) (a := t) (o := .tup [.int x, .ref tt])
          have eD3 := s3 _ _ eD2
          have dm3 := dm2.same s3
          have s23 := s2.trans s3
          generalize upd H2 t (.tup [.int x, .ref tt]) = H3 at *
          refine ⟨zs2, eD3, sz, same_off nD s23, _, upd_same, ?_⟩
          have cc : lo ≤ x ∧ x ≤ hi2 := by
            have z := Bool.and_eq_true_iff.mp c
            exact ⟨of_decide_eq_true z.1, of_decide_eq_true z.2⟩
          have e : dabT (ts.take (j + 1)) x = dabT (ts.take j) x ++ [(x, lo, hi2)] := by
            unfold dabT
            rw [take_filter et, if_pos c, List.map_append]
            rfl
          rw [e, ← List.append_assoc]
          exact (dm3.snoc ⟨⟨t, tt, rfl, et3, s23 _ _ htt⟩, cc.1, cc.2⟩).tps (Tps.lst eD3)
        · refine ⟨s2, zs2, eD2, ?_⟩
          have e : dabT (ts.take (j + 1)) x = dabT (ts.take j) x := by
            unfold dabT
            rw [take_filter et, if_neg c, List.append_nil]
          rw [e]
          exact dm2
      · rintro H2 ⟨s2, zs2, eD2, dm2⟩
        refine ⟨s2, zs2, eD2, ?_⟩
        rw [lu, List.take_length] at dm2
        rw [List.take_add_one, ep]
        show Dms H2 zs2 (dab ts (bs.take i ++ [(x, y)]))
        rw [dab_snoc]
        exact dm2
    · rintro H1 ⟨s1, zs, eD, dm⟩
      rw [lw, List.take_length] at dm
      exact q H1 D zs s1 eD dm
def opB (ps : List (Int × Int)) (d : Int × Int × Int) : Bool := !((ps.map fun q => svI q.1 q.2 d.1 d.2.1 d.2.2).any id)
def sp_is_open : Sp := fun vs H Q _ => ∃ (a : Addr) (v : V) (us : List V) (ps : List (Int × Int)) (p lo hi : Int), vs = [.ref a, v] ∧ H a = some (.tup us) ∧ Ivs H us ps ∧ ps.length < 1000 ∧ Dm H v p lo hi ∧
  ∀ H', Same H H' → Q (.bl (opB ps (p, lo, hi))) H'
theorem ok_is_open (T : Tx K mg f_depth_changes f_find_blocks f_is_number f_is_position f_is_tuple_of f_is_interval f_is_ascending f_has_position f_contains f_intersect f_is_demand f_serves f_conflict f_is_independent f_demands_at_blocks f_is_open f_open_demands f_shadow_target f_pieces_inside f_first_gap f_generates f_find_missing f_without_item f_require_few_blocks f_decisive_demands f_largest_independent f_unserved_demands f_helpful_piece f_smallest_solution f_count_needed f_solve f_are_witnesses f_solution_holds f_helps f_helpful_interval f_has_open_demand f_widen f_essential_targets f_core_targets f_is_free f_growth_counts f_law_draws f_law_next f_law_blocks f_law_wide f_law_call f_law_raised f_law_judged f_law f_TooWide_init X_TooWide X_NotGenerated X_OutOfRange X_TooMany X_SpanError d_depth_changes d_find_blocks d_is_number d_is_position d_is_tuple_of d_is_interval d_is_ascending d_has_position d_contains d_intersect d_is_demand d_serves d_conflict d_is_independent d_demands_at_blocks d_is_open d_open_demands d_shadow_target d_pieces_inside d_first_gap d_generates d_find_missing d_without_item d_require_few_blocks d_decisive_demands d_largest_independent d_unserved_demands d_helpful_piece d_smallest_solution d_count_needed d_solve d_are_witnesses d_solution_holds d_helps d_helpful_interval d_has_open_demand d_widen d_essential_targets d_core_targets d_is_free d_growth_counts d_law_draws d_law_next d_law_blocks d_law_wide d_law_call d_law_raised d_law_judged d_law d_TooWide_init t_LAST_POSITION t_MAX_BLOCKS) : FnOk P w K mg base CX0 3 f_is_open d_is_open ["pieces", "demand"] sp_is_open := by
  refine T.F_is_open.ok sc_is_open (fun vs H Q E h => ?_) (fun cdv A outer s H vs Q E hr h => ?_)
  · obtain ⟨a, v, us, ps, p, lo, hi, rfl, _⟩ := h
    rfl
  · obtain ⟨a, v, us, ps, p, lo, hi, rfl, ha, iv, few, dm, q⟩ := h
    have lu := iv.length
    obtain ⟨u, t, rfl, e1, e2⟩ := dm.ex
    refine ⟨_, (pss_one (ps_ret (pe_not (pe_callB (cr_any rfl) (by rfl) T.z_any (by decide +kernel) (pa_cons (pe_lc (own := [("piece", 2)]) (g := (gName 2)) (tt := tYes) (by rfl) sc_is_open.nd (pi_tup (pv 0)) (blkOk_by (own := [("piece", 2)]) (N := N_is_open) (sc := defScope s_is_open) (by decide +kernel)) (fun _ _ _ _ _ => (pg_name (i := 2) sc_is_open.nd rfl (Or.inl rfl))) (fun _ _ _ _ _ => pts_nil) (fun _ _ _ _ _ => (pe_call (ok_serves T) (hr.mono (by decide)) (by rfl) T.g_serves T.F_serves.kp T.b_serves .nil pass0 (pa_cons (pv 2) (pa_cons (pv 1) pa_nil))))) pa_nil))))), ?_⟩
    refine ⟨.ref a, rfl, a, rfl, ⟨_, SqT.of ha⟩, fun D nD => ?_⟩
    refine lcT (K := K) (a := a) (xs := us) (fun i H' ws => ws = ((ps.take i).map fun q : Int × Int => svI q.1 q.2 p lo hi).map V.bl) nD (fun H' s => SqT.of (s _ _ ha)) (by omega) (fun _ _ _ _ _ r => r) (fun i H' ws r => by rw [r, List.length_map, List.length_map]; exact List.length_take_le _ _) (fun _ => rfl) ?_ ?_
    · rintro i z H' N acc hi2 sm eD sz r no yes
      obtain ⟨bb, x, y, rfl, ep, hb⟩ := iv.get hi2
      refine ⟨rfl, .ref bb, rfl, .ref u, rfl, bb, u, t, x, y, p, lo, hi, rfl, sm _ _ hb, sm _ _ e1, sm _ _ e2, yes H' _ (Same.refl _) ?_⟩
      rw [r, List.take_add_one, ep, List.map_append, List.map_append]
      rfl
    · intro H1 ws s1 eD r
      rw [lu, List.take_length] at r
      subst r
      exact ⟨D, _, rfl, SqL.of eD, _, rfl, q H1 s1⟩
def sp_open_demands : Sp := fun vs H Q _ => ∃ (a b : Addr) (us ws : List V) (ts ps : List (Int × Int)), vs = [.ref a, .ref b] ∧ H a = some (.tup us) ∧ H b = some (.tup ws) ∧ Ivs H us ts ∧ Ivs H ws ps ∧ Good (ts ++ ps) ∧ ts.length ≤ 30 ∧ FewK (ts ++ ps) ∧
  ∀ H' p zs, Same H H' → H' p = some (.tup zs) → Dms H' zs ((dab ts (blocksOf (ts ++ ps))).filter (opB ps)) → Q (.ref p) H'
theorem ok_open_demands (T : Tx K mg f_depth_changes f_find_blocks f_is_number f_is_position f_is_tuple_of f_is_interval f_is_ascending f_has_position f_contains f_intersect f_is_demand f_serves f_conflict f_is_independent f_demands_at_blocks f_is_open f_open_demands f_shadow_target f_pieces_inside f_first_gap f_generates f_find_missing f_without_item f_require_few_blocks f_decisive_demands f_largest_independent f_unserved_demands f_helpful_piece f_smallest_solution f_count_needed f_solve f_are_witnesses f_solution_holds f_helps f_helpful_interval f_has_open_demand f_widen f_essential_targets f_core_targets f_is_free f_growth_counts f_law_draws f_law_next f_law_blocks f_law_wide f_law_call f_law_raised f_law_judged f_law f_TooWide_init X_TooWide X_NotGenerated X_OutOfRange X_TooMany X_SpanError d_depth_changes d_find_blocks d_is_number d_is_position d_is_tuple_of d_is_interval d_is_ascending d_has_position d_contains d_intersect d_is_demand d_serves d_conflict d_is_independent d_demands_at_blocks d_is_open d_open_demands d_shadow_target d_pieces_inside d_first_gap d_generates d_find_missing d_without_item d_require_few_blocks d_decisive_demands d_largest_independent d_unserved_demands d_helpful_piece d_smallest_solution d_count_needed d_solve d_are_witnesses d_solution_holds d_helps d_helpful_interval d_has_open_demand d_widen d_essential_targets d_core_targets d_is_free d_growth_counts d_law_draws d_law_next d_law_blocks d_law_wide d_law_call d_law_raised d_law_judged d_law d_TooWide_init t_LAST_POSITION t_MAX_BLOCKS) : FnOk P w K mg base CX0 4 f_open_demands d_open_demands ["targets", "pieces"] sp_open_demands := by
  refine T.F_open_demands.ok sc_open_demands (fun vs H Q E h => ?_) (fun cdv A outer s H vs Q E hr h => ?_)
  · obtain ⟨a, b, us, ws, ts, ps, rfl, _⟩ := h
    rfl
  · obtain ⟨a, b, us, ws, ts, ps, rfl, ha, hb, ivt, ivp, g, lt, fk, q⟩ := h
    have lu := ivt.length
    have lw := ivp.length
    have ll : (ts ++ ps).length ≤ 60 := fk.le
    have ll2 : ts.length + ps.length ≤ 60 := by rw [← List.length_append]; exact ll
    refine ⟨_, (pss_cons (ps_set (i := 2) sc_open_demands.nd rfl (Or.inl rfl) (pe_call (ok_demands_at_blocks T) (hr.mono (by decide)) (by rfl) T.g_demands_at_blocks T.F_demands_at_blocks.kp T.b_demands_at_blocks .nil pass0 (pa_cons (pv 0) (pa_cons (pe_call (ok_find_blocks T) (hr.mono (by decide)) (by rfl) T.g_find_blocks T.F_find_blocks.kp T.b_find_blocks .nil pass0 (pa_cons (pe_op op_catA (pv 0) (pv 1)) pa_nil)) pa_nil))))
      (pss_one (ps_ret (pe_callTy call_tuple_of (by rfl) T.z_tuple (by decide +kernel) (pa_cons (pe_lc (own := [("demand", 3)]) (g := (gName 3)) (by rfl) sc_open_demands.nd (pi_list (pv 2)) (blkOk_by (own := [("demand", 3)]) (N := N_open_demands) (sc := defScope s_open_demands) (by decide +kernel)) (fun _ _ _ _ _ => (pg_name (i := 3) sc_open_demands.nd rfl (Or.inl rfl))) (fun _ _ _ _ _ => pts_one (pt_val (pe_call (ok_is_open T) (hr.mono (by decide)) (by rfl) T.g_is_open T.F_is_open.kp T.b_is_open .nil pass0 (pa_cons (pv 1) (pa_cons (pv 3) pa_nil))))) (fun _ _ _ _ _ => (pv 3))) pa_nil))))), ?_⟩
    refine ⟨.ref a, rfl, .ref a, rfl, .ref b, rfl, catA_any ha hb (by rw [show sizeLine = 16777216 by decide]; omega) (fun H1 c s1 ec => ?_)⟩
    refine ⟨c, us ++ ws, ts ++ ps, rfl, ec, (ivt.same s1).append (ivp.same s1), g, fk, fun H2 bl bws s2 ebl ivb => ?_⟩
    have s12 := s1.trans s2
    have few := blocks_few g
    refine ⟨a, bl, us, bws, ts, _, rfl, s12 _ _ ha, ebl, ivt.same s12, ivb, by omega, by omega, fun H3 D zs s3 eD dm => ?_⟩
    have s13 := s12.trans s3
    obtain ⟨ds, eds⟩ : ∃ ds, ds = dab ts (blocksOf (ts ++ ps)) := ⟨_, rfl⟩
    rw [← eds] at dm q
    have lds : ds.length ≤ 6000 := by
      have h1 := dab_len (ts := ts) (bs := blocksOf (ts ++ ps))
      have h2 : (blocksOf (ts ++ ps)).length * ts.length ≤ 200 * 30 := Nat.mul_le_mul (by omega) (by omega)
      rw [eds]
      omega
    have lz := dm.length
    refine ⟨.ref D, rfl, D, rfl, ⟨_, SqL.of eD⟩, fun D2 nD2 => ?_⟩
    refine lc_list (K := K) (a := D) (xs := zs) (fun i H' => Same H3 H' ∧ ∃ ys, H' D2 = some (.lst ys) ∧ Dms H' ys ((ds.take i).filter (opB ps))) ⟨same_new nD2, [], upd_same, .nil⟩ (fun i H' _ h => SqL.of (h.1 _ _ eD)) ?_ ?_
    · rintro i v H4 hi ⟨s4, ys, eD2, dmy⟩
      obtain ⟨p, lo, hi2, ed, dmv⟩ := dm.get hi
      have hb4 := s4 _ _ (s13 _ _ hb)
      have dv4 := dmv.same s4
      refine ⟨rfl, .ref b, rfl, v, rfl, b, v, ws, ps, p, lo, hi2, rfl, hb4, ivp.same (s13.trans s4), by omega, dv4, fun H5 s5 => ?_⟩
      have ly : ys.length < sizeLine := by
        have h1 := dmy.length
        have h2 := List.length_filter_le (opB ps) (ds.take i)
        have h3 := List.length_take_le' i ds
        rw [show sizeLine = 16777216 by decide]
        omega
      refine ⟨_, rfl, ite2 (fun c => ?_) (fun c => ?_)⟩
      · refine ⟨v, rfl, ys, s5 _ _ eD2, ly, same_off nD2 (s4.trans s5), _, upd_same, ?_⟩
        rw [take_filter ed, if_pos c]
        exact ((dmy.same s5).snoc (dv4.same s5)).tps (Tps.lst (s5 _ _ eD2))
      · refine ⟨s4.trans s5, ys, s5 _ _ eD2, ?_⟩
        rw [take_filter ed, if_neg c, List.append_nil]
        exact dmy.same s5
    · rintro H4 ⟨s4, ys, eD2, dmy⟩
      rw [lz, List.take_length] at dmy
      refine ⟨D2, ys, rfl, .inl ⟨SqL.of eD2, fun l nl => ?_⟩⟩
      have s5 := same_new (o := .tup ys) nl
      exact q _ l ys (s13.trans (s4.trans s5)) upd_same (dmy.same s5)

abbrev lgN : Nat := 96
theorem cutFrom (xs : List V) (j : Nat) : cutV xs (some (j : Int)) none = xs.drop j := by
  unfold cutV
  rw [show HT.sIx xs.length 0 (some (j : Int)) = min j xs.length from HT.sIx_nat xs.length 0 j, HT.sIx_none]
  rcases Nat.le_total j xs.length with h | h
  · rw [Nat.min_eq_left h]
    exact List.take_of_length_le (by rw [List.length_drop]; exact Nat.le_refl _)
  · rw [Nat.min_eq_right h, List.drop_of_length_le (Nat.le_refl _), List.drop_of_length_le h]
    exact List.take_nil

/-! ### {e for x in xs}, e an int -/
section
variable {X : Cx}
/-- D: the new set; it holds S, n of them -/
def tScI (w : World) (wi : TI) (g : TG) (tt : TT) (te : TE) (us : List Nat) : TE := fun σ H Q => wi σ H fun J Ha => ∀ D, Ha D = none → ∃ W : Nat → Nat → Hp → Prop, (∃ k, W 0 k (upd Ha D (SetO w D (fun _ => false) 0))) ∧ ∀ j k Hb, W j k Hb →
  (J.stop j Hb ∧ Q (.ref D) Hb) ∨ (J.go j Hb ∧ ∃ Nx : Hp → Prop, (∀ Hc, Nx Hc → ∃ k', k' < k ∧ W (j + 1) k' Hc) ∧ ∀ x Hc, J.yld j Hb x Hc → g x (wipe σ us) Hc fun τ Hd => wipe τ us = wipe σ us ∧ tt τ Hd fun b He =>
    if b = true then te τ He fun y Hf => ∃ (c : Int) (S : Int → Bool) (n : Nat), y = .int c ∧ Hf D = some (SetO w D S n) ∧ n + 1 < scanBound ∧ Nx (upd Hf D (SetO w D (fun i => S i || decide (i = c)) (if S c = true then n else n + 1))) else Nx He)
theorem addI_ok {ps : List (Addr × Obj)} {τ : L2.St} {H : Hp} {s : Shared} {E : Value → Shared → Prop} {D : Addr} {S : Int → Bool} {n : Nat} {y : Int} {t : Tok} {Z : Value → Shared → Prop} (J : Inv X ps τ H s) (eD : H D = some (SetO X.w D S n)) (few : n + 1 < scanBound)
    (nx : ∀ s', Inv X ps τ (upd H D (SetO X.w D (fun i => S i || decide (i = y)) (if S y = true then n else n + 1))) s' → Z .none s') : wpAny (model X.prog X.w) X.A (call (.builtin "set.add") [.ref D, .int y t]) Z E s := by
  refine setR_add (setO_get J eD) few fun h' sb new => nx _ ?_
  obtain ⟨o, r1, r2, r3, eo, r4⟩ := id new
  exact J.write (e := D) (t' := s.toks + 1) (by rw [eD]; trivial) (.inl rfl) (fun b u hb hu => (sb.2 b hb).trans hu) ⟨o, eo⟩ (setO_new new)
theorem scI_core {ps : List (Addr × Obj)} {s : Shared} {σ : L2.St} {H : Hp} {Q : VK} {elt tg iter : Expr} {ifs : List Expr} {sc : Scope} {own : List (PySem.Str × Nat)} {pos pos' : Pos} {wi : TI} {g : TG} {tt : TT} {te : TE} {Qf : Value → Shared → Prop}
    (calm : X.calm = true) (nd : X.N.Nodup) (I : Inv X ps σ H s) (hi : PI X tg iter wi) (ok : BlkOk X.N X.env.scope sc own)
    (hg : ∀ (s : Shared) (H : Hp) (C : Addr) (cl : List (Str × Addr)) (fp : List Addr), PG (X.blk s H sc (compEnvC sc cl C X.env) fp) tg g)
    (ht : ∀ (s : Shared) (H : Hp) (C : Addr) (cl : List (Str × Addr)) (fp : List Addr), PTs (X.blk s H sc (compEnvC sc cl C X.env) fp) ifs tt)
    (he : ∀ (s : Shared) (H : Hp) (C : Addr) (cl : List (Str × Addr)) (fp : List Addr), PE (X.blk s H sc (compEnvC sc cl C X.env) fp) elt te) (hs : ∀ x, foldedSetIterable iter X.env x = pure x)
    (h : tScI X.w wi g tt te (own.map (·.2)) σ H Q)
    (back : ∀ D C s' m H', Inv X ps σ H' s' → Q (.ref D) H' → s'.heap.Ns C m → FpOk X ps H' C → compPost (model X.prog X.w) X.A X.xe none Qf (.ref D) C (.ok .next) s') :
    wpAny (model X.prog X.w) X.A (comprehension (.SetComp elt [⟨tg, iter, ifs, 0⟩] sc pos) sc X.env pos' (newSet (.type "set")) false (eval iter X.env) none) Qf X.xe s := by
  have frees : ∀ y ∈ sc.names, y.2 = .free → ∃ c, X.env.cells.lookup y.1 = some c := fun y hy e => (ok.free y hy e).elim (fun k => I.ok.has _ (.inl k)) (fun k => I.ok.has _ (.inr k))
  refine wpAny_comprehension_free (use := none) rfl hs (closure_ok frees) ok.kind (fun y hy e => by rw [ok.uniq y hy, e]) ?_
  refine thn (hi.run ps s σ H _ I h) fun xv sa ha => thn ha fun itv sb hb => ?_
  obtain ⟨it, fp, tn, J, Hb, rfl, Ib, T, stb, fb, q⟩ := hb
  refine PpSet.newSet_ok (newEnv_comp ?_)
  have Dn : Hb sb.heap.objs.size = none := Ib.hok.fresh (Nat.le_refl _)
  obtain ⟨W, ⟨k0, w0⟩, turn⟩ := q _ Dn
  have old : ∀ b ∈ fp, b < sb.heap.objs.size := fun b hb => let ⟨_, e, _⟩ := T.obj _ _ stb b hb; Heap.lt_size e
  obtain ⟨Hc, eHc⟩ : ∃ Hc, upd Hb sb.heap.objs.size (SetO X.w sb.heap.objs.size (fun _ => false) 0) = Hc := ⟨_, rfl⟩
  obtain ⟨sc3, es3⟩ : ∃ s3 : Shared, ({ sb with heap := sb.heap.push { cls := .type "set", dict := none, data := .set #[] 0 (.fresh 0 0 (!X.w.params.followText "set-order")) } } : Shared) = s3 := ⟨_, rfl⟩
  have Ic : Inv X ps σ Hc sc3 := by
    rw [← es3, ← eHc]
    exact Ib.laid (t' := sb.toks) (fun b o e => Heap.get?_push_of_some _ e) (Nat.le_refl _) (setO_new (setR_fresh X.w))
  have grown : ∀ b o, sb.heap.get? b = some o → sc3.heap.get? b = some o := fun b o e => by
    rw [← es3]
    exact Heap.get?_push_of_some _ e
  have fc : ∀ b ∈ fp, FpOk X ps Hc b ∧ b < sc3.heap.objs.size := fun b hb => by
    refine ⟨⟨?_, (fb b hb).2⟩, ?_⟩
    · rw [← eHc, upd_ne (Nat.ne_of_lt (old b hb))]
      exact (fb b hb).1
    · obtain ⟨_, e, _⟩ := T.obj _ _ stb b hb
      exact Heap.lt_size (grown _ _ e)
  have stc : tn 0 sc3.heap := T.keep _ _ _ stb fun b _ o e => grown b o e
  have Id := block_start Ic ok nd fc
  rw [eHc] at w0
  generalize eD : sb.heap.objs.size = D at *
  rw [es3]
  generalize eC : sc3.heap.objs.size = C at *
  have pg := hg sc3 Hc C (cellsFrom (C + 1) sc.names (cloFrom X.env.cells sc.names [])) fp
  have pt := ht sc3 Hc C (cellsFrom (C + 1) sc.names (cloFrom X.env.cells sc.names [])) fp
  have pe := he sc3 Hc C (cellsFrom (C + 1) sc.names (cloFrom X.env.cells sc.names [])) fp
  have cL : (compEnvC sc (cellsFrom (C + 1) sc.names (cloFrom X.env.cells sc.names [])) C X.env).locals = C := rfl
  show codeAny _ _ (.compStart (.SetComp elt [⟨tg, iter, ifs, 0⟩] sc pos) 0 (.ref it) (.ref D) (compEnvC sc (cellsFrom (C + 1) sc.names (cloFrom X.env.cells sc.names [])) C X.env)) (compPost (model X.prog X.w) X.A X.xe none Qf (.ref D) C) { sc3 with heap := pushCells (sc3.heap.push { cls := .type "dict", data := .dict #[] }) sc.names }
  generalize compEnvC sc (cellsFrom (C + 1) sc.names (cloFrom X.env.cells sc.names [])) C X.env = ce at *
  have ste : tn 0 ({ sc3 with heap := pushCells (sc3.heap.push { cls := .type "dict", data := .dict #[] }) sc.names } : Shared).heap := T.keep _ _ _ stc fun b _ o e => pushCells_keeps _ _ _ _ (Heap.get?_push_of_some _ e)
  generalize ({ sc3 with heap := pushCells (sc3.heap.push { cls := .type "dict", data := .dict #[] }) sc.names } : Shared) = se at *
  have Id : Inv (X.blk sc3 Hc sc ce fp) [] (wipe σ (own.map (·.2))) Hc se := Id
  have stat : ∀ {τ : L2.St} {H' : Hp} {s' : Shared}, Inv (X.blk sc3 Hc sc ce fp) [] τ H' s' → (∀ b ∈ fp, H' b = none) → ∀ b ∈ fp, FpOk (X.blk sc3 Hc sc ce fp) [] H' b := fun {τ H' s'} J hn b hb =>
    ⟨hn b hb, (J.ok.exf b hb).1, J.ok.exfs b hb, .inl hb, (J.ok.exf b hb).2, fun p hp => absurd (show p ∈ ([] : List (Addr × Obj)) ++ [] from hp) (by simp)⟩
  have loop : codeAny (model X.prog X.w) X.A (.compLoop (.SetComp elt [⟨tg, iter, ifs, 0⟩] sc pos) 0 (.ref it) (.ref D) ce) (compPost (model X.prog X.w) X.A X.xe none Qf (.ref D) C) se := by
    refine PpSet.compLoopS_any (fun k s' => ∃ j H', Inv (X.blk sc3 Hc sc ce fp) [] (wipe σ (own.map (·.2))) H' s' ∧ tn j s'.heap ∧ (∀ b ∈ fp, H' b = none) ∧ W j k H') ?_ k0 ⟨0, Hc, Id, ste, fun b hb => (fc b hb).1.1, w0⟩
    rintro k s5 ⟨j, H5, I5, st5, n5, w5⟩
    rcases turn j k H5 w5 with ⟨stop, qq⟩ | ⟨go, Nx, less, step⟩
    · refine thnF (T.done (X.blk sc3 Hc sc ce fp) rfl rfl rfl calm j [] s5 _ H5 (fun _ _ => False) I5 (stat I5 n5) st5 stop) fun r s6 ⟨er, I6⟩ => ?_
      subst er
      have I7 : Inv X ps σ H5 s6 := Ic.call' (ch := fp) I6.os I6.base I6.hok I6.bare fun b hb => ⟨(fc b hb).1.2.2.2.1, (fc b hb).1.2.1, (fc b hb).1.2.2.2.2.1, (fc b hb).1.2.2.2.2.2⟩
      have nC : H5 C = none := by
        have z : H5 ce.locals = none := I6.free
        rwa [cL] at z
      obtain ⟨m, hn, _⟩ := I6.loc
      have hn : s6.heap.Ns ce.locals m := hn
      rw [cL] at hn
      exact back D C s6 m H5 I7 qq hn (Ic.fpOk (Nat.le_of_eq eC) nC)
    · refine thnF (T.item (X.blk sc3 Hc sc ce fp) rfl rfl rfl calm j [] s5 _ H5 (fun _ _ => False) I5 (stat I5 n5) st5 go) fun r s6 ⟨u, er, h6⟩ => ?_
      subst er
      refine thnF h6 fun _ s7 ⟨x, H7, I7, r7, y7, st7, n7⟩ => ?_
      have P7 := I7.pinned (stat I7 n7) (T.obj _ _ st7)
      refine thnF (pg.run _ s7 _ H7 x u _ P7 r7 (step x H7 y7)) fun _ s8 ⟨τ, H8, I8, hw, q8⟩ => thnF (pt.run _ s8 τ H8 _ I8 q8) fun b s9 ⟨H9, I9, q9⟩ => ?_
      have next : ∀ {s' : Shared} {H' : Hp}, Inv (X.blk sc3 Hc sc ce fp) ([] ++ pinsAt fp s7.heap) τ H' s' → Nx H' → ∃ m, m < k ∧ ∃ j H', Inv (X.blk sc3 Hc sc ce fp) [] (wipe σ (own.map (·.2))) H' s' ∧ tn j s'.heap ∧ (∀ b ∈ fp, H' b = none) ∧ W j m H' := fun {s' H'} J nx => by
        obtain ⟨m', lt, w'⟩ := less H' nx
        have kept : ∀ b ∈ fp, ∀ o, s7.heap.get? b = some o → s'.heap.get? b = some o ∧ H' b = none := fun b hb o e =>
          let z := J.pin (b, o) (List.mem_append_right _ (List.mem_append_right _ (mem_pinsAt hb e)))
          ⟨z.1, z.2.1⟩
        refine ⟨m', lt, j + 1, H', (J.unpinned (pins := [])).weak (by rw [← hw, wipe_length]) (fun i v e => (wipe_some (by rw [hw]; exact e)).1), T.keep _ _ _ st7 fun b hb o e => (kept b hb o e).1, fun b hb => ?_, w'⟩
        obtain ⟨o, e, _⟩ := T.obj _ _ st7 b hb
        exact (kept b hb o e).2
      cases b with
      | false =>
        simp only [Bool.false_eq_true, if_false] at q9 ⊢
        exact next I9 q9
      | true =>
        simp only [if_true] at q9 ⊢
        refine thnF (pe.run _ s9 τ H9 _ I9 q9) fun z s10 ⟨yv, H10, I10, r10, c, S, n, ey, eS, few, nx⟩ => ?_
        subst ey
        obtain ⟨t, rfl⟩ := (show ∃ t, z = Value.int c t from r10)
        exact addI_ok (X := X.blk sc3 Hc sc ce fp) I10 eS few fun s11 I11 => next I11 nx
  exact PpSet.codeAny_compStart_set loop (T.self X.A 0 _ _ _ ste loop)
theorem pe_scI {elt tg iter : Expr} {ifs : List Expr} {sc : Scope} {own : List (PySem.Str × Nat)} {pos : Pos} {wi : TI} {g : TG} {tt : TT} {te : TE} (calm : X.calm = true) (nd : X.N.Nodup) (hi : PI X tg iter wi) (ok : BlkOk X.N X.env.scope sc own)
    (hg : ∀ (s : Shared) (H : Hp) (C : Addr) (cl : List (Str × Addr)) (fp : List Addr), PG (X.blk s H sc (compEnvC sc cl C X.env) fp) tg g)
    (ht : ∀ (s : Shared) (H : Hp) (C : Addr) (cl : List (Str × Addr)) (fp : List Addr), PTs (X.blk s H sc (compEnvC sc cl C X.env) fp) ifs tt)
    (he : ∀ (s : Shared) (H : Hp) (C : Addr) (cl : List (Str × Addr)) (fp : List Addr), PE (X.blk s H sc (compEnvC sc cl C X.env) fp) elt te) (hs : ∀ x, foldedSetIterable iter X.env x = pure x := by intro _; rfl) :
    PE X (.SetComp elt [⟨tg, iter, ifs, 0⟩] sc pos) (tScI X.w wi g tt te (own.map (·.2))) := by
  refine ⟨fun ps s σ H Q I h => ?_⟩
  rw [PpSet.eval_SetComp]
  refine scI_core calm nd I hi ok hg ht he hs h fun D C s' m H' J q hn f => ⟨m, hn, fun h'' sb => ?_⟩
  obtain ⟨f0, f1, f2, f3, f4, f5⟩ := f
  exact ⟨.ref D, H', J.turned (t' := s'.toks) (fun b o hb e => (sb.2 b hb).trans e) f0 f1 f3 f4 f5, rfl, q⟩
end
/-! ### len(s), s a set of ints -/
def rLenSet (w : World) : List V → Hp → VK → Prop := fun xs H Q => ∃ (a : Addr) (S : Int → Bool) (n : Nat), xs = [.ref a] ∧ H a = some (SetO w a S n) ∧ Q (.int n) H
theorem cr_lenSet {X : Cx} : CallR X (.builtin "len") (rLenSet X.w) := by
  intro ps s σ H xs us Q I r h
  obtain ⟨a, S, n, rfl, ha, q⟩ := h
  rw [Vals.ref1 r]
  obtain ⟨o, es, ep, t, ho, hex, hd, _, _, _, lim, fits, rfl, _⟩ := setO_get I ha
  refine call_len_set ho hex hd fits ?_ ⟨.int es.size, H, I.tok _, ⟨_, rfl⟩, q⟩
  unfold scanBound at lim
  omega
def kinds (l : List Int) : List Int := l.foldl (fun acc x => if x ∈ acc then acc else acc ++ [x]) []
theorem kinds_snoc (l : List Int) (a : Int) : kinds (l ++ [a]) = if a ∈ kinds l then kinds l else kinds l ++ [a] := by
  unfold kinds
  rw [List.foldl_append]
  rfl
theorem mem_kinds {l : List Int} : ∀ {x : Int}, x ∈ l → x ∈ kinds l := by
  have h : ∀ n, ∀ l : List Int, l.length = n → ∀ x ∈ l, x ∈ kinds l := by
    intro n
    induction n with
    | zero =>
      intro l e x hx
      rw [List.length_eq_zero_iff.mp e] at hx
      cases hx
    | succ n ih =>
      intro l e x hx
      rcases List.eq_nil_or_concat l with rfl | ⟨m, a, rfl⟩
      · cases hx
      · rw [List.concat_eq_append] at *
        rw [kinds_snoc]
        rw [List.length_append, List.length_singleton] at e
        rcases List.mem_append.mp hx with h | h
        · have := ih m (by omega) x h
          split
          · exact this
          · exact List.mem_append_left _ this
        · rw [List.mem_singleton.mp h]
          split
          · assumption
          · exact List.mem_append_right _ (List.mem_singleton.mpr rfl)
  exact fun {x} hx => h _ l rfl x hx
theorem kinds_len (l : List Int) : (kinds l).length ≤ l.length := by
  have h : ∀ n, ∀ l : List Int, l.length = n → (kinds l).length ≤ n := by
    intro n
    induction n with
    | zero =>
      intro l e
      rw [List.length_eq_zero_iff.mp e]
      exact Nat.le_refl _
    | succ n ih =>
      intro l e
      rcases List.eq_nil_or_concat l with rfl | ⟨m, a, rfl⟩
      · exact Nat.zero_le _
      · rw [List.concat_eq_append] at *
        rw [kinds_snoc]
        rw [List.length_append, List.length_singleton] at e
        have := ih m (by omega)
        split
        · omega
        · rw [List.length_append, List.length_singleton]
          omega
  exact h _ l rfl
/-- over a list: the set of the made ints, and how many they are -/
theorem scL {w : World} {K : PySem.W.Frag} {a : Addr} {xs : List V} {g : TG} {tt : TT} {te : TE} {us : List Nat} {σ : L2.St} {Ha : Hp} {D : Addr} {Qd : Hp → Prop} (ns : List Int) (nD : Ha D = none) (hl : ∀ H', Same Ha H' → SqL K H' a xs) (ln : xs.length = ns.length) (few : ns.length < 1000)
    (hs : ∀ (i : Nat) (x : V) (y : Int) (H' : Hp) (N : Hp → Prop) (S : Int → Bool) (n : Nat), xs[i]? = some x → ns[i]? = some y → Same Ha H' → H' D = some (SetO w D S n) → n + 1 < scanBound → N (upd H' D (SetO w D (fun i => S i || decide (i = y)) (if S y = true then n else n + 1))) → g x (wipe σ us) H' fun τ Hd => wipe τ us = wipe σ us ∧ tt τ Hd fun b He =>
      if b = true then te τ He fun v Hf => ∃ (c : Int) (S : Int → Bool) (n : Nat), v = .int c ∧ Hf D = some (SetO w D S n) ∧ n + 1 < scanBound ∧ N (upd Hf D (SetO w D (fun i => S i || decide (i = c)) (if S c = true then n else n + 1))) else N He)
    (hd : ∀ H' (S : Int → Bool), Same Ha H' → H' D = some (SetO w D S (kinds ns).length) → Qd H') :
    ∃ W : Nat → Nat → Hp → Prop, (∃ k, W 0 k (upd Ha D (SetO w D (fun _ => false) 0))) ∧ ∀ j k Hb, W j k Hb →
      ((Itl K a).stop j Hb ∧ Qd Hb) ∨ ((Itl K a).go j Hb ∧ ∃ Nx : Hp → Prop, (∀ Hc, Nx Hc → ∃ k', k' < k ∧ W (j + 1) k' Hc) ∧ ∀ x Hc, (Itl K a).yld j Hb x Hc → g x (wipe σ us) Hc fun τ Hd => wipe τ us = wipe σ us ∧ tt τ Hd fun b He =>
        if b = true then te τ He fun y Hf => ∃ (c : Int) (S : Int → Bool) (n : Nat), y = .int c ∧ Hf D = some (SetO w D S n) ∧ n + 1 < scanBound ∧ Nx (upd Hf D (SetO w D (fun i => S i || decide (i = c)) (if S c = true then n else n + 1))) else Nx He) := by
  refine ⟨fun j k H => k = xs.length - j ∧ j ≤ xs.length ∧ Same Ha H ∧ ∃ S, H D = some (SetO w D S (kinds (ns.take j)).length) ∧ ∀ i, S i = true ↔ i ∈ kinds (ns.take j), ⟨xs.length, by simp, Nat.zero_le _, same_new nD, _, upd_same, fun i => by simp [kinds]⟩, ?_⟩
  rintro j k Hb ⟨rfl, hj, sm, S, eD, hS⟩
  have q := hl Hb sm
  by_cases lt : j < xs.length
  · refine .inr ⟨⟨xs, xs[j], q, by simp [lt]⟩, fun H => j + 1 ≤ xs.length ∧ Same Ha H ∧ ∃ S, H D = some (SetO w D S (kinds (ns.take (j + 1))).length) ∧ ∀ i, S i = true ↔ i ∈ kinds (ns.take (j + 1)), fun H' p => ⟨xs.length - (j + 1), by omega, rfl, p⟩, fun x Hc yl => ?_⟩
    obtain ⟨e, yl⟩ := yl
    subst e
    have ey : ns[j]? = some (ns[j]'(by omega)) := List.getElem?_eq_getElem _
    generalize ns[j]'(by omega) = y at ey
    have ek : kinds (ns.take (j + 1)) = if y ∈ kinds (ns.take j) then kinds (ns.take j) else kinds (ns.take j) ++ [y] := by
      rw [List.take_add_one, ey]
      exact kinds_snoc _ _
    have kl := kinds_len (ns.take j)
    have tl := List.length_take_le' j ns
    refine hs j x y Hc _ S _ (yl xs q) ey sm eD (by unfold scanBound; omega) ⟨lt, same_off nD sm, fun i => S i || decide (i = y), upd_same.trans ?_, fun i => ?_⟩
    · have : (if S y = true then (kinds (ns.take j)).length else (kinds (ns.take j)).length + 1) = (kinds (ns.take (j + 1))).length := by
        rw [ek]
        by_cases c : y ∈ kinds (ns.take j)
        · rw [if_pos c, if_pos ((hS y).mpr c)]
        · rw [if_neg c, if_neg (fun z => c ((hS y).mp z)), List.length_append]
          rfl
      rw [this]
    · rw [ek, Bool.or_eq_true, hS i, decide_eq_true_eq]
      by_cases c : y ∈ kinds (ns.take j)
      · rw [if_pos c]
        exact ⟨fun h => h.elim id fun e => e ▸ c, .inl⟩
      · rw [if_neg c, List.mem_append, List.mem_singleton]
  · have e : j = xs.length := by omega
    subst e
    rw [ln, List.take_length] at eD
    exact .inl ⟨⟨xs, q, by omega⟩, hd Hb S sm eD⟩

/-! ### a largest selection: what the program's search returns -/
def lg : Nat → List Dem → List Dem
  | 0, _ => []
  | _ + 1, [] => []
  | n + 1, d :: R =>
    if (kinds (R.map (·.1))).length ≤ (d :: lg n (R.filter fun e => !cf d e)).length then d :: lg n (R.filter fun e => !cf d e)
    else if (d :: lg n (R.filter fun e => !cf d e)).length < (lg n R).length then lg n R else d :: lg n (R.filter fun e => !cf d e)
theorem lg_cons (n : Nat) (d : Dem) (R : List Dem) : lg (n + 1) (d :: R) = if (kinds (R.map (·.1))).length ≤ (d :: lg n (R.filter fun e => !cf d e)).length then d :: lg n (R.filter fun e => !cf d e)
    else if (d :: lg n (R.filter fun e => !cf d e)).length < (lg n R).length then lg n R else d :: lg n (R.filter fun e => !cf d e) := rfl
theorem lg_same : ∀ (n m : Nat) (L : List Dem), L.length ≤ n → L.length ≤ m → lg n L = lg m L
  | 0, 0, _, _, _ => rfl
  | 0, m + 1, L, h, _ => by
    rw [List.length_eq_zero_iff.mp (Nat.le_zero.mp h)]
    rfl
  | n + 1, 0, L, _, h => by
    rw [List.length_eq_zero_iff.mp (Nat.le_zero.mp h)]
    rfl
  | n + 1, m + 1, [], _, _ => rfl
  | n + 1, m + 1, d :: R, h1, h2 => by
    have f := List.length_filter_le (fun e => !cf d e) R
    rw [List.length_cons] at h1 h2
    rw [lg_cons, lg_cons, lg_same n m R (by omega) (by omega), lg_same n m (R.filter fun e => !cf d e) (by omega) (by omega)]
theorem lg_sub : ∀ (n : Nat) (L : List Dem), (lg n L).Sublist L
  | 0, _ => List.nil_sublist _
  | _ + 1, [] => List.Sublist.refl _
  | n + 1, d :: R => by
    have h1 : (d :: lg n (R.filter fun e => !cf d e)).Sublist (d :: R) := ((lg_sub n _).trans List.filter_sublist).cons_cons d
    rw [lg_cons]
    split
    · exact h1
    · split
      · exact (lg_sub n R).cons d
      · exact h1
theorem lg_ind : ∀ (n : Nat) (L : List Dem), Ind (lg n L)
  | 0, _ => List.Pairwise.nil
  | _ + 1, [] => List.Pairwise.nil
  | n + 1, d :: R => by
    have h1 : Ind (d :: lg n (R.filter fun e => !cf d e)) := by
      refine List.pairwise_cons.mpr ⟨fun e he => ?_, lg_ind n _⟩
      have := (List.mem_filter.mp ((lg_sub n _).mem he)).2
      rwa [Bool.not_eq_true'] at this
    rw [lg_cons]
    split
    · exact h1
    · split
      · exact lg_ind n R
      · exact h1
theorem lg_max : ∀ (n : Nat) (L : List Dem), (∀ d ∈ L, Vd d) → L.length ≤ n → ∀ I, Ind I → (∀ d ∈ I, d ∈ L) → I.length ≤ (lg n L).length
  | n, [], _, _, I, _, hI => by
    cases I with
    | nil => exact Nat.zero_le _
    | cons d I => exact absurd (hI d List.mem_cons_self) (fun z => nomatch z)
  | 0, d :: R, _, h, _, _, _ => absurd h (by simp)
  | n + 1, d :: R, hv, hn, I, ii, hI => by
    have f := List.length_filter_le (fun e => !cf d e) R
    rw [List.length_cons] at hn
    have vd := hv d List.mem_cons_self
    have vR : ∀ e ∈ R, Vd e := fun e he => hv e (List.mem_cons_of_mem _ he)
    rw [lg_cons]
    by_cases hd : d ∈ I
    · have pm := List.perm_cons_erase hd
      have ij : Ind (d :: I.erase d) := (pm.pairwise_iff (fun {a b} h => by rw [cf_comm]; exact h)).mp ii
      have pj := List.pairwise_cons.mp ij
      have le := lg_max n (R.filter fun e => !cf d e) (fun e he => vR e (List.mem_filter.mp he).1) (by omega) (I.erase d) pj.2 fun e he => by
        have no := pj.1 e he
        have me := hI e (List.mem_of_mem_erase he)
        rcases List.mem_cons.mp me with rfl | me
        · rw [cf_self vd] at no
          cases no
        · exact List.mem_filter.mpr ⟨me, by rw [no]; rfl⟩
      have l1 := pm.length_eq
      rw [List.length_cons] at l1
      split
      · rw [List.length_cons]
        omega
      · next c =>
        rw [List.length_cons] at *
        split <;> (try rw [List.length_cons]) <;> omega
    · have sub : ∀ e ∈ I, e ∈ R := fun e he => by
        rcases List.mem_cons.mp (hI e he) with rfl | h
        · exact absurd he hd
        · exact h
      split
      · next c =>
        refine Nat.le_trans ?_ c
        have nd : (I.map (·.1)).Nodup := by
          rw [List.Nodup, List.pairwise_map]
          refine List.Pairwise.imp_of_mem (fun {a b} ha hb no e => ?_) ii
          have va := vR a (sub a ha)
          have vb := vR b (sub b hb)
          unfold Vd at va vb
          have : cf a b = true := cf_iff.mpr (by omega)
          rw [this] at no
          cases no
        have := nodup_le nd (m := kinds (R.map (·.1))) fun x hx => by
          obtain ⟨e, he, rfl⟩ := List.mem_map.mp hx
          exact mem_kinds (List.mem_map.mpr ⟨e, sub e he, rfl⟩)
        rwa [List.length_map] at this
      · have le := lg_max n R vR (by omega) I ii sub
        split <;> omega

def sp_conflict : Sp := fun vs H Q _ => ∃ (v1 v2 : V) (p1 lo1 hi1 p2 lo2 hi2 : Int), vs = [v1, v2] ∧ Dm H v1 p1 lo1 hi1 ∧ Dm H v2 p2 lo2 hi2 ∧ Q (.bl (cf (p1, lo1, hi1) (p2, lo2, hi2))) H
theorem cf_at {p1 lo1 hi1 p2 lo2 hi2 : Int} : cf (p1, lo1, hi1) (p2, lo2, hi2) = (atP lo2 hi2 p1 && atP lo1 hi1 p2) := by
  rw [Bool.eq_iff_iff, cf_iff, Bool.and_eq_true]
  unfold atP
  rw [Bool.and_eq_true, Bool.and_eq_true, decide_eq_true_eq, decide_eq_true_eq, decide_eq_true_eq, decide_eq_true_eq]
theorem ok_conflict (T : Tx K mg f_depth_changes f_find_blocks f_is_number f_is_position f_is_tuple_of f_is_interval f_is_ascending f_has_position f_contains f_intersect f_is_demand f_serves f_conflict f_is_independent f_demands_at_blocks f_is_open f_open_demands f_shadow_target f_pieces_inside f_first_gap f_generates f_find_missing f_without_item f_require_few_blocks f_decisive_demands f_largest_independent f_unserved_demands f_helpful_piece f_smallest_solution f_count_needed f_solve f_are_witnesses f_solution_holds f_helps f_helpful_interval f_has_open_demand f_widen f_essential_targets f_core_targets f_is_free f_growth_counts f_law_draws f_law_next f_law_blocks f_law_wide f_law_call f_law_raised f_law_judged f_law f_TooWide_init X_TooWide X_NotGenerated X_OutOfRange X_TooMany X_SpanError d_depth_changes d_find_blocks d_is_number d_is_position d_is_tuple_of d_is_interval d_is_ascending d_has_position d_contains d_intersect d_is_demand d_serves d_conflict d_is_independent d_demands_at_blocks d_is_open d_open_demands d_shadow_target d_pieces_inside d_first_gap d_generates d_find_missing d_without_item d_require_few_blocks d_decisive_demands d_largest_independent d_unserved_demands d_helpful_piece d_smallest_solution d_count_needed d_solve d_are_witnesses d_solution_holds d_helps d_helpful_interval d_has_open_demand d_widen d_essential_targets d_core_targets d_is_free d_growth_counts d_law_draws d_law_next d_law_blocks d_law_wide d_law_call d_law_raised d_law_judged d_law d_TooWide_init t_LAST_POSITION t_MAX_BLOCKS) : FnOk P w K mg base CX0 2 f_conflict d_conflict ["first", "second"] sp_conflict := by
  refine T.F_conflict.ok sc_conflict (fun vs H Q E h => ?_) (fun cdv A outer s H vs Q E hr h => ?_)
  · obtain ⟨v1, v2, p1, lo1, hi1, p2, lo2, hi2, rfl, _⟩ := h
    rfl
  · obtain ⟨v1, v2, p1, lo1, hi1, p2, lo2, hi2, rfl, d1, d2, q⟩ := h
    refine ⟨_, (pss_one (ps_ret (pe_and (pe_call (ok_has_position T) (hr.mono (by decide)) (by rfl) T.g_has_position T.F_has_position.kp T.b_has_position .nil pass0 (pa_cons (pe_ix ix_tup (pv 1) pe_int (fun _ _ => rfl)) (pa_cons (pe_ix ix_tup (pv 0) pe_int (fun _ _ => rfl)) pa_nil))) (pe_one (pe_call (ok_has_position T) (hr.mono (by decide)) (by rfl) T.g_has_position T.F_has_position.kp T.b_has_position .nil pass0 (pa_cons (pe_ix ix_tup (pv 0) pe_int (fun _ _ => rfl)) (pa_cons (pe_ix ix_tup (pv 1) pe_int (fun _ _ => rfl)) pa_nil))))))), ?_⟩
    obtain ⟨u1, t1, rfl, e11, e12⟩ := d1.ex
    obtain ⟨u2, t2, rfl, e21, e22⟩ := d2.ex
    rw [cf_at] at q
    refine ⟨.ref u2, rfl, u2, _, 1, .ref t2, rfl, rfl, SqT.of e21, rfl, .ref u1, rfl, u1, _, 0, .int p1, rfl, rfl, SqT.of e11, rfl, t2, lo2, hi2, p1, rfl, e22, _, rfl, ite2 (fun c => ?_) (fun c => ?_)⟩
    · refine ⟨.ref u1, rfl, u1, _, 1, .ref t1, rfl, rfl, SqT.of e11, rfl, .ref u2, rfl, u2, _, 0, .int p2, rfl, rfl, SqT.of e21, rfl, t1, lo1, hi1, p2, rfl, e12, ?_⟩
      rw [c] at q
      exact q
    · rw [Bool.not_eq_true] at c
      rw [c] at q
      exact q
def sp_lg (n : Nat) : Sp := fun vs H Q _ => ∃ (D : Addr) (zs : List V) (ds : List Dem), vs = [.ref D] ∧ H D = some (.lst zs) ∧ Dms H zs ds ∧ ds.length ≤ n ∧ ds.length < 1000 ∧
  ∀ H' p ws, Same H H' → H' p = some (.tup ws) → Dms H' ws (lg ds.length ds) → Q (.ref p) H'
def sp_lgP : Nat → Sp
  | 0 => fun _ _ _ _ => False
  | n + 1 => sp_lg n
theorem Dms.sub {H : Hp} {vs : List V} {ds : List Dem} (h : Dms H vs ds) : ∀ {v : V} {d : Dem} {us : List V} {es : List Dem}, vs = v :: us → ds = d :: es → Dm H v d.1 d.2.1 d.2.2 ∧ Dms H us es := by
  intro v d us es e1 e2
  cases h with
  | nil => cases e1
  | cons x y =>
    cases e1
    cases e2
    exact ⟨x, y⟩
theorem lg_step (T : Tx K mg f_depth_changes f_find_blocks f_is_number f_is_position f_is_tuple_of f_is_interval f_is_ascending f_has_position f_contains f_intersect f_is_demand f_serves f_conflict f_is_independent f_demands_at_blocks f_is_open f_open_demands f_shadow_target f_pieces_inside f_first_gap f_generates f_find_missing f_without_item f_require_few_blocks f_decisive_demands f_largest_independent f_unserved_demands f_helpful_piece f_smallest_solution f_count_needed f_solve f_are_witnesses f_solution_holds f_helps f_helpful_interval f_has_open_demand f_widen f_essential_targets f_core_targets f_is_free f_growth_counts f_law_draws f_law_next f_law_blocks f_law_wide f_law_call f_law_raised f_law_judged f_law f_TooWide_init X_TooWide X_NotGenerated X_OutOfRange X_TooMany X_SpanError d_depth_changes d_find_blocks d_is_number d_is_position d_is_tuple_of d_is_interval d_is_ascending d_has_position d_contains d_intersect d_is_demand d_serves d_conflict d_is_independent d_demands_at_blocks d_is_open d_open_demands d_shadow_target d_pieces_inside d_first_gap d_generates d_find_missing d_without_item d_require_few_blocks d_decisive_demands d_largest_independent d_unserved_demands d_helpful_piece d_smallest_solution d_count_needed d_solve d_are_witnesses d_solution_holds d_helps d_helpful_interval d_has_open_demand d_widen d_essential_targets d_core_targets d_is_free d_growth_counts d_law_draws d_law_next d_law_blocks d_law_wide d_law_call d_law_raised d_law_judged d_law d_TooWide_init t_LAST_POSITION t_MAX_BLOCKS) (n : Nat) (ih : FnOk P w K mg base CX0 (n + 3) f_largest_independent d_largest_independent ["demands"] (sp_lgP n)) : FnOk P w K mg base CX0 (n + 4) f_largest_independent d_largest_independent ["demands"] (sp_lg n) := by
  refine T.F_largest_independent.ok sc_largest_independent (fun vs H Q E h => ?_) (fun cdv A outer s H vs Q E hr h => ?_)
  · obtain ⟨D, zs, ds, rfl, _⟩ := h
    rfl
  · obtain ⟨D, zs, ds, rfl, hD, dm, ln, few, q⟩ := h
    refine ⟨_, (pss_cons (ps_if (pt_not (pt_truth (pv 0) (by intro _; rfl)))
      (pss_one (ps_ret (pe_tup pa_nil)))
      pss_nil)
      (pss_cons (ps_asg (pe_tup (pa_cons (pe_ix ix_list (pv 0) pe_int (fun _ _ => rfl)) (pa_cons (pe_slice sl_list (pv 0) (po_some pe_int) po_none) pa_nil))) (pg_tup rfl (pgs_cons (pg_name (i := 1) sc_largest_independent.nd rfl (Or.inr rfl)) (pgs_cons (pg_name (i := 2) sc_largest_independent.nd rfl (Or.inl rfl)) pgs_nil))))
      (pss_cons (ps_set (i := 3) sc_largest_independent.nd rfl (Or.inl rfl) (pe_op op_catA (pe_tup (pa_cons (pv 1) pa_nil)) (pe_call ih (hr.mono (by omega)) (by rfl) T.g_largest_independent T.F_largest_independent.kp T.b_largest_independent .nil pass0 (pa_cons (pe_lc (own := [("demand", 4)]) (g := (gName 4)) (by rfl) sc_largest_independent.nd (pi_list (pv 2)) (blkOk_by (own := [("demand", 4)]) (N := N_largest_independent) (sc := defScope s_largest_independent) (by decide +kernel)) (fun _ _ _ _ _ => (pg_name (i := 4) sc_largest_independent.nd rfl (Or.inl rfl))) (fun _ _ _ _ _ => pts_one (pt_not (pt_val (pe_call (ok_conflict T) (hr.mono (by omega)) (by rfl) T.g_conflict T.F_conflict.kp T.b_conflict .nil pass0 (pa_cons (pv 1) (pa_cons (pv 4) pa_nil)))))) (fun _ _ _ _ _ => (pv 4))) pa_nil))))
      (pss_cons (ps_if (pt_cmpR op_ge (pe_callB call_len_seq (by rfl) T.z_len PySem.boot_len (pa_cons (pv 3) pa_nil)) (pe_callB cr_lenSet (by rfl) T.z_len PySem.boot_len (pa_cons (pe_scI (own := [("position", 5), ("target", 6)]) (g := (gTup K 2 (gCons (gName 5) (gCons (gName 6) gNil)))) (tt := tYes) (by rfl) sc_largest_independent.nd (pi_list (pv 2)) (blkOk_by (own := [("position", 5), ("target", 6)]) (N := N_largest_independent) (sc := defScope s_largest_independent) (by decide +kernel)) (fun _ _ _ _ _ => (pg_tup rfl (pgs_cons (pg_name (i := 5) sc_largest_independent.nd rfl (Or.inl rfl)) (pgs_cons (pg_name (i := 6) sc_largest_independent.nd rfl (Or.inl rfl)) pgs_nil)))) (fun _ _ _ _ _ => pts_nil) (fun _ _ _ _ _ => (pv 5))) pa_nil)) (nomark _))
      (pss_one (ps_ret (pv 3)))
      pss_nil)
      (pss_one (ps_ret (pe_maxLen rfl (by rfl) T.z_max (by rfl) T.z_len (pa_cons (pe_lst (pa_cons (pv 3) (pa_cons (pe_call ih (hr.mono (by omega)) (by rfl) T.g_largest_independent T.F_largest_independent.kp T.b_largest_independent .nil pass0 (pa_cons (pv 2) pa_nil)) pa_nil))) pa_nil)))))))), ?_⟩
    have lz := dm.length
    refine ⟨.ref D, rfl, !zs.isEmpty, .inl ⟨_, SqL.of hD, rfl⟩, ?_⟩
    match zs, ds, dm with
    | [], [], _ =>
      refine iteT ⟨by show 0 ≤ sizeLine; decide, fun p np => ?_⟩
      exact q _ p [] (same_new np) upd_same .nil
    | v :: zs, d :: ds, dm =>
    obtain ⟨dv, dr⟩ := dm.sub rfl rfl
    refine iteF ?_
    rw [List.length_cons] at ln few
    obtain ⟨m, rfl⟩ : ∃ m, n = m + 1 := ⟨n - 1, by omega⟩
    have lz2 := dr.length
    refine ⟨.ref D, rfl, D, _, 0, v, rfl, rfl, SqL.of hD, (show atI (v :: zs) ((0 : Nat) : Int) = some v from atI_nat rfl), .ref D, rfl, 1, rfl, D, _, rfl, SqL.of hD, fun R nR => ?_⟩
    rw [show cutV (v :: zs) (some 1) none = zs from cutFrom (v :: zs) 1]
    have s1 := same_new (o := .lst zs) nR
    have eR := upd_same (H := H) (a := R) (o := .lst zs)
    generalize upd H R (.lst zs) = H1 at *
    refine ⟨by show 2 ≤ sizeLine; decide, fun tp ntp => ?_⟩
    have s2 := same_new (o := .tup [v, .ref R]) ntp
    have etp := upd_same (H := H1) (a := tp) (o := .tup [v, .ref R])
    generalize upd H1 tp (.tup [v, .ref R]) = H2 at *
    refine ⟨tp, _, rfl, SqT.of etp, rfl, v, [.ref R], rfl, .ref R, [], rfl, rfl, ?_⟩
    have s12 := s1.trans s2
    have eR2 := s2 _ _ eR
    have dv2 := dv.same s12
    have dr2 := dr.same s12
    -- (first,)
    refine ⟨v, rfl, by show 1 ≤ sizeLine; decide, fun u nu => ?_⟩
    have s3 := same_new (o := .tup [v]) nu
    have eu := upd_same (H := H2) (a := u) (o := .tup [v])
    generalize upd H2 u (.tup [v]) = H3 at *
    have eR3 := s3 _ _ eR2
    have dv3 := dv2.same s3
    have dr3 := dr2.same s3
    refine ⟨.ref R, rfl, R, rfl, ⟨_, SqL.of eR3⟩, fun D2 nD2 => ?_⟩
    refine lcL (K := K) (a := R) (xs := zs) (fun j H' ws => Dms H' ws ((ds.take j).filter fun e => !cf d e)) nD2 (fun H' s => SqL.of (s _ _ (eR3))) (by omega) (fun _ _ _ _ t r => r.tps t) (fun j H' ws r => (by rw [r.length]; exact Nat.le_trans (List.length_filter_le _ _) (List.length_take_le _ _))) (fun _ => .nil) ?_ ?_
    · rintro j z H' N acc hj sj eA sz r no yes
      obtain ⟨p, lo, hi, ed, dz⟩ := dr3.get hj
      refine ⟨rfl, v, rfl, z, rfl, v, z, d.1, d.2.1, d.2.2, p, lo, hi, rfl, dv3.same sj, dz.same sj, _, rfl, ite2 (fun c => ?_) (fun c => ?_)⟩
      · refine ⟨z, rfl, yes H' _ (Same.refl _) ?_⟩
        rw [take_filter ed, if_pos c]
        exact r.snoc (dz.same sj)
      · refine no H' (Same.refl _) ?_
        rw [take_filter ed, if_neg c, List.append_nil]
        exact r
    intro H4 ws s4 eD2 r
    rw [lz2, List.take_length] at r
    have fl := List.length_filter_le (fun e => !cf d e) ds
    refine ⟨D2, ws, _, rfl, eD2, r, Nat.le_trans fl (by omega), Nat.lt_of_le_of_lt fl (by omega), fun H5 cp cws s5 ecp dmc => ?_⟩
    rw [lg_same _ ds.length _ (Nat.le_refl _) fl] at dmc
    have s35 := s4.trans s5
    have llg := (lg_sub ds.length (ds.filter fun e => !cf d e)).length_le
    have lcw := dmc.length
    refine catA_any (s35 _ _ eu) ecp (by rw [show sizeLine = 16777216 by decide]; show 1 + _ ≤ _; omega) (fun H6 ch s6 ech => ?_)
    have s36 := s35.trans s6
    have dch : Dms H6 ([v] ++ cws) (d :: lg ds.length (ds.filter fun e => !cf d e)) := .cons (dv3.same s36) (dmc.same s6)
    have eR6 := s36 _ _ eR3
    have dr6 := dr3.same s36
    have s06 := s12.trans (s3.trans s36)
    have lch := dch.length
    generalize [v] ++ cws = vch at *
    have eq := lg_cons ds.length d ds
    generalize hch : d :: lg ds.length (ds.filter fun e => !cf d e) = och at *
    refine ⟨.ref ch, rfl, ch, vch, rfl, .inr (SqT.of ech), ?_⟩
    refine ⟨.ref R, rfl, R, rfl, ⟨_, SqL.of eR6⟩, fun D3 nD3 => ?_⟩
    refine scL (K := K) (a := R) (xs := zs) (ds.map (·.1)) nD3 (fun H' s => SqL.of (s _ _ eR6)) (by rw [List.length_map]; exact lz2) (by rw [List.length_map]; omega) ?_ ?_
    · rintro i z y H' N S k hz hy sj eS lim nx
      obtain ⟨p, lo, hi, ed, dz⟩ := dr6.get hz
      rw [List.getElem?_map, ed] at hy
      cases hy
      obtain ⟨uz, tz, rfl, h1, h2⟩ := (dz.same sj).ex
      exact ⟨uz, _, rfl, SqT.of h1, rfl, .int p, [.ref tz], rfl, .ref tz, [], rfl, rfl, rfl, .int p, rfl, p, S, k, rfl, eS, lim, nx⟩
    intro H7 S s7 eD3
    dsimp only [tNil]
    refine ⟨D3, S, _, rfl, eD3, ?_⟩
    have s07 := s06.trans s7
    refine ⟨_, _, rfl, rfl, _, rfl, ite2 (fun c => ?_) (fun c => ?_)⟩
    · have c := of_decide_eq_true c
      have c2 : (kinds (ds.map (·.1))).length ≤ och.length := by
        rw [← lch]
        exact Int.ofNat_le.mp c
      refine ⟨.ref ch, rfl, ?_⟩
      refine q H7 ch vch s07 (s7 _ _ ech) ?_
      show Dms H7 vch (lg (ds.length + 1) (d :: ds))
      rw [eq, if_pos c2]
      exact dch.same s7
    · have c := of_decide_eq_false (Bool.not_eq_true _ ▸ c)
      have c2 : ¬ (kinds (ds.map (·.1))).length ≤ och.length := fun z => c (by
        rw [← lch] at z
        exact Int.ofNat_le.mpr z)
      refine ⟨.ref ch, rfl, .ref R, rfl, R, zs, ds, rfl, s7 _ _ eR6, dr6.same s7, by omega, by omega, fun H8 o wo s8 eo dmo => ?_⟩
      have lo2 := dmo.length
      refine ⟨by show 2 ≤ sizeLine; decide, fun ml nml => ?_⟩
      have s9 := same_new (o := .lst [.ref ch, .ref o]) nml
      have eml := upd_same (H := H8) (a := ml) (o := .lst [.ref ch, .ref o])
      generalize upd H8 ml (.lst [.ref ch, .ref o]) = H9 at *
      dsimp only [tNil]
      have s79 := s8.trans s9
      refine ⟨ml, ch, o, vch, wo, rfl, SqL.of eml, SqT.of (s79 _ _ (s7 _ _ ech)), SqT.of (s9 _ _ eo), ?_⟩
      have fin : Dms H9 (if vch.length < wo.length then wo else vch) (lg (ds.length + 1) (d :: ds)) := by
        rw [eq, if_neg c2, lch, lo2]
        split
        · exact dmo.same s9
        · exact dch.same (s7.trans s79)
      refine q H9 _ _ (s07.trans s79) ?_ fin
      split
      · exact s9 _ _ eo
      · exact s79 _ _ (s7 _ _ ech)
theorem lg_all (T : Tx K mg f_depth_changes f_find_blocks f_is_number f_is_position f_is_tuple_of f_is_interval f_is_ascending f_has_position f_contains f_intersect f_is_demand f_serves f_conflict f_is_independent f_demands_at_blocks f_is_open f_open_demands f_shadow_target f_pieces_inside f_first_gap f_generates f_find_missing f_without_item f_require_few_blocks f_decisive_demands f_largest_independent f_unserved_demands f_helpful_piece f_smallest_solution f_count_needed f_solve f_are_witnesses f_solution_holds f_helps f_helpful_interval f_has_open_demand f_widen f_essential_targets f_core_targets f_is_free f_growth_counts f_law_draws f_law_next f_law_blocks f_law_wide f_law_call f_law_raised f_law_judged f_law f_TooWide_init X_TooWide X_NotGenerated X_OutOfRange X_TooMany X_SpanError d_depth_changes d_find_blocks d_is_number d_is_position d_is_tuple_of d_is_interval d_is_ascending d_has_position d_contains d_intersect d_is_demand d_serves d_conflict d_is_independent d_demands_at_blocks d_is_open d_open_demands d_shadow_target d_pieces_inside d_first_gap d_generates d_find_missing d_without_item d_require_few_blocks d_decisive_demands d_largest_independent d_unserved_demands d_helpful_piece d_smallest_solution d_count_needed d_solve d_are_witnesses d_solution_holds d_helps d_helpful_interval d_has_open_demand d_widen d_essential_targets d_core_targets d_is_free d_growth_counts d_law_draws d_law_next d_law_blocks d_law_wide d_law_call d_law_raised d_law_judged d_law d_TooWide_init t_LAST_POSITION t_MAX_BLOCKS) : ∀ n : Nat, FnOk P w K mg base CX0 (n + 4) f_largest_independent d_largest_independent ["demands"] (sp_lg n)
  | 0 => lg_step T 0 ⟨fun _ _ _ _ h => h.elim, fun _ _ _ _ _ _ _ _ _ _ _ _ _ h => h.elim⟩
  | n + 1 => lg_step T (n + 1) (lg_all T n)
theorem ok_largest_independent (T : Tx K mg f_depth_changes f_find_blocks f_is_number f_is_position f_is_tuple_of f_is_interval f_is_ascending f_has_position f_contains f_intersect f_is_demand f_serves f_conflict f_is_independent f_demands_at_blocks f_is_open f_open_demands f_shadow_target f_pieces_inside f_first_gap f_generates f_find_missing f_without_item f_require_few_blocks f_decisive_demands f_largest_independent f_unserved_demands f_helpful_piece f_smallest_solution f_count_needed f_solve f_are_witnesses f_solution_holds f_helps f_helpful_interval f_has_open_demand f_widen f_essential_targets f_core_targets f_is_free f_growth_counts f_law_draws f_law_next f_law_blocks f_law_wide f_law_call f_law_raised f_law_judged f_law f_TooWide_init X_TooWide X_NotGenerated X_OutOfRange X_TooMany X_SpanError d_depth_changes d_find_blocks d_is_number d_is_position d_is_tuple_of d_is_interval d_is_ascending d_has_position d_contains d_intersect d_is_demand d_serves d_conflict d_is_independent d_demands_at_blocks d_is_open d_open_demands d_shadow_target d_pieces_inside d_first_gap d_generates d_find_missing d_without_item d_require_few_blocks d_decisive_demands d_largest_independent d_unserved_demands d_helpful_piece d_smallest_solution d_count_needed d_solve d_are_witnesses d_solution_holds d_helps d_helpful_interval d_has_open_demand d_widen d_essential_targets d_core_targets d_is_free d_growth_counts d_law_draws d_law_next d_law_blocks d_law_wide d_law_call d_law_raised d_law_judged d_law d_TooWide_init t_LAST_POSITION t_MAX_BLOCKS) : FnOk P w K mg base CX0 (lgN + 4) f_largest_independent d_largest_independent ["demands"] (sp_lg lgN) := lg_all T lgN

theorem find_step {f : Int × Int → Bool} {ps : List (Int × Int)} {i : Nat} {q : Int × Int} (e : ps[i]? = some q) : (ps.drop i).find? f = if f q = true then some q else (ps.drop (i + 1)).find? f := by
  obtain ⟨hi, rfl⟩ := List.getElem?_eq_some_iff.mp e
  rw [List.drop_eq_getElem_cons hi, List.find?_cons]
  cases f ps[i] <;> rfl
theorem eqv_pair (x y u v : Int) : PyData.eqv (.tuple [.int x, .int y]) (.tuple [.int u, .int v]) = decide ((x, y) = (u, v)) := by
  show ((x == u) && ((y == v) && true)) = decide ((x, y) = (u, v))
  rw [Bool.and_true, Bool.eq_iff_iff, Bool.and_eq_true, beq_iff_eq, beq_iff_eq, decide_eq_true_eq, Prod.mk.injEq]
def shB (p lo hi : Int) (q : Int × Int) : Bool := !decide (q = (lo, hi)) && (inI lo hi q.1 q.2 && atP q.1 q.2 p)
def sp_shadow_target : Sp := fun vs H Q _ => ∃ (a : Addr) (us : List V) (ps : List (Int × Int)) (v : V) (p lo hi : Int), vs = [.ref a, v] ∧ H a = some (.tup us) ∧ Ivs H us ps ∧ Dm H v p lo hi ∧ ∀ r, OV H r (ps.find? (shB p lo hi)) → Q r H
theorem ok_shadow_target (T : Tx K mg f_depth_changes f_find_blocks f_is_number f_is_position f_is_tuple_of f_is_interval f_is_ascending f_has_position f_contains f_intersect f_is_demand f_serves f_conflict f_is_independent f_demands_at_blocks f_is_open f_open_demands f_shadow_target f_pieces_inside f_first_gap f_generates f_find_missing f_without_item f_require_few_blocks f_decisive_demands f_largest_independent f_unserved_demands f_helpful_piece f_smallest_solution f_count_needed f_solve f_are_witnesses f_solution_holds f_helps f_helpful_interval f_has_open_demand f_widen f_essential_targets f_core_targets f_is_free f_growth_counts f_law_draws f_law_next f_law_blocks f_law_wide f_law_call f_law_raised f_law_judged f_law f_TooWide_init X_TooWide X_NotGenerated X_OutOfRange X_TooMany X_SpanError d_depth_changes d_find_blocks d_is_number d_is_position d_is_tuple_of d_is_interval d_is_ascending d_has_position d_contains d_intersect d_is_demand d_serves d_conflict d_is_independent d_demands_at_blocks d_is_open d_open_demands d_shadow_target d_pieces_inside d_first_gap d_generates d_find_missing d_without_item d_require_few_blocks d_decisive_demands d_largest_independent d_unserved_demands d_helpful_piece d_smallest_solution d_count_needed d_solve d_are_witnesses d_solution_holds d_helps d_helpful_interval d_has_open_demand d_widen d_essential_targets d_core_targets d_is_free d_growth_counts d_law_draws d_law_next d_law_blocks d_law_wide d_law_call d_law_raised d_law_judged d_law d_TooWide_init t_LAST_POSITION t_MAX_BLOCKS) : FnOk P w K mg base CX0 2 f_shadow_target d_shadow_target ["targets", "demand"] sp_shadow_target := by
  refine T.F_shadow_target.ok sc_shadow_target (fun vs H Q E h => ?_) (fun cdv A outer s H vs Q E hr h => ?_)
  · obtain ⟨a, us, ps, v, p, lo, hi, rfl, _⟩ := h
    rfl
  · obtain ⟨a, us, ps, v, p, lo, hi, rfl, ha, iv, dm, q⟩ := h
    obtain ⟨u, t, rfl, e1, e2⟩ := dm.ex
    refine ⟨_, (pss_cons (ps_asg (pv 1) (pg_tup rfl (pgs_cons (pg_name (i := 2) sc_shadow_target.nd rfl (Or.inl rfl)) (pgs_cons (pg_name (i := 3) sc_shadow_target.nd rfl (Or.inl rfl)) pgs_nil))))
      (pss_cons (ps_for PassesOwn.never rfl (pi_tup (pv 0)) (pg_name (i := 4) sc_shadow_target.nd rfl (Or.inl rfl))
      (pss_one (ps_if (PW.pt (pw_and (pt_cmpR (op_neD hr.units) (pv 4) (pv 3) (nomark _)) (pw_and (pt_val (pe_call (ok_contains T) (hr.mono (by decide)) (by rfl) T.g_contains T.F_contains.kp T.b_contains .nil pass0 (pa_cons (pv 3) (pa_cons (pv 4) pa_nil)))) (pw_and1 (pt_val (pe_call (ok_has_position T) (hr.mono (by decide)) (by rfl) T.g_has_position T.F_has_position.kp T.b_has_position .nil pass0 (pa_cons (pv 4) (pa_cons (pv 2) pa_nil))))))))
      (pss_one (ps_ret (pv 4)))
      pss_nil)))
      (pss_one (ps_ret pe_non)))), ?_⟩
    refine ⟨.ref u, rfl, u, _, rfl, SqT.of e1, rfl, .int p, [.ref t], rfl, .ref t, [], rfl, rfl, ?_⟩
    refine ⟨.ref a, rfl, a, rfl, ⟨_, SqT.of ha⟩, for_tup (K := K) (a := a) (xs := us) (fun i σ H' => H' = H ∧ ps.find? (shB p lo hi) = (ps.drop i).find? (shB p lo hi) ∧ ∃ y, σ = [some (.ref a), some (.ref u), some (.int p), some (.ref t), y]) ⟨rfl, rfl, _, rfl⟩ (fun i σ H' _ h => by rw [h.1]; exact SqT.of ha) ?_ ?_⟩
    · rintro i x σ H' hi2 ⟨rfl, ef, y, rfl⟩
      obtain ⟨b, x, z, rfl, ep, hb⟩ := iv.get hi2
      rw [find_step ep] at ef
      have no : ¬ shB p lo hi (x, z) = true → ps.find? (shB p lo hi) = (ps.drop (i + 1)).find? (shB p lo hi) := fun e => by
        rw [if_neg e] at ef
        exact ef
      refine ⟨.ref b, rfl, .ref t, rfl, _, _, dp2 hb, dp2 e2, rfl, rfl, _, rfl, ?_⟩
      rw [eqv_pair]
      refine ite2 (fun c1 => ?_) (fun c1 => ?_)
      · refine ⟨.ref t, rfl, .ref b, rfl, t, b, lo, hi, x, z, rfl, e2, hb, _, rfl, ite2 (fun c2 => ?_) (fun c2 => ?_)⟩
        · refine ⟨.ref b, rfl, .int p, rfl, b, x, z, p, rfl, hb, _, rfl, ite2 (fun c3 => ?_) (fun c3 => ?_)⟩
          · refine ⟨.ref b, rfl, q _ ?_⟩
            have e : shB p lo hi (x, z) = true := by
              unfold shB
              rw [c1, c2, c3]
              rfl
            rw [ef, if_pos e]
            exact ⟨b, rfl, hb⟩
          · refine ⟨rfl, no fun e => c3 ?_, _, rfl⟩
            unfold shB at e
            exact (Bool.and_eq_true_iff.mp (Bool.and_eq_true_iff.mp e).2).2
        · refine iteF ⟨rfl, no fun e => c2 ?_, _, rfl⟩
          unfold shB at e
          exact (Bool.and_eq_true_iff.mp (Bool.and_eq_true_iff.mp e).2).1
      · refine iteF ⟨rfl, no fun e => c1 ?_, _, rfl⟩
        unfold shB at e
        exact (Bool.and_eq_true_iff.mp e).1
    · rintro σ H' ⟨rfl, ef, y, rfl⟩
      refine q _ ?_
      rw [ef, iv.length, List.drop_length]
      rfl

/-! ### the demands that decide -/
def decO (ts ps : List (Int × Int)) : List Dem := ((dab ts (blocksOf (ts ++ ps))).filter (opB ps)).filter fun d => (ts.find? (shB d.1 d.2.1 d.2.2)).isNone
def needO (ts ps : List (Int × Int)) : Nat := (lg (decO ts ps).length (decO ts ps)).length
theorem OV.isN {H : Hp} {r : V} {o : Option (Int × Int)} (h : OV H r o) : decide (r = .non) = o.isNone := by
  match o, h with
  | none, h =>
    cases h
    rfl
  | some (x, y), h =>
    obtain ⟨t, e, _⟩ := h
    rw [e]
    exact decide_eq_false (fun z => by cases z)
theorem decO_len {ts ps : List (Int × Int)} : (decO ts ps).length ≤ (blocksOf (ts ++ ps)).length * ts.length := by
  unfold decO
  exact Nat.le_trans (List.length_filter_le _ _) (Nat.le_trans (List.length_filter_le _ _) dab_len)
def sp_decisive : Sp := fun vs H Q _ => ∃ (a b : Addr) (us ws : List V) (ts ps : List (Int × Int)), vs = [.ref a, .ref b] ∧ H a = some (.tup us) ∧ H b = some (.tup ws) ∧ Ivs H us ts ∧ Ivs H ws ps ∧ Good (ts ++ ps) ∧ ts.length ≤ 30 ∧ FewK (ts ++ ps) ∧ (blocksOf (ts ++ ps)).length ≤ 8 ∧
  ∀ H' p zs, Same H H' → H p = none → H' p = some (.lst zs) → Dms H' zs (decO ts ps) → Q (.ref p) H'
theorem ok_decisive_demands (T : Tx K mg f_depth_changes f_find_blocks f_is_number f_is_position f_is_tuple_of f_is_interval f_is_ascending f_has_position f_contains f_intersect f_is_demand f_serves f_conflict f_is_independent f_demands_at_blocks f_is_open f_open_demands f_shadow_target f_pieces_inside f_first_gap f_generates f_find_missing f_without_item f_require_few_blocks f_decisive_demands f_largest_independent f_unserved_demands f_helpful_piece f_smallest_solution f_count_needed f_solve f_are_witnesses f_solution_holds f_helps f_helpful_interval f_has_open_demand f_widen f_essential_targets f_core_targets f_is_free f_growth_counts f_law_draws f_law_next f_law_blocks f_law_wide f_law_call f_law_raised f_law_judged f_law f_TooWide_init X_TooWide X_NotGenerated X_OutOfRange X_TooMany X_SpanError d_depth_changes d_find_blocks d_is_number d_is_position d_is_tuple_of d_is_interval d_is_ascending d_has_position d_contains d_intersect d_is_demand d_serves d_conflict d_is_independent d_demands_at_blocks d_is_open d_open_demands d_shadow_target d_pieces_inside d_first_gap d_generates d_find_missing d_without_item d_require_few_blocks d_decisive_demands d_largest_independent d_unserved_demands d_helpful_piece d_smallest_solution d_count_needed d_solve d_are_witnesses d_solution_holds d_helps d_helpful_interval d_has_open_demand d_widen d_essential_targets d_core_targets d_is_free d_growth_counts d_law_draws d_law_next d_law_blocks d_law_wide d_law_call d_law_raised d_law_judged d_law d_TooWide_init t_LAST_POSITION t_MAX_BLOCKS) : FnOk P w K mg base CX0 5 f_decisive_demands d_decisive_demands ["targets", "pieces"] sp_decisive := by
  refine T.F_decisive_demands.ok sc_decisive_demands (fun vs H Q E h => ?_) (fun cdv A outer s H vs Q E hr h => ?_)
  · obtain ⟨a, b, us, ws, ts, ps, rfl, _⟩ := h
    rfl
  · obtain ⟨a, b, us, ws, ts, ps, rfl, ha, hb, ivt, ivp, g, lt, fk, few, q⟩ := h
    refine ⟨_, (pss_one (ps_ret (pe_lc (own := [("demand", 2)]) (g := (gName 2)) (by rfl) sc_decisive_demands.nd (pi_tup (pe_call (ok_open_demands T) (hr.mono (by decide)) (by rfl) T.g_open_demands T.F_open_demands.kp T.b_open_demands .nil pass0 (pa_cons (pv 0) (pa_cons (pv 1) pa_nil)))) (blkOk_by (own := [("demand", 2)]) (N := N_decisive_demands) (sc := defScope s_decisive_demands) (by decide +kernel)) (fun _ _ _ _ _ => (pg_name (i := 2) sc_decisive_demands.nd rfl (Or.inl rfl))) (fun _ _ _ _ _ => pts_one (pt_cmpR op_isN (pe_call (ok_shadow_target T) (hr.mono (by decide)) (by rfl) T.g_shadow_target T.F_shadow_target.kp T.b_shadow_target .nil pass0 (pa_cons (pv 0) (pa_cons (pv 2) pa_nil))) pe_non (nomark _))) (fun _ _ _ _ _ => (pv 2))))), ?_⟩
    have lu := ivt.length
    refine ⟨.ref a, rfl, .ref b, rfl, a, b, us, ws, ts, ps, rfl, ha, hb, ivt, ivp, g, lt, fk, fun H1 D zs s1 eD dm => ?_⟩
    have lo : ((dab ts (blocksOf (ts ++ ps))).filter (opB ps)).length < 1000 := by
      have h1 := dab_len (ts := ts) (bs := blocksOf (ts ++ ps))
      have h2 := List.length_filter_le (opB ps) (dab ts (blocksOf (ts ++ ps)))
      have h3 : (blocksOf (ts ++ ps)).length * ts.length ≤ 8 * 30 := Nat.mul_le_mul few (by omega)
      omega
    unfold decO at q
    generalize (dab ts (blocksOf (ts ++ ps))).filter (opB ps) = ds at *
    have lz := dm.length
    refine ⟨D, rfl, ⟨_, SqT.of eD⟩, fun D2 nD2 => ?_⟩
    refine lcT (K := K) (a := D) (xs := zs) (fun j H' ws => Dms H' ws ((ds.take j).filter fun d => (ts.find? (shB d.1 d.2.1 d.2.2)).isNone)) nD2 (fun H' s => SqT.of (s _ _ (eD))) (by omega) (fun _ _ _ _ t r => r.tps t) (fun j H' ws r => (by rw [r.length]; exact Nat.le_trans (List.length_filter_le _ _) (List.length_take_le _ _))) (fun _ => .nil) ?_ ?_
    · rintro j z H' N acc hj sj eA sz r no yes
      obtain ⟨p, lo, hi, ed, dz⟩ := dm.get hj
      have s1j := s1.trans sj
      refine ⟨rfl, .ref a, rfl, z, rfl, a, us, ts, z, p, lo, hi, rfl, s1j _ _ ha, ivt.same s1j, dz.same sj, fun rv ov => ?_⟩
      refine ⟨rfl, ?_⟩
      rw [ov.isN]
      refine ⟨_, rfl, ?_⟩
      refine ite2 (fun c => ?_) (fun c => ?_)
      · refine ⟨z, rfl, yes H' _ (Same.refl _) ?_⟩
        rw [take_filter ed, if_pos c]
        exact r.snoc (dz.same sj)
      · refine no H' (Same.refl _) ?_
        rw [take_filter ed, if_neg c, List.append_nil]
        exact r
    intro H2 ws2 s2 eD2 r
    rw [lz, List.take_length] at r
    exact q H2 D2 ws2 (s1.trans s2) (s1.free nD2) eD2 r
def sp_few : Sp := fun vs H Q _ => ∃ (a : Addr) (us : List V) (row : List (Int × Int)), vs = [.ref a] ∧ H a = some (.tup us) ∧ Ivs H us row ∧ Good row ∧ FewK row ∧ (blocksOf row).length ≤ 8 ∧ ∀ H', Same H H' → Q .non H'
theorem ok_require_few_blocks (T : Tx K mg f_depth_changes f_find_blocks f_is_number f_is_position f_is_tuple_of f_is_interval f_is_ascending f_has_position f_contains f_intersect f_is_demand f_serves f_conflict f_is_independent f_demands_at_blocks f_is_open f_open_demands f_shadow_target f_pieces_inside f_first_gap f_generates f_find_missing f_without_item f_require_few_blocks f_decisive_demands f_largest_independent f_unserved_demands f_helpful_piece f_smallest_solution f_count_needed f_solve f_are_witnesses f_solution_holds f_helps f_helpful_interval f_has_open_demand f_widen f_essential_targets f_core_targets f_is_free f_growth_counts f_law_draws f_law_next f_law_blocks f_law_wide f_law_call f_law_raised f_law_judged f_law f_TooWide_init X_TooWide X_NotGenerated X_OutOfRange X_TooMany X_SpanError d_depth_changes d_find_blocks d_is_number d_is_position d_is_tuple_of d_is_interval d_is_ascending d_has_position d_contains d_intersect d_is_demand d_serves d_conflict d_is_independent d_demands_at_blocks d_is_open d_open_demands d_shadow_target d_pieces_inside d_first_gap d_generates d_find_missing d_without_item d_require_few_blocks d_decisive_demands d_largest_independent d_unserved_demands d_helpful_piece d_smallest_solution d_count_needed d_solve d_are_witnesses d_solution_holds d_helps d_helpful_interval d_has_open_demand d_widen d_essential_targets d_core_targets d_is_free d_growth_counts d_law_draws d_law_next d_law_blocks d_law_wide d_law_call d_law_raised d_law_judged d_law d_TooWide_init t_LAST_POSITION t_MAX_BLOCKS) : FnOk P w K mg base CX0 3 f_require_few_blocks d_require_few_blocks ["intervals"] sp_few := by
  refine T.F_require_few_blocks.ok sc_require_few_blocks (fun vs H Q E h => ?_) (fun cdv A outer s H vs Q E hr h => ?_)
  · obtain ⟨a, us, row, rfl, _⟩ := h
    rfl
  · obtain ⟨a, us, row, rfl, ha, iv, g, lr, few, q⟩ := h
    refine ⟨_, (pss_one (ps_if (pt_cmpR op_gt (pe_callB call_len_seq (by rfl) T.z_len PySem.boot_len (pa_cons (pe_call (ok_find_blocks T) (hr.mono (by decide)) (by rfl) T.g_find_blocks T.F_find_blocks.kp T.b_find_blocks .nil pass0 (pa_cons (pv 0) pa_nil)) pa_nil)) (pe_glob (v := .int 8) (by rfl) T.c_MAX_BLOCKS ⟨_, rfl⟩) (nomark _))
      (pss_one ps_never)
      pss_nil)), ?_⟩
    refine ⟨.ref a, rfl, a, us, row, rfl, ha, iv, g, lr, fun H1 b ws s1 eb ivb => ?_⟩
    refine ⟨b, ws, rfl, .inr (SqT.of eb), _, _, rfl, rfl, _, rfl, ite2 (fun c => ?_) (fun _ => ?_)⟩
    · have c := of_decide_eq_true c
      rw [ivb.length] at c
      exact absurd c (by omega)
    · exact q H1 s1
def sp_count : Sp := fun vs H Q _ => ∃ (a b : Addr) (us ws : List V) (ts ps : List (Int × Int)), vs = [.ref a, .ref b] ∧ H a = some (.tup us) ∧ H b = some (.tup ws) ∧ Ivs H us ts ∧ Ivs H ws ps ∧ Good (ts ++ ps) ∧ ts.length ≤ 30 ∧ FewK (ts ++ ps) ∧ (blocksOf (ts ++ ps)).length ≤ 8 ∧ 8 * ts.length ≤ lgN ∧
  ∀ H', Same H H' → Q (.int (needO ts ps)) H'
theorem ok_count_needed (T : Tx K mg f_depth_changes f_find_blocks f_is_number f_is_position f_is_tuple_of f_is_interval f_is_ascending f_has_position f_contains f_intersect f_is_demand f_serves f_conflict f_is_independent f_demands_at_blocks f_is_open f_open_demands f_shadow_target f_pieces_inside f_first_gap f_generates f_find_missing f_without_item f_require_few_blocks f_decisive_demands f_largest_independent f_unserved_demands f_helpful_piece f_smallest_solution f_count_needed f_solve f_are_witnesses f_solution_holds f_helps f_helpful_interval f_has_open_demand f_widen f_essential_targets f_core_targets f_is_free f_growth_counts f_law_draws f_law_next f_law_blocks f_law_wide f_law_call f_law_raised f_law_judged f_law f_TooWide_init X_TooWide X_NotGenerated X_OutOfRange X_TooMany X_SpanError d_depth_changes d_find_blocks d_is_number d_is_position d_is_tuple_of d_is_interval d_is_ascending d_has_position d_contains d_intersect d_is_demand d_serves d_conflict d_is_independent d_demands_at_blocks d_is_open d_open_demands d_shadow_target d_pieces_inside d_first_gap d_generates d_find_missing d_without_item d_require_few_blocks d_decisive_demands d_largest_independent d_unserved_demands d_helpful_piece d_smallest_solution d_count_needed d_solve d_are_witnesses d_solution_holds d_helps d_helpful_interval d_has_open_demand d_widen d_essential_targets d_core_targets d_is_free d_growth_counts d_law_draws d_law_next d_law_blocks d_law_wide d_law_call d_law_raised d_law_judged d_law d_TooWide_init t_LAST_POSITION t_MAX_BLOCKS) : FnOk P w K mg base CX0 (lgN+5) f_count_needed d_count_needed ["targets", "pieces"] sp_count := by
  refine T.F_count_needed.ok sc_count_needed (fun vs H Q E h => ?_) (fun cdv A outer s H vs Q E hr h => ?_)
  · obtain ⟨a, b, us, ws, ts, ps, rfl, _⟩ := h
    rfl
  · obtain ⟨a, b, us, ws, ts, ps, rfl, ha, hb, ivt, ivp, g, lt, fk, few, ll, q⟩ := h
    refine ⟨_, (pss_cons (ps_expr (pe_call (ok_require_few_blocks T) (hr.mono (by decide)) (by rfl) T.g_require_few_blocks T.F_require_few_blocks.kp T.b_require_few_blocks .nil pass0 (pa_cons (pe_op op_catA (pv 0) (pv 1)) pa_nil)))
      (pss_one (ps_ret (pe_callB call_len_seq (by rfl) T.z_len PySem.boot_len (pa_cons (pe_call (ok_largest_independent T) (hr.mono (by decide)) (by rfl) T.g_largest_independent T.F_largest_independent.kp T.b_largest_independent .nil pass0 (pa_cons (pe_call (ok_decisive_demands T) (hr.mono (by decide)) (by rfl) T.g_decisive_demands T.F_decisive_demands.kp T.b_decisive_demands .nil pass0 (pa_cons (pv 0) (pa_cons (pv 1) pa_nil))) pa_nil)) pa_nil))))), ?_⟩
    have l60 : ts.length + ps.length ≤ 60 := by rw [← List.length_append]; exact fk.le
    have lu := ivt.length
    have lw := ivp.length
    refine ⟨.ref a, rfl, .ref b, rfl, catA_any ha hb (by rw [show sizeLine = 16777216 by decide]; omega) (fun H1 c s1 ec => ?_)⟩
    refine ⟨c, us ++ ws, ts ++ ps, rfl, ec, (ivt.same s1).append (ivp.same s1), g, fk, few, fun H2 s2 => ?_⟩
    have s12 := s1.trans s2
    refine ⟨.ref a, rfl, .ref b, rfl, a, b, us, ws, ts, ps, rfl, s12 _ _ ha, s12 _ _ hb, ivt.same s12, ivp.same s12, g, lt, fk, few, fun H3 D zs s3 _ eD dm => ?_⟩
    have dl := decO_len (ts := ts) (ps := ps)
    have d2 : (blocksOf (ts ++ ps)).length * ts.length ≤ 8 * ts.length := Nat.mul_le_mul_right _ few
    refine ⟨D, zs, _, rfl, eD, dm, by omega, by omega, fun H4 p ws4 s4 ep dm4 => ?_⟩
    refine ⟨p, ws4, rfl, .inr (SqT.of ep), ?_⟩
    rw [dm4.length]
    exact q H4 (s12.trans (s3.trans s4))

theorem mem_dab {ts bs : List (Int × Int)} {d : (Int × Int × Int)} : d ∈ dab ts bs ↔ ∃ t ∈ ts, ∃ x ∈ bs.map (·.1), atP t.1 t.2 x = true ∧ d = (x, t.1, t.2) := by
  unfold dab dabT
  rw [List.mem_flatMap]
  constructor
  · rintro ⟨b, hb, h⟩
    obtain ⟨t, ht, e⟩ := List.mem_map.mp h
    have z := List.mem_filter.mp ht
    exact ⟨t, z.1, b.1, List.mem_map.mpr ⟨b, hb, rfl⟩, z.2, e.symm⟩
  · rintro ⟨t, ht, x, hx, c, e⟩
    obtain ⟨b, hb, rfl⟩ := List.mem_map.mp hx
    exact ⟨b, hb, List.mem_map.mpr ⟨t, List.mem_filter.mpr ⟨ht, c⟩, e.symm⟩⟩

/-! ### what the targets need: the program's number is right -/
def Com (ts ps S : List (Int × Int)) : Prop := ∀ t ∈ ts, ∀ p, t.1 ≤ p → p ≤ t.2 → ∃ q ∈ ps ++ S, t.1 ≤ q.1 ∧ q.1 ≤ p ∧ p ≤ q.2 ∧ q.2 ≤ t.2
def OpenD (ts ps : List (Int × Int)) (d : Dem) : Prop := d.2 ∈ ts ∧ Vd d ∧ ∀ q ∈ ps, sv q d = false
theorem sv_svI (q : Int × Int) (d : Dem) : svI q.1 q.2 d.1 d.2.1 d.2.2 = sv q d := by
  rw [Bool.eq_iff_iff, sv_iff']
  unfold svI inI atP
  simp only [Bool.and_eq_true, decide_eq_true_eq]
  omega
theorem opB_iff {ps : List (Int × Int)} {d : Dem} : opB ps d = true ↔ ∀ q ∈ ps, sv q d = false := by
  unfold opB
  rw [Bool.not_eq_true', List.any_eq_false]
  constructor
  · intro h q hq
    have := h _ (List.mem_map.mpr ⟨q, hq, rfl⟩)
    rw [← sv_svI, ← Bool.not_eq_true]
    exact this
  · intro h b hb
    obtain ⟨q, hq, rfl⟩ := List.mem_map.mp hb
    have := h q hq
    rw [← sv_svI] at this
    rw [Bool.not_eq_true]
    exact this
def Shd (d : Dem) (t : Int × Int) : Prop := t ≠ d.2 ∧ d.2.1 ≤ t.1 ∧ t.2 ≤ d.2.2 ∧ t.1 ≤ d.1 ∧ d.1 ≤ t.2
theorem mem_dec {ts ps : List (Int × Int)} {d : Dem} : d ∈ decO ts ps ↔ OpenD ts ps d ∧ d.1 ∈ lowsOf (ts ++ ps) ∧ ∀ t ∈ ts, ¬ Shd d t := by
  unfold decO
  rw [List.mem_filter, List.mem_filter, opB_iff, mem_dab, Option.isNone_iff_eq_none, List.find?_eq_none]
  have sh : (∀ t ∈ ts, ¬ shB d.1 d.2.1 d.2.2 t = true) ↔ ∀ t ∈ ts, ¬ Shd d t := by
    have : ∀ t : Int × Int, shB d.1 d.2.1 d.2.2 t = true ↔ Shd d t := fun t => by
      unfold shB inI atP Shd
      simp only [Bool.and_eq_true, decide_eq_true_eq, Bool.not_eq_true', decide_eq_false_iff_not]
      constructor
      · rintro ⟨a, ⟨b, c⟩, e, f⟩
        exact ⟨a, b, c, e, f⟩
      · rintro ⟨a, b, c, e, f⟩
        exact ⟨a, ⟨b, c⟩, e, f⟩
    exact ⟨fun h t ht s => h t ht ((this t).mpr s), fun h t ht s => h t ht ((this t).mp s)⟩
  rw [sh]
  constructor
  · rintro ⟨⟨⟨t, ht, x, hx, at1, rfl⟩, op⟩, n⟩
    have z := Bool.and_eq_true_iff.mp at1
    exact ⟨⟨ht, ⟨of_decide_eq_true z.1, of_decide_eq_true z.2⟩, op⟩, hx, n⟩
  · rintro ⟨⟨ht, v, op⟩, hx, n⟩
    exact ⟨⟨⟨d.2, ht, d.1, hx, Bool.and_eq_true_iff.mpr ⟨decide_eq_true v.1, decide_eq_true v.2⟩, rfl⟩, op⟩, n⟩
theorem dec_fam {ts ps : List (Int × Int)} (g : Good (ts ++ ps)) : Fam (decO ts ps) := by
  refine ⟨fun d hd => ?_, fun d hd e he h1 h2 h3 c => ?_, fun d hd e he c => ?_⟩
  · have m := mem_dec.mp hd
    exact ⟨(g _ (List.mem_append_left _ m.1.1)).1, m.1.2.1⟩
  · have md := mem_dec.mp hd
    have me := mem_dec.mp he
    have c := cf_iff.mp c
    have vd := md.1.2.1
    have ve := me.1.2.1
    unfold Vd at vd ve
    have ex : ∀ q ∈ ps, sv q (d.1, e.2) = false ∧ sv q (e.1, d.2) = false := fun q hq => by
      have x := sv_exch (z := q) h1 h2 h3 (cf_iff.mpr c)
      rw [md.1.2.2 q hq, me.1.2.2 q hq] at x
      simp at x
      exact x
    constructor
    · refine mem_dec.mpr ⟨⟨me.1.1, ⟨c.1.1, c.1.2⟩, fun q hq => (ex q hq).1⟩, md.2.1, fun t ht s => ?_⟩
      obtain ⟨s1, s2, s3, s4, s5⟩ := s
      have s1 : t ≠ e.2 := s1
      have s2 : e.2.1 ≤ t.1 := s2
      have s3 : t.2 ≤ e.2.2 := s3
      have s4 : t.1 ≤ d.1 := s4
      have s5 : d.1 ≤ t.2 := s5
      by_cases k : e.1 ≤ t.2
      · exact me.2.2 t ht ⟨s1, s2, s3, by omega, k⟩
      · exact md.2.2 t ht ⟨fun z => by rw [z] at s2; omega, by omega, by omega, s4, s5⟩
    · refine mem_dec.mpr ⟨⟨md.1.1, ⟨c.2.1, c.2.2⟩, fun q hq => (ex q hq).2⟩, me.2.1, fun t ht s => ?_⟩
      obtain ⟨s1, s2, s3, s4, s5⟩ := s
      have s1 : t ≠ d.2 := s1
      have s2 : d.2.1 ≤ t.1 := s2
      have s3 : t.2 ≤ d.2.2 := s3
      have s4 : t.1 ≤ e.1 := s4
      have s5 : e.1 ≤ t.2 := s5
      by_cases k : t.1 ≤ d.1
      · exact md.2.2 t ht ⟨s1, s2, s3, k, by omega⟩
      · exact me.2.2 t ht ⟨fun z => by rw [z] at s3; omega, by omega, by omega, s4, s5⟩
  · have md := mem_dec.mp hd
    have me := mem_dec.mp he
    have c := cf_iff.mp c
    by_cases q : d.2 = e.2
    · exact .inl q
    · have n1 := md.2.2 e.2 me.1.1
      have n2 := me.2.2 d.2 md.1.1
      unfold Shd at n1 n2
      have q' : ¬ e.2 = d.2 := fun z => q z.symm
      have n1 : ¬ (d.2.1 ≤ e.2.1 ∧ e.2.2 ≤ d.2.2) := fun z => n1 ⟨q', z.1, z.2, c.1.1, c.1.2⟩
      have n2 : ¬ (e.2.1 ≤ d.2.1 ∧ d.2.2 ≤ e.2.2) := fun z => n2 ⟨q, z.1, z.2, c.2.1, c.2.2⟩
      have w := (mem_dec.mp hd).1.2.1
      omega
theorem sum_served {S : List (Int × Int)} : ∀ {D : List Dem}, (∀ d ∈ D, ∃ z ∈ S, sv z d = true) → D.length ≤ (S.map fun z => cov D z).sum := by
  intro D
  induction D with
  | nil => exact fun _ => Nat.zero_le _
  | cons d D ih =>
    intro h
    have r := ih fun e he => h e (List.mem_cons_of_mem _ he)
    obtain ⟨z, hz, s⟩ := h d List.mem_cons_self
    have step : ∀ T : List (Int × Int), (T.map fun z => cov (d :: D) z).sum = (T.map fun z => cov D z).sum + T.countP (fun z => sv z d) := by
      intro T
      induction T with
      | nil => rfl
      | cons w T it =>
        rw [List.map_cons, List.map_cons, List.sum_cons, List.sum_cons, it, cov_cons, List.countP_cons]
        omega
    rw [step, List.length_cons]
    have : 0 < S.countP (fun z => sv z d) := List.countP_pos_iff.mpr ⟨z, hz, s⟩
    omega
theorem sum_one {α : Type} {f : α → Nat} : ∀ {S : List α}, (∀ x ∈ S, f x ≤ 1) → (S.map f).sum ≤ S.length
  | [], _ => Nat.le_refl _
  | x :: S, h => by
    have r := sum_one (S := S) fun y hy => h y (List.mem_cons_of_mem _ hy)
    have := h x List.mem_cons_self
    rw [List.map_cons, List.sum_cons, List.length_cons]
    omega
/-- no fewer pieces than independent open demands -/
theorem weak_dual {ts ps S : List (Int × Int)} {D : List Dem} (c : Com ts ps S) (i : Ind D) (o : ∀ d ∈ D, OpenD ts ps d) : D.length ≤ S.length := by
  refine Nat.le_trans (sum_served (S := S) fun d hd => ?_) (sum_one fun z _ => i.cov_le z)
  obtain ⟨h1, h2, h3⟩ := o d hd
  obtain ⟨q, hq, k1, k2, k3, k4⟩ := c d.2 h1 d.1 h2.1 h2.2
  have s : sv q d = true := sv_iff'.mpr ⟨k1, k2, k3, k4⟩
  rcases List.mem_append.mp hq with hq | hq
  · rw [h3 q hq] at s
    cases s
  · exact ⟨q, hq, s⟩
theorem block_const {row : List (Int × Int)} (g : Good row) {b q : Int × Int} (hb : b ∈ blocksOf row) (hq : q ∈ row) {x : Int} (h1 : b.1 ≤ x) (h2 : x ≤ b.2) : (q.1 ≤ x ∧ x ≤ q.2) ↔ (q.1 ≤ b.1 ∧ b.2 ≤ q.2) := by
  have B := blocks_bl g
  have gq := g q hq
  constructor
  · rintro ⟨k1, k2⟩
    constructor
    · by_cases z : q.1 ≤ b.1
      · exact z
      · exact absurd ⟨q, hq, .inl rfl⟩ (B.inner hb (p := q.1) (by omega) (by omega))
    · by_cases z : b.2 ≤ q.2
      · exact z
      · exact absurd ⟨q, hq, .inr rfl⟩ (B.inner hb (p := q.2 + 1) (by omega) (by omega))
  · omega
theorem need_ok {ts ps : List (Int × Int)} (g : Good (ts ++ ps)) : (∃ D, Ind D ∧ (∀ d ∈ D, OpenD ts ps d) ∧ D.length = needO ts ps) ∧
    ∃ S, S.length ≤ needO ts ps ∧ Com ts ps S ∧ ∀ z ∈ S, ∃ t ∈ ts, t.1 ≤ z.1 ∧ z.1 ≤ z.2 ∧ z.2 ≤ t.2 := by
  have fam := dec_fam g
  have sub := lg_sub (decO ts ps).length (decO ts ps)
  refine ⟨⟨_, lg_ind _ _, fun d hd => (mem_dec.mp (sub.mem hd)).1, rfl⟩, ?_⟩
  obtain ⟨S, s1, s2⟩ := min_max (needO ts ps) fam fun I i1 i2 => lg_max _ _ (fun d hd => (fam.ok d hd).2) (Nat.le_refl _) I i1 i2
  have inn : ∀ d ∈ decO ts ps, d.2 ∈ ts ++ ps := fun d hd => List.mem_append_left _ (mem_dec.mp hd).1.1
  -- stretched to whole blocks
  have wide : ∀ z : Int × Int, (∃ d ∈ decO ts ps, sv z d = true) → ∃ w : Int × Int, (∀ d ∈ decO ts ps, sv z d = true → sv w d = true) ∧ ∃ b ∈ blocksOf (ts ++ ps), w.2 = b.2 := by
    rintro z ⟨d, hd, s⟩
    have s := sv_iff'.mp s
    have p1 : 0 < depI (ts ++ ps) z.1 := dep_pos.mpr ⟨d.2, inn d hd, s.1, by omega⟩
    have p2 : 0 < depI (ts ++ ps) z.2 := dep_pos.mpr ⟨d.2, inn d hd, by omega, s.2.2.2⟩
    obtain ⟨b, hb, b1, b2⟩ := dep_in g p1
    obtain ⟨c, hc, c1, c2⟩ := dep_in g p2
    refine ⟨(b.1, c.2), fun e he se => ?_, c, hc, rfl⟩
    have se := sv_iff'.mp se
    have k1 := (block_const g hb (inn e he) b1 b2).mp ⟨se.1, by omega⟩
    have k2 := (block_const g hc (inn e he) c1 c2).mp ⟨by omega, se.2.2.2⟩
    refine sv_iff'.mpr ⟨k1.1, ?_, ?_, k2.2⟩
    · show b.1 ≤ e.1
      omega
    · show e.1 ≤ c.2
      omega
  have ch : ∀ z : Int × Int, ∃ w : Int × Int, (∃ d ∈ decO ts ps, sv z d = true) → (∀ d ∈ decO ts ps, sv z d = true → sv w d = true) ∧ ∃ b ∈ blocksOf (ts ++ ps), w.2 = b.2 := fun z => by
    by_cases h : ∃ d ∈ decO ts ps, sv z d = true
    · obtain ⟨w, hw⟩ := wide z h
      exact ⟨w, fun _ => hw⟩
    · exact ⟨z, fun k => absurd k h⟩
  obtain ⟨f, hf⟩ := Classical.axiomOfChoice ch
  let use : Int × Int → Bool := fun z => (decO ts ps).any fun d => sv z d
  have useI : ∀ z, use z = true ↔ ∃ d ∈ decO ts ps, sv z d = true := fun z => List.any_eq_true
  refine ⟨(S.filter use).map f, ?_, fun t ht p h1 h2 => ?_, fun w hw => ?_⟩
  · rw [List.length_map]
    exact Nat.le_trans (List.length_filter_le _ _) s1
  · by_cases pc : ∃ q ∈ ps, t.1 ≤ q.1 ∧ q.1 ≤ p ∧ p ≤ q.2 ∧ q.2 ≤ t.2
    · obtain ⟨q, hq, k⟩ := pc
      exact ⟨q, List.mem_append_left _ hq, k⟩
    · have mt : t ∈ ts ++ ps := List.mem_append_left _ ht
      obtain ⟨b, hb, b1, b2⟩ := dep_in g (dep_pos.mpr ⟨t, mt, h1, h2⟩)
      have kt := (block_const g hb mt b1 b2).mp ⟨h1, h2⟩
      have bb : b.1 ≤ b.2 := by omega
      -- a shortest target inside t that contains the block
      have short : ∀ (n : Nat) (u : Int × Int), u ∈ ts → t.1 ≤ u.1 → u.2 ≤ t.2 → u.1 ≤ b.1 → b.1 ≤ u.2 → (u.2 - u.1).toNat ≤ n → ∃ v ∈ ts, t.1 ≤ v.1 ∧ v.2 ≤ t.2 ∧ v.1 ≤ b.1 ∧ b.1 ≤ v.2 ∧ ∀ x ∈ ts, ¬ Shd (b.1, v) x := by
        intro n
        induction n with
        | zero =>
          intro u hu a1 a2 a3 a4 a5
          refine ⟨u, hu, a1, a2, a3, a4, fun x hx s => ?_⟩
          obtain ⟨z1, z2, z3, z4, z5⟩ := s
          have z2 : u.1 ≤ x.1 := z2
          have z3 : x.2 ≤ u.2 := z3
          have z4 : x.1 ≤ b.1 := z4
          have z5 : b.1 ≤ x.2 := z5
          exact z1 (Prod.ext (by show x.1 = u.1; omega) (by show x.2 = u.2; omega))
        | succ n ih =>
          intro u hu a1 a2 a3 a4 a5
          by_cases k : ∀ x ∈ ts, ¬ Shd (b.1, u) x
          · exact ⟨u, hu, a1, a2, a3, a4, k⟩
          · have ⟨x, hx, s⟩ : ∃ x ∈ ts, Shd (b.1, u) x := Classical.byContradiction fun z => k fun x hx s => z ⟨x, hx, s⟩
            obtain ⟨z1, z2, z3, z4, z5⟩ := s
            have z2 : u.1 ≤ x.1 := z2
            have z3 : x.2 ≤ u.2 := z3
            have z4 : x.1 ≤ b.1 := z4
            have z5 : b.1 ≤ x.2 := z5
            have ne : ¬ (x.1 = u.1 ∧ x.2 = u.2) := fun e => z1 (Prod.ext e.1 e.2)
            exact ih x hx (by omega) (by omega) z4 z5 (by omega)
      obtain ⟨v, hv, v1, v2, v3, v4, v5⟩ := short _ t ht (Int.le_refl _) (Int.le_refl _) kt.1 (by omega) (Nat.le_refl _)
      have md : (b.1, v) ∈ decO ts ps := by
        refine mem_dec.mpr ⟨⟨hv, ⟨v3, v4⟩, fun q hq => ?_⟩, List.mem_map.mpr ⟨b, hb, rfl⟩, v5⟩
        rw [← Bool.not_eq_true]
        intro s
        have s := sv_iff'.mp s
        have s1 : v.1 ≤ q.1 := s.1
        have s2 : q.1 ≤ b.1 := s.2.1
        have s3 : b.1 ≤ q.2 := s.2.2.1
        have s4 : q.2 ≤ v.2 := s.2.2.2
        have kq := (block_const g hb (List.mem_append_right _ hq) (Int.le_refl _) bb).mp ⟨s2, s3⟩
        exact pc ⟨q, hq, by omega, by omega, by omega, by omega⟩
      obtain ⟨z, hz, sz⟩ := s2 _ md
      obtain ⟨fw, c, hc, ec⟩ := hf z ⟨_, md, sz⟩
      have sw := sv_iff'.mp (fw _ md sz)
      have w1 : v.1 ≤ (f z).1 := sw.1
      have w2 : (f z).1 ≤ b.1 := sw.2.1
      have w3 : b.1 ≤ (f z).2 := sw.2.2.1
      have w4 : (f z).2 ≤ v.2 := sw.2.2.2
      refine ⟨f z, List.mem_append_right _ (List.mem_map.mpr ⟨z, List.mem_filter.mpr ⟨hz, (useI z).mpr ⟨_, md, sz⟩⟩, rfl⟩), by omega, by omega, ?_, by omega⟩
      obtain ⟨i, ei⟩ := List.getElem?_of_mem hb
      obtain ⟨j, ej⟩ := List.getElem?_of_mem hc
      have B := blocks_bl g
      have cc : c.1 ≤ c.2 := by
        have := B.ok c hc
        omega
      rcases Nat.lt_trichotomy i j with l | l | l
      · have := B.idx l ei ej
        omega
      · subst l
        rw [ei] at ej
        cases ej
        omega
      · have := B.idx l ej ei
        omega
  · obtain ⟨z, hz, rfl⟩ := List.mem_map.mp hw
    obtain ⟨d, hd, s⟩ := (useI z).mp (List.mem_filter.mp hz).2
    have sw := sv_iff'.mp ((hf z ⟨d, hd, s⟩).1 d hd s)
    exact ⟨d.2, (mem_dec.mp hd).1.1, sw.1, by omega, sw.2.2.2⟩

/-! ### sorted(set(pairs)) -/
def ltP (a b : Int × Int) : Prop := a.1 < b.1 ∨ (a.1 = b.1 ∧ a.2 < b.2)
def prL (q : Int × Int) : List Int := [q.1, q.2]
theorem prL_inj {a b : Int × Int} (h : prL a = prL b) : a = b := by
  unfold prL at h
  cases a
  cases b
  simp at h
  rw [h.1, h.2]
theorem mem_prL {q : Int × Int} {ps : List (Int × Int)} : prL q ∈ ps.map prL ↔ q ∈ ps := by
  rw [List.mem_map]
  exact ⟨fun ⟨a, ha, e⟩ => prL_inj e ▸ ha, fun h => ⟨q, h, rfl⟩⟩
theorem Ivs.keys {H : Hp} {us : List V} {ps : List (Int × Int)} (h : Ivs H us ps) : ∃ ks : List (Addr × List Int), us = ks.map (fun p => V.ref p.1) ∧ ks.map (·.2) = ps.map prL ∧ ∀ p ∈ ks, ∃ x y : Int, p.2 = [x, y] ∧ H p.1 = some (.tup [.int x, .int y]) := by
  induction h with
  | nil => exact ⟨[], rfl, rfl, fun p hp => nomatch hp⟩
  | cons e _ ih =>
    obtain ⟨ks, e1, e2, e3⟩ := ih
    refine ⟨(_, [_, _]) :: ks, by rw [List.map_cons, e1], by rw [List.map_cons, List.map_cons, e2]; rfl, fun p hp => ?_⟩
    rcases List.mem_cons.mp hp with rfl | hp
    · exact ⟨_, _, rfl, e⟩
    · exact e3 p hp
theorem Ivs.ofKeys {H : Hp} : ∀ {L : List (Addr × List Int)}, (∀ p ∈ L, ∃ x y : Int, p.2 = [x, y] ∧ H p.1 = some (.tup [.int x, .int y])) → ∃ ps, Ivs H (L.map fun p => V.ref p.1) ps ∧ L.map (·.2) = ps.map prL
  | [], _ => ⟨[], .nil, rfl⟩
  | p :: L, h => by
    obtain ⟨x, y, e, e1⟩ := h p List.mem_cons_self
    obtain ⟨ps, i, e2⟩ := Ivs.ofKeys (L := L) fun q hq => h q (List.mem_cons_of_mem _ hq)
    exact ⟨(x, y) :: ps, .cons e1 i, by rw [List.map_cons, List.map_cons, e2, e]; rfl⟩
theorem Ivs.tpsMem {H : Hp} {us : List V} {ps : List (Int × Int)} (h : Ivs H us ps) {q : Int × Int} (hq : q ∈ ps) : ∃ a, V.ref a ∈ us ∧ H a = some (.tup [.int q.1, .int q.2]) := by
  induction h with
  | nil => cases hq
  | cons e _ ih =>
    rcases List.mem_cons.mp hq with rfl | hq
    · exact ⟨_, List.mem_cons_self, e⟩
    · obtain ⟨a, h1, h2⟩ := ih hq
      exact ⟨a, List.mem_cons_of_mem _ h1, h2⟩
theorem sorted_keys {K : PySem.W.Frag} {P : Program} {w : World} {H : Hp} {ps : List (Int × Int)} {Q : VK} {ks L : List (Addr × List Int)} {a : Addr} (e2 : ks.map (·.2) = ps.map prL) (e3 : ∀ p ∈ ks, ∃ x y : Int, p.2 = [x, y] ∧ H p.1 = some (.tup [.int x, .int y])) (na : H a = none) (h1 : ∀ p ∈ L, p ∈ ks) (h2 : ∀ p ∈ ks, p.2 ∈ L.map (·.2)) (bd : ∀ q ∈ ps, (0 ≤ q.1 ∧ q.1 < 10 ^ 13) ∧ 0 ≤ q.2 ∧ q.2 < 10 ^ 13)
    (fin : ∀ H' p us' ps', Same H H' → H p = none → H' p = some (.lst us') → Ivs H' us' ps' → ps'.Pairwise ltP → (∀ q, q ∈ ps' ↔ q ∈ ps) → Q (.ref p) H') :
    rSortedT K P w [.ref a] (upd H a (SetTO P w a L)) Q := by
  have s1 : Same H (upd H a (SetTO P w a L)) := same_new na
  refine ⟨a, L, 2, 10 ^ 13, rfl, upd_same, fun p hp => ?_, by decide, fun p hp => ?_, fun L' p pm nd fw pw np => ?_⟩
  · obtain ⟨x, y, e, e1⟩ := e3 p (h1 p hp)
    rw [e]
    exact SqT.of (s1 _ _ e1)
  · have m : p.2 ∈ ks.map (·.2) := List.mem_map.mpr ⟨p, h1 p hp, rfl⟩
    rw [e2] at m
    obtain ⟨q, hq, e⟩ := List.mem_map.mp m
    have b := bd q hq
    rw [← e]
    refine ⟨rfl, fun m hm => ?_⟩
    unfold prL at hm
    rcases List.mem_cons.mp hm with rfl | hm
    · exact b.1
    · rw [List.mem_singleton.mp hm]
      exact b.2
  · have s2 : Same (upd H a (SetTO P w a L)) (upd (upd H a (SetTO P w a L)) p (.lst (L'.map fun q => V.ref q.1))) := same_new np
    obtain ⟨ps', i, e4⟩ := Ivs.ofKeys (H := H) (L := L') fun q hq => e3 q (h1 q (pm.mem_iff.mp hq))
    have mem : ∀ q, q ∈ ps' ↔ q ∈ ps := fun q => by
      rw [← mem_prL, ← e4, ← mem_prL (ps := ps), ← e2, (pm.map (·.2)).mem_iff]
      constructor
      · intro h
        obtain ⟨p, hp, e⟩ := List.mem_map.mp h
        exact List.mem_map.mpr ⟨p, h1 p hp, e⟩
      · intro h
        obtain ⟨p, hp, e⟩ := List.mem_map.mp h
        rw [← e]
        exact h2 p hp
    refine fin _ p _ ps' (s1.trans s2) (s1.free np) upd_same (i.same (s1.trans s2)) ?_ mem
    have pw2 : (L'.map (·.2)).Pairwise (fun q r => TS.code (10 ^ 13) q ≤ TS.code (10 ^ 13) r) := List.pairwise_map.mpr pw
    have both := pw2.and nd
    rw [e4] at both
    refine (List.pairwise_map.mp both).imp_of_mem fun {x y} hx hy h => ?_
    have bx := bd x ((mem x).mp hx)
    have bY := bd y ((mem y).mp hy)
    have tb : ∀ {z : Int × Int}, ((0 ≤ z.1 ∧ z.1 < 10 ^ 13) ∧ 0 ≤ z.2 ∧ z.2 < 10 ^ 13) → TS.Bd (10 ^ 13) [z.1, z.2] := fun b m hm => by
      rcases List.mem_cons.mp hm with rfl | hm
      · exact b.1
      · rw [List.mem_singleton.mp hm]
        exact b.2
    rcases code_lex (tb bx) (tb bY) h.1 with c | ⟨c1, c2⟩
    · exact .inl c
    · refine .inr ⟨c1, ?_⟩
      rcases Int.lt_or_eq_of_le c2 with z | z
      · exact z
      · exact absurd (show prL x = prL y by unfold prL; rw [c1, z]) h.2
theorem sorted_set_pairs {K : PySem.W.Frag} {P : Program} {w : World} {H : Hp} {l : Addr} {us : List V} {ps : List (Int × Int)} {Q : VK} (hl : SqL K H l us) (iv : Ivs H us ps) (few : ps.length < 64) (bd : ∀ q ∈ ps, (0 ≤ q.1 ∧ q.1 < 10 ^ 13) ∧ 0 ≤ q.2 ∧ q.2 < 10 ^ 13)
    (fin : ∀ H' p us' ps', Same H H' → H p = none → H' p = some (.lst us') → Ivs H' us' ps' → ps'.Pairwise ltP → (∀ q, q ∈ ps' ↔ q ∈ ps) → Q (.ref p) H') :
    rSetOfT K P w [.ref l] H (fun x H1 => rSortedT K P w [x] H1 Q) := by
  obtain ⟨ks, rfl, e2, e3⟩ := iv.keys
  have lk : ks.length = ps.length := by
    have z := congrArg List.length e2
    rw [List.length_map, List.length_map] at z
    exact z
  refine ⟨l, ks, rfl, hl, fun p hp => ?_, by omega, fun a L na h1 h2 => ?_⟩
  · obtain ⟨x, y, e, e1⟩ := e3 p hp
    rw [e]
    exact SqT.of e1
  exact sorted_keys e2 e3 na h1 h2 bd fin

def leP (a b : Int × Int) : Prop := a.1 < b.1 ∨ (a.1 = b.1 ∧ a.2 ≤ b.2)
theorem leP_of_lt {ps : List (Int × Int)} (h : ps.Pairwise ltP) : ps.Pairwise leP := h.imp fun {a b} h => by
  rcases h with h | h
  · exact .inl h
  · exact .inr ⟨h.1, by omega⟩
theorem leP_uniq {ps qs : List (Int × Int)} (h1 : ps.Pairwise leP) (h2 : qs.Pairwise leP) (pm : ps.Perm qs) : ps = qs := by
  refine pm.eq_of_pairwise (le := leP) (fun a b _ _ x y => ?_) h1 h2
  have : a.1 = b.1 ∧ a.2 = b.2 := by
    unfold leP at x y
    omega
  exact Prod.ext this.1 this.2

theorem sorted_set_pairsT {K : PySem.W.Frag} {P : Program} {w : World} {H : Hp} {l : Addr} {us : List V} {ps : List (Int × Int)} {Q : VK} (hl : H l = some (.tup us)) (iv : Ivs H us ps) (few : ps.length < 64) (bd : ∀ q ∈ ps, (0 ≤ q.1 ∧ q.1 < 10 ^ 13) ∧ 0 ≤ q.2 ∧ q.2 < 10 ^ 13)
    (fin : ∀ H' p us' ps', Same H H' → H p = none → H' p = some (.lst us') → Ivs H' us' ps' → ps'.Pairwise ltP → (∀ q, q ∈ ps' ↔ q ∈ ps) → Q (.ref p) H') :
    rSetOfTT K P w [.ref l] H (fun x H1 => rSortedT K P w [x] H1 Q) := by
  obtain ⟨ks, rfl, e2, e3⟩ := iv.keys
  -- the same keys, in a list that nobody holds: what follows is as there
  have lk : ks.length = ps.length := by
    have z := congrArg List.length e2
    rw [List.length_map, List.length_map] at z
    exact z
  refine ⟨l, ks, rfl, SqT.of hl, fun p hp => ?_, by omega, fun a L na h1 h2 => ?_⟩
  · obtain ⟨x, y, e, e1⟩ := e3 p hp
    rw [e]
    exact SqT.of e1
  exact sorted_keys e2 e3 na h1 h2 bd fin

/-! ### sorted(t), t a tuple of pairs of ints -/
section
variable {prog : Program} {w : World} {A : Around} {E : Value → Shared → Prop} {s : Shared}
/-- the items of a tuple, gathered in a new list -/
theorem collectT {Q : List Value → Shared → Prop} {t : Addr} {o : Obj} {xs : Array Value} {n : Nat} (ho : s.heap.get? t = some o) (hc : o.cls = .type "tuple") (hd : o.data = .seq xs n) (sz : xs.size ≤ sizeLine)
    (fin : ∀ g, s.heap.objs.size ≤ g.objs.size → (∀ b u, s.heap.get? b = some u → g.get? b = some u) → Q xs.toList { s with heap := g }) : wpAny (model prog w) A (collect (.ref t)) Q E s := by
  obtain ⟨g0, eg0⟩ : ∃ g0, s.heap.push { cls := .type "list", data := .seq ([] : List Value).toArray } = g0 := ⟨_, rfl⟩
  have n0 : g0.get? s.heap.objs.size = some { cls := .type "list", data := .seq #[] 0 } := by
    rw [← eg0]
    exact Heap.get?_push_size _ rfl
  have z0 : g0.objs.size = s.heap.objs.size + 1 := by
    rw [← eg0]
    exact Heap.size_push ..
  have k0 : ∀ b u, s.heap.get? b = some u → g0.get? b = some u := fun b u e => by
    rw [← eg0]
    exact Heap.get?_push_of_some _ e
  have n1 := Heap.get?_update_self (Obj.mapSeq (· ++ xs)) n0 rfl
  have last : ∀ s' : Shared, s' = { s with heap := g0.update s.heap.objs.size (Obj.mapSeq (· ++ xs)) } → wpAny (model prog w) A (match Value.ref s.heap.objs.size with
      | Value.ref a => do
        match (← load a).data with
          | Data.seq ys _ => pure ys.toList
          | _ => unsupported "internal:collect"
      | _ => unsupported "internal:collect") Q E s' := fun s' es => by
    rw [es]
    refine wpAny_bind (m := load s.heap.objs.size) (wpAny_load n1 (wpAny_pure ?_))
    show Q ((#[] : Array Value) ++ xs).toList _
    rw [show ((#[] : Array Value) ++ xs).toList = xs.toList by simp]
    refine fin _ (by rw [Heap.size_update, z0]; omega) fun b u e => ?_
    exact (Heap.get?_update_other _ _ (Nat.ne_of_gt (Heap.lt_size e))).trans (k0 b u e)
  unfold collect
  refine wpAny_bind (wpAny_runValue (codeAny_builtin (b := _) F.entry_proto_collect ?_))
  rw [Around.under_plainId (F.plain_proto_collect) _]
  show wpAny _ A.in1 (newList [] >>= fun l => again (.builtin "list.__iadd__" ⟨[l, .ref t], []⟩)) _ _ s
  refine wpAny_bind (wpAny_newObj_type (wpAny_pure ⟨plainId_quiet (F.plain_list_iadd) _, codeAny_builtin (b := _) F.entry_list_iadd ?_⟩))
  rw [Around.under_plainId (F.plain_list_iadd) _, eg0]
  show wpAny _ A.in1 (Builtin.List.listExtendWith (Value.ref s.heap.objs.size) (.ref t) (.ref s.heap.objs.size)) _ _ _
  refine wpAny_mono (wpAny_extend_seq (hsz := sz) (A := A) (R := fun r s' => r = .ok (.ret (.ref s.heap.objs.size)) ∧ s' = { s with heap := g0.update s.heap.objs.size (Obj.mapSeq (· ++ xs)) }) (s := { s with heap := g0 }) _ t _ 0 (.inr rfl) n0 (k0 _ _ ho) hc hd ⟨rfl, rfl⟩) (fun f s' h => ?_) (fun e s' h => absurd h.1 (by simp))
  cases f with
  | done f =>
    obtain ⟨e, h2⟩ := h
    cases e
    exact last s' h2
  | again c => exact ⟨h.1, codeAny_mono h.2 fun r s2 hr => by obtain ⟨rfl, h2⟩ := hr; exact last s2 h2⟩
theorem sortedTup {l : Addr} {vs : List Value} {k : Value → Int × Int} {Q : Value → Shared → Prop} (isT : IsTup s.heap l vs.toArray) (sz : vs.length ≤ sizeLine) (prs : ∀ v ∈ vs, Srt.IsPair s.heap v (k v).1 (k v).2)
    (fin : ∀ (h' : Heap) (d : Addr) (out : List Value), SrtO.Srtd (fun v u => SrtO.lexB (k v) (k u)) out → out.Perm vs → (∀ b o, s.heap.get? b = some o → h'.get? b = some o) → s.heap.objs.size ≤ d → (∃ n, h'.get? d = some (seqObj "list" out.toArray n)) → Q (.ref d) { s with heap := h' }) :
    wpAny (model prog w) A (call (.builtin "sorted") [.ref l]) Q E s := by
  refine Calls.call_function_entry kind_sorted (plain_sorted) entry_sorted (args_sorted1 _) ?_
  unfold Builtin.«sorted»
  refine wpAny_bind (m := checkCount "sorted" 1 1 _) (wpAny_pure (wpAny_bind ?_))
  obtain ⟨o, ho, hc, n, hd⟩ := isT
  refine collectT ho hc hd (by rw [List.size_toArray]; exact sz) (fun h1 big k1 => ?_)
  rw [List.toList_toArray]
  refine wpAny_bind (wpAny_newList ?_ sz)
  have own : (h1.push (seqObj "list" vs.toArray 0)).get? h1.objs.size = some (seqObj "list" vs.toArray 0) := Heap.get?_push_size _ rfl
  have keep : ∀ b o, s.heap.get? b = some o → b ≠ h1.objs.size ∧ b < (h1.push (seqObj "list" vs.toArray 0)).objs.size ∧ (h1.push (seqObj "list" vs.toArray 0)).get? b = some o := fun b o e => by
    have lt : b < h1.objs.size := Heap.lt_size (k1 b o e)
    exact ⟨Nat.ne_of_lt lt, by rw [Heap.size_push]; exact Nat.lt_succ_of_lt lt, Heap.get?_push_of_some _ (k1 b o e)⟩
  show wpAny _ _ _ _ _ { s with heap := h1.push (seqObj "list" vs.toArray 0) }
  refine wpAny_bind (wpAny_holding (wpAny_call_entry slot_list_sort ⟨_, own, rfl⟩ entry_list_sort (SrtO.list_sort_ord (SrtO.swo_lex k) own sz (fun h2 => ?_) fun out hs hb => ⟨_, rfl, ?_⟩) (args_list_sort _)))
  · refine SrtO.pairs_sortableO (s := { s with heap := h1.push (seqObj "list" vs.toArray 0) }) (by omega) (fun v hm => (prs v hm).keeps fun b o e _ => (keep b o e).2.2) fun o' e' => ?_
    have z : some o' = some (seqObj "list" vs.toArray 0) := e'.symm.trans own
    cases z
    exact fun c => absurd (Value.type.inj c) (by decide)
  · refine wpAny_pure ⟨_, rfl, fin _ _ out hs hb.perm (fun b o e => ?_) big (sortedHeap_at own)⟩
    have z := keep b o e
    rw [sortedHeap_old z.1 z.2.1]
    exact z.2.2
end
def rSortTP (K : PySem.W.Frag) : List V → Hp → VK → Prop := fun vs H Q => ∃ (a : Addr) (us : List V) (ps : List (Int × Int)), vs = [V.ref a] ∧ SqT K H a us ∧ Ivs H us ps ∧
  ∀ H' p us' ps', Same H H' → H p = none → H' p = some (.lst us') → Ivs H' us' ps' → ps'.Pairwise leP → ps'.Perm ps → Q (.ref p) H'
theorem Ivs.mem1 {H : Hp} {vs : List V} {ps : List (Int × Int)} (h : Ivs H vs ps) {v : V} (hv : v ∈ vs) : ∃ a q, q ∈ ps ∧ v = .ref a ∧ H a = some (.tup [.int q.1, .int q.2]) := by
  obtain ⟨i, ei⟩ := List.getElem?_of_mem hv
  obtain ⟨a, x, y, e, ep, ea⟩ := h.get ei
  exact ⟨a, (x, y), List.mem_of_getElem? ep, e, ea⟩
noncomputable def pairAt (H : Hp) (v : V) : Int × Int := Classical.epsilon fun q => ∃ a, v = .ref a ∧ H a = some (.tup [.int q.1, .int q.2])
theorem pairAt_eq {H : Hp} {a : Addr} {x y : Int} (h : H a = some (.tup [.int x, .int y])) : pairAt H (.ref a) = (x, y) := by
  have e : ∃ q : Int × Int, ∃ b, V.ref a = .ref b ∧ H b = some (.tup [.int q.1, .int q.2]) := ⟨(x, y), a, rfl, h⟩
  obtain ⟨b, e1, e2⟩ := Classical.epsilon_spec e
  cases e1
  have e2 : H a = some (.tup [.int (pairAt H (.ref a)).1, .int (pairAt H (.ref a)).2]) := e2
  rw [h] at e2
  have z := Option.some.inj e2
  injection z with z
  injection z with z1 z2
  injection z2 with z2 _
  injection z1 with z1
  injection z2 with z2
  exact Prod.ext z1.symm z2.symm
theorem Ivs.pairAt {H : Hp} {vs : List V} {ps : List (Int × Int)} (h : Ivs H vs ps) : vs.map (pairAt H) = ps := by
  induction h with
  | nil => rfl
  | cons e _ ih => rw [List.map_cons, ih, pairAt_eq e]
theorem Ivs.perm1 {H : Hp} {xs ys : List V} (pm : ys.Perm xs) : ∀ {ps : List (Int × Int)}, Ivs H xs ps → ∃ ps', Ivs H ys ps' ∧ ps'.Perm ps := by
  induction pm with
  | nil =>
    intro ps h
    exact ⟨ps, h, .refl _⟩
  | cons x _ ih =>
    intro ps h
    cases h with
    | cons e h =>
      obtain ⟨ps', h', p'⟩ := ih h
      exact ⟨_ :: ps', .cons e h', p'.cons _⟩
  | swap x y l =>
    intro ps h
    cases h with
    | cons e h =>
      cases h with
      | cons e2 h => exact ⟨_, .cons e2 (.cons e h), .swap _ _ _⟩
  | trans _ _ ih1 ih2 =>
    intro ps h
    obtain ⟨p2, h2, q2⟩ := ih2 h
    obtain ⟨p1, h1, q1⟩ := ih1 h2
    exact ⟨p1, h1, q1.trans q2⟩
theorem cr_sortTP {X : Cx} : CallR X (.builtin "sorted") (rSortTP X.K) := by
  intro pins s σ H vs us0 Q I r h
  obtain ⟨a, us, ps, rfl, hs, iv, q⟩ := h
  obtain ⟨its, rv, isT, sz⟩ := I.tuple hs
  obtain ⟨u, rfl, ru⟩ := vals1 r
  obtain rfl : u = Value.ref a := ru
  obtain ⟨e1, e2⟩ := refs_back rv fun x m => by
    obtain ⟨t, q, _, e, _⟩ := iv.mem1 m
    exact ⟨t, e⟩
  refine sortedTup (k := fun u => pairAt H (backV u)) isT (by rw [← rv.length]; exact sz) (fun v hv => ?_) fun h' d out h1 pmo kp hd hn => ?_
  · obtain ⟨t, rfl⟩ := e2 v hv
    have hm : V.ref t ∈ us := by rw [e1]; exact List.mem_map.mpr ⟨_, hv, rfl⟩
    obtain ⟨t', pq, _, e, ht⟩ := iv.mem1 hm
    cases e
    obtain ⟨_, its2, r2, o, ho, hc, n, hd⟩ := I.hok _ _ ht
    obtain ⟨u1, u2, rfl, ri, rj⟩ := vals2 r2
    obtain ⟨t1, rfl⟩ := ri
    obtain ⟨t2, rfl⟩ := rj
    show Srt.IsPair _ _ (pairAt H (.ref t)).1 (pairAt H (.ref t)).2
    rw [pairAt_eq ht]
    exact ⟨t, o, t1, t2, n, rfl, ho, hc, hd⟩
  · have h3 : ∀ u ∈ out, ∃ a, u = Value.ref a := fun u hu => e2 u (pmo.mem_iff.mp hu)
    obtain ⟨n, hn⟩ := hn
    have pm : (out.map backV).Perm us := by
      rw [e1]
      exact pmo.map backV
    obtain ⟨qs, ivq, pmq⟩ := Ivs.perm1 pm iv
    have fr : H d = none := I.hok.fresh hd
    have s1 : Same H (upd H d (.lst (out.map backV))) := same_new fr
    have asc : qs.Pairwise leP := by
      rw [← ivq.pairAt]
      refine List.pairwise_map.mpr (List.pairwise_map.mpr (List.Pairwise.imp (fun {x y} z => ?_) h1))
      have z := SrtO.lexB_no.mp z
      unfold leP
      omega
    refine ⟨.ref d, upd H d (.lst (out.map backV)), I.laid (t' := s.toks) kp hd ⟨?_, out, n, vals_back h3, hn⟩, rfl, q _ d _ qs s1 fr upd_same (ivq.same s1) asc pmq⟩
    rw [pm.length_eq]
    exact sz

/-! ### comprehensions over a range that change nothing but make new objects -/
theorem lcR {lo : Int} {n : Nat} {g : TG} {tt : TT} {te : TE} {vs : List Nat} {σ : L2.St} {H1 : Hp} {D : Addr} {Qd : Hp → Prop} (R : Nat → Hp → List V → Prop) (nD : H1 D = none) (few : n < 1000)
    (mono : ∀ i H' H'' ws, Tps H' H'' → R i H' ws → R i H'' ws) (len : ∀ i H' ws, R i H' ws → ws.length ≤ i) (r0 : ∀ H', R 0 H' [])
    (hs : ∀ i H' (N : Hp → Prop) acc, i < n → Same H1 H' → H' D = some (.lst acc) → acc.length < sizeLine → R i H' acc → (∀ H'', Same H' H'' → R (i + 1) H'' acc → N H'') → (∀ H'' y, Same H' H'' → R (i + 1) H'' (acc ++ [y]) → ∃ acc', H'' D = some (.lst acc') ∧ acc'.length < sizeLine ∧ N (upd H'' D (.lst (acc' ++ [y])))) →
      g (.int (lo + i)) (wipe σ vs) H' fun σ2 H2 => wipe σ2 vs = wipe σ vs ∧ tt σ2 H2 fun b H3 => if b = true then te σ2 H3 fun y H4 => ∃ acc, H4 D = some (.lst acc) ∧ acc.length < sizeLine ∧ N (upd H4 D (.lst (acc ++ [y]))) else N H3)
    (hd : ∀ H' ws, Same H1 H' → H' D = some (.lst ws) → R n H' ws → Qd H') :
    ∃ W : Nat → Nat → Hp → Prop, (∃ m, W 0 m (upd H1 D (.lst []))) ∧ ∀ i m H, W i m H →
      ((Itr lo n).stop i H ∧ Qd H) ∨ ((Itr lo n).go i H ∧ ∃ Nx : Hp → Prop, (∀ H', Nx H' → ∃ m', m' < m ∧ W (i + 1) m' H') ∧ ∀ x H', (Itr lo n).yld i H x H' → g x (wipe σ vs) H' fun σ2 H2 => wipe σ2 vs = wipe σ vs ∧ tt σ2 H2 fun b H3 =>
        if b = true then te σ2 H3 fun y H4 => ∃ acc, H4 D = some (.lst acc) ∧ acc.length < sizeLine ∧ Nx (upd H4 D (.lst (acc ++ [y]))) else Nx H3) := by
  refine lc_range (lo := lo) (n := n) (fun i H' => Same H1 H' ∧ ∃ ws, H' D = some (.lst ws) ∧ R i H' ws) ⟨same_new nD, [], upd_same, r0 _⟩ ?_ ?_
  · rintro i H' hi ⟨sm, ws, eD, r⟩
    have lw := len i H' ws r
    have sz : ws.length < sizeLine := few_line (by omega)
    refine hs i H' _ ws hi sm eD sz r (fun H'' s r2 => ⟨sm.trans s, ws, s _ _ eD, r2⟩) (fun H'' y s r2 => ?_)
    exact ⟨ws, s _ _ eD, sz, same_off nD (sm.trans s), _, upd_same, mono _ _ _ _ (Tps.lst (s _ _ eD)) r2⟩
  · rintro H' ⟨sm, ws, eD, r⟩
    exact hd H' ws sm eD r

/-! ### more of tuples: t == (), and one pair > another -/
section
variable {X : Cx}
def rEqE (K : PySem.W.Frag) : R2 := fun x y H Q => ∃ (a b : Addr) (xs : List V), x = .ref a ∧ y = .ref b ∧ SqT K H a xs ∧ SqT K H b [] ∧ Q (.bl xs.isEmpty) H
theorem op_eqE (units : X.A.units < cLine) : OpR X (compareOp .Eq) (rEqE X.K) := by
  intro pins s σ H x y v u Q I rx ry h
  obtain ⟨a, b, xs, rfl, rfl, ha, hb, q⟩ := h
  cases rx
  cases ry
  obtain ⟨its, r1, p1, _⟩ := I.tuple ha
  obtain ⟨its2, r2, p2, _⟩ := I.tuple hb
  cases r2
  apply SeqAt.eq_tupleAt (e := fun _ => true) (show s.heap.IsTuple a its.toArray from p1) (show s.heap.IsTuple b ([] : List Value).toArray from p2) units
  · intro j h1 h2
    exact absurd h2 (Nat.not_lt_zero j)
  · refine ⟨.bl xs.isEmpty, H, I, ?_, q⟩
    cases r1 with
    | nil => rfl
    | cons r t => rfl
def gtP (p q : Int × Int) : Bool := decide (q.1 < p.1 ∨ (p.1 = q.1 ∧ q.2 < p.2))
def rGtP (K : PySem.W.Frag) : R2 := fun x y H Q => ∃ (a b : Addr) (p q : Int × Int), x = .ref a ∧ y = .ref b ∧ SqT K H a [.int p.1, .int p.2] ∧ SqT K H b [.int q.1, .int q.2] ∧ Q (.bl (gtP p q)) H
theorem op_gtP (units : X.A.units < cLine) : OpR X (compareOp .Gt) (rGtP X.K) := by
  intro pins s σ H x y v u Q I rx ry h
  obtain ⟨a, b, p, q, rfl, rfl, ha, hb, k⟩ := h
  cases rx
  cases ry
  obtain ⟨us, r1, p1, _⟩ := I.tuple ha
  obtain ⟨ws, r2, p2, _⟩ := I.tuple hb
  obtain ⟨x1, x2, rfl, ⟨t1, rfl⟩, ⟨t2, rfl⟩⟩ := vals2 r1
  obtain ⟨y1, y2, rfl, ⟨u1, rfl⟩, ⟨u2, rfl⟩⟩ := vals2 r2
  have R := Ob.RcOp.tuples_gt (A := X.A) (s := s) (l := a) (b := b) (e := fun j => if j = 0 then p.1 == q.1 else p.2 == q.2) (r := fun j => if j = 0 then decide (q.1 < p.1) else decide (q.2 < p.2)) p1 p2 units
    (fun j j1 j2 => by
      match j, j1, j2 with
      | 0, _, _ => exact SeqAt.EqAt.int_int _ _ _ _
      | 1, _, _ => exact SeqAt.EqAt.int_int _ _ _ _)
    (fun j j1 j2 _ => by
      match j, j1, j2 with
      | 0, _, _ => exact Ob.RcOp.gt_int _ _ _ _
      | 1, _, _ => exact Ob.RcOp.gt_int _ _ _ _)
  have e : Ob.lexAt (fun j => if j = 0 then p.1 == q.1 else p.2 == q.2) (fun j => if j = 0 then decide (q.1 < p.1) else decide (q.2 < p.2)) (decide ((#[Value.int p.1 t1, Value.int p.2 t2]).size > (#[Value.int q.1 u1, Value.int q.2 u2]).size)) 0 (min (#[Value.int p.1 t1, Value.int p.2 t2]).size (#[Value.int q.1 u1, Value.int q.2 u2]).size) = gtP p q := by
    show (if (p.1 == q.1) = true then (if (p.2 == q.2) = true then false else decide (q.2 < p.2)) else decide (q.1 < p.1)) = _
    unfold gtP
    by_cases c : p.1 = q.1
    · rw [if_pos (beq_iff_eq.mpr c)]
      by_cases c2 : p.2 = q.2
      · rw [if_pos (beq_iff_eq.mpr c2)]
        exact (decide_eq_false (by omega)).symm
      · rw [if_neg (fun h => c2 (beq_iff_eq.mp h))]
        exact decide_eq_decide.mpr (by omega)
    · rw [if_neg (fun h => c (beq_iff_eq.mp h))]
      exact decide_eq_decide.mpr (by omega)
  rw [e] at R
  exact R X.prog X.w X.xe (EP X pins σ Q) ⟨.bl _, H, I, rfl, k⟩
end

/-! ### drawn intervals of the positions below a width -/
structure Rw (w : Int) (ps : List (Int × Int)) : Prop where
  asc : ps.Pairwise ltP
  ok : ∀ q ∈ ps, 0 ≤ q.1 ∧ q.1 ≤ q.2 ∧ q.2 < w
theorem Rw.bd {w : Int} {ps : List (Int × Int)} (h : ∀ q ∈ ps, 0 ≤ q.1 ∧ q.1 ≤ q.2 ∧ q.2 < w) (hw : w ≤ 100) : ∀ q ∈ ps, (0 ≤ q.1 ∧ q.1 < 10 ^ 13) ∧ 0 ≤ q.2 ∧ q.2 < 10 ^ 13 := fun q hq => by
  have := h q hq
  omega
theorem Rw.len {ps qs : List (Int × Int)} (asc : ps.Pairwise ltP) (mem : ∀ q, q ∈ ps ↔ q ∈ qs) : ps.length ≤ qs.length := by
  have ndp : ps.Nodup := asc.imp fun {a b} h e => by
    subst e
    rcases h with h | h <;> omega
  exact nodup_le ndp fun x hx => (mem x).mp hx
def sp_law_spans : Sp := fun vs H Q _ => ∃ (d : Addr) (c : Addr × Addr × Addr) (n width many : Int), vs = [.ref d, .int width, .int many] ∧ Dk H d c n ∧ 0 ≤ n ∧ n < 900000 ∧ 1 ≤ width ∧ width ≤ 100 ∧ 0 ≤ many ∧ many ≤ 30 ∧
  ∀ H' t us ps m, Kp d c H H' → Dk H' d c m → n ≤ m → m ≤ n + 3 * many → H' t = some (.tup us) → Ivs H' us ps → Rw width ps → (ps.length : Int) ≤ many → Q (.ref t) H'
theorem pick2 {r a b : Int} (h0 : 0 ≤ r) (h1 : r < 2) : ∃ L : Int, atI [V.int a, .int b] r = some (.int L) ∧ (L = a ∨ L = b) := by
  have : r = 0 ∨ r = 1 := by omega
  rcases this with rfl | rfl
  · exact ⟨a, rfl, .inl rfl⟩
  · exact ⟨b, rfl, .inr rfl⟩
def sp_law_targets : Sp := fun vs H Q _ => ∃ (d : Addr) (c : Addr × Addr × Addr) (n width most : Int), vs = [.ref d, .int width, .int most] ∧ Dk H d c n ∧ 0 ≤ n ∧ n < 800000 ∧ 1 ≤ width ∧ width ≤ 30 ∧ 0 ≤ most ∧ most ≤ 30 ∧
  ∀ H' t us ps m, Kp d c H H' → Dk H' d c m → n ≤ m → m ≤ n + 3 + 3 * most → H' t = some (.tup us) → Ivs H' us ps → Rw width ps → (ps.length : Int) ≤ most → Q (.ref t) H'
theorem Rw.take {w : Int} {ps : List (Int × Int)} (h : Rw w ps) (n : Nat) : Rw w (ps.take n) := ⟨h.asc.sublist (List.take_sublist _ _), fun q hq => h.ok q (List.mem_of_mem_take hq)⟩
/-! ### every position replaced by many -/
theorem com_str {ts ps S : List (Int × Int)} {f s : Int} (hf : 0 < f) (c : Com ts ps S) : Com (ts.map (strI f s)) (ps.map (strI f s)) (S.map (strI f s)) := by
  intro t ht p h1 h2
  obtain ⟨u, hu, rfl⟩ := List.mem_map.mp ht
  have h1 : u.1 * f + s ≤ p := h1
  have h2 : p ≤ u.2 * f + f - 1 + s := h2
  obtain ⟨k, ek⟩ : ∃ k, k = (p - s) / f := ⟨_, rfl⟩
  have e1 : k * f ≤ p - s := by
    rw [ek]
    exact Int.ediv_mul_le _ (by omega)
  have e2 : p - s < k * f + f := by
    have := Int.lt_ediv_add_one_mul_self (p - s) hf
    rw [← ek, Int.add_mul, Int.one_mul] at this
    exact this
  have k1 : u.1 ≤ k := by
    have : u.1 * f < (k + 1) * f := by
      rw [Int.add_mul, Int.one_mul]
      omega
    have := Int.lt_of_mul_lt_mul_right this (Int.le_of_lt hf)
    omega
  have k2 : k ≤ u.2 := by
    have : k * f < (u.2 + 1) * f := by
      rw [Int.add_mul, Int.one_mul]
      omega
    have := Int.lt_of_mul_lt_mul_right this (Int.le_of_lt hf)
    omega
  obtain ⟨q, hq, q1, q2, q3, q4⟩ := c u hu k k1 k2
  refine ⟨strI f s q, by rw [← List.map_append]; exact List.mem_map.mpr ⟨q, hq, rfl⟩, ?_, ?_, ?_, ?_⟩
  · have := (mul_le_iff hf).mpr q1
    show u.1 * f + s ≤ q.1 * f + s
    omega
  · have := (mul_le_iff hf).mpr q2
    show q.1 * f + s ≤ p
    omega
  · have := (mul_le_iff hf).mpr q3
    show p ≤ q.2 * f + f - 1 + s
    omega
  · have := (mul_le_iff hf).mpr q4
    show q.2 * f + f - 1 + s ≤ u.2 * f + f - 1 + s
    omega
def strD (f s : Int) (d : Dem) : Dem := (d.1 * f + s, strI f s d.2)
theorem sv_str {f s : Int} (hf : 0 < f) {q : Int × Int} {d : Dem} (h : sv (strI f s q) (strD f s d) = true) : sv q d = true := by
  have h := sv_iff'.mp h
  have h1 : d.2.1 * f + s ≤ q.1 * f + s := h.1
  have h2 : q.1 * f + s ≤ d.1 * f + s := h.2.1
  have h3 : d.1 * f + s ≤ q.2 * f + f - 1 + s := h.2.2.1
  have h4 : q.2 * f + f - 1 + s ≤ d.2.2 * f + f - 1 + s := h.2.2.2
  have a3 : d.1 * f < (q.2 + 1) * f := by
    rw [Int.add_mul, Int.one_mul]
    omega
  have a3 := Int.lt_of_mul_lt_mul_right a3 (Int.le_of_lt hf)
  exact sv_iff'.mpr ⟨(mul_le_iff hf).mp (by omega), (mul_le_iff hf).mp (by omega), by omega, (mul_le_iff hf).mp (by omega)⟩
theorem cf_str {f s : Int} (hf : 0 < f) {d e : Dem} (h : cf (strD f s d) (strD f s e) = true) : cf d e = true := by
  have h := cf_iff.mp h
  have h1 : e.2.1 * f + s ≤ d.1 * f + s := h.1.1
  have h2 : d.1 * f + s ≤ e.2.2 * f + f - 1 + s := h.1.2
  have h3 : d.2.1 * f + s ≤ e.1 * f + s := h.2.1
  have h4 : e.1 * f + s ≤ d.2.2 * f + f - 1 + s := h.2.2
  have a2 : d.1 * f < (e.2.2 + 1) * f := by
    rw [Int.add_mul, Int.one_mul]
    omega
  have a4 : e.1 * f < (d.2.2 + 1) * f := by
    rw [Int.add_mul, Int.one_mul]
    omega
  have a2 := Int.lt_of_mul_lt_mul_right a2 (Int.le_of_lt hf)
  have a4 := Int.lt_of_mul_lt_mul_right a4 (Int.le_of_lt hf)
  exact cf_iff.mpr ⟨⟨(mul_le_iff hf).mp (by omega), by omega⟩, (mul_le_iff hf).mp (by omega), by omega⟩
theorem need_str {ts ps : List (Int × Int)} (g : Good (ts ++ ps)) {f s : Int} (hf : 0 < f) (hs : 0 ≤ s) : needO (ts.map (strI f s)) (ps.map (strI f s)) = needO ts ps := by
  obtain ⟨⟨D, d1, d2, d3⟩, S, s1, s2, _⟩ := need_ok g
  have g' : Good (ts.map (strI f s) ++ ps.map (strI f s)) := by
    rw [← List.map_append]
    exact good_str g hf hs
  obtain ⟨⟨D', e1, e2, e3⟩, S', t1, t2, _⟩ := need_ok g'
  have a := weak_dual (com_str hf s2) e1 e2
  have b := weak_dual t2 (D := D.map (strD f s)) (List.pairwise_map.mpr (d1.imp fun {x y} h => by
    rw [← Bool.not_eq_true] at h ⊢
    exact fun z => h (cf_str hf z))) fun d hd => by
      obtain ⟨e, he, rfl⟩ := List.mem_map.mp hd
      have o := d2 e he
      refine ⟨List.mem_map.mpr ⟨e.2, o.1, rfl⟩, ⟨?_, ?_⟩, fun q hq => ?_⟩
      · have := (mul_le_iff hf).mpr o.2.1.1
        show e.2.1 * f + s ≤ e.1 * f + s
        omega
      · have := (mul_le_iff hf).mpr o.2.1.2
        show e.1 * f + s ≤ e.2.2 * f + f - 1 + s
        omega
      · obtain ⟨r, hr, rfl⟩ := List.mem_map.mp hq
        rw [← Bool.not_eq_true]
        exact fun z => by
          have := o.2.2 r hr
          rw [sv_str hf z] at this
          cases this
  rw [List.length_map] at a b
  omega
theorem blocks_in {row : List (Int × Int)} {w : Int} (h : ∀ q ∈ row, 0 ≤ q.1 ∧ q.1 ≤ q.2 ∧ q.2 < w) : (blocksOf row).length ≤ w.toNat := by
  have len : ∀ n : Nat, (Cb row n).length ≤ n := by
    intro n
    induction n with
    | zero => exact Nat.le_refl _
    | succ n ih =>
      have el : ∀ (l : List (Int × Int)) (p : Int), (extl l p).length = l.length := fun l p => by
        rcases List.eq_nil_or_concat l with rfl | ⟨m, r, rfl⟩
        · rfl
        · rw [List.concat_eq_append, extl_snoc, List.length_append, List.length_append]
          rfl
      rw [Cb_succ]
      split
      · split
        · rw [List.length_append, List.length_singleton]
          omega
        · rw [el]
          omega
      · omega
  rw [← Cb_all (N := w.toNat) fun q hq => by
    have := h q hq
    omega]
  exact len _

/-! ### the number needed depends on the members alone -/
theorem need_le_of {ts ps ts' ps' : List (Int × Int)} (g : Good (ts ++ ps)) (g' : Good (ts' ++ ps')) (h1 : ∀ t ∈ ts, t ∈ ts') (h2 : ∀ p ∈ ps', p ∈ ps) : needO ts ps ≤ needO ts' ps' := by
  obtain ⟨⟨D, d1, d2, d3⟩, _⟩ := need_ok g
  obtain ⟨_, S, s1, s2, _⟩ := need_ok g'
  have c : Com ts ps S := fun t ht p k1 k2 => by
    obtain ⟨q, hq, k⟩ := s2 t (h1 t ht) p k1 k2
    rcases List.mem_append.mp hq with hq | hq
    · exact ⟨q, List.mem_append_left _ (h2 q hq), k⟩
    · exact ⟨q, List.mem_append_right _ hq, k⟩
  have := weak_dual c d1 d2
  omega
theorem need_mem {ts ps ts' ps' : List (Int × Int)} (g : Good (ts ++ ps)) (h1 : ∀ t, t ∈ ts ↔ t ∈ ts') (h2 : ∀ p, p ∈ ps ↔ p ∈ ps') : needO ts ps = needO ts' ps' := by
  have g' : Good (ts' ++ ps') := fun q hq => g q (by
    rcases List.mem_append.mp hq with hq | hq
    · exact List.mem_append_left _ ((h1 q).mpr hq)
    · exact List.mem_append_right _ ((h2 q).mpr hq))
  exact Nat.le_antisymm (need_le_of g g' (fun t => (h1 t).mp) (fun p => (h2 p).mpr)) (need_le_of g' g (fun t => (h1 t).mpr) (fun p => (h2 p).mp))
theorem good0 {ts : List (Int × Int)} (g : Good ts) : Good (ts ++ []) := by
  rw [List.append_nil]
  exact g

/-! ### one further interval -/
def helpB (ts ps : List (Int × Int)) (q : Int × Int) : Bool := decide (((needO ts (ps ++ [q]) : Nat) : Int) < ((needO ts ps : Nat) : Int))
theorem good_left {ts ps : List (Int × Int)} {q : Int × Int} (g : Good (ts ++ (ps ++ [q]))) : Good (ts ++ ps) := fun r hr => g r (by
  rcases List.mem_append.mp hr with hr | hr
  · exact List.mem_append_left _ hr
  · exact List.mem_append_right _ (List.mem_append_left _ hr))
theorem com_mono {ts ps S qs T : List (Int × Int)} (c : Com ts ps S) (h : ∀ q, q ∈ ps ++ S → q ∈ qs ++ T) : Com ts qs T := fun t ht p h1 h2 => by
  obtain ⟨q, hq, k⟩ := c t ht p h1 h2
  exact ⟨q, h q hq, k⟩
theorem need_add {ts ps : List (Int × Int)} {z : Int × Int} (g : Good (ts ++ (ps ++ [z]))) : needO ts (ps ++ [z]) ≤ needO ts ps ∧ needO ts ps ≤ needO ts (ps ++ [z]) + 1 := by
  obtain ⟨⟨D, d1, d2, d3⟩, S, s1, s2, _⟩ := need_ok (good_left g)
  obtain ⟨⟨D', e1, e2, e3⟩, S', t1, t2, _⟩ := need_ok g
  constructor
  · have := weak_dual (com_mono (qs := ps ++ [z]) (T := S) s2 (fun q hq => by
      rcases List.mem_append.mp hq with hq | hq
      · exact List.mem_append_left _ (List.mem_append_left _ hq)
      · exact List.mem_append_right _ hq)) e1 e2
    omega
  · have := weak_dual (com_mono (qs := ps) (T := z :: S') t2 (fun q hq => by
      rcases List.mem_append.mp hq with hq | hq
      · rcases List.mem_append.mp hq with hq | hq
        · exact List.mem_append_left _ hq
        · rw [List.mem_singleton.mp hq]
          exact List.mem_append_right _ List.mem_cons_self
      · exact List.mem_append_right _ (List.mem_cons_of_mem _ hq))) d1 d2
    rw [List.length_cons] at this
    omega
theorem need_zero {ts ps : List (Int × Int)} (g : Good (ts ++ ps)) (h : needO ts ps = 0) : Com ts ps [] := by
  obtain ⟨_, S, s1, s2, _⟩ := need_ok g
  rw [h] at s1
  rw [List.length_eq_zero_iff.mp (Nat.le_zero.mp s1)] at s2
  exact s2
theorem need_of_com {ts ps : List (Int × Int)} (g : Good (ts ++ ps)) {S : List (Int × Int)} (h : Com ts ps S) : needO ts ps ≤ S.length := by
  obtain ⟨⟨D, d1, d2, d3⟩, _⟩ := need_ok g
  have := weak_dual h d1 d2
  omega
theorem com_self (ts ps : List (Int × Int)) : Com ts ps ts := fun t ht p h1 h2 => ⟨t, List.mem_append_right _ ht, Int.le_refl _, h1, h2, Int.le_refl _⟩
theorem need_help {ts ps : List (Int × Int)} {w : Int} (g : Good (ts ++ ps)) (ht : ∀ q ∈ ts, 0 ≤ q.1 ∧ q.1 ≤ q.2 ∧ q.2 < w) (h : 0 < needO ts ps) : ∃ z : Int × Int, (0 ≤ z.1 ∧ z.1 ≤ z.2 ∧ z.2 < w) ∧ helpB ts ps z = true := by
  obtain ⟨⟨D, d1, d2, d3⟩, S, s1, s2, s3⟩ := need_ok g
  cases S with
  | nil =>
    have := weak_dual s2 d1 d2
    simp at this
    rw [this] at d3
    simp at d3
    omega
  | cons z S =>
    obtain ⟨t, mt, a1, a2, a3⟩ := s3 z List.mem_cons_self
    have ot := ht t mt
    have oz : 0 ≤ z.1 ∧ z.1 ≤ z.2 ∧ z.2 < w := by omega
    have g2 : Good (ts ++ (ps ++ [z])) := fun q hq => by
      rcases List.mem_append.mp hq with hq | hq
      · exact g q (List.mem_append_left _ hq)
      · rcases List.mem_append.mp hq with hq | hq
        · exact g q (List.mem_append_right _ hq)
        · rw [List.mem_singleton.mp hq]
          exact ⟨oz.1, oz.2.1⟩
    have := need_of_com g2 (S := S) (com_mono s2 (fun q hq => by
      rcases List.mem_append.mp hq with hq | hq
      · exact List.mem_append_left _ (List.mem_append_left _ hq)
      · rcases List.mem_cons.mp hq with rfl | hq
        · exact List.mem_append_left _ (List.mem_append_right _ (List.mem_singleton.mpr rfl))
        · exact List.mem_append_right _ hq))
    rw [List.length_cons] at s1
    exact ⟨z, oz, decide_eq_true (by omega)⟩
def sp_helps : Sp := fun vs H Q _ => ∃ (a b t : Addr) (us ws : List V) (ts ps : List (Int × Int)) (x y : Int), vs = [.ref a, .ref b, .ref t] ∧ H a = some (.tup us) ∧ H b = some (.tup ws) ∧ Ivs H us ts ∧ Ivs H ws ps ∧ H t = some (.tup [.int x, .int y]) ∧ Good (ts ++ (ps ++ [(x, y)])) ∧ ts.length ≤ 30 ∧ FewK (ts ++ (ps ++ [(x, y)])) ∧ FewK (ts ++ ps) ∧ 8 * ts.length ≤ lgN ∧ (blocksOf (ts ++ (ps ++ [(x, y)]))).length ≤ 8 ∧ (blocksOf (ts ++ ps)).length ≤ 8 ∧
  ∀ H', Same H H' → Q (.bl (helpB ts ps (x, y))) H'
theorem ok_helps (T : Tx K mg f_depth_changes f_find_blocks f_is_number f_is_position f_is_tuple_of f_is_interval f_is_ascending f_has_position f_contains f_intersect f_is_demand f_serves f_conflict f_is_independent f_demands_at_blocks f_is_open f_open_demands f_shadow_target f_pieces_inside f_first_gap f_generates f_find_missing f_without_item f_require_few_blocks f_decisive_demands f_largest_independent f_unserved_demands f_helpful_piece f_smallest_solution f_count_needed f_solve f_are_witnesses f_solution_holds f_helps f_helpful_interval f_has_open_demand f_widen f_essential_targets f_core_targets f_is_free f_growth_counts f_law_draws f_law_next f_law_blocks f_law_wide f_law_call f_law_raised f_law_judged f_law f_TooWide_init X_TooWide X_NotGenerated X_OutOfRange X_TooMany X_SpanError d_depth_changes d_find_blocks d_is_number d_is_position d_is_tuple_of d_is_interval d_is_ascending d_has_position d_contains d_intersect d_is_demand d_serves d_conflict d_is_independent d_demands_at_blocks d_is_open d_open_demands d_shadow_target d_pieces_inside d_first_gap d_generates d_find_missing d_without_item d_require_few_blocks d_decisive_demands d_largest_independent d_unserved_demands d_helpful_piece d_smallest_solution d_count_needed d_solve d_are_witnesses d_solution_holds d_helps d_helpful_interval d_has_open_demand d_widen d_essential_targets d_core_targets d_is_free d_growth_counts d_law_draws d_law_next d_law_blocks d_law_wide d_law_call d_law_raised d_law_judged d_law d_TooWide_init t_LAST_POSITION t_MAX_BLOCKS) : FnOk P w K mg base CX0 (lgN+6) f_helps d_helps ["targets", "pieces", "interval"] sp_helps := by
  refine T.F_helps.ok sc_helps (fun vs H Q E h => ?_) (fun cdv A outer s H vs Q E hr h => ?_)
  · obtain ⟨a, b, t, us, ws, ts, ps, x, y, rfl, _⟩ := h
    rfl
  · obtain ⟨a, b, t, us, ws, ts, ps, x, y, rfl, ha, hb, ivt, ivp, ht, g, lt, fk1, fk2, ll, f1, f2, q⟩ := h
    refine ⟨_, (pss_one (ps_ret (pe_cmpR op_lt (pe_call (ok_count_needed T) (hr.mono (by decide)) (by rfl) T.g_count_needed T.F_count_needed.kp T.b_count_needed .nil pass0 (pa_cons (pv 0) (pa_cons (pe_op op_catA (pv 1) (pe_tup (pa_cons (pv 2) pa_nil))) pa_nil))) (pe_call (ok_count_needed T) (hr.mono (by decide)) (by rfl) T.g_count_needed T.F_count_needed.kp T.b_count_needed .nil pass0 (pa_cons (pv 0) (pa_cons (pv 1) pa_nil))) (nomark _)))), ?_⟩
    have l60 : ts.length + ps.length ≤ 60 := by rw [← List.length_append]; exact fk2.le
    have lu := ivt.length
    have lw := ivp.length
    refine ⟨.ref a, rfl, .ref b, rfl, .ref t, rfl, by show 1 ≤ sizeLine; decide, fun u nu => ?_⟩
    have s1 := same_new (o := .tup [.ref t]) nu
    have eu := upd_same (H := H) (a := u) (o := .tup [.ref t])
    generalize upd H u (.tup [.ref t]) = H1 at *
    refine catA_any (s1 _ _ hb) eu (by rw [show sizeLine = 16777216 by decide]; show _ + 1 ≤ _; omega) (fun H2 c s2 ec => ?_)
    have s12 := s1.trans s2
    refine ⟨a, c, us, ws ++ [.ref t], ts, ps ++ [(x, y)], rfl, s12 _ _ ha, ec, ivt.same s12, (ivp.same s12).snoc (s12 _ _ ht), g, lt, fk1, f1, ll, fun H3 s3 => ?_⟩
    have s13 := s12.trans s3
    refine ⟨.ref a, rfl, .ref b, rfl, a, b, us, ws, ts, ps, rfl, s13 _ _ ha, s13 _ _ hb, ivt.same s13, ivp.same s13, good_left g, lt, fk2, f2, ll, fun H4 s4 => ?_⟩
    exact ⟨_, _, rfl, rfl, q H4 (s13.trans s4)⟩

theorem fewk_str {row : List (Int × Int)} {w f s : Int} (h : ∀ q ∈ row, 0 ≤ q.1 ∧ q.1 ≤ q.2 ∧ q.2 < w) (hw : w ≤ 60) (l : row.length ≤ 60) : FewK (row.map (strI f s)) := by
  refine .inr ⟨by rw [List.length_map]; exact l, (List.range (w.toNat + 1)).map fun k : Nat => (k : Int) * f + s, by rw [List.length_map, List.length_range]; omega, fun q hq => ?_⟩
  obtain ⟨p, hp, rfl⟩ := List.mem_map.mp hq
  have o := h p hp
  constructor
  · refine List.mem_map.mpr ⟨p.1.toNat, List.mem_range.mpr (by omega), ?_⟩
    show ((p.1.toNat : Nat) : Int) * f + s = p.1 * f + s
    rw [Int.toNat_of_nonneg o.1]
  · refine List.mem_map.mpr ⟨(p.2 + 1).toNat, List.mem_range.mpr (by omega), ?_⟩
    show (((p.2 + 1).toNat : Nat) : Int) * f + s = p.2 * f + f - 1 + s + 1
    rw [Int.toNat_of_nonneg (by omega), Int.add_mul]
    omega
theorem fewk_in {row : List (Int × Int)} {w : Int} (h : ∀ q ∈ row, 0 ≤ q.1 ∧ q.1 ≤ q.2 ∧ q.2 < w) (hw : w ≤ 60) (l : row.length ≤ 60) : FewK row := by
  have := fewk_str (f := 1) (s := 0) h hw l
  rw [show row.map (strI 1 0) = row by
    conv => rhs; rw [← List.map_id row]
    refine List.map_congr_left fun q _ => ?_
    show (q.1 * 1 + 0, q.2 * 1 + 1 - 1 + 0) = q
    exact Prod.ext (by show q.1 * 1 + 0 = q.1; omega) (by show q.2 * 1 + 1 - 1 + 0 = q.2; omega)] at this
  exact this

theorem in_two {w : Int} {ts ps : List (Int × Int)} (h1 : ∀ q ∈ ts, 0 ≤ q.1 ∧ q.1 ≤ q.2 ∧ q.2 < w) (h2 : ∀ q ∈ ps, 0 ≤ q.1 ∧ q.1 ≤ q.2 ∧ q.2 < w) : ∀ q ∈ ts ++ ps, 0 ≤ q.1 ∧ q.1 ≤ q.2 ∧ q.2 < w := fun q hq => by
  rcases List.mem_append.mp hq with hq | hq
  · exact h1 q hq
  · exact h2 q hq
theorem good_in {w : Int} {ts : List (Int × Int)} (h : ∀ q ∈ ts, 0 ≤ q.1 ∧ q.1 ≤ q.2 ∧ q.2 < w) : Good ts := fun q hq => ⟨(h q hq).1, (h q hq).2.1⟩
theorem in_one {w : Int} {q : Int × Int} (h : 0 ≤ q.1 ∧ q.1 ≤ q.2 ∧ q.2 < w) : ∀ p ∈ [q], 0 ≤ p.1 ∧ p.1 ≤ p.2 ∧ p.2 < w := fun p hp => by
  rw [List.mem_singleton.mp hp]
  exact h
theorem in_up {w v : Int} {ts : List (Int × Int)} (h : ∀ q ∈ ts, 0 ≤ q.1 ∧ q.1 ≤ q.2 ∧ q.2 < w) (hv : w ≤ v) : ∀ q ∈ ts, 0 ≤ q.1 ∧ q.1 ≤ q.2 ∧ q.2 < v := fun q hq => by
  have := h q hq
  omega
theorem in_take {w : Int} {ts : List (Int × Int)} (h : ∀ q ∈ ts, 0 ≤ q.1 ∧ q.1 ≤ q.2 ∧ q.2 < w) (n : Nat) : ∀ q ∈ ts.take n, 0 ≤ q.1 ∧ q.1 ≤ q.2 ∧ q.2 < w := fun q hq => h q (List.mem_of_mem_take hq)
theorem need_ge {ts ps : List (Int × Int)} {D : List Dem} (g : Good (ts ++ ps)) (h1 : Ind D) (h2 : ∀ d ∈ D, OpenD ts ps d) : D.length ≤ needO ts ps := by
  obtain ⟨_, S, s1, s2, _⟩ := need_ok g
  have := weak_dual s2 h1 h2
  omega
theorem blocks_strIn {row : List (Int × Int)} {w : Int} (h : ∀ q ∈ row, 0 ≤ q.1 ∧ q.1 ≤ q.2 ∧ q.2 < w) {f s : Int} (hf : 0 < f) (hs : 0 ≤ s) : (blocksOf (row.map (strI f s))).length ≤ w.toNat := by
  rw [blocks_str (fun q hq => ⟨(h q hq).1, (h q hq).2.1⟩) hf hs, List.length_map]
  exact blocks_in h

/-! ### rows of scaled intervals -/
def Sc (wd f s : Int) (row : List (Int × Int)) : Prop := ∀ q ∈ row, ∃ r : Int × Int, (0 ≤ r.1 ∧ r.1 ≤ r.2 ∧ r.2 < wd) ∧ q = strI f s r
theorem Sc.ex {wd f s : Int} : ∀ {row : List (Int × Int)}, Sc wd f s row → ∃ row' : List (Int × Int), row = row'.map (strI f s) ∧ ∀ q ∈ row', 0 ≤ q.1 ∧ q.1 ≤ q.2 ∧ q.2 < wd
  | [], _ => ⟨[], rfl, fun q hq => nomatch hq⟩
  | q :: row, h => by
    obtain ⟨r, r1, r2⟩ := h q List.mem_cons_self
    obtain ⟨row', e, h'⟩ := Sc.ex (row := row) fun p hp => h p (List.mem_cons_of_mem _ hp)
    refine ⟨r :: row', by rw [List.map_cons, ← e, ← r2], fun p hp => ?_⟩
    rcases List.mem_cons.mp hp with rfl | hp
    · exact r1
    · exact h' p hp
theorem Sc.of {wd f s : Int} {row : List (Int × Int)} (h : ∀ q ∈ row, 0 ≤ q.1 ∧ q.1 ≤ q.2 ∧ q.2 < wd) : Sc wd f s (row.map (strI f s)) := fun q hq => by
  obtain ⟨r, hr, e⟩ := List.mem_map.mp hq
  exact ⟨r, h r hr, e.symm⟩
theorem Sc.sub {wd f s : Int} {row l : List (Int × Int)} (h : Sc wd f s row) (m : ∀ q ∈ l, q ∈ row) : Sc wd f s l := fun q hq => h q (m q hq)
theorem Sc.app {wd f s : Int} {row l : List (Int × Int)} (h : Sc wd f s row) (h2 : Sc wd f s l) : Sc wd f s (row ++ l) := fun q hq => by
  rcases List.mem_append.mp hq with hq | hq
  · exact h q hq
  · exact h2 q hq
theorem Sc.good {wd f s : Int} {row : List (Int × Int)} (h : Sc wd f s row) (hf : 0 < f) (hs : 0 ≤ s) : Good row := by
  obtain ⟨r, rfl, hr⟩ := h.ex
  exact good_str (good_in hr) hf hs
theorem Sc.fewk {wd f s : Int} {row : List (Int × Int)} (h : Sc wd f s row) (hw : wd ≤ 60) (l : row.length ≤ 60) : FewK row := by
  obtain ⟨r, rfl, hr⟩ := h.ex
  exact fewk_str hr hw (by rw [List.length_map] at l; exact l)
theorem Sc.blocks {wd f s : Int} {row : List (Int × Int)} (h : Sc wd f s row) (hf : 0 < f) (hs : 0 ≤ s) (hw : wd ≤ 8) : (blocksOf row).length ≤ 8 := by
  obtain ⟨r, rfl, hr⟩ := h.ex
  exact Nat.le_trans (blocks_strIn hr hf hs) (by omega)
theorem Sc.bd {wd f s : Int} {row : List (Int × Int)} (h : Sc wd f s row) (hf : 0 < f) (hf2 : f ≤ 100000000000) (hs : 0 ≤ s) (hs2 : s ≤ 100) (hw : wd ≤ 8) : ∀ q ∈ row, (0 ≤ q.1 ∧ q.1 < 10 ^ 13) ∧ 0 ≤ q.2 ∧ q.2 < 10 ^ 13 := fun q hq => by
  obtain ⟨r, o, rfl⟩ := h q hq
  have a1 : r.1 * f ≤ 8 * 100000000000 := Int.mul_le_mul (by omega) hf2 (by omega) (by decide)
  have a2 : r.2 * f ≤ 8 * 100000000000 := Int.mul_le_mul (by omega) hf2 (by omega) (by decide)
  have a3 : 0 ≤ r.1 * f := Int.mul_nonneg (by omega) (by omega)
  have a4 : 0 ≤ r.2 * f := Int.mul_nonneg (by omega) (by omega)
  show (0 ≤ r.1 * f + s ∧ r.1 * f + s < 10 ^ 13) ∧ 0 ≤ r.2 * f + f - 1 + s ∧ r.2 * f + f - 1 + s < 10 ^ 13
  omega

theorem any_pair (x y : Int) : ∀ ps : List (Int × Int), ((ps.map pairD).any fun z => PyData.eqv z (.tuple [.int x, .int y])) = decide ((x, y) ∈ ps)
  | [] => rfl
  | q :: ps => by
    rw [List.map_cons, List.any_cons, any_pair x y ps]
    show (PyData.eqv (.tuple [.int q.1, .int q.2]) (.tuple [.int x, .int y]) || _) = _
    rw [eqv_pair, Bool.eq_iff_iff, Bool.or_eq_true, decide_eq_true_iff, decide_eq_true_iff, decide_eq_true_iff, List.mem_cons]
    exact ⟨fun h => h.imp (fun z => z.symm) id, fun h => h.imp (fun z => z.symm) id⟩

/-! ### what a block is; blocks under changes of the row -/
structure IsBlk (row : List (Int × Int)) (b : Int × Int) : Prop where
  dep : ∃ q ∈ row, q.1 ≤ b.1 ∧ b.1 ≤ q.2
  le : b.1 ≤ b.2
  lo : Bd row b.1
  hi : Bd row (b.2 + 1)
  gap : ∀ k, b.1 < k → k ≤ b.2 → ¬ Bd row k
theorem bl_one {row : List (Int × Int)} {N : Nat} {l : List (Int × Int)} (B : Bl row N l) {p q : Int × Int} (hp : p ∈ l) (hq : q ∈ l) {x : Int} (p1 : p.1 ≤ x) (p2 : x ≤ p.2) (q1 : q.1 ≤ x) (q2 : x ≤ q.2) : p = q := by
  obtain ⟨i, ei⟩ := List.getElem?_of_mem hp
  obtain ⟨j, ej⟩ := List.getElem?_of_mem hq
  rcases Nat.lt_trichotomy i j with h | h | h
  · have := B.idx h ei ej
    omega
  · subst h
    rw [ei] at ej
    cases ej
    rfl
  · have := B.idx h ej ei
    omega
theorem blk_of {row : List (Int × Int)} (g : Good row) {b : Int × Int} (h : b ∈ blocksOf row) : IsBlk row b := by
  have B := blocks_bl g
  have ok := B.ok b h
  have st : b.1 ∈ ((List.range (topN row)).filter (stB row)).map (fun n : Nat => (n : Int)) := by
    rw [← B.fst]
    exact List.mem_map.mpr ⟨b, h, rfl⟩
  obtain ⟨n, hn, en⟩ := List.mem_map.mp st
  have z := Bool.and_eq_true_iff.mp (List.mem_filter.mp hn).2
  have z1 := of_decide_eq_true z.1
  have z2 := of_decide_eq_true z.2
  rw [en] at z1 z2
  have gap : ∀ k, b.1 < k → k ≤ b.2 → ¬ Bd row k := fun k k1 k2 => B.inner h k1 k2
  refine ⟨dep_pos.mp z1, ok.2.1, z2, ?_, gap⟩
  refine Decidable.byContradiction fun nb => ?_
  have d2 : 0 < depI row b.2 := by
    have := (B.cov b.2.toNat (by omega)).mpr ⟨b, h, by omega, by omega⟩
    rw [show ((b.2.toNat : Nat) : Int) = b.2 by omega] at this
    exact this
  have e := dep_step g (b.2 + 1)
  rw [del_zero nb, show b.2 + 1 - 1 = b.2 by omega] at e
  obtain ⟨q, hq, q1, q2⟩ := dep_in g (pos := b.2 + 1) (by omega)
  have ne : q.1 ≠ b.2 + 1 := by
    intro z
    have st : q.1 ∈ ((List.range (topN row)).filter (stB row)).map (fun n : Nat => (n : Int)) := by
      rw [← B.fst]
      exact List.mem_map.mpr ⟨q, hq, rfl⟩
    obtain ⟨n, hn, en⟩ := List.mem_map.mp st
    have z2 := of_decide_eq_true (Bool.and_eq_true_iff.mp (List.mem_filter.mp hn).2).2
    rw [en, z] at z2
    exact nb z2
  have := bl_one B hq h (x := b.2) (by omega) (by omega) (by omega) (by omega)
  rw [this] at q2
  omega
theorem blk_mem {row : List (Int × Int)} (g : Good row) {b : Int × Int} (h : IsBlk row b) : b ∈ blocksOf row := by
  have B := blocks_bl g
  obtain ⟨q, hq, q1, q2⟩ := dep_in g (dep_pos.mpr h.dep)
  have k := blk_of g hq
  have e1 : q.1 = b.1 := by
    rcases Int.lt_or_eq_of_le q1 with z | z
    · exact absurd h.lo (k.gap b.1 z q2)
    · exact z
  have e2 : q.2 = b.2 := by
    have := h.le
    rcases Int.lt_trichotomy q.2 b.2 with z | z | z
    · exact absurd k.hi (h.gap (q.2 + 1) (by omega) (by omega))
    · exact z
    · exact absurd h.hi (k.gap (b.2 + 1) (by omega) (by omega))
  have : q = b := by
    obtain ⟨x, y⟩ := q
    obtain ⟨u, v⟩ := b
    cases e1
    cases e2
    rfl
  rw [← this]
  exact hq
theorem blk_iff {row : List (Int × Int)} (g : Good row) {b : Int × Int} : b ∈ blocksOf row ↔ IsBlk row b := ⟨blk_of g, blk_mem g⟩
theorem asc_uniq : ∀ {l m : List (Int × Int)}, l.Pairwise (fun a b => a.1 < b.1) → m.Pairwise (fun a b => a.1 < b.1) → (∀ x, x ∈ l ↔ x ∈ m) → l = m
  | [], [], _, _, _ => rfl
  | [], b :: m, _, _, h => nomatch (h b).mpr List.mem_cons_self
  | a :: l, [], _, _, h => nomatch (h a).mp List.mem_cons_self
  | a :: l, b :: m, h1, h2, h => by
    have p1 := List.pairwise_cons.mp h1
    have p2 := List.pairwise_cons.mp h2
    have ab : a = b := by
      rcases List.mem_cons.mp ((h a).mp List.mem_cons_self) with e | e
      · exact e
      · rcases List.mem_cons.mp ((h b).mpr List.mem_cons_self) with f | f
        · exact f.symm
        · have := p1.1 b f
          have := p2.1 a e
          omega
    subst ab
    congr 1
    refine asc_uniq p1.2 p2.2 fun x => ⟨fun hx => ?_, fun hx => ?_⟩
    · rcases List.mem_cons.mp ((h x).mp (List.mem_cons_of_mem _ hx)) with e | e
      · subst e
        have := p1.1 x hx
        omega
      · exact e
    · rcases List.mem_cons.mp ((h x).mpr (List.mem_cons_of_mem _ hx)) with e | e
      · subst e
        have := p2.1 x hx
        omega
      · exact e
theorem blk_asc {row : List (Int × Int)} (g : Good row) : (blocksOf row).Pairwise (fun a b => a.1 < b.1) :=
  (blocks_bl g).asc.imp_of_mem fun {a b} ha hb h => by
    have := (blk_of g ha).le
    omega
theorem blk_eq {r1 r2 : List (Int × Int)} (g1 : Good r1) (g2 : Good r2) (h : ∀ b, IsBlk r1 b ↔ IsBlk r2 b) : blocksOf r1 = blocksOf r2 :=
  asc_uniq (blk_asc g1) (blk_asc g2) fun x => by rw [blk_iff g1, blk_iff g2, h]
theorem bd_mem {r1 r2 : List (Int × Int)} (h : ∀ q, q ∈ r1 ↔ q ∈ r2) (k : Int) : Bd r1 k ↔ Bd r2 k :=
  ⟨fun ⟨q, hq, e⟩ => ⟨q, (h q).mp hq, e⟩, fun ⟨q, hq, e⟩ => ⟨q, (h q).mpr hq, e⟩⟩
theorem isBlk_mem {r1 r2 : List (Int × Int)} (h : ∀ q, q ∈ r1 ↔ q ∈ r2) {b : Int × Int} (k : IsBlk r1 b) : IsBlk r2 b := by
  obtain ⟨q, hq, e⟩ := k.dep
  exact ⟨⟨q, (h q).mp hq, e⟩, k.le, (bd_mem h _).mp k.lo, (bd_mem h _).mp k.hi, fun x x1 x2 z => k.gap x x1 x2 ((bd_mem h x).mpr z)⟩
/-- order and repetitions do not matter -/
theorem blocks_mem {r1 r2 : List (Int × Int)} (g1 : Good r1) (g2 : Good r2) (h : ∀ q, q ∈ r1 ↔ q ∈ r2) : blocksOf r1 = blocksOf r2 :=
  blk_eq g1 g2 fun _ => ⟨isBlk_mem h, isBlk_mem fun q => (h q).symm⟩
/-- one of the blocks as one more interval changes nothing -/
theorem blocks_own {row : List (Int × Int)} (g : Good row) {b : Int × Int} (hb : b ∈ blocksOf row) : blocksOf (row ++ [b]) = blocksOf row := by
  have k := blk_of g hb
  have b0 := ((blocks_bl g).ok b hb)
  have g2 : Good (row ++ [b]) := fun q hq => by
    rcases List.mem_append.mp hq with hq | hq
    · exact g q hq
    · rw [List.mem_singleton.mp hq]
      exact ⟨b0.1, b0.2.1⟩
  have bd : ∀ x, Bd (row ++ [b]) x ↔ Bd row x := fun x => by
    constructor
    · rintro ⟨q, hq, e⟩
      rcases List.mem_append.mp hq with hq | hq
      · exact ⟨q, hq, e⟩
      · rw [List.mem_singleton.mp hq] at e
        rcases e with e | e
        · rw [← e]
          exact k.lo
        · rw [← e]
          exact k.hi
    · rintro ⟨q, hq, e⟩
      exact ⟨q, List.mem_append_left _ hq, e⟩
  refine blk_eq g2 g fun c => ⟨fun h => ?_, fun h => ?_⟩
  · refine ⟨?_, h.le, (bd _).mp h.lo, (bd _).mp h.hi, fun x x1 x2 z => h.gap x x1 x2 ((bd x).mpr z)⟩
    obtain ⟨q, hq, e⟩ := h.dep
    rcases List.mem_append.mp hq with hq | hq
    · exact ⟨q, hq, e⟩
    · rw [List.mem_singleton.mp hq] at e
      have p : 0 < depI row c.1 := by
        have := ((blocks_bl g).cov c.1.toNat (by omega)).mpr ⟨b, hb, by omega, by omega⟩
        rw [show ((c.1.toNat : Nat) : Int) = c.1 by omega] at this
        exact this
      exact dep_pos.mp p
  · obtain ⟨q, hq, e⟩ := h.dep
    exact ⟨⟨q, List.mem_append_left _ hq, e⟩, h.le, (bd _).mpr h.lo, (bd _).mpr h.hi, fun x x1 x2 z => h.gap x x1 x2 ((bd x).mp z)⟩
/-- reflected -/
def refI (L : Int) (q : Int × Int) : Int × Int := (L - 1 - q.2, L - 1 - q.1)
theorem refI_refI (L : Int) (q : Int × Int) : refI L (refI L q) = q := by
  unfold refI
  ext
  · show L - 1 - (L - 1 - q.1) = q.1
    omega
  · show L - 1 - (L - 1 - q.2) = q.2
    omega
theorem bd_ref {L : Int} {row : List (Int × Int)} {k : Int} : Bd (row.map (refI L)) k ↔ Bd row (L - k) := by
  constructor
  · rintro ⟨q, hq, e⟩
    obtain ⟨r, hr, rfl⟩ := List.mem_map.mp hq
    rcases e with e | e
    · have e : L - 1 - r.2 = k := e
      exact ⟨r, hr, .inr (by omega)⟩
    · have e : L - 1 - r.1 + 1 = k := e
      exact ⟨r, hr, .inl (by omega)⟩
  · rintro ⟨r, hr, e⟩
    refine ⟨refI L r, List.mem_map.mpr ⟨r, hr, rfl⟩, ?_⟩
    rcases e with e | e
    · exact .inr (by show L - 1 - r.1 + 1 = k; omega)
    · exact .inl (by show L - 1 - r.2 = k; omega)
theorem good_ref {L : Int} {row : List (Int × Int)} (g : Good row) (h : ∀ q ∈ row, q.2 < L) : Good (row.map (refI L)) := fun q hq => by
  obtain ⟨r, hr, rfl⟩ := List.mem_map.mp hq
  have := g r hr
  have := h r hr
  exact ⟨by show 0 ≤ L - 1 - r.2; omega, by show L - 1 - r.2 ≤ L - 1 - r.1; omega⟩
theorem isBlk_ref {L : Int} {row : List (Int × Int)} (g : Good row) {b : Int × Int} (k : IsBlk row b) : IsBlk (row.map (refI L)) (refI L b) := by
  have kl := k.le
  refine ⟨?_, by show L - 1 - b.2 ≤ L - 1 - b.1; omega, bd_ref.mpr ?_, bd_ref.mpr ?_, fun x x1 x2 => ?_⟩
  · -- the last position is covered too
    have hb := blk_mem g k
    have ok := (blocks_bl g).ok b hb
    have d2 : 0 < depI row b.2 := by
      have := ((blocks_bl g).cov b.2.toNat (by omega)).mpr ⟨b, hb, by omega, by omega⟩
      rw [show ((b.2.toNat : Nat) : Int) = b.2 by omega] at this
      exact this
    obtain ⟨q, hq, e⟩ := dep_pos.mp d2
    exact ⟨refI L q, List.mem_map.mpr ⟨q, hq, rfl⟩, by show L - 1 - q.2 ≤ L - 1 - b.2; omega, by show L - 1 - b.2 ≤ L - 1 - q.1; omega⟩
  · show Bd row (L - (L - 1 - b.2))
    rw [show L - (L - 1 - b.2) = b.2 + 1 by omega]
    exact k.hi
  · show Bd row (L - (L - 1 - b.1 + 1))
    rw [show L - (L - 1 - b.1 + 1) = b.1 by omega]
    exact k.lo
  · have x1 : L - 1 - b.2 < x := x1
    have x2 : x ≤ L - 1 - b.1 := x2
    rw [bd_ref]
    exact k.gap (L - x) (by omega) (by omega)
theorem blocks_ref {L : Int} {row : List (Int × Int)} (g : Good row) (h : ∀ q ∈ row, q.2 < L) : blocksOf (row.map (refI L)) = ((blocksOf row).reverse).map (refI L) := by
  have g2 := good_ref g h
  refine asc_uniq (blk_asc g2) ?_ fun x => ?_
  · refine List.pairwise_map.mpr (List.pairwise_reverse.mpr ((blocks_bl g).asc.imp_of_mem fun {a b} ha hb ab => ?_))
    have := (blk_of g hb).le
    show L - 1 - b.2 < L - 1 - a.2
    omega
  · rw [blk_iff g2, List.mem_map]
    constructor
    · intro k
      have z := isBlk_ref (L := L) g2 k
      have e : (row.map (refI L)).map (refI L) = row := by
        rw [List.map_map]
        have : ∀ l : List (Int × Int), l.map (refI L ∘ refI L) = l := fun l => by
          induction l with
          | nil => rfl
          | cons q r ih =>
            rw [List.map_cons, ih]
            show refI L (refI L q) :: r = _
            rw [refI_refI]
        exact this row
      rw [e] at z
      exact ⟨refI L x, List.mem_reverse.mpr (blk_mem g z), refI_refI L x⟩
    · rintro ⟨b, hb, rfl⟩
      exact isBlk_ref g (blk_of g (List.mem_reverse.mp hb))
/-- with one more interval each block lies inside an old one or outside all -/
theorem blocks_more {row : List (Int × Int)} (g : Good row) {p : Int × Int} (gp : 0 ≤ p.1 ∧ p.1 ≤ p.2) {b c : Int × Int} (hb : b ∈ blocksOf (row ++ [p])) (hc : c ∈ blocksOf row) (m1 : c.1 ≤ b.2) (m2 : b.1 ≤ c.2) : c.1 ≤ b.1 ∧ b.2 ≤ c.2 := by
  have g2 : Good (row ++ [p]) := fun q hq => by
    rcases List.mem_append.mp hq with hq | hq
    · exact g q hq
    · rw [List.mem_singleton.mp hq]
      exact gp
  have k := blk_of g2 hb
  have z := blk_of g hc
  have up : ∀ x, Bd row x → Bd (row ++ [p]) x := fun x ⟨q, hq, e⟩ => ⟨q, List.mem_append_left _ hq, e⟩
  constructor
  · refine Int.not_lt.mp fun lt => k.gap c.1 lt m1 (up _ z.lo)
  · refine Int.not_lt.mp fun lt => k.gap (c.2 + 1) (by omega) (by omega) (up _ z.hi)

/-! ### sorted(list of pairs) -/
theorem Ivs.perm {H : Hp} {xs ys : List V} (pm : ys.Perm xs) : ∀ {ps : List (Int × Int)}, Ivs H xs ps → ∃ ps', Ivs H ys ps' ∧ ps'.Perm ps := by
  induction pm with
  | nil =>
    intro ps h
    exact ⟨ps, h, .refl _⟩
  | cons x _ ih =>
    intro ps h
    cases h with
    | cons e h =>
      obtain ⟨ps', h', p'⟩ := ih h
      exact ⟨_ :: ps', .cons e h', p'.cons _⟩
  | swap x y l =>
    intro ps h
    cases h with
    | cons e h =>
      cases h with
      | cons e2 h => exact ⟨_, .cons e2 (.cons e h), .swap _ _ _⟩
  | trans _ _ ih1 ih2 =>
    intro ps h
    obtain ⟨p2, h2, q2⟩ := ih2 h
    obtain ⟨p1, h1, q1⟩ := ih1 h2
    exact ⟨p1, h1, q1.trans q2⟩
theorem Ivs.pair {H : Hp} {R : V → V → Prop} {S : Int × Int → Int × Int → Prop} (rs : ∀ a b x y u v, H a = some (.tup [.int x, .int y]) → H b = some (.tup [.int u, .int v]) → R (.ref a) (.ref b) → S (x, y) (u, v)) {vs : List V} {ps : List (Int × Int)} (h : Ivs H vs ps) (pw : vs.Pairwise R) : ps.Pairwise S := by
  induction h with
  | nil => exact .nil
  | cons e h ih =>
    have p := List.pairwise_cons.mp pw
    refine List.pairwise_cons.mpr ⟨fun q hq => ?_, ih p.2⟩
    obtain ⟨b, hb, eb⟩ := h.tpsMem hq
    exact rs _ b _ _ q.1 q.2 e eb (p.1 _ hb)
theorem Ivs.mem {H : Hp} {vs : List V} {ps : List (Int × Int)} (h : Ivs H vs ps) {v : V} (hv : v ∈ vs) : ∃ a q, q ∈ ps ∧ v = .ref a ∧ H a = some (.tup [.int q.1, .int q.2]) := by
  obtain ⟨i, ei⟩ := List.getElem?_of_mem hv
  obtain ⟨a, x, y, e, ep, ea⟩ := h.get ei
  exact ⟨a, (x, y), List.mem_of_getElem? ep, e, ea⟩
theorem bd2 {z : Int × Int} (b : (0 ≤ z.1 ∧ z.1 < 10 ^ 13) ∧ 0 ≤ z.2 ∧ z.2 < 10 ^ 13) : TS.Bd (10 ^ 13) [z.1, z.2] := fun m hm => by
  rcases List.mem_cons.mp hm with rfl | hm
  · exact b.1
  · rw [List.mem_singleton.mp hm]
    exact b.2
theorem sort_pairs {K : PySem.W.Frag} {H : Hp} {l : Addr} {us : List V} {ps : List (Int × Int)} {Q : VK} (hl : SqL K H l us) (iv : Ivs H us ps) (few : ps.length < 64) (bd : ∀ q ∈ ps, (0 ≤ q.1 ∧ q.1 < 10 ^ 13) ∧ 0 ≤ q.2 ∧ q.2 < 10 ^ 13)
    (fin : ∀ H' p us' ps', Same H H' → H p = none → H' p = some (.lst us') → Ivs H' us' ps' → ps'.Pairwise leP → ps'.Perm ps → Q (.ref p) H') :
    rSortU K 2 (10 ^ 13) [.ref l] H Q := by
  refine ⟨l, us, rfl, hl, by rw [iv.length]; exact few, fun x hx => ?_, fun ys p2 pm pw np2 => ?_⟩
  · obtain ⟨b, qq, hqq, e, eb⟩ := iv.mem hx
    exact ⟨[qq.1, qq.2], ⟨b, e, SqT.of eb⟩, rfl, bd2 (bd qq hqq)⟩
  obtain ⟨gs, ivg, pmg⟩ := Ivs.perm pm iv
  have z : gs.Pairwise (fun a b => TS.code (10 ^ 13) [a.1, a.2] ≤ TS.code (10 ^ 13) [b.1, b.2]) := Ivs.pair (S := fun a b => TS.code (10 ^ 13) [a.1, a.2] ≤ TS.code (10 ^ 13) [b.1, b.2]) (fun a b x y u v ea eb h => h [x, y] [u, v] ⟨a, rfl, SqT.of ea⟩ ⟨b, rfl, SqT.of eb⟩) ivg pw
  have s2 := same_new (o := .lst ys) np2
  refine fin _ p2 ys gs s2 np2 upd_same (ivg.same s2) (z.imp_of_mem fun {x y} hx hy h => ?_) pmg
  exact code_lex (bd2 (bd x (pmg.mem_iff.mp hx))) (bd2 (bd y (pmg.mem_iff.mp hy))) h

/-! ### a smallest solution: the mathematics -/
/-- q begins and ends where blocks do, within an interval of the row -/
structure Fits (row : List (Int × Int)) (q : Int × Int) : Prop where
  lo : Bd row q.1
  hi : Bd row (q.2 + 1)
  le : q.1 ≤ q.2
  inn : ∃ t ∈ row, t.1 ≤ q.1 ∧ q.2 ≤ t.2
theorem Fits.good {row : List (Int × Int)} (g : Good row) {q : Int × Int} (f : Fits row q) : Good (row ++ [q]) := fun z hz => by
  rcases List.mem_append.mp hz with h | h
  · exact g z h
  · rw [List.mem_singleton.mp h]
    obtain ⟨t, ht, h1, h2⟩ := f.inn
    have := g t ht
    exact ⟨by omega, f.le⟩
theorem bd_fit {row : List (Int × Int)} {q : Int × Int} (f : Fits row q) (x : Int) : Bd (row ++ [q]) x ↔ Bd row x := by
  constructor
  · rintro ⟨z, hz, e⟩
    rcases List.mem_append.mp hz with h | h
    · exact ⟨z, h, e⟩
    · rw [List.mem_singleton.mp h] at e
      rcases e with e | e
      · exact e ▸ f.lo
      · exact e ▸ f.hi
  · rintro ⟨z, hz, e⟩
    exact ⟨z, List.mem_append_left _ hz, e⟩
theorem blocks_fit {row : List (Int × Int)} (g : Good row) {q : Int × Int} (f : Fits row q) : blocksOf (row ++ [q]) = blocksOf row := by
  have bd := bd_fit f
  refine blk_eq (f.good g) g fun c => ⟨fun h => ?_, fun h => ?_⟩
  · refine ⟨?_, h.le, (bd _).mp h.lo, (bd _).mp h.hi, fun x x1 x2 z => h.gap x x1 x2 ((bd x).mpr z)⟩
    obtain ⟨z, hz, e1, e2⟩ := h.dep
    rcases List.mem_append.mp hz with hz | hz
    · exact ⟨z, hz, e1, e2⟩
    · rw [List.mem_singleton.mp hz] at e1 e2
      obtain ⟨t, ht, k1, k2⟩ := f.inn
      exact ⟨t, ht, by omega, by omega⟩
  · obtain ⟨z, hz, e⟩ := h.dep
    exact ⟨⟨z, List.mem_append_left _ hz, e⟩, h.le, (bd _).mpr h.lo, (bd _).mpr h.hi, fun x x1 x2 z => h.gap x x1 x2 ((bd x).mp z)⟩
theorem opB_snoc (ps : List (Int × Int)) (q : Int × Int) (d : Dem) : opB (ps ++ [q]) d = (opB ps d && !sv q d) := by
  unfold opB
  rw [List.map_append, List.any_append, Bool.not_or, ← sv_svI]
  simp
theorem dec_fit {ts ps : List (Int × Int)} (g : Good (ts ++ ps)) {q : Int × Int} (f : Fits (ts ++ ps) q) : decO ts (ps ++ [q]) = (decO ts ps).filter fun d => !sv q d := by
  have e : blocksOf (ts ++ (ps ++ [q])) = blocksOf (ts ++ ps) := by
    rw [← List.append_assoc]
    exact blocks_fit g f
  unfold decO
  rw [e, List.filter_filter, List.filter_filter, List.filter_filter]
  congr 1
  funext d
  rw [opB_snoc]
  cases opB ps d <;> cases sv q d <;> cases (ts.find? (shB d.1 d.2.1 d.2.2)).isNone <;> rfl
/-- the pieces that helpful_piece looks at -/
def candI (bs : List (Int × Int)) (d : Dem) : List (Int × Int) := bs.flatMap fun b => (bs.map fun e => (b.1, e.2)).filter fun z => sv z d
theorem mem_cand {bs : List (Int × Int)} {d : Dem} {q : Int × Int} : q ∈ candI bs d ↔ (∃ b ∈ bs, q.1 = b.1) ∧ (∃ e ∈ bs, q.2 = e.2) ∧ sv q d = true := by
  unfold candI
  rw [List.mem_flatMap]
  constructor
  · rintro ⟨b, hb, h⟩
    obtain ⟨h1, h2⟩ := List.mem_filter.mp h
    obtain ⟨e, he, rfl⟩ := List.mem_map.mp h1
    exact ⟨⟨b, hb, rfl⟩, ⟨e, he, rfl⟩, h2⟩
  · rintro ⟨⟨b, hb, e1⟩, ⟨e, he, e2⟩, h⟩
    refine ⟨b, hb, List.mem_filter.mpr ⟨List.mem_map.mpr ⟨e, he, ?_⟩, h⟩⟩
    exact Prod.ext e1.symm e2.symm
theorem cand_fits {row : List (Int × Int)} (g : Good row) {d : Dem} {q : Int × Int} (h : q ∈ candI (blocksOf row) d) (ht : d.2 ∈ row) : Fits row q := by
  obtain ⟨⟨b, hb, e1⟩, ⟨e, he, e2⟩, s⟩ := mem_cand.mp h
  have s := sv_iff'.mp s
  refine ⟨?_, ?_, by omega, d.2, ht, s.1, s.2.2.2⟩
  · rw [e1]
    exact (blk_of g hb).lo
  · rw [e2]
    exact (blk_of g he).hi
theorem least_low : ∀ {L : List (Int × Int)} {x : Int}, (∃ c ∈ L, x ≤ c.1) → ∃ b ∈ L, x ≤ b.1 ∧ ∀ c ∈ L, x ≤ c.1 → b.1 ≤ c.1
  | [], _, h => by
    obtain ⟨c, hc, _⟩ := h
    cases hc
  | a :: L, x, h => by
    by_cases r : ∃ c ∈ L, x ≤ c.1
    · obtain ⟨b, hb, b1, b2⟩ := least_low r
      by_cases z : x ≤ a.1 ∧ a.1 ≤ b.1
      · refine ⟨a, List.mem_cons_self, z.1, fun c hc c1 => ?_⟩
        rcases List.mem_cons.mp hc with rfl | hc
        · exact Int.le_refl _
        · exact Int.le_trans z.2 (b2 c hc c1)
      · refine ⟨b, List.mem_cons_of_mem _ hb, b1, fun c hc c1 => ?_⟩
        rcases List.mem_cons.mp hc with rfl | hc
        · omega
        · exact b2 c hc c1
    · obtain ⟨c, hc, c1⟩ := h
      rcases List.mem_cons.mp hc with rfl | hc
      · refine ⟨c, List.mem_cons_self, c1, fun e he e1 => ?_⟩
        rcases List.mem_cons.mp he with rfl | he
        · exact Int.le_refl _
        · exact absurd ⟨e, he, e1⟩ r
      · exact absurd ⟨c, hc, c1⟩ r
theorem good_snoc {ts ps : List (Int × Int)} (g : Good (ts ++ ps)) {q : Int × Int} (f : Fits (ts ++ ps) q) : Good (ts ++ (ps ++ [q])) := by
  rw [← List.append_assoc]
  exact f.good g
/-- one of these pieces helps -/
theorem help_ex {ts ps : List (Int × Int)} (g : Good (ts ++ ps)) {d0 : Dem} (h0 : d0 ∈ decO ts ps) : ∃ q ∈ candI (blocksOf (ts ++ ps)) d0, needO ts (ps ++ [q]) + 1 ≤ needO ts ps := by
  obtain ⟨_, S, s1, com, _⟩ := need_ok g
  obtain ⟨⟨tm, vd, op⟩, low, _⟩ := mem_dec.mp h0
  have tmr : d0.2 ∈ ts ++ ps := List.mem_append_left _ tm
  obtain ⟨s, hs, k1, k2, k3, k4⟩ := com d0.2 tm d0.1 vd.1 vd.2
  have s0 : sv s d0 = true := sv_iff'.mpr ⟨k1, k2, k3, k4⟩
  have hS : s ∈ S := by
    rcases List.mem_append.mp hs with h | h
    · rw [op s h] at s0
      cases s0
    · exact h
  obtain ⟨e, he, e1, e2⟩ := dep_in g (dep_pos.mpr ⟨d0.2, tmr, show d0.2.1 ≤ s.2 by omega, k4⟩)
  obtain ⟨c0, hc0, ec0⟩ := List.mem_map.mp low
  obtain ⟨b, hb, b1, b2⟩ := least_low (x := s.1) ⟨c0, hc0, by omega⟩
  have up : ∀ d : Dem, d.2 ∈ ts → d.1 ∈ lowsOf (ts ++ ps) → sv s d = true → sv (b.1, e.2) d = true := by
    intro d hd hl hsv
    obtain ⟨c, hc, ec⟩ := List.mem_map.mp hl
    have ec : c.1 = d.1 := ec
    have z := sv_iff'.mp hsv
    have z1 := b2 c hc (by omega)
    have z2 := (block_const g he (List.mem_append_left ps hd) e1 e2).mp ⟨by omega, z.2.2.2⟩
    exact sv_iff'.mpr ⟨by show d.2.1 ≤ b.1; omega, by show b.1 ≤ d.1; omega, by show d.1 ≤ e.2; omega, z2.2⟩
  have hq : (b.1, e.2) ∈ candI (blocksOf (ts ++ ps)) d0 := mem_cand.mpr ⟨⟨b, hb, rfl⟩, ⟨e, he, rfl⟩, up d0 tm low s0⟩
  have f := cand_fits g hq tmr
  refine ⟨_, hq, ?_⟩
  have le : needO ts (ps ++ [(b.1, e.2)]) ≤ (S.erase s).length := by
    refine Nat.le_trans (sum_served (S := S.erase s) (D := lg (decO ts (ps ++ [(b.1, e.2)])).length (decO ts (ps ++ [(b.1, e.2)]))) fun d hd => ?_) (sum_one fun z _ => (lg_ind _ _).cov_le z)
    have hd := (lg_sub _ _).mem hd
    rw [dec_fit g f] at hd
    obtain ⟨h1, h2⟩ := List.mem_filter.mp hd
    obtain ⟨⟨dm, dv, dop⟩, dlow, _⟩ := mem_dec.mp h1
    obtain ⟨z, hz, m1, m2, m3, m4⟩ := com d.2 dm d.1 dv.1 dv.2
    have zs : sv z d = true := sv_iff'.mpr ⟨m1, m2, m3, m4⟩
    rcases List.mem_append.mp hz with h | h
    · rw [dop z h] at zs
      cases zs
    · refine ⟨z, (List.mem_erase_of_ne fun w => ?_).mpr h, zs⟩
      subst w
      rw [up d dm dlow zs] at h2
      cases h2
  rw [List.length_erase_of_mem hS] at le
  have := List.length_pos_of_mem hS
  omega
/-! ### the first of the least -/
def argm {α : Type} (kf : α → Nat) : List α → Option α
  | [] => none
  | x :: xs => match argm kf xs with
    | none => some x
    | some y => if kf y < kf x then some y else some x
theorem argm_ne {α : Type} {kf : α → Nat} {x : α} {xs : List α} : argm kf (x :: xs) ≠ none := by
  unfold argm
  split
  · simp
  · split <;> simp
theorem argm_ok {α : Type} {kf : α → Nat} : ∀ {l : List α} {y : α}, argm kf l = some y → y ∈ l ∧ ∀ z ∈ l, kf y ≤ kf z
  | [], y, h => nomatch h
  | x :: xs, y, h => by
    unfold argm at h
    split at h
    · rename_i e
      cases h
      have : xs = [] := by
        cases xs with
        | nil => rfl
        | cons a b => exact absurd e argm_ne
      subst this
      exact ⟨List.mem_cons_self, fun z hz => by rw [List.mem_singleton.mp hz]; exact Nat.le_refl _⟩
    · rename_i w e
      have ih := argm_ok e
      split at h
      · rename_i c
        cases h
        refine ⟨List.mem_cons_of_mem _ ih.1, fun z hz => ?_⟩
        rcases List.mem_cons.mp hz with rfl | hz
        · omega
        · exact ih.2 z hz
      · rename_i c
        cases h
        refine ⟨List.mem_cons_self, fun z hz => ?_⟩
        rcases List.mem_cons.mp hz with rfl | hz
        · exact Nat.le_refl _
        · have := ih.2 z hz
          omega
theorem argm_low {α : Type} {kf : α → Nat} : ∀ {l : List α} {j : Nat} {y : α}, l[j]? = some y → (∀ i z, l[i]? = some z → kf y ≤ kf z ∧ (i < j → kf y < kf z)) → argm kf l = some y
  | [], j, y, e, _ => by simp at e
  | x :: xs, 0, y, e, h => by
    cases e
    unfold argm
    split
    · rfl
    · rename_i w ew
      have m := (argm_ok ew).1
      obtain ⟨i, ei⟩ := List.getElem?_of_mem m
      have := (h (i + 1) w ei).1
      rw [if_neg (by omega)]
  | x :: xs, j + 1, y, e, h => by
    have ih := argm_low (l := xs) (j := j) (y := y) e fun i z ez => ⟨(h (i + 1) z ez).1, fun c => (h (i + 1) z ez).2 (by omega)⟩
    have h0 := (h 0 x rfl).2 (by omega)
    unfold argm
    rw [ih]
    exact if_pos h0
/-! ### what the program picks -/
def keyO (ds : List Dem) (q : Int × Int) : Nat := (lg ds.length (ds.filter fun d => !sv q d)).length
def pickO (bs : List (Int × Int)) : List Dem → Int × Int
  | [] => (0, 0)
  | d :: ds => (argm (keyO (d :: ds)) (candI bs d)).getD (0, 0)
def runO (bs : List (Int × Int)) : Nat → List Dem → List (Int × Int)
  | 0, _ => []
  | _ + 1, [] => []
  | n + 1, d :: ds => pickO bs (d :: ds) :: runO bs n ((d :: ds).filter fun e => !sv (pickO bs (d :: ds)) e)
/-- the pieces that are added for targets and pieces, in the order in which they are found -/
def addO (ts ps : List (Int × Int)) : List (Int × Int) := runO (blocksOf (ts ++ ps)) (decO ts ps).length (decO ts ps)
theorem key_need {ts ps : List (Int × Int)} (g : Good (ts ++ ps)) {q : Int × Int} (f : Fits (ts ++ ps) q) : keyO (decO ts ps) q = needO ts (ps ++ [q]) := by
  unfold keyO needO
  rw [dec_fit g f, lg_same _ _ _ (List.length_filter_le _ _) (Nat.le_refl _)]
theorem pick_ok {ts ps : List (Int × Int)} (g : Good (ts ++ ps)) {d : Dem} {ds : List Dem} (e : decO ts ps = d :: ds) : pickO (blocksOf (ts ++ ps)) (decO ts ps) ∈ candI (blocksOf (ts ++ ps)) d ∧ Fits (ts ++ ps) (pickO (blocksOf (ts ++ ps)) (decO ts ps)) ∧
    needO ts (ps ++ [pickO (blocksOf (ts ++ ps)) (decO ts ps)]) + 1 = needO ts ps := by
  have h0 : d ∈ decO ts ps := by
    rw [e]
    exact List.mem_cons_self
  have tm : d.2 ∈ ts ++ ps := List.mem_append_left _ (mem_dec.mp h0).1.1
  obtain ⟨z, hz, hl⟩ := help_ex g h0
  have pe : pickO (blocksOf (ts ++ ps)) (decO ts ps) = (argm (keyO (decO ts ps)) (candI (blocksOf (ts ++ ps)) d)).getD (0, 0) := by
    rw [e]
    rfl
  rw [pe]
  cases ea : argm (keyO (decO ts ps)) (candI (blocksOf (ts ++ ps)) d) with
  | none =>
    cases ec : candI (blocksOf (ts ++ ps)) d with
    | nil =>
      rw [ec] at hz
      cases hz
    | cons a b =>
      rw [ec] at ea
      exact absurd ea argm_ne
  | some y =>
    obtain ⟨m, least⟩ := argm_ok ea
    have f := cand_fits g m tm
    have fz := cand_fits g hz tm
    have k := least z hz
    rw [key_need g f, key_need g fz] at k
    refine ⟨m, f, ?_⟩
    have := (need_add (good_snoc g f)).2
    show needO ts (ps ++ [y]) + 1 = needO ts ps
    omega
theorem filter_len {α : Type} {p : α → Bool} {x : α} {xs : List α} (h : p x = false) : ((x :: xs).filter p).length ≤ xs.length := by
  rw [List.filter_cons, if_neg (by rw [h]; exact Bool.false_ne_true)]
  exact List.length_filter_le _ _
/-- what was added: as many as are needed, they complete the pieces; each fits, is new, and they differ -/
structure AddOk (ts ps A : List (Int × Int)) : Prop where
  len : A.length = needO ts ps
  com : Com ts ps A
  inn : ∀ q ∈ A, Fits (ts ++ ps) q ∧ ∃ t ∈ ts, t.1 ≤ q.1 ∧ q.2 ≤ t.2
  new : ∀ q ∈ A, q ∉ ps
  nd : A.Nodup
theorem run_ok {ts : List (Int × Int)} : ∀ (n : Nat) (ps : List (Int × Int)), Good (ts ++ ps) → (decO ts ps).length ≤ n → AddOk ts ps (runO (blocksOf (ts ++ ps)) n (decO ts ps)) := by
  have base : ∀ ps, Good (ts ++ ps) → decO ts ps = [] → AddOk ts ps [] := fun ps g e => by
    have z : needO ts ps = 0 := by
      unfold needO
      rw [e]
      rfl
    exact ⟨z.symm, need_zero g z, (fun q hq => nomatch hq), (fun q hq => nomatch hq), .nil⟩
  intro n
  induction n with
  | zero =>
    intro ps g l
    exact base ps g (List.length_eq_zero_iff.mp (by omega))
  | succ n ih =>
    intro ps g l
    cases e : decO ts ps with
    | nil => exact base ps g e
    | cons d ds =>
      obtain ⟨pm, pf, pn⟩ := pick_ok g e
      have h0 : d ∈ decO ts ps := by
        rw [e]
        exact List.mem_cons_self
      have tm := (mem_dec.mp h0).1
      show AddOk ts ps (pickO (blocksOf (ts ++ ps)) (d :: ds) :: runO (blocksOf (ts ++ ps)) n ((d :: ds).filter fun e => !sv (pickO (blocksOf (ts ++ ps)) (d :: ds)) e))
      have e' := e
      rw [← e']
      generalize eq : pickO (blocksOf (ts ++ ps)) (decO ts ps) = q at *
      have s0 := (mem_cand.mp pm).2.2
      have g' := good_snoc g pf
      have df := dec_fit g pf
      have bf : blocksOf (ts ++ (ps ++ [q])) = blocksOf (ts ++ ps) := by
        rw [← List.append_assoc]
        exact blocks_fit g pf
      have ll : (decO ts (ps ++ [q])).length ≤ n := by
        rw [df, e]
        have := filter_len (p := fun d => !sv q d) (x := d) (xs := ds) (by rw [s0]; rfl)
        rw [e, List.length_cons] at l
        omega
      have r := ih (ps ++ [q]) g' ll
      rw [bf, df] at r
      have qs := sv_iff'.mp s0
      have qin : ∃ t ∈ ts, t.1 ≤ q.1 ∧ q.2 ≤ t.2 := ⟨d.2, tm.1, qs.1, qs.2.2.2⟩
      have qn : q ∉ ps := fun z => by
        rw [tm.2.2 q z] at s0
        cases s0
      refine ⟨?_, ?_, fun z hz => ?_, fun z hz => ?_, ?_⟩
      · rw [List.length_cons, r.len]
        exact pn
      · refine com_mono r.com fun z hz => ?_
        rcases List.mem_append.mp hz with h | h
        · rcases List.mem_append.mp h with h | h
          · exact List.mem_append_left _ h
          · rw [List.mem_singleton.mp h]
            exact List.mem_append_right _ List.mem_cons_self
        · exact List.mem_append_right _ (List.mem_cons_of_mem _ h)
      · rcases List.mem_cons.mp hz with rfl | hz
        · exact ⟨pf, qin⟩
        · obtain ⟨f2, t, ht, t1, t2⟩ := r.inn z hz
          have bd := bd_fit pf
          rw [← List.append_assoc] at f2
          exact ⟨⟨(bd _).mp f2.lo, (bd _).mp f2.hi, f2.le, t, List.mem_append_left _ ht, t1, t2⟩, t, ht, t1, t2⟩
      · rcases List.mem_cons.mp hz with rfl | hz
        · exact qn
        · exact fun w => r.new z hz (List.mem_append_left _ w)
      · refine List.nodup_cons.mpr ⟨fun z => r.new q z (List.mem_append_right _ (List.mem_singleton.mpr rfl)), r.nd⟩
theorem add_ok {ts ps : List (Int × Int)} (g : Good (ts ++ ps)) : AddOk ts ps (addO ts ps) := run_ok _ ps g (Nat.le_refl _)

def rLenS (K : PySem.W.Frag) : List V → Hp → VK → Prop := fun xs H Q => ∃ p ys, xs = [.ref p] ∧ (SqL K H p ys ∨ SqT K H p ys) ∧ Q (.int (ys.length : Nat)) H
theorem call_lenS {X : Cx} : CallR X (.builtin "len") (rLenS X.K) := call_len_seq
theorem pe_bmK {X : Cx} {K : PySem.W.Frag} {e : Expr} {T : String} {r : V → List V → Hp → VK → Prop} {to : TE} {t : TA} (hK : X.K = K) (h : PE X e (tBM X.K T r to t)) : PE X e (tBM K T r to t) := hK ▸ h

/-! ### the program's search for a piece that helps -/
def sp_unserved : Sp := fun vs H Q _ => ∃ (D q : Addr) (zs : List V) (ds : List Dem) (x y : Int), vs = [.ref D, .ref q] ∧ H D = some (.lst zs) ∧ Dms H zs ds ∧ ds.length < 1000 ∧ H q = some (.tup [.int x, .int y]) ∧
  ∀ H' E es, Same H H' → H E = none → H' E = some (.lst es) → Dms H' es (ds.filter fun d => !sv (x, y) d) → Q (.ref E) H'
theorem ok_unserved_demands (T : Tx K mg f_depth_changes f_find_blocks f_is_number f_is_position f_is_tuple_of f_is_interval f_is_ascending f_has_position f_contains f_intersect f_is_demand f_serves f_conflict f_is_independent f_demands_at_blocks f_is_open f_open_demands f_shadow_target f_pieces_inside f_first_gap f_generates f_find_missing f_without_item f_require_few_blocks f_decisive_demands f_largest_independent f_unserved_demands f_helpful_piece f_smallest_solution f_count_needed f_solve f_are_witnesses f_solution_holds f_helps f_helpful_interval f_has_open_demand f_widen f_essential_targets f_core_targets f_is_free f_growth_counts f_law_draws f_law_next f_law_blocks f_law_wide f_law_call f_law_raised f_law_judged f_law f_TooWide_init X_TooWide X_NotGenerated X_OutOfRange X_TooMany X_SpanError d_depth_changes d_find_blocks d_is_number d_is_position d_is_tuple_of d_is_interval d_is_ascending d_has_position d_contains d_intersect d_is_demand d_serves d_conflict d_is_independent d_demands_at_blocks d_is_open d_open_demands d_shadow_target d_pieces_inside d_first_gap d_generates d_find_missing d_without_item d_require_few_blocks d_decisive_demands d_largest_independent d_unserved_demands d_helpful_piece d_smallest_solution d_count_needed d_solve d_are_witnesses d_solution_holds d_helps d_helpful_interval d_has_open_demand d_widen d_essential_targets d_core_targets d_is_free d_growth_counts d_law_draws d_law_next d_law_blocks d_law_wide d_law_call d_law_raised d_law_judged d_law d_TooWide_init t_LAST_POSITION t_MAX_BLOCKS) : FnOk P w K mg base CX0 3 f_unserved_demands d_unserved_demands ["demands", "piece"] sp_unserved := by
  refine T.F_unserved_demands.ok sc_unserved_demands (fun vs H Q E h => ?_) (fun cdv A outer s H vs Q E hr h => ?_)
  · obtain ⟨D, q, zs, ds, x, y, rfl, _⟩ := h
    rfl
  · obtain ⟨D, q, zs, ds, x, y, rfl, hD, dm, few, hq, k⟩ := h
    refine ⟨_, (pss_one (ps_ret (pe_lc (own := [("demand", 2)]) (g := (gName 2)) (by rfl) sc_unserved_demands.nd (pi_list (pv 0)) (blkOk_by (own := [("demand", 2)]) (N := N_unserved_demands) (sc := defScope s_unserved_demands) (by decide +kernel)) (fun _ _ _ _ _ => (pg_name (i := 2) sc_unserved_demands.nd rfl (Or.inl rfl))) (fun _ _ _ _ _ => pts_one (pt_not (pt_val (pe_call (ok_serves T) (hr.mono (by decide)) (by rfl) T.g_serves T.F_serves.kp T.b_serves .nil pass0 (pa_cons (pv 1) (pa_cons (pv 2) pa_nil)))))) (fun _ _ _ _ _ => (pv 2))))), ?_⟩
    have lz := dm.length
    refine ⟨.ref D, rfl, D, rfl, ⟨_, SqL.of hD⟩, fun E nE => ?_⟩
    refine lcL (K := K) (a := D) (xs := zs) (fun j H' ws => Dms H' ws ((ds.take j).filter fun d => !sv (x, y) d)) nE (fun H' s => SqL.of (s _ _ (hD))) (by omega) (fun _ _ _ _ t r => r.tps t) (fun j H' ws r => (by rw [r.length]; exact Nat.le_trans (List.length_filter_le _ _) (List.length_take_le _ _))) (fun _ => .nil) ?_ ?_
    · rintro j z H' N acc hj sj eA sz r no yes
      obtain ⟨p, lo, hi, ed, dz⟩ := dm.get hj
      have dz2 := dz.same sj
      obtain ⟨uz, tz, rfl, h1, h2⟩ := dz2.ex
      refine ⟨rfl, .ref q, rfl, .ref uz, rfl, q, uz, tz, x, y, p, lo, hi, rfl, sj _ _ hq, h1, h2, _, rfl, ?_⟩
      rw [show svI x y p lo hi = sv (x, y) (p, lo, hi) from sv_svI (x, y) (p, lo, hi)]
      refine ite2 (fun c => ?_) (fun c => ?_)
      · refine ⟨.ref uz, rfl, yes H' _ (Same.refl _) ?_⟩
        rw [take_filter ed, if_pos c]
        exact r.snoc dz2
      · refine no H' (Same.refl _) ?_
        rw [take_filter ed, if_neg c, List.append_nil]
        exact r
    intro H1 ws s1 eE r
    rw [lz, List.take_length] at r
    exact k H1 E ws s1 nE eE r
def candJ (as bs : List (Int × Int)) (d : Dem) : List (Int × Int) := as.flatMap fun b => (bs.map fun e => (b.1, e.2)).filter fun z => sv z d
theorem candJ_snoc (as bs : List (Int × Int)) (b : Int × Int) (d : Dem) : candJ (as ++ [b]) bs d = candJ as bs d ++ (bs.map fun e => (b.1, e.2)).filter fun z => sv z d := by
  unfold candJ
  rw [List.flatMap_append]
  simp
theorem candJ_len {bs : List (Int × Int)} {d : Dem} : ∀ {as : List (Int × Int)}, (candJ as bs d).length ≤ as.length * bs.length
  | [] => Nat.zero_le _
  | b :: as => by
    have ih := candJ_len (bs := bs) (d := d) (as := as)
    have h := List.length_filter_le (fun z => sv z d) (bs.map fun e => (b.1, e.2))
    rw [List.length_map] at h
    show (((bs.map fun e => (b.1, e.2)).filter fun z => sv z d) ++ candJ as bs d).length ≤ (as.length + 1) * bs.length
    rw [List.length_append, Nat.add_mul]
    omega
theorem Ivs.refs {H : Hp} {vs : List V} {ps : List (Int × Int)} (h : Ivs H vs ps) : ∃ as : List Addr, vs = as.map V.ref ∧ as.length = ps.length ∧ ∀ (j : Nat) (a : Addr), as[j]? = some a → ∃ q, ps[j]? = some q ∧ H a = some (.tup [.int q.1, .int q.2]) := by
  induction h with
  | nil => exact ⟨[], rfl, rfl, fun j a e => by simp at e⟩
  | cons e _ ih =>
    obtain ⟨as, e1, e2, e3⟩ := ih
    refine ⟨_ :: as, by rw [List.map_cons, e1], by rw [List.length_cons, List.length_cons, e2], fun j a ej => ?_⟩
    cases j with
    | zero =>
      cases ej
      exact ⟨_, rfl, e⟩
    | succ j => exact e3 j a ej
def sp_helpful (pT : Addr) : Sp := fun vs H Q _ => ∃ (d : Addr) (c : Addr × Addr × Addr) (n : Int) (D b : Addr) (zs ws : List V) (d0 : Dem) (ds : List Dem) (bs : List (Int × Int)), vs = [.ref D, .ref b] ∧ c.2.2 = pT ∧ Dk H d c n ∧ H D = some (.lst zs) ∧ Dms H zs (d0 :: ds) ∧ H b = some (.tup ws) ∧ Ivs H ws bs ∧ bs.length ≤ 16 ∧ (d0 :: ds).length ≤ lgN ∧ (d0 :: ds).length < 1000 ∧ 0 < (candI bs d0).length ∧
  ∀ H' r, Kp d c H H' → Dk H' d c n → H' r = some (.tup [.int (pickO bs (d0 :: ds)).1, .int (pickO bs (d0 :: ds)).2]) → Q (.ref r) H'
theorem ok_helpful_piece (T : Tx K mg f_depth_changes f_find_blocks f_is_number f_is_position f_is_tuple_of f_is_interval f_is_ascending f_has_position f_contains f_intersect f_is_demand f_serves f_conflict f_is_independent f_demands_at_blocks f_is_open f_open_demands f_shadow_target f_pieces_inside f_first_gap f_generates f_find_missing f_without_item f_require_few_blocks f_decisive_demands f_largest_independent f_unserved_demands f_helpful_piece f_smallest_solution f_count_needed f_solve f_are_witnesses f_solution_holds f_helps f_helpful_interval f_has_open_demand f_widen f_essential_targets f_core_targets f_is_free f_growth_counts f_law_draws f_law_next f_law_blocks f_law_wide f_law_call f_law_raised f_law_judged f_law f_TooWide_init X_TooWide X_NotGenerated X_OutOfRange X_TooMany X_SpanError d_depth_changes d_find_blocks d_is_number d_is_position d_is_tuple_of d_is_interval d_is_ascending d_has_position d_contains d_intersect d_is_demand d_serves d_conflict d_is_independent d_demands_at_blocks d_is_open d_open_demands d_shadow_target d_pieces_inside d_first_gap d_generates d_find_missing d_without_item d_require_few_blocks d_decisive_demands d_largest_independent d_unserved_demands d_helpful_piece d_smallest_solution d_count_needed d_solve d_are_witnesses d_solution_holds d_helps d_helpful_interval d_has_open_demand d_widen d_essential_targets d_core_targets d_is_free d_growth_counts d_law_draws d_law_next d_law_blocks d_law_wide d_law_call d_law_raised d_law_judged d_law d_TooWide_init t_LAST_POSITION t_MAX_BLOCKS) (hT : TabH base mg d_helpful_piece pT) : FnOk P w K mg base CX0 (lgN+9) f_helpful_piece d_helpful_piece ["demands", "blocks"] (sp_helpful pT) := by
  obtain ⟨c0, TB, hc0⟩ := hT
  refine okC T.F_helpful_piece sc_helpful_piece (fun vs H Q E h => ?_) (fun cdv hcd A outer s H vs Q E hr h => ?_)
  · obtain ⟨d, c, n, D, b, zs, ws, d0, ds, bs, rfl, _⟩ := h
    rfl
  · obtain ⟨d, c, n, D, b, zs, ws, d0, ds, bs, rfl, ct, dk, hD, dm, hb, ivb, lb, ln, few, some1, k⟩ := h
    refine ⟨_, (pss_cons (ps_setLc2 (i := 2) (own := [("low", 3), ("end", 4), ("start", 5), ("high", 6)]) (vs1 := [5, 6]) (g := (gTup K 2 (gCons (gName 3) (gCons (gName 4) gNil)))) (g1 := (gTup K 2 (gCons (gName 5) (gCons (gName 6) gNil)))) (tt := tYes) (by rfl) sc_helpful_piece.nd rfl rfl (sw_true rfl rfl rfl (by decide +kernel)) (pi_tup (pv 1)) (blkOk_by (own := [("low", 3), ("end", 4), ("start", 5), ("high", 6)]) (N := N_helpful_piece) (sc := defScope s_helpful_piece) (by decide +kernel)) (by decide) (fun _ _ _ _ _ => (pg_tup rfl (pgs_cons (pg_name (i := 3) sc_helpful_piece.nd rfl (Or.inl rfl)) (pgs_cons (pg_name (i := 4) sc_helpful_piece.nd rfl (Or.inl rfl)) pgs_nil)))) (fun _ _ _ _ _ => pts_nil) (fun _ _ _ _ _ => (pi_tupK (K := K) rfl (pv 1))) (fun _ _ _ _ _ => (pg_tup rfl (pgs_cons (pg_name (i := 5) sc_helpful_piece.nd rfl (Or.inl rfl)) (pgs_cons (pg_name (i := 6) sc_helpful_piece.nd rfl (Or.inl rfl)) pgs_nil)))) (fun _ _ _ _ _ => pts_one (pt_val (pe_call (ok_serves T) (hr.mono (by decide)) (by rfl) T.g_serves T.F_serves.kp T.b_serves .nil pass0 (pa_cons (pe_tup (pa_cons (pv 3) (pa_cons (pv 6) pa_nil))) (pa_cons (pe_ix (show IxR _ (rIxL K) from ix_list) (pv 0) pe_int (fun _ _ => rfl)) pa_nil))))) (fun _ _ _ _ _ => (pe_tup (pa_cons (pv 3) (pa_cons (pv 6) pa_nil)))))
      (pss_one (ps_ret (pe_minLam (cap := "demands") (par := "piece") (P := pT) 0 rfl (by rfl) T.z_min hr TB (hcd.symm.trans hc0) (lam1_by (sc := defScope s_helpful_piece) (by decide +kernel)) rfl rfl (fun _ _ _ _ _ _ => rfl) (pa_cons (pv 2) pa_nil) (fun _ _ _ _ _ hr => (pe_callB (show CallR _ (.builtin "len") (rLenS K) from call_lenS) (by rfl) T.z_len PySem.boot_len (pa_cons (pe_call (ok_largest_independent T) (hr.mono (by decide)) (by rfl) T.g_largest_independent T.F_largest_independent.kp T.b_largest_independent .nil pass0 (pa_cons (pe_call (ok_unserved_demands T) (hr.mono (by decide)) (by rfl) T.g_unserved_demands T.F_unserved_demands.kp T.b_unserved_demands .nil pass0 (pa_cons (pv 0) (pa_cons (pv 1) pa_nil))) pa_nil)) pa_nil))))))), ?_⟩
    have lz := dm.length
    have lw := ivb.length
    obtain ⟨v0, zr, rfl⟩ : ∃ v r, zs = v :: r := by
      cases dm
      exact ⟨_, _, rfl⟩
    obtain ⟨dv, _⟩ := dm.sub rfl rfl
    obtain ⟨u0, t0, rfl, h1, h2⟩ := dv.ex
    refine ⟨.ref b, rfl, b, rfl, ⟨_, SqT.of hb⟩, fun L nL => ?_⟩
    refine walkT (K := K) (a := b) (xs := ws) (fun i H' => Same H H' ∧ ∃ cs, H' L = some (.lst cs) ∧ Ivs H' cs (candJ (bs.take i) bs d0)) ⟨same_new nL, [], upd_same, .nil⟩ (fun i H' _ h => SqT.of (h.1 _ _ hb)) ?_ ?_
    · rintro i v H1 hi ⟨s1, cs, eL, iv⟩
      obtain ⟨bb, x, x9, rfl, ep, hbb⟩ := ivb.get hi
      refine ⟨bb, _, rfl, SqT.of (s1 _ _ hbb), rfl, .int x, [.int x9], rfl, .int x9, [], rfl, rfl, rfl, ?_⟩
      refine ⟨.ref b, rfl, b, rfl, ⟨_, SqT.of (s1 _ _ hb)⟩, ?_⟩
      refine walkT (K := K) (a := b) (xs := ws) (fun j H' => Same H H' ∧ ∃ cs, H' L = some (.lst cs) ∧ Ivs H' cs (candJ (bs.take i) bs d0 ++ ((bs.take j).map fun e => (x, e.2)).filter fun z => sv z d0)) ⟨s1, cs, eL, by show Ivs H1 cs (_ ++ []); rw [List.append_nil]; exact iv⟩ (fun j H' _ h => SqT.of (h.1 _ _ hb)) ?_ ?_
      · rintro j v H2 hj ⟨s2, cs2, eL2, iv2⟩
        obtain ⟨b2, y9, y, rfl, et, hb2⟩ := ivb.get hj
        have step : ((bs.take (j + 1)).map fun e => (x, e.2)).filter (fun z => sv z d0) = ((bs.take j).map fun e => (x, e.2)).filter (fun z => sv z d0) ++ if sv (x, y) d0 = true then [(x, y)] else [] := by
          rw [List.take_add_one, et, List.map_append, List.filter_append]
          congr 1
          show ([(x, y)].filter fun z => sv z d0) = _
          by_cases z : sv (x, y) d0 = true
          · rw [if_pos z, List.filter_cons, if_pos z]
            rfl
          · rw [if_neg z, List.filter_cons, if_neg z]
            rfl
        have sz : cs2.length < sizeLine := by
          have h1 := iv2.length
          have h2 := candJ_len (bs := bs) (d := d0) (as := bs.take i)
          have h3 : (((bs.take j).map fun e => (x, e.2)).filter fun z => sv z d0).length ≤ 16 := by
            refine Nat.le_trans (List.length_filter_le _ _) ?_
            rw [List.length_map]
            exact Nat.le_trans (List.length_take_le' _ _) lb
          have h4 : (bs.take i).length ≤ 16 := Nat.le_trans (List.length_take_le' _ _) lb
          have h5 : (bs.take i).length * bs.length ≤ 16 * 16 := Nat.mul_le_mul h4 lb
          rw [List.length_append] at h1
          rw [show sizeLine = 16777216 by decide]
          omega
        refine ⟨b2, _, rfl, SqT.of (s2 _ _ hb2), rfl, .int y9, [.int y], rfl, .int y, [], rfl, rfl, rfl, ?_⟩
        refine ⟨.int x, rfl, .int y, rfl, by show 2 ≤ sizeLine; decide, fun t1 nt1 => ?_⟩
        have s3 := same_new (o := .tup [.int x, .int y]) nt1
        have et1 := upd_same (H := H2) (a := t1) (o := .tup [.int x, .int y])
        generalize upd H2 t1 (.tup [.int x, .int y]) = H3 at *
        have s23 := s2.trans s3
        refine ⟨.ref D, rfl, D, _, 0, .ref u0, rfl, rfl, SqL.of (s23 _ _ hD), (show atI (V.ref u0 :: zr) ((0 : Nat) : Int) = some (.ref u0) from atI_nat rfl), t1, u0, t0, x, y, d0.1, d0.2.1, d0.2.2, rfl, et1, s23 _ _ h1, s23 _ _ h2, _, rfl, ?_⟩
        rw [show svI x y d0.1 d0.2.1 d0.2.2 = sv (x, y) d0 from sv_svI (x, y) d0]
        refine ite2 (fun cc => ?_) (fun cc => ?_)
        · refine ⟨.int x, rfl, .int y, rfl, by show 2 ≤ sizeLine; decide, fun t nt => ?_⟩
          have s4 := same_new (o := .tup [.int x, .int y]) nt
          have et4 := upd_same (H := H3) (a := t) (o := .tup [.int x, .int y])
          generalize upd H3 t (.tup [.int x, .int y]) = H4 at *
          have s24 := s23.trans s4
          have eL4 := (s3.trans s4) _ _ eL2
          refine ⟨cs2, eL4, sz, same_off nL s24, _, upd_same, ?_⟩
          rw [step, if_pos cc, ← List.append_assoc]
          exact ((iv2.same (s3.trans s4)).snoc et4).tps (Tps.lst eL4)
        · refine ⟨s23, cs2, s3 _ _ eL2, ?_⟩
          rw [step, if_neg cc, List.append_nil]
          exact iv2.same s3
      · rintro H2 ⟨s2, cs2, eL2, iv2⟩
        refine ⟨s2, cs2, eL2, ?_⟩
        rw [lw, List.take_length] at iv2
        rw [List.take_add_one, ep]
        show Ivs H2 cs2 (candJ (bs.take i ++ [(x, x9)]) bs d0)
        rw [candJ_snoc]
        exact iv2
    rintro H2 ⟨s2, cs, eL, iv⟩
    rw [lw, List.take_length] at iv
    have iv : Ivs H2 cs (candI bs d0) := iv
    obtain ⟨as, rfl, la, at_⟩ := iv.refs
    have dk2 := dk.kept s2
    refine ⟨.ref L, rfl, L, as, fun j => keyO (d0 :: ds) ((candI bs d0).getD j (0, 0)), .ref D, rfl, eL, by rw [la]; exact some1, ct ▸ dk2.tab, rfl, fun H3 but tab3 => ⟨fun j a H4 ea s4 => ?_, fun j a H4 ea low s4 => ?_⟩⟩
    · obtain ⟨q, eq, hq⟩ := at_ j a ea
      have kp4 : Kp d c H2 H4 := Kp.trans (fun b o _ n2 e => but b o (fun z => n2.2 (z.trans ct.symm)) e) (Kp.same s4)
      have tp4 : Tps H H4 := (Tps.same s2).trans (kp4.tps dk2)
      have hD4 : H4 D = some (.lst (V.ref u0 :: zr)) := s4 _ _ (but _ _ (fun z => by
        obtain ⟨ps, h4, _⟩ := dk.tab
        rw [ct, ← z, hD] at h4
        cases h4) (s2 _ _ hD))
      refine ⟨.ref D, rfl, .ref a, rfl, D, a, _, _, q.1, q.2, rfl, hD4, dm.tps tp4, few, kp4.tup dk2 hq, fun H5 E es s5 nE eE dmE => ?_⟩
      have fl := List.length_filter_le (fun d => !sv (q.1, q.2) d) (d0 :: ds)
      refine ⟨E, es, _, rfl, eE, dmE, Nat.le_trans fl ln, Nat.lt_of_le_of_lt fl few, fun H6 p ws6 s6 ep dmp => ?_⟩
      refine ⟨p, ws6, rfl, .inr (SqT.of ep), ?_, s5.trans s6⟩
      rw [dmp.length, lg_same _ (d0 :: ds).length _ (Nat.le_refl _) fl]
      have gd : (candI bs d0).getD j (0, 0) = q := by rw [List.getD_eq_getElem?_getD, eq]; rfl
      show V.int _ = V.int ((keyO (d0 :: ds) ((candI bs d0).getD j (0, 0)) : Nat) : Int)
      rw [gd]
      rfl
    · obtain ⟨q, eq, hq⟩ := at_ j a ea
      have kp4 : Kp d c H2 H4 := Kp.trans (fun b o _ n2 e => but b o (fun z => n2.2 (z.trans ct.symm)) e) (Kp.same s4)
      have am : argm (keyO (d0 :: ds)) (candI bs d0) = some q := argm_low eq fun i z ez => by
        have il := (List.getElem?_eq_some_iff.mp ez).1
        have w := low i (by rw [la]; exact il)
        simp only [List.getD_eq_getElem?_getD, eq, ez, Option.getD_some] at w
        omega
      have pk : pickO bs (d0 :: ds) = q := congrArg (fun o => Option.getD o (0, 0)) am
      refine k H4 a ((Kp.same s2).trans kp4) ((dk2.but (ct ▸ but) (ct ▸ tab3)).kept s4) ?_
      rw [pk]
      exact kp4.tup dk2 hq

/-! ### smallest_solution, solve -/
def witO (ts ps : List (Int × Int)) : List Dem := lg (decO ts ps).length (decO ts ps)
def msD (σ : L2.St) (H : Hp) : Nat := match σ[3]? with
  | some (some (V.ref D)) => (match H D with
    | some (HO.lst zs) => zs.length
    | _ => 0)
  | _ => 0
theorem msD_at {H : Hp} {v0 v1 v2 v4 v5 v6 : Option V} {D : Addr} {zs : List V} (h : H D = some (.lst zs)) : msD [v0, v1, v2, some (.ref D), v4, v5, v6] H = zs.length := by
  show (match H D with | some (.lst zs) => zs.length | _ => 0) = zs.length
  rw [h]
/-- where the loop stands: A found, ds to be served, ps' the pieces with those found -/
structure AtS (ts ps A : List (Int × Int)) (ds : List Dem) : Prop where
  good : Good (ts ++ (ps ++ A))
  blk : blocksOf (ts ++ (ps ++ A)) = blocksOf (ts ++ ps)
  dec : ds = decO ts (ps ++ A)
  run : ∃ m, ds.length ≤ m ∧ A ++ runO (blocksOf (ts ++ ps)) m ds = addO ts ps
theorem AtS.start {ts ps : List (Int × Int)} (g : Good (ts ++ ps)) : AtS ts ps [] (decO ts ps) :=
  ⟨by rw [List.append_nil]; exact g, by rw [List.append_nil], by rw [List.append_nil], _, Nat.le_refl _, rfl⟩
theorem AtS.step {ts ps A : List (Int × Int)} {d : Dem} {ds : List Dem} (h : AtS ts ps A (d :: ds)) : pickO (blocksOf (ts ++ ps)) (d :: ds) ∈ candI (blocksOf (ts ++ ps)) d ∧ sv (pickO (blocksOf (ts ++ ps)) (d :: ds)) d = true ∧
    AtS ts ps (A ++ [pickO (blocksOf (ts ++ ps)) (d :: ds)]) ((d :: ds).filter fun e => !sv (pickO (blocksOf (ts ++ ps)) (d :: ds)) e) := by
  have p := pick_ok h.good h.dec.symm
  rw [h.blk, ← h.dec] at p
  obtain ⟨p1, p2, _⟩ := p
  have s := (mem_cand.mp p1).2.2
  refine ⟨p1, s, ?_⟩
  generalize hq : pickO (blocksOf (ts ++ ps)) (d :: ds) = q at *
  have e1 : ps ++ (A ++ [q]) = (ps ++ A) ++ [q] := (List.append_assoc _ _ _).symm
  obtain ⟨m, m1, m2⟩ := h.run
  refine ⟨by rw [e1]; exact good_snoc h.good p2, ?_, ?_, ?_⟩
  · rw [e1, ← List.append_assoc]
    exact (blocks_fit h.good p2).trans h.blk
  · rw [e1, dec_fit h.good p2, ← h.dec]
  · rw [List.length_cons] at m1
    obtain ⟨n, rfl⟩ : ∃ n, m = n + 1 := ⟨m - 1, by omega⟩
    refine ⟨n, Nat.le_trans (filter_len (by rw [s]; rfl)) (by omega), ?_⟩
    rw [List.append_assoc, ← m2]
    congr 1
    show [q] ++ _ = pickO (blocksOf (ts ++ ps)) (d :: ds) :: runO (blocksOf (ts ++ ps)) n ((d :: ds).filter fun e => !sv (pickO (blocksOf (ts ++ ps)) (d :: ds)) e)
    rw [hq]
    rfl
theorem AtS.fin {ts ps A : List (Int × Int)} (h : AtS ts ps A []) : A = addO ts ps := by
  obtain ⟨m, _, m2⟩ := h.run
  rw [← m2]
  cases m with
  | zero => exact (List.append_nil _).symm
  | succ m => exact (List.append_nil _).symm
/-- the bounds under which the searches end -/
structure SolB (ts ps : List (Int × Int)) : Prop where
  good : Good (ts ++ ps)
  top : ∀ q ∈ ts, q.2 < 10 ^ 13
  lt : ts.length ≤ 30
  fk : FewK (ts ++ ps)
  few : (blocksOf (ts ++ ps)).length ≤ 8
  lg : 8 * ts.length ≤ lgN
  lg1 : lgN < 1000
theorem SolB.dec {ts ps : List (Int × Int)} (B : SolB ts ps) : (decO ts ps).length ≤ lgN := by
  have h1 := decO_len (ts := ts) (ps := ps)
  have h2 := Nat.mul_le_mul B.few (Nat.le_refl ts.length)
  have := B.lg
  omega
theorem need_le_ts {ts ps : List (Int × Int)} (g : Good (ts ++ ps)) : needO ts ps ≤ ts.length := need_of_com g (com_self ts ps)
theorem add_bd {ts ps : List (Int × Int)} (B : SolB ts ps) : (addO ts ps).length ≤ 30 ∧ ∀ q ∈ addO ts ps, (0 ≤ q.1 ∧ q.1 < 10 ^ 13) ∧ 0 ≤ q.2 ∧ q.2 < 10 ^ 13 := by
  have ok := add_ok B.good
  refine ⟨by rw [ok.len]; exact Nat.le_trans (need_le_ts B.good) B.lt, fun q hq => ?_⟩
  obtain ⟨f, t, ht, h1, h2⟩ := ok.inn q hq
  have g := B.good t (List.mem_append_left _ ht)
  have := f.le
  have := B.top t ht
  omega
theorem leP_nd {ps : List (Int × Int)} (h : ps.Pairwise leP) (nd : ps.Nodup) : ps.Pairwise ltP := by
  refine (h.and nd).imp fun {a b} z => ?_
  rcases z.1 with k | ⟨k1, k2⟩
  · exact .inl k
  · refine .inr ⟨k1, ?_⟩
    rcases Int.lt_or_eq_of_le k2 with w | w
    · exact w
    · exact absurd (Prod.ext k1 w) z.2
/-- what solve returns for targets and pieces -/
structure SolH (H : Hp) (r : Addr) (ts ps A : List (Int × Int)) : Prop where
  ex : ∃ (x y : Addr) (zs vs : List V), H r = some (.tup [.ref x, .ref y]) ∧ H x = some (.tup zs) ∧ Ivs H zs A ∧ H y = some (.tup vs) ∧ Dms H vs (witO ts ps)
  perm : A.Perm (addO ts ps)
  asc : A.Pairwise ltP
def sp_smallest (pT : Addr) : Sp := fun vs H Q _ => ∃ (d : Addr) (c : Addr × Addr × Addr) (n : Int) (a b : Addr) (us ws : List V) (ts ps : List (Int × Int)), vs = [.ref a, .ref b] ∧ c.2.2 = pT ∧ Dk H d c n ∧ H a = some (.tup us) ∧ H b = some (.tup ws) ∧ Ivs H us ts ∧ Ivs H ws ps ∧ SolB ts ps ∧
  ∀ H' r A, Kp d c H H' → Dk H' d c n → SolH H' r ts ps A → Q (.ref r) H'
theorem ok_smallest_solution (T : Tx K mg f_depth_changes f_find_blocks f_is_number f_is_position f_is_tuple_of f_is_interval f_is_ascending f_has_position f_contains f_intersect f_is_demand f_serves f_conflict f_is_independent f_demands_at_blocks f_is_open f_open_demands f_shadow_target f_pieces_inside f_first_gap f_generates f_find_missing f_without_item f_require_few_blocks f_decisive_demands f_largest_independent f_unserved_demands f_helpful_piece f_smallest_solution f_count_needed f_solve f_are_witnesses f_solution_holds f_helps f_helpful_interval f_has_open_demand f_widen f_essential_targets f_core_targets f_is_free f_growth_counts f_law_draws f_law_next f_law_blocks f_law_wide f_law_call f_law_raised f_law_judged f_law f_TooWide_init X_TooWide X_NotGenerated X_OutOfRange X_TooMany X_SpanError d_depth_changes d_find_blocks d_is_number d_is_position d_is_tuple_of d_is_interval d_is_ascending d_has_position d_contains d_intersect d_is_demand d_serves d_conflict d_is_independent d_demands_at_blocks d_is_open d_open_demands d_shadow_target d_pieces_inside d_first_gap d_generates d_find_missing d_without_item d_require_few_blocks d_decisive_demands d_largest_independent d_unserved_demands d_helpful_piece d_smallest_solution d_count_needed d_solve d_are_witnesses d_solution_holds d_helps d_helpful_interval d_has_open_demand d_widen d_essential_targets d_core_targets d_is_free d_growth_counts d_law_draws d_law_next d_law_blocks d_law_wide d_law_call d_law_raised d_law_judged d_law d_TooWide_init t_LAST_POSITION t_MAX_BLOCKS) (hT : TabH base mg d_helpful_piece pT) : FnOk P w K mg base CX0 (lgN+10) f_smallest_solution d_smallest_solution ["targets", "pieces"] (sp_smallest pT) := by
  refine T.F_smallest_solution.ok sc_smallest_solution (fun vs H Q E h => ?_) (fun cdv A outer s H vs Q E hr h => ?_)
  · obtain ⟨d, c, n, a, b, us, ws, ts, ps, rfl, _⟩ := h
    rfl
  · obtain ⟨d, c, n, a, b, us, ws, ts, ps, rfl, ct, dk, ha, hb, ivt, ivp, B, k⟩ := h
    refine ⟨_, (pss_cons (ps_set (i := 2) sc_smallest_solution.nd rfl (Or.inl rfl) (pe_call (ok_find_blocks T) (hr.mono (by decide)) (by rfl) T.g_find_blocks T.F_find_blocks.kp T.b_find_blocks .nil pass0 (pa_cons (pe_op op_catA (pv 0) (pv 1)) pa_nil)))
      (pss_cons (ps_set (i := 3) sc_smallest_solution.nd rfl (Or.inl rfl) (pe_call (ok_decisive_demands T) (hr.mono (by decide)) (by rfl) T.g_decisive_demands T.F_decisive_demands.kp T.b_decisive_demands .nil pass0 (pa_cons (pv 0) (pa_cons (pv 1) pa_nil))))
      (pss_cons (ps_set (i := 4) sc_smallest_solution.nd rfl (Or.inl rfl) (pe_call (ok_largest_independent T) (hr.mono (by decide)) (by rfl) T.g_largest_independent T.F_largest_independent.kp T.b_largest_independent .nil pass0 (pa_cons (pv 3) pa_nil)))
      (pss_cons (ps_set (i := 5) sc_smallest_solution.nd rfl (Or.inl rfl) (pe_lst pa_nil))
      (pss_cons (ps_while PassesOwn.never (pt_truth (pv 3) (by intro _; rfl))
      (pss_cons (ps_set (i := 6) sc_smallest_solution.nd rfl (Or.inl rfl) (pe_call (ok_helpful_piece T hT) (hr.mono (by decide)) (by rfl) T.g_helpful_piece T.F_helpful_piece.kp T.b_helpful_piece .nil pass0 (pa_cons (pv 3) (pa_cons (pv 2) pa_nil))))
      (pss_cons (ps_expr (pe_bm PySem.F.plainAttrs_list PySem.F.slot_list_append PySem.F.type_list_append mt_append (pv 5) (pa_cons (pv 6) pa_nil)))
      (pss_one (ps_set (i := 3) sc_smallest_solution.nd rfl (Or.inl rfl) (pe_call (ok_unserved_demands T) (hr.mono (by decide)) (by rfl) T.g_unserved_demands T.F_unserved_demands.kp T.b_unserved_demands .nil pass0 (pa_cons (pv 3) (pa_cons (pv 6) pa_nil))))))))
      (pss_one (ps_ret (pe_tup (pa_cons (pe_callTy call_tuple_of (by rfl) T.z_tuple (by decide +kernel) (pa_cons (pe_callB (cr_sortT (d := 2) (B := 10 ^ 13) (by decide)) (by rfl) T.z_sorted (by decide +kernel) (pa_cons (pv 5) pa_nil)) pa_nil)) (pa_cons (pv 4) pa_nil)))))))))), ?_⟩
    have lu := ivt.length
    have lw := ivp.length
    have lk := B.fk.le
    rw [List.length_append] at lk
    refine ⟨.ref a, rfl, .ref b, rfl, catA_any ha hb (by rw [show sizeLine = 16777216 by decide]; omega) (fun H1 ab s1 eab => ?_)⟩
    refine ⟨ab, us ++ ws, ts ++ ps, rfl, eab, (ivt.same s1).append (ivp.same s1), B.good, B.fk, fun H2 bl bs s2 ebl ivb => ?_⟩
    have s12 := s1.trans s2
    refine ⟨.ref a, rfl, .ref b, rfl, a, b, us, ws, ts, ps, rfl, s12 _ _ ha, s12 _ _ hb, ivt.same s12, ivp.same s12, B.good, B.lt, B.fk, B.few, fun H3 D zs s3 nD eD dm => ?_⟩
    have offD : Off d c D := (dk.kept s12).off nD
    have s13 := s12.trans s3
    have few := B.lg1
    have ld := B.dec
    refine ⟨.ref D, rfl, D, zs, _, rfl, eD, dm, ld, by omega, fun H4 wi vs4 s4 ewi dmw => ?_⟩
    have s14 := s13.trans s4
    refine ⟨by show 0 ≤ sizeLine; decide, fun l nl => ?_⟩
    have s5 := same_new (o := .lst []) nl
    have el := upd_same (H := H4) (a := l) (o := .lst [])
    generalize upd H4 l (.lst []) = H5 at *
    have dk4 := dk.kept s14
    have dk5 := dk4.kept s5
    have offl : Off d c l := (dk.kept s14).off nl
    have eD5 := s5 _ _ (s4 _ _ eD)
    have lD : l ≠ D := (ne_of_none (s4 _ _ eD) nl).symm
    dsimp only [gName, tSeq]
    refine while_by (fun σ H' => (Kp d c H4 H' ∧ Dk H' d c n) ∧ ∃ (A : List (Int × Int)) (ls : List V) (D' : Addr) (zs' : List V) (ds : List Dem) (y6 : Option V), AtS ts ps A ds ∧ (H' l = some (.lst ls) ∧ Ivs H' ls A) ∧ (H' D' = some (.lst zs') ∧ Dms H' zs' ds ∧ (l ≠ D' ∧ Off d c D') ∧ ds.length ≤ lgN) ∧ σ = [some (.ref a), some (.ref b), some (.ref bl), some (.ref D'), some (.ref wi), some (.ref l), y6]) msD
      ⟨⟨Kp.same s5, dk5⟩, [], [], D, zs, _, _, AtS.start B.good, ⟨el, .nil⟩, ⟨eD5, dm.same (s4.trans s5), ⟨lD, offD⟩, ld⟩, rfl⟩ ?_ ?_
    rotate_left
    · rintro σ H Q Q' imp ⟨v, hv, kk, tr, q⟩
      exact ⟨v, hv, kk, tr, imp _ _ q⟩
    rintro σ H6 ⟨⟨kp6, dk6⟩, A, ls, D', zs', ds, y6, at_, ⟨el6, ivl⟩, ⟨eD6, dm6, ⟨lD6, offD6⟩, ld6⟩, rfl⟩
    rw [msD_at eD6]
    refine ⟨.ref D', rfl, !zs'.isEmpty, .inl ⟨_, SqL.of eD6, rfl⟩, ?_⟩
    have t5 : Tps H H6 := (Tps.same s14).trans (kp6.tps dk4)
    cases ds with
    | nil =>
      cases dm6
      refine iteF ?_
      have eA := at_.fin
      have bd := add_bd B
      have ok := add_ok B.good
      rw [← eA] at bd ok
      refine ⟨.ref l, rfl, ?_⟩
      dsimp only [tNil]
      refine sort_pairs (SqL.of el6) ivl (by omega) bd.2 (fun H7 p us' A' s7 np ep iv' srt pm => ?_)
      refine ⟨p, us', rfl, .inl ⟨SqL.of ep, fun t nt => ?_⟩⟩
      have s8 := same_new (o := .tup us') nt
      have et := upd_same (H := H7) (a := t) (o := .tup us')
      generalize upd H7 t (.tup us') = H8 at *
      have s68 := s7.trans s8
      refine ⟨.ref wi, rfl, by show 2 ≤ sizeLine; decide, fun r nr => ?_⟩
      have s9 := same_new (o := .tup [.ref t, .ref wi]) nr
      have T4 : Tps H4 H6 := kp6.tps dk4
      refine k _ r A' ((Kp.same s14).trans (kp6.trans (Kp.same (s68.trans s9)))) (dk6.kept (s68.trans s9)) ⟨⟨t, wi, us', vs4, upd_same, s9 _ _ et, iv'.same (s8.trans s9), (s68.trans s9) _ _ (T4 _ _ ewi), (dmw.tps T4).same (s68.trans s9)⟩, ?_, leP_nd srt (pm.nodup_iff.mpr ok.nd)⟩
      rw [← eA]
      exact pm
    | cons d0 ds =>
      obtain ⟨v0, zr, rfl⟩ : ∃ v r, zs' = v :: r := by
        cases dm6
        exact ⟨_, _, rfl⟩
      refine iteT ?_
      obtain ⟨pm, ps0, at2⟩ := at_.step
      have lb := B.few
      have ivb6 : Ivs H6 bs (blocksOf (ts ++ ps)) := (ivb.same (s3.trans s4)).tps (kp6.tps dk4)
      refine ⟨.ref D', rfl, .ref bl, rfl, d, c, n, D', bl, _, bs, d0, ds, blocksOf (ts ++ ps), rfl, ct, dk6, eD6, dm6, kp6.tup dk4 ((s3.trans s4) _ _ ebl), ivb6, by omega, ld6, by omega, List.length_pos_of_mem pm, fun H7 r kp7 dk7 er => ?_⟩
      generalize hq : pickO (blocksOf (ts ++ ps)) (d0 :: ds) = q at *
      have el7 := kp7.keep offl el6
      have ivl7 := ivl.tps (kp7.tps dk6)
      have eD7 := kp7.keep offD6 eD6
      have dm7 := dm6.tps (kp7.tps dk6)
      refine ⟨.ref l, rfl, .inl ⟨rfl, _, SqL.of el7⟩, .ref r, rfl, l, ls, _, rfl, rfl, el7, ?_, ?_⟩
      · have h1 := ivl7.length
        have h2 := at2.run
        obtain ⟨m, _, h3⟩ := h2
        have h4 := (add_bd B).1
        rw [← h3, List.length_append, List.length_append] at h4
        exact small1000 (by omega)
      have tl := Tps.lst (vs := ls ++ [V.ref r]) el7
      have dk8 := dk7.upd (o := .lst (ls ++ [V.ref r])) offl
      have kp8 : Kp d c H4 (upd H7 l (.lst (ls ++ [V.ref r]))) := fun b o n1 n2 e => by
        rw [upd_ne (ne_of_none e nl)]
        exact kp7 b o n1 n2 (kp6 b o n1 n2 e)
      have el8 := upd_same (H := H7) (a := l) (o := .lst (ls ++ [V.ref r]))
      have eD8 : upd H7 l (.lst (ls ++ [V.ref r])) D' = some (.lst (v0 :: zr)) := by rw [upd_ne lD6.symm]; exact eD7
      have er8 := tl _ _ er
      have dm8 := dm7.tps tl
      have ivl8 := (ivl7.snoc er).tps tl
      generalize upd H7 l (.lst (ls ++ [V.ref r])) = H8 at *
      have fl : ((d0 :: ds).filter fun e => !sv q e).length ≤ ds.length := filter_len (by rw [ps0]; rfl)
      have lz := dm7.length
      rw [List.length_cons, List.length_cons] at lz
      rw [List.length_cons] at ld6
      refine ⟨.ref D', rfl, .ref r, rfl, D', r, _, _, q.1, q.2, rfl, eD8, dm8, by rw [List.length_cons]; omega, er8, fun H9 E es s9 nE eE dmE => ⟨⟨⟨kp8.trans (Kp.same s9), dk8.kept s9⟩, A ++ [q], ls ++ [.ref r], E, es, _, _, at2, ⟨s9 _ _ el8, ivl8.same s9⟩, ⟨eE, dmE, ⟨(ne_of_none el8 nE), dk8.off nE⟩, by omega⟩, rfl⟩, ?_⟩⟩
      refine Nat.lt_of_le_of_lt (Nat.le_of_eq (msD_at eE)) ?_
      have le : es.length ≤ ds.length := by
        rw [dmE.length]
        exact fl
      rw [List.length_cons]
      omega
def sp_solve (pT : Addr) : Sp := sp_smallest pT
theorem ok_solve (T : Tx K mg f_depth_changes f_find_blocks f_is_number f_is_position f_is_tuple_of f_is_interval f_is_ascending f_has_position f_contains f_intersect f_is_demand f_serves f_conflict f_is_independent f_demands_at_blocks f_is_open f_open_demands f_shadow_target f_pieces_inside f_first_gap f_generates f_find_missing f_without_item f_require_few_blocks f_decisive_demands f_largest_independent f_unserved_demands f_helpful_piece f_smallest_solution f_count_needed f_solve f_are_witnesses f_solution_holds f_helps f_helpful_interval f_has_open_demand f_widen f_essential_targets f_core_targets f_is_free f_growth_counts f_law_draws f_law_next f_law_blocks f_law_wide f_law_call f_law_raised f_law_judged f_law f_TooWide_init X_TooWide X_NotGenerated X_OutOfRange X_TooMany X_SpanError d_depth_changes d_find_blocks d_is_number d_is_position d_is_tuple_of d_is_interval d_is_ascending d_has_position d_contains d_intersect d_is_demand d_serves d_conflict d_is_independent d_demands_at_blocks d_is_open d_open_demands d_shadow_target d_pieces_inside d_first_gap d_generates d_find_missing d_without_item d_require_few_blocks d_decisive_demands d_largest_independent d_unserved_demands d_helpful_piece d_smallest_solution d_count_needed d_solve d_are_witnesses d_solution_holds d_helps d_helpful_interval d_has_open_demand d_widen d_essential_targets d_core_targets d_is_free d_growth_counts d_law_draws d_law_next d_law_blocks d_law_wide d_law_call d_law_raised d_law_judged d_law d_TooWide_init t_LAST_POSITION t_MAX_BLOCKS) (hT : TabH base mg d_helpful_piece pT) : FnOk P w K mg base CX0 (lgN+11) f_solve d_solve ["targets", "pieces"] (sp_solve pT) := by
  refine T.F_solve.ok sc_solve (fun vs H Q E h => ?_) (fun cdv A outer s H vs Q E hr h => ?_)
  · obtain ⟨d, c, n, a, b, us, ws, ts, ps, rfl, _⟩ := h
    rfl
  · obtain ⟨d, c, n, a, b, us, ws, ts, ps, rfl, ct, dk, ha, hb, ivt, ivp, B, k⟩ := h
    refine ⟨_, (pss_cons (ps_expr (pe_call (ok_require_few_blocks T) (hr.mono (by decide)) (by rfl) T.g_require_few_blocks T.F_require_few_blocks.kp T.b_require_few_blocks .nil pass0 (pa_cons (pe_op op_catA (pv 0) (pv 1)) pa_nil)))
      (pss_one (ps_ret (pe_call (ok_smallest_solution T hT) (hr.mono (by decide)) (by rfl) T.g_smallest_solution T.F_smallest_solution.kp T.b_smallest_solution .nil pass0 (pa_cons (pv 0) (pa_cons (pv 1) pa_nil)))))), ?_⟩
    have lu := ivt.length
    have lw := ivp.length
    have lk := B.fk.le
    rw [List.length_append] at lk
    refine ⟨.ref a, rfl, .ref b, rfl, catA_any ha hb (by rw [show sizeLine = 16777216 by decide]; omega) (fun H1 ab s1 eab => ?_)⟩
    refine ⟨ab, us ++ ws, ts ++ ps, rfl, eab, (ivt.same s1).append (ivp.same s1), B.good, B.fk, B.few, fun H2 s2 => ?_⟩
    have s12 := s1.trans s2
    exact ⟨.ref a, rfl, .ref b, rfl, d, c, n, a, b, us, ws, ts, ps, rfl, ct, dk.kept s12, s12 _ _ ha, s12 _ _ hb, ivt.same s12, ivp.same s12, B, fun H' r A kp dk' sol => k H' r A ((Kp.same s12).trans kp) dk' sol⟩

theorem shaped_pairs (ps : List (Int × Int)) : SeqAt.shaped (.tuple (ps.map pairD)) = true := by
  have h1 : ∀ ps : List (Int × Int), PyData.canLayAll0 (ps.map pairD) = true := by
    intro ps
    induction ps with
    | nil => rfl
    | cons n r ih => exact ih
  have h2 : ∀ ps : List (Int × Int), PyData.depthAll (ps.map pairD) ≤ 1 := by
    intro ps
    induction ps with
    | nil => exact Nat.zero_le _
    | cons n r ih =>
      show max 1 (PyData.depthAll (r.map pairD)) ≤ 1
      omega
  unfold SeqAt.shaped
  rw [show PyData.canLay0 (.tuple (ps.map pairD)) = PyData.canLayAll0 (ps.map pairD) from rfl, h1 ps]
  show decide (PyData.depthAll (ps.map pairD) + 1 ≤ 64) = true
  exact decide_eq_true (by have := h2 ps; omega)
theorem eqv_self (ps : List (Int × Int)) : PyData.eqv (.tuple (ps.map pairD)) (.tuple (ps.map pairD)) = true := by
  show PyData.eqvAll (ps.map pairD) (ps.map pairD) = true
  induction ps with
  | nil => rfl
  | cons q r ih =>
    show (((q.1 == q.1) && ((q.2 == q.2) && true)) && PyData.eqvAll (r.map pairD) (r.map pairD)) = true
    rw [ih, beq_self_eq_true, beq_self_eq_true]
    rfl

/-! ### <, >= of data at any depth that are alike -/
section
variable {X : Cx}
def rGeDt (K : PySem.W.Frag) : R2 := fun x y H Q => ∃ d e, Dp K H x d ∧ Dp K H y e ∧ PySem.W.alike d e = true ∧ d ≠ .none ∧ d.depth ≤ 60 ∧ Q (.bl (!PySem.W.dataLt d e)) H
def rLtDt (K : PySem.W.Frag) : R2 := fun x y H Q => ∃ d e, Dp K H x d ∧ Dp K H y e ∧ PySem.W.alike d e = true ∧ d ≠ .none ∧ d.depth ≤ 60 ∧ Q (.bl (PySem.W.dataLt d e)) H
theorem op_geDt (hu : X.A.units + 64 < cLine) : OpR X (compareOp .GtE) (rGeDt X.K) := by
  intro pins s σ H x y v u Q I rx ry ⟨d, e, hd, he, al, nn, dp, q⟩
  obtain ⟨as, r1⟩ := Dp.reads I d x v hd rx
  obtain ⟨bs, r2⟩ := Dp.reads I e y u he ry
  exact PySem.W.ge_data r1 r2 al nn (by omega) ⟨.bl _, H, I, rfl, q⟩
theorem op_ltDt (hu : X.A.units + 64 < cLine) : OpR X (compareOp .Lt) (rLtDt X.K) := by
  intro pins s σ H x y v u Q I rx ry ⟨d, e, hd, he, al, nn, dp, q⟩
  obtain ⟨as, r1⟩ := Dp.reads I d x v hd rx
  obtain ⟨bs, r2⟩ := Dp.reads I e y u he ry
  exact PySem.W.lt_data r1 r2 al nn (by omega) ⟨.bl _, H, I, rfl, q⟩
end
theorem dlt_first {x u : Int} (h : x < u) (r s : List PyData) : PySem.W.dataLt (.tuple (.int x :: r)) (.tuple (.int u :: s)) = true := by
  have e : PyData.eqv (.int x) (.int u) = false := by
    show (x == u) = false
    rw [beq_eq_false_iff_ne]
    omega
  rw [PySem.W.dataLt_tuple, PySem.W.dataLt_all_no rfl e, PySem.W.dataLt_int]
  exact decide_eq_true h
theorem dlt_second {x y v : Int} (h : y < v) : PySem.W.dataLt (.tuple [.int x, .int y]) (.tuple [.int x, .int v]) = true := by
  have e1 : PyData.eqv (.int x) (.int x) = true := by
    show (x == x) = true
    exact beq_self_eq_true x
  have e : PyData.eqv (.int y) (.int v) = false := by
    show (y == v) = false
    rw [beq_eq_false_iff_ne]
    omega
  rw [PySem.W.dataLt_tuple, PySem.W.dataLt_all_yes rfl e1, PySem.W.dataLt_all_no rfl e, PySem.W.dataLt_int]
  exact decide_eq_true h
theorem dlt_pair {p q : Int × Int} (h : ltP p q) : PySem.W.dataLt (pairD p) (pairD q) = true := by
  rcases h with h | ⟨h1, h2⟩
  · exact dlt_first h _ _
  · unfold pairD
    rw [h1]
    exact dlt_second h2
/-! ### for i, x in enumerate(t) -/
theorem for_enumT {K : PySem.W.Frag} {a : Addr} {xs : List V} {g : TG} {tb : TS} {D : Ends} {σ : L2.St} {H : Hp} (Pv : Nat → L2.St → Hp → Prop) (h0 : Pv 0 σ H) (hq : ∀ i σ H, Pv i σ H → SqT K H a xs)
    (hs : ∀ (i : Nat) (x : V) (t : Addr) (σ : L2.St) (H : Hp), xs[i]? = some x → Pv i σ H → H t = none → g (.ref t) σ (upd H t (.tup [.int (i : Nat), x])) fun σ2 H2 => tb { D with nx := Pv (i + 1), ct := Pv (i + 1), bk := D.nx } σ2 H2) (hd : ∀ σ H, Pv xs.length σ H → D.nx σ H) :
    ∃ W : Nat → Nat → L2.St → Hp → Prop, (∃ m, W 0 m σ H) ∧ ∀ i m σ H, W i m σ H →
      ((IteT K a xs.length).stop i H ∧ D.nx σ H) ∨ ((IteT K a xs.length).go i H ∧ ∃ N : L2.St → Hp → Prop, (∀ σ' H', N σ' H' → ∃ m', m' < m ∧ W (i + 1) m' σ' H') ∧ ∀ v H', (IteT K a xs.length).yld i H v H' → g v σ H' fun σ2 H2 => tb { D with nx := N, ct := N, bk := D.nx } σ2 H2) := by
  refine ⟨fun i m σ H => i + m = xs.length ∧ Pv i σ H, ⟨xs.length, by omega, h0⟩, ?_⟩
  rintro i m σ H ⟨im, p⟩
  have hx := hq i σ H p
  by_cases c : i < xs.length
  · refine .inr ⟨⟨xs, xs[i], hx, List.getElem?_eq_getElem c, rfl⟩, Pv (i + 1), fun σ' H' p' => ⟨m - 1, by omega, by omega, p'⟩, ?_⟩
    rintro v H' ⟨t, x, rfl, nt, rfl, at_⟩
    exact hs i x t σ H (at_ xs hx) p nt
  · refine .inl ⟨⟨xs, hx, rfl, by omega⟩, hd σ H ?_⟩
    have : i = xs.length := by omega
    rw [← this]
    exact p

/-! ### helpful_interval -/
structure HelpQ (ts ps : List (Int × Int)) (q : Int × Int) : Prop where
  lo : ∃ b ∈ blocksOf (ts ++ ps), q.1 = b.1
  hi : ∃ e ∈ blocksOf (ts ++ ps), q.2 = e.2
  fits : Fits (ts ++ ps) q
  need : needO ts (ps ++ [q]) + 1 = needO ts ps
theorem dec_nil_need {ts ps : List (Int × Int)} (e : decO ts ps = []) : needO ts ps = 0 := by
  unfold needO
  rw [e]
  rfl
theorem dec_cons_need {ts ps : List (Int × Int)} (g : Good (ts ++ ps)) {d : Dem} {ds : List Dem} (e : decO ts ps = d :: ds) : 0 < needO ts ps := by
  have := (pick_ok g e).2.2
  omega
theorem pick_of {ts ps : List (Int × Int)} (g : Good (ts ++ ps)) (h : 0 < needO ts ps) : HelpQ ts ps (pickO (blocksOf (ts ++ ps)) (decO ts ps)) := by
  cases e : decO ts ps with
  | nil =>
    rw [dec_nil_need e] at h
    exact absurd h (Nat.lt_irrefl _)
  | cons d ds =>
    obtain ⟨h1, h2, h3⟩ := pick_ok g e
    rw [e] at h1 h2 h3
    obtain ⟨k1, k2, _⟩ := mem_cand.mp h1
    exact ⟨k1, k2, h2, h3⟩
theorem HelpQ.top {ts ps : List (Int × Int)} {q : Int × Int} (h : HelpQ ts ps q) {m : Int} (top : ∀ q ∈ ts ++ ps, 0 ≤ q.1 ∧ q.1 ≤ q.2 ∧ q.2 ≤ m) : 0 ≤ q.1 ∧ q.1 ≤ q.2 ∧ q.2 ≤ m := by
  obtain ⟨t, ht, h1, h2⟩ := h.fits.inn
  have := top t ht
  have := h.fits.le
  omega
theorem fits_sc {wd f s : Int} {row : List (Int × Int)} (h : Sc wd f s row) (hf : 0 < f) {q : Int × Int} (hq : Fits row q) : ∃ r : Int × Int, (0 ≤ r.1 ∧ r.1 ≤ r.2 ∧ r.2 < wd) ∧ q = strI f s r := by
  obtain ⟨row', rfl, h'⟩ := h.ex
  obtain ⟨b, ⟨z1, hz1, b1⟩, e1⟩ := bd_str.mp hq.lo
  obtain ⟨e, ⟨z2, hz2, b2⟩, e2⟩ := bd_str.mp hq.hi
  have le := hq.le
  have lt : b < e := by
    have : b * f < e * f := by omega
    exact Int.lt_of_mul_lt_mul_right this (Int.le_of_lt hf)
  have o1 := h' z1 hz1
  have o2 := h' z2 hz2
  refine ⟨(b, e - 1), ⟨?_, ?_, ?_⟩, Prod.ext e1 ?_⟩
  · show 0 ≤ b
    omega
  · show b ≤ e - 1
    omega
  · show e - 1 < wd
    omega
  · show q.2 = (e - 1) * f + f - 1 + s
    rw [Int.sub_mul, Int.one_mul]
    omega
/-- what helpful_interval returns -/
def FoundH (H : Hp) (v : V) (ts ps : List (Int × Int)) : Prop := (needO ts ps = 0 ∧ v = .non) ∨ (0 < needO ts ps ∧ ∃ (r : Addr) (x y : Int), v = .ref r ∧ H r = some (.tup [.int x, .int y]) ∧ (x, y) = pickO (blocksOf (ts ++ ps)) (decO ts ps))
theorem FoundH.tps {H H' : Hp} {v : V} {ts ps : List (Int × Int)} (h : FoundH H v ts ps) (t : Tps H H') : FoundH H' v ts ps := by
  rcases h with h | ⟨h0, r, x, y, e, er, eq⟩
  · exact .inl h
  · exact .inr ⟨h0, r, x, y, e, t _ _ er, eq⟩
theorem FoundH.dp {K : PySem.W.Frag} {H H' : Hp} {v v' : V} {ts ps : List (Int × Int)} (g : Good (ts ++ ps)) (top : ∀ q ∈ ts ++ ps, 0 ≤ q.1 ∧ q.1 ≤ q.2 ∧ q.2 ≤ 1000000000000) (h : FoundH H v ts ps) (h' : FoundH H' v' ts ps) : ∃ d : PyData, Dp K H v d ∧ Dp K H' v' d ∧ Sm 202 1 d := by
  rcases h with ⟨h0, rfl⟩ | ⟨h0, r, x, y, rfl, er, eq⟩
  · rcases h' with ⟨_, rfl⟩ | ⟨h1, _⟩
    · exact ⟨.none, .non, .non, Sm.none.mono (by decide) (by decide)⟩
    · omega
  · rcases h' with ⟨h1, _⟩ | ⟨_, r', x', y', rfl, er', eq'⟩
    · omega
    · have e := eq.trans eq'.symm
      cases e
      have hp := pick_of g h0
      rw [← eq] at hp
      have := hp.top top
      exact ⟨.tuple [.int x, .int y], dp2 er, dp2 er', sm2 (by omega) (by omega)⟩
def sp_hint (pT : Addr) : Sp := fun vs H Q _ => ∃ (d : Addr) (c : Addr × Addr × Addr) (n : Int) (a b : Addr) (us ws : List V) (ts ps : List (Int × Int)), vs = [.ref a, .ref b] ∧ c.2.2 = pT ∧ Dk H d c n ∧ H a = some (.tup us) ∧ H b = some (.tup ws) ∧ Ivs H us ts ∧ Ivs H ws ps ∧ SolB ts ps ∧
  ∀ H' v, Kp d c H H' → Dk H' d c n → FoundH H' v ts ps → Q v H'
theorem ok_helpful_interval (T : Tx K mg f_depth_changes f_find_blocks f_is_number f_is_position f_is_tuple_of f_is_interval f_is_ascending f_has_position f_contains f_intersect f_is_demand f_serves f_conflict f_is_independent f_demands_at_blocks f_is_open f_open_demands f_shadow_target f_pieces_inside f_first_gap f_generates f_find_missing f_without_item f_require_few_blocks f_decisive_demands f_largest_independent f_unserved_demands f_helpful_piece f_smallest_solution f_count_needed f_solve f_are_witnesses f_solution_holds f_helps f_helpful_interval f_has_open_demand f_widen f_essential_targets f_core_targets f_is_free f_growth_counts f_law_draws f_law_next f_law_blocks f_law_wide f_law_call f_law_raised f_law_judged f_law f_TooWide_init X_TooWide X_NotGenerated X_OutOfRange X_TooMany X_SpanError d_depth_changes d_find_blocks d_is_number d_is_position d_is_tuple_of d_is_interval d_is_ascending d_has_position d_contains d_intersect d_is_demand d_serves d_conflict d_is_independent d_demands_at_blocks d_is_open d_open_demands d_shadow_target d_pieces_inside d_first_gap d_generates d_find_missing d_without_item d_require_few_blocks d_decisive_demands d_largest_independent d_unserved_demands d_helpful_piece d_smallest_solution d_count_needed d_solve d_are_witnesses d_solution_holds d_helps d_helpful_interval d_has_open_demand d_widen d_essential_targets d_core_targets d_is_free d_growth_counts d_law_draws d_law_next d_law_blocks d_law_wide d_law_call d_law_raised d_law_judged d_law d_TooWide_init t_LAST_POSITION t_MAX_BLOCKS) (hT : TabH base mg d_helpful_piece pT) : FnOk P w K mg base CX0 (lgN+10) f_helpful_interval d_helpful_interval ["targets", "pieces"] (sp_hint pT) := by
  refine T.F_helpful_interval.ok sc_helpful_interval (fun vs H Q E h => ?_) (fun cdv A outer s H vs Q E hr h => ?_)
  · obtain ⟨d, c, n, a, b, us, ws, ts, ps, rfl, _⟩ := h
    rfl
  · obtain ⟨d, c, n, a, b, us, ws, ts, ps, rfl, ct, dk, ha, hb, ivt, ivp, B, k⟩ := h
    refine ⟨_, (pss_cons (ps_expr (pe_call (ok_require_few_blocks T) (hr.mono (by decide)) (by rfl) T.g_require_few_blocks T.F_require_few_blocks.kp T.b_require_few_blocks .nil pass0 (pa_cons (pe_op op_catA (pv 0) (pv 1)) pa_nil)))
      (pss_cons (ps_set (i := 2) sc_helpful_interval.nd rfl (Or.inl rfl) (pe_call (ok_decisive_demands T) (hr.mono (by decide)) (by rfl) T.g_decisive_demands T.F_decisive_demands.kp T.b_decisive_demands .nil pass0 (pa_cons (pv 0) (pa_cons (pv 1) pa_nil))))
      (pss_one (ps_ret (pe_ifExp (pt_truth (pv 2) (by intro _; rfl)) (pe_call (ok_helpful_piece T hT) (hr.mono (by decide)) (by rfl) T.g_helpful_piece T.F_helpful_piece.kp T.b_helpful_piece .nil pass0 (pa_cons (pv 2) (pa_cons (pe_call (ok_find_blocks T) (hr.mono (by decide)) (by rfl) T.g_find_blocks T.F_find_blocks.kp T.b_find_blocks .nil pass0 (pa_cons (pe_op op_catA (pv 0) (pv 1)) pa_nil)) pa_nil))) pe_non))))), ?_⟩
    have lu := ivt.length
    have lw := ivp.length
    have lk := B.fk.le
    rw [List.length_append] at lk
    refine ⟨.ref a, rfl, .ref b, rfl, catA_any ha hb (by rw [show sizeLine = 16777216 by decide]; omega) (fun H1 ab s1 eab => ?_)⟩
    refine ⟨ab, us ++ ws, ts ++ ps, rfl, eab, (ivt.same s1).append (ivp.same s1), B.good, B.fk, B.few, fun H2 s2 => ?_⟩
    have s12 := s1.trans s2
    refine ⟨.ref a, rfl, .ref b, rfl, a, b, us, ws, ts, ps, rfl, s12 _ _ ha, s12 _ _ hb, ivt.same s12, ivp.same s12, B.good, B.lt, B.fk, B.few, fun H3 D zs s3 nD eD dm => ?_⟩
    have s13 := s12.trans s3
    have ld := B.dec
    have few := B.lg1
    have lb := B.few
    refine ⟨.ref D, rfl, !zs.isEmpty, .inl ⟨_, SqL.of eD, rfl⟩, ?_⟩
    cases e : decO ts ps with
    | nil =>
      rw [e] at dm
      cases dm
      refine iteF ?_
      exact k H3 .non (Kp.same s13) (dk.kept s13) (.inl ⟨dec_nil_need e, rfl⟩)
    | cons d0 ds =>
      have pos := dec_cons_need B.good e
      obtain ⟨pm, _, _⟩ := pick_ok B.good e
      rw [e] at dm ld
      obtain ⟨v0, zr, rfl⟩ : ∃ v r, zs = v :: r := by
        cases dm
        exact ⟨_, _, rfl⟩
      refine iteT ?_
      refine ⟨.ref D, rfl, .ref a, rfl, .ref b, rfl, catA_any (s13 _ _ ha) (s13 _ _ hb) (by rw [show sizeLine = 16777216 by decide]; omega) (fun H4 ab s4 eab => ?_)⟩
      have s14 := s13.trans s4
      refine ⟨ab, us ++ ws, ts ++ ps, rfl, eab, (ivt.same s14).append (ivp.same s14), B.good, B.fk, fun H5 bl bs s5 ebl ivb => ?_⟩
      have s45 := s4.trans s5
      have s15 := s14.trans s5
      refine ⟨d, c, n, D, bl, _, bs, d0, ds, blocksOf (ts ++ ps), rfl, ct, dk.kept s15, s45 _ _ eD, dm.same s45, ebl, ivb, by omega, ld, by omega, List.length_pos_of_mem pm, fun H6 r kp6 dk6 er => ?_⟩
      refine k H6 (.ref r) ((Kp.same s15).trans kp6) dk6 (.inr ⟨pos, r, _, _, rfl, er, ?_⟩)
      rw [e]

def freeB (ts : List (Int × Int)) (q : Int × Int) : Bool := decide (needO (ts ++ [q]) [] = needO ts [])
def sp_is_free : Sp := fun vs H Q _ => ∃ (a t : Addr) (us : List V) (ts : List (Int × Int)) (x y : Int), vs = [.ref a, .ref t] ∧ H a = some (.tup us) ∧ Ivs H us ts ∧ H t = some (.tup [.int x, .int y]) ∧ Good (ts ++ [(x, y)]) ∧ ts.length ≤ 29 ∧ FewK (ts ++ [(x, y)] ++ []) ∧ FewK (ts ++ []) ∧ 8 * (ts.length + 1) ≤ lgN ∧ (blocksOf (ts ++ [(x, y)] ++ [])).length ≤ 8 ∧ (blocksOf (ts ++ [])).length ≤ 8 ∧
  ∀ H', Same H H' → Q (.bl (freeB ts (x, y))) H'
theorem ok_is_free (T : Tx K mg f_depth_changes f_find_blocks f_is_number f_is_position f_is_tuple_of f_is_interval f_is_ascending f_has_position f_contains f_intersect f_is_demand f_serves f_conflict f_is_independent f_demands_at_blocks f_is_open f_open_demands f_shadow_target f_pieces_inside f_first_gap f_generates f_find_missing f_without_item f_require_few_blocks f_decisive_demands f_largest_independent f_unserved_demands f_helpful_piece f_smallest_solution f_count_needed f_solve f_are_witnesses f_solution_holds f_helps f_helpful_interval f_has_open_demand f_widen f_essential_targets f_core_targets f_is_free f_growth_counts f_law_draws f_law_next f_law_blocks f_law_wide f_law_call f_law_raised f_law_judged f_law f_TooWide_init X_TooWide X_NotGenerated X_OutOfRange X_TooMany X_SpanError d_depth_changes d_find_blocks d_is_number d_is_position d_is_tuple_of d_is_interval d_is_ascending d_has_position d_contains d_intersect d_is_demand d_serves d_conflict d_is_independent d_demands_at_blocks d_is_open d_open_demands d_shadow_target d_pieces_inside d_first_gap d_generates d_find_missing d_without_item d_require_few_blocks d_decisive_demands d_largest_independent d_unserved_demands d_helpful_piece d_smallest_solution d_count_needed d_solve d_are_witnesses d_solution_holds d_helps d_helpful_interval d_has_open_demand d_widen d_essential_targets d_core_targets d_is_free d_growth_counts d_law_draws d_law_next d_law_blocks d_law_wide d_law_call d_law_raised d_law_judged d_law d_TooWide_init t_LAST_POSITION t_MAX_BLOCKS) : FnOk P w K mg base CX0 (lgN+6) f_is_free d_is_free ["targets", "interval"] sp_is_free := by
  refine T.F_is_free.ok sc_is_free (fun vs H Q E h => ?_) (fun cdv A outer s H vs Q E hr h => ?_)
  · obtain ⟨a, t, us, ts, x, y, rfl, _⟩ := h
    rfl
  · obtain ⟨a, t, us, ts, x, y, rfl, ha, iv, ht, g, lt, k1, k2, ll, f1, f2, q⟩ := h
    refine ⟨_, (pss_one (ps_ret (pe_cmpR op_eq (pe_call (ok_count_needed T) (hr.mono (by decide)) (by rfl) T.g_count_needed T.F_count_needed.kp T.b_count_needed .nil pass0 (pa_cons (pe_op op_catA (pv 0) (pe_tup (pa_cons (pv 1) pa_nil))) (pa_cons (pe_tup pa_nil) pa_nil))) (pe_call (ok_count_needed T) (hr.mono (by decide)) (by rfl) T.g_count_needed T.F_count_needed.kp T.b_count_needed .nil pass0 (pa_cons (pv 0) (pa_cons (pe_tup pa_nil) pa_nil))) (nomark _)))), ?_⟩
    have lu := iv.length
    have g0 : Good ts := fun r hr => g r (List.mem_append_left _ hr)
    refine ⟨.ref a, rfl, .ref t, rfl, by show 1 ≤ sizeLine; decide, fun u nu => ?_⟩
    have s1 := same_new (o := .tup [.ref t]) nu
    have eu := upd_same (H := H) (a := u) (o := .tup [.ref t])
    generalize upd H u (.tup [.ref t]) = H1 at *
    refine catA_any (s1 _ _ ha) eu (by rw [show sizeLine = 16777216 by decide]; show _ + 1 ≤ _; omega) (fun H2 c s2 ec => ?_)
    have s12 := s1.trans s2
    refine ⟨by show 0 ≤ sizeLine; decide, fun e ne => ?_⟩
    have s3 := same_new (o := .tup []) ne
    have ee := upd_same (H := H2) (a := e) (o := .tup [])
    generalize upd H2 e (.tup []) = H3 at *
    have s13 := s12.trans s3
    refine ⟨c, e, us ++ [.ref t], [], ts ++ [(x, y)], [], rfl, s3 _ _ ec, ee, (iv.same s13).snoc (s13 _ _ ht), .nil, by rw [List.append_nil]; exact g, by rw [List.length_append]; show _ + 1 ≤ 30; omega, k1, f1, by rw [List.length_append]; exact ll, fun H4 s4 => ?_⟩
    have s14 := s13.trans s4
    refine ⟨.ref a, rfl, by show 0 ≤ sizeLine; decide, fun e2 ne2 => ?_⟩
    have s5 := same_new (o := .tup []) ne2
    have ee2 := upd_same (H := H4) (a := e2) (o := .tup [])
    generalize upd H4 e2 (.tup []) = H5 at *
    have s15 := s14.trans s5
    refine ⟨a, e2, us, [], ts, [], rfl, s15 _ _ ha, ee2, iv.same s15, .nil, by rw [List.append_nil]; exact g0, by omega, k2, f2, by omega, fun H6 s6 => ?_⟩
    have eqb : decide (V.int (needO (ts ++ [(x, y)]) [] : Nat) = V.int (needO ts [] : Nat)) = freeB ts (x, y) := by
      unfold freeB
      refine decide_eq_decide.mpr ⟨fun z => ?_, fun z => by rw [z]⟩
      injection z with z
      omega
    rw [← eqb] at q
    exact ⟨rfl, q H6 (s15.trans s6)⟩

def wo (ps : List (Int × Int)) (q : Int × Int) : List (Int × Int) := ps.filter fun x => !decide (x = q)
theorem wo_len (ps : List (Int × Int)) (q : Int × Int) : (wo ps q).length ≤ ps.length := List.length_filter_le _ _
theorem wo_sub {ps : List (Int × Int)} {q x : Int × Int} (h : x ∈ wo ps q) : x ∈ ps := (List.mem_filter.mp h).1
def sp_without_item : Sp := fun vs H Q _ => ∃ (a t : Addr) (us : List V) (ps : List (Int × Int)) (x y : Int), vs = [.ref a, .ref t] ∧ H a = some (.tup us) ∧ Ivs H us ps ∧ ps.length < 1000 ∧ H t = some (.tup [.int x, .int y]) ∧
  ∀ H' p ws, Same H H' → H' p = some (.tup ws) → Ivs H' ws (wo ps (x, y)) → Q (.ref p) H'
theorem ok_without_item (T : Tx K mg f_depth_changes f_find_blocks f_is_number f_is_position f_is_tuple_of f_is_interval f_is_ascending f_has_position f_contains f_intersect f_is_demand f_serves f_conflict f_is_independent f_demands_at_blocks f_is_open f_open_demands f_shadow_target f_pieces_inside f_first_gap f_generates f_find_missing f_without_item f_require_few_blocks f_decisive_demands f_largest_independent f_unserved_demands f_helpful_piece f_smallest_solution f_count_needed f_solve f_are_witnesses f_solution_holds f_helps f_helpful_interval f_has_open_demand f_widen f_essential_targets f_core_targets f_is_free f_growth_counts f_law_draws f_law_next f_law_blocks f_law_wide f_law_call f_law_raised f_law_judged f_law f_TooWide_init X_TooWide X_NotGenerated X_OutOfRange X_TooMany X_SpanError d_depth_changes d_find_blocks d_is_number d_is_position d_is_tuple_of d_is_interval d_is_ascending d_has_position d_contains d_intersect d_is_demand d_serves d_conflict d_is_independent d_demands_at_blocks d_is_open d_open_demands d_shadow_target d_pieces_inside d_first_gap d_generates d_find_missing d_without_item d_require_few_blocks d_decisive_demands d_largest_independent d_unserved_demands d_helpful_piece d_smallest_solution d_count_needed d_solve d_are_witnesses d_solution_holds d_helps d_helpful_interval d_has_open_demand d_widen d_essential_targets d_core_targets d_is_free d_growth_counts d_law_draws d_law_next d_law_blocks d_law_wide d_law_call d_law_raised d_law_judged d_law d_TooWide_init t_LAST_POSITION t_MAX_BLOCKS) : FnOk P w K mg base CX0 1 f_without_item d_without_item ["items", "item"] sp_without_item := by
  refine T.F_without_item.ok sc_without_item (fun vs H Q E h => ?_) (fun cdv A outer s H vs Q E hr h => ?_)
  · obtain ⟨a, t, us, ps, x, y, rfl, _⟩ := h
    rfl
  · obtain ⟨a, t, us, ps, x, y, rfl, ha, iv, few, ht, q⟩ := h
    have lu := iv.length
    refine ⟨_, (pss_one (ps_ret (pe_callTy call_tuple_of (by rfl) T.z_tuple (by decide +kernel) (pa_cons (pe_lc (own := [("other", 2)]) (g := (gName 2)) (by rfl) sc_without_item.nd (pi_tup (pv 0)) (blkOk_by (own := [("other", 2)]) (N := N_without_item) (sc := defScope s_without_item) (by decide +kernel)) (fun _ _ _ _ _ => (pg_name (i := 2) sc_without_item.nd rfl (Or.inl rfl))) (fun _ _ _ _ _ => pts_one (pt_cmpR (show OpR _ (compareOp .NotEq) (rNeD K) from (op_neD hr.units)) (pv 2) (pv 1) (nomark _))) (fun _ _ _ _ _ => (pv 2))) pa_nil)))), ?_⟩
    refine ⟨.ref a, rfl, a, rfl, ⟨_, SqT.of ha⟩, fun D nD => ?_⟩
    refine lcT (K := K) (a := a) (xs := us) (fun j H' ws => Ivs H' ws ((ps.take j).filter fun z => !decide (z = (x, y)))) nD (fun H' s => SqT.of (s _ _ ha)) (by omega) (fun _ _ _ _ t r => r.tps t) (fun j H' ws r => ?_) (fun _ => .nil) ?_ ?_
    · rw [r.length]
      exact Nat.le_trans (List.length_filter_le _ _) (List.length_take_le _ _)
    · rintro j z H' N acc hj sj eA sz r no yes
      obtain ⟨b, u, v, rfl, exy, hb⟩ := iv.get hj
      refine ⟨rfl, .ref b, rfl, .ref t, rfl, _, _, dp2 (sj _ _ hb), dp2 (sj _ _ ht), rfl, rfl, _, rfl, ?_⟩
      rw [eqv_pair]
      refine ite2 (fun c => ?_) (fun c => ?_)
      · refine ⟨.ref b, rfl, yes H' _ (Same.refl _) ?_⟩
        rw [take_filter exy, if_pos c]
        exact r.snoc (sj _ _ hb)
      · refine no H' (Same.refl _) ?_
        rw [take_filter exy, if_neg c, List.append_nil]
        exact r
    · intro H1 ws s1 eD r
      rw [lu, List.take_length] at r
      refine ⟨D, ws, rfl, .inl ⟨SqL.of eD, fun p np => ?_⟩⟩
      exact q _ p ws (s1.trans (same_new np)) upd_same (r.same (same_new np))

/-! ### the core: what is left when each target goes that is not needed -/
def coreG (n0 : Nat) (l left : List (Int × Int)) : List (Int × Int) := l.foldl (fun left t => if needO (wo left t) [] = n0 then wo left t else left) left
theorem coreG_snoc (n0 : Nat) (l left : List (Int × Int)) (t : Int × Int) : coreG n0 (l ++ [t]) left = if needO (wo (coreG n0 l left) t) [] = n0 then wo (coreG n0 l left) t else coreG n0 l left := by
  unfold coreG
  rw [List.foldl_append]
  rfl
theorem coreG_sub (n0 : Nat) : ∀ (l left : List (Int × Int)), (coreG n0 l left).Sublist left
  | [], left => List.Sublist.refl _
  | t :: l, left => by
    show (coreG n0 l (if needO (wo left t) [] = n0 then wo left t else left)).Sublist left
    refine (coreG_sub n0 l _).trans ?_
    split
    · exact List.filter_sublist
    · exact List.Sublist.refl _
theorem str_inj {f s : Int} (hf : 0 < f) {p q : Int × Int} (h : strI f s p = strI f s q) : p = q := by
  have h1 : p.1 * f + s = q.1 * f + s := congrArg Prod.fst h
  have h2 : p.2 * f + f - 1 + s = q.2 * f + f - 1 + s := congrArg Prod.snd h
  exact Prod.ext (Int.eq_of_mul_eq_mul_right (by omega) (show p.1 * f = q.1 * f by omega)) (Int.eq_of_mul_eq_mul_right (by omega) (show p.2 * f = q.2 * f by omega))
theorem wo_str {f s : Int} (hf : 0 < f) (ps : List (Int × Int)) (q : Int × Int) : wo (ps.map (strI f s)) (strI f s q) = (wo ps q).map (strI f s) := by
  unfold wo
  rw [List.filter_map]
  congr 1
  refine List.filter_congr fun x _ => ?_
  show (!decide (strI f s x = strI f s q)) = !decide (x = q)
  congr 1
  exact decide_eq_decide.mpr ⟨str_inj hf, fun h => by rw [h]⟩
theorem need_str0 {ts : List (Int × Int)} (g : Good ts) {f s : Int} (hf : 0 < f) (hs : 0 ≤ s) : needO (ts.map (strI f s)) [] = needO ts [] := need_str (ps := []) (by rw [List.append_nil]; exact g) hf hs
theorem Good.sub {l ts : List (Int × Int)} (g : Good ts) (h : l.Sublist ts) : Good l := fun q hq => g q (h.mem hq)
theorem coreG_str {f s : Int} (hf : 0 < f) (hs : 0 ≤ s) (n0 : Nat) : ∀ (l left : List (Int × Int)), Good left → coreG n0 (l.map (strI f s)) (left.map (strI f s)) = (coreG n0 l left).map (strI f s)
  | [], left, _ => rfl
  | t :: l, left, g => by
    have gw : Good (wo left t) := g.sub List.filter_sublist
    show coreG n0 (l.map (strI f s)) (if needO (wo (left.map (strI f s)) (strI f s t)) [] = n0 then wo (left.map (strI f s)) (strI f s t) else left.map (strI f s)) = (coreG n0 l (if needO (wo left t) [] = n0 then wo left t else left)).map (strI f s)
    rw [wo_str hf, need_str0 gw hf hs]
    split
    · exact coreG_str hf hs n0 l _ gw
    · exact coreG_str hf hs n0 l _ g
def coreO (ts : List (Int × Int)) : List (Int × Int) := coreG (needO ts []) ts ts
theorem coreO_str {ts : List (Int × Int)} (g : Good ts) {f s : Int} (hf : 0 < f) (hs : 0 ≤ s) : coreO (ts.map (strI f s)) = (coreO ts).map (strI f s) := by
  unfold coreO
  rw [need_str0 g hf hs]
  exact coreG_str hf hs _ _ _ g
def FewB (ts : List (Int × Int)) : Prop := ∀ l : List (Int × Int), l.Sublist ts → (blocksOf (l ++ [])).length ≤ 8
theorem Rw.fewB {w : Int} {ts : List (Int × Int)} (h : Rw w ts) (hw : w ≤ 8) : FewB ts := fun l sub => by
  have := blocks_in (row := l ++ []) (w := w) fun q hq => by
    rw [List.append_nil] at hq
    exact h.ok q (sub.mem hq)
  omega
theorem Rw.fewS {w : Int} {ts : List (Int × Int)} (h : Rw w ts) (hw : w ≤ 8) {f s : Int} (hf : 0 < f) (hs : 0 ≤ s) : FewB (ts.map (strI f s)) := fun l sub => by
  obtain ⟨l', sub', rfl⟩ := List.sublist_map_iff.mp sub
  have g : Good l' := fun q hq => by
    have := h.ok q (sub'.mem hq)
    exact ⟨this.1, this.2.1⟩
  rw [List.append_nil, blocks_str g hf hs, List.length_map]
  have := h.fewB hw l' sub'
  rw [List.append_nil] at this
  exact this
def sp_core : Sp := fun vs H Q _ => ∃ (a : Addr) (us : List V) (ts : List (Int × Int)), vs = [.ref a] ∧ H a = some (.tup us) ∧ Ivs H us ts ∧ Good ts ∧ ts.length ≤ 24 ∧ 8 * ts.length ≤ lgN ∧ FewB ts ∧
  ∀ H' p ws, Same H H' → H' p = some (.tup ws) → Ivs H' ws (coreO ts) → Q (.ref p) H'
theorem ok_core_targets (T : Tx K mg f_depth_changes f_find_blocks f_is_number f_is_position f_is_tuple_of f_is_interval f_is_ascending f_has_position f_contains f_intersect f_is_demand f_serves f_conflict f_is_independent f_demands_at_blocks f_is_open f_open_demands f_shadow_target f_pieces_inside f_first_gap f_generates f_find_missing f_without_item f_require_few_blocks f_decisive_demands f_largest_independent f_unserved_demands f_helpful_piece f_smallest_solution f_count_needed f_solve f_are_witnesses f_solution_holds f_helps f_helpful_interval f_has_open_demand f_widen f_essential_targets f_core_targets f_is_free f_growth_counts f_law_draws f_law_next f_law_blocks f_law_wide f_law_call f_law_raised f_law_judged f_law f_TooWide_init X_TooWide X_NotGenerated X_OutOfRange X_TooMany X_SpanError d_depth_changes d_find_blocks d_is_number d_is_position d_is_tuple_of d_is_interval d_is_ascending d_has_position d_contains d_intersect d_is_demand d_serves d_conflict d_is_independent d_demands_at_blocks d_is_open d_open_demands d_shadow_target d_pieces_inside d_first_gap d_generates d_find_missing d_without_item d_require_few_blocks d_decisive_demands d_largest_independent d_unserved_demands d_helpful_piece d_smallest_solution d_count_needed d_solve d_are_witnesses d_solution_holds d_helps d_helpful_interval d_has_open_demand d_widen d_essential_targets d_core_targets d_is_free d_growth_counts d_law_draws d_law_next d_law_blocks d_law_wide d_law_call d_law_raised d_law_judged d_law d_TooWide_init t_LAST_POSITION t_MAX_BLOCKS) : FnOk P w K mg base CX0 (lgN+6) f_core_targets d_core_targets ["targets"] sp_core := by
  refine T.F_core_targets.ok sc_core_targets (fun vs H Q E h => ?_) (fun cdv A outer s H vs Q E hr h => ?_)
  · obtain ⟨a, us, ts, rfl, _⟩ := h
    rfl
  · obtain ⟨a, us, ts, rfl, ha, iv, g, lt, ll, fb, q⟩ := h
    refine ⟨_, (pss_cons (ps_set (i := 1) sc_core_targets.nd rfl (Or.inl rfl) (pe_call (ok_count_needed T) (hr.mono (by decide)) (by rfl) T.g_count_needed T.F_count_needed.kp T.b_count_needed .nil pass0 (pa_cons (pv 0) (pa_cons (pe_tup pa_nil) pa_nil))))
      (pss_cons (ps_set (i := 2) sc_core_targets.nd rfl (Or.inl rfl) (pv 0))
      (pss_cons (ps_for PassesOwn.never rfl (pi_tup (pv 0)) (pg_name (i := 3) sc_core_targets.nd rfl (Or.inl rfl))
      (pss_cons (ps_set (i := 4) sc_core_targets.nd rfl (Or.inl rfl) (pe_call (ok_without_item T) (hr.mono (by decide)) (by rfl) T.g_without_item T.F_without_item.kp T.b_without_item .nil pass0 (pa_cons (pv 2) (pa_cons (pv 3) pa_nil))))
      (pss_one (ps_if (pt_cmpR op_eq (pe_call (ok_count_needed T) (hr.mono (by decide)) (by rfl) T.g_count_needed T.F_count_needed.kp T.b_count_needed .nil pass0 (pa_cons (pv 4) (pa_cons (pe_tup pa_nil) pa_nil))) (pv 1) (nomark _))
      (pss_one (ps_set (i := 2) sc_core_targets.nd rfl (Or.inl rfl) (pv 4)))
      pss_nil))))
      (pss_one (ps_ret (pv 2)))))), ?_⟩
    have lu := iv.length
    refine ⟨.ref a, rfl, by show 0 ≤ sizeLine; decide, fun e ne => ?_⟩
    have s1 := same_new (o := .tup []) ne
    have ee := upd_same (H := H) (a := e) (o := .tup [])
    generalize upd H e (.tup []) = H1 at *
    refine ⟨a, e, us, [], ts, [], rfl, s1 _ _ ha, ee, iv.same s1, .nil, by rw [List.append_nil]; exact g, by omega, .inl (by rw [List.append_nil]; omega), fb ts (List.Sublist.refl _), ll, fun H2 s2 => ?_⟩
    have s12 := s1.trans s2
    refine ⟨.ref a, rfl, ?_⟩
    refine ⟨.ref a, rfl, a, rfl, ⟨_, SqT.of (s12 _ _ ha)⟩, ?_⟩
    refine for_tup (K := K) (a := a) (xs := us) (D := ⟨_, _, fun _ _ => True, fun _ _ => True⟩) (fun j σ H' => Same H H' ∧ ∃ (L : Addr) (lus : List V) (z3 z4 : Option V), H' L = some (.tup lus) ∧ Ivs H' lus (coreG (needO ts []) (ts.take j) ts) ∧ σ = [some (.ref a), some (.int (needO ts [])), some (.ref L), z3, z4])
      ⟨s12, a, us, _, _, s12 _ _ ha, iv.same s12, rfl⟩ (fun j σ H' _ h => SqT.of (h.1 _ _ ha)) ?_ ?_
    · rintro j v σ H3 hj ⟨s3, L, lus, z3, z4, eL, ivL, rfl⟩
      obtain ⟨t, x, y, rfl, et, ht⟩ := iv.get hj
      have sub := coreG_sub (needO ts []) (ts.take j) ts
      have ll2 := sub.length_le
      have up : ts.take (j + 1) = ts.take j ++ [(x, y)] := by
        rw [List.take_add_one, et]
        rfl
      have eq := coreG_snoc (needO ts []) (ts.take j) ts (x, y)
      rw [← up] at eq
      generalize coreG (needO ts []) (ts.take j) ts = left at *
      refine ⟨.ref L, rfl, .ref t, rfl, L, t, lus, left, x, y, rfl, eL, ivL, by omega, s3 _ _ ht, fun H4 p ws s4 ep ivp => ?_⟩
      have wl := wo_len left (x, y)
      have subw : (wo left (x, y)).Sublist ts := List.filter_sublist.trans sub
      refine ⟨.ref p, rfl, by show 0 ≤ sizeLine; decide, fun e2 ne2 => ?_⟩
      have s5 := same_new (o := .tup []) ne2
      have ee2 := upd_same (H := H4) (a := e2) (o := .tup [])
      generalize upd H4 e2 (.tup []) = H5 at *
      refine ⟨p, e2, ws, [], wo left (x, y), [], rfl, s5 _ _ ep, ee2, ivp.same s5, .nil, by rw [List.append_nil]; exact g.sub subw, by omega, .inl (by rw [List.append_nil]; omega), fb _ subw, by omega, fun H6 s6 => ?_⟩
      have s46 := s5.trans s6
      have s36 := s4.trans s46
      refine ⟨_, rfl, rfl, _, rfl, ite2 (fun c => ?_) (fun c => ?_)⟩
      · have c := of_decide_eq_true c
        have c : needO (wo left (x, y)) [] = needO ts [] := by
          injection c with c
          omega
        rw [if_pos c] at eq
        refine ⟨.ref p, rfl, s3.trans s36, p, ws, _, _, s46 _ _ ep, ?_, rfl⟩
        rw [eq]
        exact ivp.same s46
      · have c : ¬ needO (wo left (x, y)) [] = needO ts [] := fun z => c (decide_eq_true (by rw [z]))
        rw [if_neg c] at eq
        refine ⟨s3.trans s36, L, lus, _, _, s36 _ _ eL, ?_, rfl⟩
        rw [eq]
        exact ivL.same s36
    · rintro σ H3 ⟨s3, L, lus, z3, z4, eL, ivL, rfl⟩
      rw [lu, List.take_length] at ivL
      exact ⟨.ref L, rfl, q H3 L lus s3 eL ivL⟩

/-! ### targets without which less is needed -/
def essB (ts : List (Int × Int)) (t : Int × Int) : Bool := decide (((needO (wo ts t) [] : Nat) : Int) < ((needO ts [] : Nat) : Int))
def essO (ts : List (Int × Int)) : List (Int × Int) := ts.filter (essB ts)
theorem essO_str {ts : List (Int × Int)} (g : Good ts) {f s : Int} (hf : 0 < f) (hs : 0 ≤ s) : essO (ts.map (strI f s)) = (essO ts).map (strI f s) := by
  unfold essO
  rw [List.filter_map]
  congr 1
  refine List.filter_congr fun x _ => ?_
  show essB (ts.map (strI f s)) (strI f s x) = essB ts x
  unfold essB
  rw [wo_str hf, need_str0 (ts := wo ts x) (g.sub List.filter_sublist) hf hs, need_str0 g hf hs]
def sp_ess : Sp := fun vs H Q _ => ∃ (a : Addr) (us : List V) (ts : List (Int × Int)), vs = [.ref a] ∧ H a = some (.tup us) ∧ Ivs H us ts ∧ Good ts ∧ ts.length ≤ 24 ∧ 8 * ts.length ≤ lgN ∧ FewB ts ∧
  ∀ H' p ws, Same H H' → H' p = some (.tup ws) → Ivs H' ws (essO ts) → Q (.ref p) H'
theorem ok_essential_targets (T : Tx K mg f_depth_changes f_find_blocks f_is_number f_is_position f_is_tuple_of f_is_interval f_is_ascending f_has_position f_contains f_intersect f_is_demand f_serves f_conflict f_is_independent f_demands_at_blocks f_is_open f_open_demands f_shadow_target f_pieces_inside f_first_gap f_generates f_find_missing f_without_item f_require_few_blocks f_decisive_demands f_largest_independent f_unserved_demands f_helpful_piece f_smallest_solution f_count_needed f_solve f_are_witnesses f_solution_holds f_helps f_helpful_interval f_has_open_demand f_widen f_essential_targets f_core_targets f_is_free f_growth_counts f_law_draws f_law_next f_law_blocks f_law_wide f_law_call f_law_raised f_law_judged f_law f_TooWide_init X_TooWide X_NotGenerated X_OutOfRange X_TooMany X_SpanError d_depth_changes d_find_blocks d_is_number d_is_position d_is_tuple_of d_is_interval d_is_ascending d_has_position d_contains d_intersect d_is_demand d_serves d_conflict d_is_independent d_demands_at_blocks d_is_open d_open_demands d_shadow_target d_pieces_inside d_first_gap d_generates d_find_missing d_without_item d_require_few_blocks d_decisive_demands d_largest_independent d_unserved_demands d_helpful_piece d_smallest_solution d_count_needed d_solve d_are_witnesses d_solution_holds d_helps d_helpful_interval d_has_open_demand d_widen d_essential_targets d_core_targets d_is_free d_growth_counts d_law_draws d_law_next d_law_blocks d_law_wide d_law_call d_law_raised d_law_judged d_law d_TooWide_init t_LAST_POSITION t_MAX_BLOCKS) : FnOk P w K mg base CX0 (lgN+6) f_essential_targets d_essential_targets ["targets"] sp_ess := by
  refine T.F_essential_targets.ok sc_essential_targets (fun vs H Q E h => ?_) (fun cdv A outer s H vs Q E hr h => ?_)
  · obtain ⟨a, us, ts, rfl, _⟩ := h
    rfl
  · obtain ⟨a, us, ts, rfl, ha, iv, g, lt, ll, fb, q⟩ := h
    refine ⟨_, (pss_cons (ps_set (i := 1) sc_essential_targets.nd rfl (Or.inr rfl) (pe_call (ok_count_needed T) (hr.mono (by decide)) (by rfl) T.g_count_needed T.F_count_needed.kp T.b_count_needed .nil pass0 (pa_cons (pv 0) (pa_cons (pe_tup pa_nil) pa_nil))))
      (pss_one (ps_ret (pe_callTy call_tuple_of (by rfl) T.z_tuple (by decide +kernel) (pa_cons (pe_lc (own := [("target", 2)]) (g := (gName 2)) (by rfl) sc_essential_targets.nd (pi_tup (pv 0)) (blkOk_by (own := [("target", 2)]) (N := N_essential_targets) (sc := defScope s_essential_targets) (by decide +kernel)) (fun _ _ _ _ _ => (pg_name (i := 2) sc_essential_targets.nd rfl (Or.inl rfl))) (fun _ _ _ _ _ => pts_one (pt_cmpR op_lt (pe_call (ok_count_needed T) (hr.mono (by decide)) (by rfl) T.g_count_needed T.F_count_needed.kp T.b_count_needed .nil pass0 (pa_cons (pe_call (ok_without_item T) (hr.mono (by decide)) (by rfl) T.g_without_item T.F_without_item.kp T.b_without_item .nil pass0 (pa_cons (pv 0) (pa_cons (pv 2) pa_nil))) (pa_cons (pe_tup pa_nil) pa_nil))) (pv 1) (nomark _))) (fun _ _ _ _ _ => (pv 2))) pa_nil))))), ?_⟩
    have lu := iv.length
    refine ⟨.ref a, rfl, by show 0 ≤ sizeLine; decide, fun e ne => ?_⟩
    have s1 := same_new (o := .tup []) ne
    have ee := upd_same (H := H) (a := e) (o := .tup [])
    generalize upd H e (.tup []) = H1 at *
    refine ⟨a, e, us, [], ts, [], rfl, s1 _ _ ha, ee, iv.same s1, .nil, by rw [List.append_nil]; exact g, by omega, .inl (by rw [List.append_nil]; omega), fb ts (List.Sublist.refl _), ll, fun H2 s2 => ?_⟩
    have s12 := s1.trans s2
    have ha2 := s12 _ _ ha
    refine ⟨.ref a, rfl, a, rfl, ⟨_, SqT.of ha2⟩, fun D nD => ?_⟩
    refine lcT (K := K) (a := a) (xs := us) (fun j H' ws => Ivs H' ws ((ts.take j).filter (essB ts))) nD (fun H' s => SqT.of (s _ _ (ha2))) (by omega) (fun _ _ _ _ t r => r.tps t) (fun j H' ws r => (by rw [r.length]; exact Nat.le_trans (List.length_filter_le _ _) (List.length_take_le _ _))) (fun _ => .nil) ?_ ?_
    · rintro j z H' N acc hj sj eA sz r no yes
      obtain ⟨t, x, y, rfl, et, ht⟩ := iv.get hj
      have s0j := s12.trans sj
      refine ⟨rfl, .ref a, rfl, .ref t, rfl, a, t, us, ts, x, y, rfl, s0j _ _ ha, iv.same s0j, by omega, s0j _ _ ht, fun H4 p ws s4 ep ivp => ?_⟩
      have wl := wo_len ts (x, y)
      have subw : (wo ts (x, y)).Sublist ts := List.filter_sublist
      refine ⟨by show 0 ≤ sizeLine; decide, fun e2 ne2 => ?_⟩
      have s5 := same_new (o := .tup []) ne2
      have ee2 := upd_same (H := H4) (a := e2) (o := .tup [])
      generalize upd H4 e2 (.tup []) = H5 at *
      refine ⟨p, e2, ws, [], wo ts (x, y), [], rfl, s5 _ _ ep, ee2, ivp.same s5, .nil, by rw [List.append_nil]; exact g.sub subw, by omega, .inl (by rw [List.append_nil]; omega), fb _ subw, by omega, fun H6 s6 => ?_⟩
      have s46 := s4.trans (s5.trans s6)
      refine ⟨_, rfl, _, _, rfl, rfl, _, rfl, ite2 (fun c => ?_) (fun c => ?_)⟩
      · refine ⟨.ref t, rfl, yes H6 _ s46 ?_⟩
        have c : essB ts (x, y) = true := c
        rw [take_filter et, if_pos c]
        exact (r.same s46).snoc ((s0j.trans s46) _ _ ht)
      · refine no H6 s46 ?_
        have c : ¬ essB ts (x, y) = true := c
        rw [take_filter et, if_neg c, List.append_nil]
        exact r.same s46
    · intro H3 ws s3 eD r
      rw [lu, List.take_length] at r
      refine ⟨D, ws, rfl, .inl ⟨SqL.of eD, fun p np => ?_⟩⟩
      exact q _ p ws (s12.trans (s3.trans (same_new np))) upd_same (r.same (same_new np))

/-! ### what the first targets need -/
def growO (ts : List (Int × Int)) : List Int := (List.range (ts.length + 1)).map fun k => ((needO (ts.take k) [] : Nat) : Int)
theorem growO_str {ts : List (Int × Int)} (g : Good ts) {f s : Int} (hf : 0 < f) (hs : 0 ≤ s) : growO (ts.map (strI f s)) = growO ts := by
  unfold growO
  rw [List.length_map]
  refine List.map_congr_left fun k _ => ?_
  rw [← List.map_take, need_str0 (g.sub (List.take_sublist _ _)) hf hs]
theorem need_le (ts : List (Int × Int)) (g : Good ts) : needO ts [] ≤ ts.length := by
  obtain ⟨D, d1, d2, d3⟩ := (need_ok (ts := ts) (ps := []) (by rw [List.append_nil]; exact g)).1
  have := weak_dual (S := ts) (ts := ts) (ps := []) (fun t ht p h1 h2 => ⟨t, List.mem_append_right _ ht, Int.le_refl _, h1, h2, Int.le_refl _⟩) d1 d2
  omega
theorem need_step {l : List (Int × Int)} {t : Int × Int} (g : Good (l ++ [t])) : needO l [] ≤ needO (l ++ [t]) [] ∧ needO (l ++ [t]) [] ≤ needO l [] + 1 := by
  have g1 : Good l := fun q hq => g q (List.mem_append_left _ hq)
  obtain ⟨⟨D, d1, d2, d3⟩, S, s1, s2, _⟩ := need_ok (ts := l) (ps := []) (by rw [List.append_nil]; exact g1)
  obtain ⟨⟨D', e1, e2, e3⟩, S', t1, t2, _⟩ := need_ok (ts := l ++ [t]) (ps := []) (by rw [List.append_nil]; exact g)
  constructor
  · have := weak_dual (S := S') (ts := l) (ps := []) (fun u hu p h1 h2 => t2 u (List.mem_append_left _ hu) p h1 h2) d1 d2
    omega
  · have c : Com (l ++ [t]) [] (S ++ [t]) := fun u hu p h1 h2 => by
      rcases List.mem_append.mp hu with hu | hu
      · obtain ⟨q, hq, k⟩ := s2 u hu p h1 h2
        exact ⟨q, by rw [List.nil_append] at hq ⊢; exact List.mem_append_left _ hq, k⟩
      · rw [List.mem_singleton.mp hu] at h1 h2 ⊢
        exact ⟨t, by rw [List.nil_append]; exact List.mem_append_right _ (List.mem_singleton.mpr rfl), Int.le_refl _, h1, h2, Int.le_refl _⟩
    have := weak_dual c e1 e2
    rw [List.length_append, List.length_singleton] at this
    omega
theorem FewB.sub {ts l : List (Int × Int)} (h : FewB ts) (s : l.Sublist ts) : FewB l := fun m hm => h m (hm.trans s)
def sp_growth : Sp := fun vs H Q _ => ∃ (a : Addr) (us : List V) (ts : List (Int × Int)), vs = [.ref a] ∧ H a = some (.tup us) ∧ Ivs H us ts ∧ Good ts ∧ ts.length ≤ 24 ∧ 8 * ts.length ≤ lgN ∧ FewB ts ∧
  ∀ H' p, Same H H' → H' p = some (.tup ((growO ts).map V.int)) → Q (.ref p) H'
theorem grow_snoc (ts : List (Int × Int)) (j : Nat) : ((List.range (j + 1)).map fun k => ((needO (ts.take k) [] : Nat) : Int)) = ((List.range j).map fun k => ((needO (ts.take k) [] : Nat) : Int)) ++ [((needO (ts.take j) [] : Nat) : Int)] := by
  rw [List.range_succ, List.map_append]
  rfl
theorem ok_growth_counts (T : Tx K mg f_depth_changes f_find_blocks f_is_number f_is_position f_is_tuple_of f_is_interval f_is_ascending f_has_position f_contains f_intersect f_is_demand f_serves f_conflict f_is_independent f_demands_at_blocks f_is_open f_open_demands f_shadow_target f_pieces_inside f_first_gap f_generates f_find_missing f_without_item f_require_few_blocks f_decisive_demands f_largest_independent f_unserved_demands f_helpful_piece f_smallest_solution f_count_needed f_solve f_are_witnesses f_solution_holds f_helps f_helpful_interval f_has_open_demand f_widen f_essential_targets f_core_targets f_is_free f_growth_counts f_law_draws f_law_next f_law_blocks f_law_wide f_law_call f_law_raised f_law_judged f_law f_TooWide_init X_TooWide X_NotGenerated X_OutOfRange X_TooMany X_SpanError d_depth_changes d_find_blocks d_is_number d_is_position d_is_tuple_of d_is_interval d_is_ascending d_has_position d_contains d_intersect d_is_demand d_serves d_conflict d_is_independent d_demands_at_blocks d_is_open d_open_demands d_shadow_target d_pieces_inside d_first_gap d_generates d_find_missing d_without_item d_require_few_blocks d_decisive_demands d_largest_independent d_unserved_demands d_helpful_piece d_smallest_solution d_count_needed d_solve d_are_witnesses d_solution_holds d_helps d_helpful_interval d_has_open_demand d_widen d_essential_targets d_core_targets d_is_free d_growth_counts d_law_draws d_law_next d_law_blocks d_law_wide d_law_call d_law_raised d_law_judged d_law d_TooWide_init t_LAST_POSITION t_MAX_BLOCKS) : FnOk P w K mg base CX0 (lgN+6) f_growth_counts d_growth_counts ["targets"] sp_growth := by
  refine T.F_growth_counts.ok sc_growth_counts (fun vs H Q E h => ?_) (fun cdv A outer s H vs Q E hr h => ?_)
  · obtain ⟨a, us, ts, rfl, _⟩ := h
    rfl
  · obtain ⟨a, us, ts, rfl, ha, iv, g, lt, ll, fb, q⟩ := h
    refine ⟨_, (pss_one (ps_ret (pe_callTy call_tuple_of (by rfl) T.z_tuple (by decide +kernel) (pa_cons (pe_lc (own := [("many", 1)]) (g := (gName 1)) (tt := tYes) (by rfl) sc_growth_counts.nd (pi_range1 (by rfl) T.z_range (pa_cons (pe_op op_add (pe_callB call_len_seq (by rfl) T.z_len PySem.boot_len (pa_cons (pv 0) pa_nil)) pe_int) pa_nil)) (blkOk_by (own := [("many", 1)]) (N := N_growth_counts) (sc := defScope s_growth_counts) (by decide +kernel)) (fun _ _ _ _ _ => (pg_name (i := 1) sc_growth_counts.nd rfl (Or.inl rfl))) (fun _ _ _ _ _ => pts_nil) (fun _ _ _ _ _ => (pe_call (ok_count_needed T) (hr.mono (by decide)) (by rfl) T.g_count_needed T.F_count_needed.kp T.b_count_needed .nil pass0 (pa_cons (pe_slice (show SlR _ (rSlA K) from sl_tupA) (pv 0) po_none (po_some (pv 1))) (pa_cons (pe_tup pa_nil) pa_nil))))) pa_nil)))), ?_⟩
    have lu := iv.length
    refine ⟨.ref a, rfl, a, us, rfl, .inr (SqT.of ha), _, _, rfl, rfl, (us.length : Int) + 1, rfl, by omega, by omega, fun D nD => ?_⟩
    refine lcR (lo := 0) (n := ((us.length : Int) + 1).toNat) (fun j H' ws => ws = ((List.range j).map fun k => ((needO (ts.take k) [] : Nat) : Int)).map V.int) nD (by omega) (fun _ _ _ _ _ r => r) (fun j H' ws r => by rw [r, List.length_map, List.length_map, List.length_range]; exact Nat.le_refl _) (fun _ => rfl) ?_ ?_
    · rintro j H' N acc hj sj eA sz r no yes
      refine ⟨rfl, .ref a, rfl, .int (0 + (j : Nat)), rfl, 0 + (j : Nat), rfl, slA_any (sj _ _ ha) (fun H2 p s2 ep => ?_)⟩
      rw [show (0 + ((j : Nat) : Int)) = ((j : Nat) : Int) by omega, cutTo] at ep
      have sub : (ts.take j).Sublist ts := List.take_sublist _ _
      have lk := sub.length_le
      refine ⟨by show 0 ≤ sizeLine; decide, fun e ne => ?_⟩
      have s3 := same_new (o := .tup []) ne
      have ee := upd_same (H := H2) (a := e) (o := .tup [])
      generalize upd H2 e (.tup []) = H3 at *
      refine ⟨p, e, _, [], ts.take j, [], rfl, s3 _ _ ep, ee, ((iv.same sj).take j).same (s2.trans s3), .nil, by rw [List.append_nil]; exact g.sub sub, by omega, .inl (by rw [List.append_nil]; omega), fb _ sub, by omega, fun H4 s4 => ?_⟩
      refine yes H4 _ (s2.trans (s3.trans s4)) ?_
      rw [grow_snoc, List.map_append, r]
      rfl
    · intro H1 ws s1 eD r
      refine ⟨D, ws, rfl, .inl ⟨SqL.of eD, fun p np => ?_⟩⟩
      have e : ws = (growO ts).map V.int := by
        rw [r]
        unfold growO
        rw [show ((us.length : Int) + 1).toNat = ts.length + 1 by omega]
      rw [e]
      exact q _ p (s1.trans (same_new np)) upd_same

theorem kit_tupT {K : PySem.W.Frag} : PySem.W.kitOne K (.type "tuple") (.type "tuple") = some true := kit_ty (a := "tuple") (b := "tuple") (r := true) (by decide +kernel)
theorem kit_intI {K : PySem.W.Frag} : PySem.W.kitOne K (.type "int") (.type "int") = some true := kit_ty (a := "int") (b := "int") (r := true) (by decide +kernel)
theorem kit_intB {K : PySem.W.Frag} : PySem.W.kitOne K (.type "int") (.type "bool") = some false := kit_ty (a := "int") (b := "bool") (r := false) (by decide +kernel)
theorem dpAll_at {K : PySem.W.Frag} {H : Hp} : ∀ {vs : List V} {ds : List PyData}, DpAll K H vs ds → ∀ {i : Nat} {v : V}, vs[i]? = some v → ∃ d, ds[i]? = some d ∧ Dp K H v d
  | _, _, .nil, _, _, e => by simp at e
  | _, _, .cons a b, 0, _, e => by
    cases e
    exact ⟨_, rfl, a⟩
  | _, _, .cons a b, i + 1, _, e => dpAll_at b (i := i) e
theorem dpAll_n {K : PySem.W.Frag} {H : Hp} : ∀ {vs : List V} {ds : List PyData}, DpAll K H vs ds → vs.length = ds.length
  | _, _, .nil => rfl
  | _, _, .cons _ h => by rw [List.length_cons, List.length_cons, dpAll_n h]
def Ris (d e : PyData) : Prop := PySem.W.alike d e = true ∧ d ≠ .none ∧ d.depth ≤ 60 ∧ PySem.W.dataLt d e = true
theorem svI_chain (x y p lo hi : Int) : svI x y p lo hi = (decide (lo ≤ x) && (decide (x ≤ p) && (decide (p ≤ y) && decide (y ≤ hi)))) := by
  rw [show svI x y p lo hi = sv (x, y) (p, lo, hi) from sv_svI (x, y) (p, lo, hi), Bool.eq_iff_iff, sv_iff']
  simp only [Bool.and_eq_true, decide_eq_true_eq]
def dmD (d : Dem) : PyData := .tuple [.int d.1, .tuple [.int d.2.1, .int d.2.2]]
theorem Dms.dp {K : PySem.W.Frag} {H : Hp} {vs : List V} {ds : List Dem} (h : Dms H vs ds) : DpAll K H vs (ds.map dmD) := by
  induction h with
  | nil => exact .nil
  | cons e _ ih =>
    obtain ⟨u, t, rfl, e1, e2⟩ := e.ex
    exact .cons (.tup (SqT.of e1) (.cons (.int _) (.cons (dp2 e2) .nil))) ih
/-- right witnesses -/
structure WitOk (ts ps : List (Int × Int)) (W : List Dem) : Prop where
  ok : ∀ d ∈ W, d.2 ∈ ts ∧ (0 ≤ d.2.1 ∧ d.2.1 ≤ d.1 ∧ d.1 ≤ d.2.2 ∧ d.2.2 ≤ 1000000000000) ∧ ∀ q ∈ ps, sv q d = false
  ind : Ind W
  asc : W.Pairwise fun d e => d.1 < e.1
theorem dab_asc {ts bs : List (Int × Int)} (h : bs.Pairwise fun a b => a.1 < b.1) : (dab ts bs).Pairwise fun d e => d.1 ≤ e.1 := by
  induction bs with
  | nil => exact .nil
  | cons b bs ih =>
    have p := List.pairwise_cons.mp h
    show (dabT ts b.1 ++ dab ts bs).Pairwise _
    refine List.pairwise_append.mpr ⟨?_, ih p.2, fun d hd e he => ?_⟩
    · unfold dabT
      exact List.pairwise_map.mpr (List.pairwise_of_forall fun _ _ => Int.le_refl _)
    · unfold dabT at hd
      obtain ⟨t, _, rfl⟩ := List.mem_map.mp hd
      obtain ⟨t2, _, x, hx, _, rfl⟩ := mem_dab.mp he
      obtain ⟨c, hc, rfl⟩ := List.mem_map.mp hx
      exact Int.le_of_lt (p.1 c hc)
theorem wit_ok {ts ps : List (Int × Int)} (g : Good (ts ++ ps)) (top : ∀ q ∈ ts, q.2 ≤ 1000000000000) : WitOk ts ps (witO ts ps) := by
  have sub := lg_sub (decO ts ps).length (decO ts ps)
  have ind : Ind (witO ts ps) := lg_ind _ _
  refine ⟨fun d hd => ?_, ind, ?_⟩
  · obtain ⟨⟨h1, h2, h3⟩, _⟩ := mem_dec.mp (sub.mem hd)
    have g1 := g d.2 (List.mem_append_left _ h1)
    exact ⟨h1, ⟨g1.1, h2.1, h2.2, top _ h1⟩, h3⟩
  · have pw : (decO ts ps).Pairwise fun d e => d.1 ≤ e.1 := ((dab_asc (blk_asc g)).filter _).filter _
    have both := (pw.sublist sub).and ind
    refine both.imp_of_mem fun {d e} hd he h => ?_
    have vd := (mem_dec.mp (sub.mem hd)).1.2.1
    have ve := (mem_dec.mp (sub.mem he)).1.2.1
    rcases Int.lt_or_eq_of_le h.1 with z | z
    · exact z
    · have c : cf d e = true := cf_iff.mpr ⟨⟨by have := ve.1; omega, by have := ve.2; omega⟩, by have := vd.1; omega, by have := vd.2; omega⟩
      rw [c] at h
      cases h.2
theorem pair_ris {A : List (Int × Int)} (h : A.Pairwise ltP) : (A.map pairD).Pairwise Ris :=
  List.pairwise_map.mpr (h.imp fun {p q} h => ⟨rfl, (fun z => nomatch z), by show 1 ≤ 60; decide, dlt_pair h⟩)

/-! ### the first gap of a target -/
def covI (ps : List (Int × Int)) (lo hi p : Int) : Prop := ∃ q ∈ ps, (lo ≤ q.1 ∧ q.2 ≤ hi) ∧ q.1 ≤ p ∧ p ≤ q.2
def IsGap (ps : List (Int × Int)) (lo hi : Int) : Option Int → Prop
  | none => ∀ p, lo ≤ p → p ≤ hi → covI ps lo hi p
  | some g => (lo ≤ g ∧ g ≤ hi) ∧ ¬ covI ps lo hi g ∧ ∀ p, lo ≤ p → p < g → covI ps lo hi p
theorem IsGap.uniq {ps : List (Int × Int)} {lo hi : Int} : ∀ {o o' : Option Int}, IsGap ps lo hi o → IsGap ps lo hi o' → o = o'
  | none, none, _, _ => rfl
  | none, some g, h, h' => absurd (h g h'.1.1 h'.1.2) h'.2.1
  | some g, none, h, h' => absurd (h' g h.1.1 h.1.2) h.2.1
  | some g, some g', h, h' => by
    rcases Int.lt_trichotomy g g' with z | z | z
    · exact absurd (h'.2.2 g h.1.1 z) h.2.1
    · rw [z]
    · exact absurd (h.2.2 g' h'.1.1 z) h'.2.1
noncomputable def gapO (ps : List (Int × Int)) (q : Int × Int) : Option Int := by
  classical
  exact if h : ∃ o, IsGap ps q.1 q.2 o then Classical.choose h else none
theorem gapO_eq {ps : List (Int × Int)} {q : Int × Int} {o : Option Int} (h : IsGap ps q.1 q.2 o) : gapO ps q = o := by
  unfold gapO
  rw [dif_pos ⟨o, h⟩]
  exact IsGap.uniq (Classical.choose_spec ⟨o, h⟩) h
def gv : Option Int → V
  | none => .non
  | some g => .int g
/-- pieces: pairs of positions in order -/
def Pc (ps : List (Int × Int)) : Prop := ∀ q ∈ ps, (0 ≤ q.1 ∧ q.1 ≤ q.2) ∧ q.2 < 10 ^ 13
def sp_pieces_inside : Sp := fun vs H Q _ => ∃ (a t : Addr) (us : List V) (ps : List (Int × Int)) (lo hi : Int), vs = [.ref a, .ref t] ∧ H a = some (.tup us) ∧ Ivs H us ps ∧ ps.length < 1000 ∧ H t = some (.tup [.int lo, .int hi]) ∧
  ∀ H' p ws, Same H H' → H' p = some (.lst ws) → Ivs H' ws (ps.filter fun q => inI lo hi q.1 q.2) → Q (.ref p) H'
theorem ok_pieces_inside (T : Tx K mg f_depth_changes f_find_blocks f_is_number f_is_position f_is_tuple_of f_is_interval f_is_ascending f_has_position f_contains f_intersect f_is_demand f_serves f_conflict f_is_independent f_demands_at_blocks f_is_open f_open_demands f_shadow_target f_pieces_inside f_first_gap f_generates f_find_missing f_without_item f_require_few_blocks f_decisive_demands f_largest_independent f_unserved_demands f_helpful_piece f_smallest_solution f_count_needed f_solve f_are_witnesses f_solution_holds f_helps f_helpful_interval f_has_open_demand f_widen f_essential_targets f_core_targets f_is_free f_growth_counts f_law_draws f_law_next f_law_blocks f_law_wide f_law_call f_law_raised f_law_judged f_law f_TooWide_init X_TooWide X_NotGenerated X_OutOfRange X_TooMany X_SpanError d_depth_changes d_find_blocks d_is_number d_is_position d_is_tuple_of d_is_interval d_is_ascending d_has_position d_contains d_intersect d_is_demand d_serves d_conflict d_is_independent d_demands_at_blocks d_is_open d_open_demands d_shadow_target d_pieces_inside d_first_gap d_generates d_find_missing d_without_item d_require_few_blocks d_decisive_demands d_largest_independent d_unserved_demands d_helpful_piece d_smallest_solution d_count_needed d_solve d_are_witnesses d_solution_holds d_helps d_helpful_interval d_has_open_demand d_widen d_essential_targets d_core_targets d_is_free d_growth_counts d_law_draws d_law_next d_law_blocks d_law_wide d_law_call d_law_raised d_law_judged d_law d_TooWide_init t_LAST_POSITION t_MAX_BLOCKS) : FnOk P w K mg base CX0 2 f_pieces_inside d_pieces_inside ["pieces", "target"] sp_pieces_inside := by
  refine T.F_pieces_inside.ok sc_pieces_inside (fun vs H Q E h => ?_) (fun cdv A outer s H vs Q E hr h => ?_)
  · obtain ⟨a, t, us, ps, lo, hi, rfl, _⟩ := h
    rfl
  · obtain ⟨a, t, us, ps, lo, hi, rfl, ha, iv, few, ht, q⟩ := h
    have lu := iv.length
    refine ⟨_, (pss_one (ps_ret (pe_lc (own := [("piece", 2)]) (g := (gName 2)) (by rfl) sc_pieces_inside.nd (pi_tup (pv 0)) (blkOk_by (own := [("piece", 2)]) (N := N_pieces_inside) (sc := defScope s_pieces_inside) (by decide +kernel)) (fun _ _ _ _ _ => (pg_name (i := 2) sc_pieces_inside.nd rfl (Or.inl rfl))) (fun _ _ _ _ _ => pts_one (pt_val (pe_call (ok_contains T) (hr.mono (by decide)) (by rfl) T.g_contains T.F_contains.kp T.b_contains .nil pass0 (pa_cons (pv 1) (pa_cons (pv 2) pa_nil))))) (fun _ _ _ _ _ => (pv 2))))), ?_⟩
    refine ⟨.ref a, rfl, a, rfl, ⟨_, SqT.of ha⟩, fun D nD => ?_⟩
    refine lcT (K := K) (a := a) (xs := us) (fun j H' ws => Ivs H' ws ((ps.take j).filter fun q => inI lo hi q.1 q.2)) nD (fun H' s => SqT.of (s _ _ ha)) (by omega) (fun _ _ _ _ t r => r.tps t) (fun j H' ws r => ?_) (fun _ => .nil) ?_ ?_
    · rw [r.length]
      exact Nat.le_trans (List.length_filter_le _ _) (List.length_take_le _ _)
    · rintro j z H' N acc hj sj eA sz r no yes
      obtain ⟨b, x, y, rfl, exy, hb⟩ := iv.get hj
      refine ⟨rfl, .ref t, rfl, .ref b, rfl, t, b, lo, hi, x, y, rfl, sj _ _ ht, sj _ _ hb, _, rfl, ite2 (fun c => ?_) (fun c => ?_)⟩
      · refine ⟨.ref b, rfl, yes H' _ (Same.refl _) ?_⟩
        rw [take_filter exy, if_pos c]
        exact r.snoc (sj _ _ hb)
      · refine no H' (Same.refl _) ?_
        rw [take_filter exy, if_neg c, List.append_nil]
        exact r
    · intro H' ws s' eD r
      rw [lu, List.take_length] at r
      exact q H' D ws s' eD r
theorem mem_inI {ps : List (Int × Int)} {lo hi : Int} {q : Int × Int} : q ∈ (ps.filter fun q => inI lo hi q.1 q.2) ↔ q ∈ ps ∧ lo ≤ q.1 ∧ q.2 ≤ hi := by
  rw [List.mem_filter]
  unfold inI
  simp only [Bool.and_eq_true, decide_eq_true_eq]
def sp_first_gap : Sp := fun vs H Q _ => ∃ (a t : Addr) (us : List V) (ps : List (Int × Int)) (lo hi : Int), vs = [.ref a, .ref t] ∧ H a = some (.tup us) ∧ Ivs H us ps ∧ Pc ps ∧ ps.length ≤ 63 ∧ H t = some (.tup [.int lo, .int hi]) ∧ lo ≤ hi ∧
  ∀ H', Same H H' → Q (gv (gapO ps (lo, hi))) H'
theorem ok_first_gap (T : Tx K mg f_depth_changes f_find_blocks f_is_number f_is_position f_is_tuple_of f_is_interval f_is_ascending f_has_position f_contains f_intersect f_is_demand f_serves f_conflict f_is_independent f_demands_at_blocks f_is_open f_open_demands f_shadow_target f_pieces_inside f_first_gap f_generates f_find_missing f_without_item f_require_few_blocks f_decisive_demands f_largest_independent f_unserved_demands f_helpful_piece f_smallest_solution f_count_needed f_solve f_are_witnesses f_solution_holds f_helps f_helpful_interval f_has_open_demand f_widen f_essential_targets f_core_targets f_is_free f_growth_counts f_law_draws f_law_next f_law_blocks f_law_wide f_law_call f_law_raised f_law_judged f_law f_TooWide_init X_TooWide X_NotGenerated X_OutOfRange X_TooMany X_SpanError d_depth_changes d_find_blocks d_is_number d_is_position d_is_tuple_of d_is_interval d_is_ascending d_has_position d_contains d_intersect d_is_demand d_serves d_conflict d_is_independent d_demands_at_blocks d_is_open d_open_demands d_shadow_target d_pieces_inside d_first_gap d_generates d_find_missing d_without_item d_require_few_blocks d_decisive_demands d_largest_independent d_unserved_demands d_helpful_piece d_smallest_solution d_count_needed d_solve d_are_witnesses d_solution_holds d_helps d_helpful_interval d_has_open_demand d_widen d_essential_targets d_core_targets d_is_free d_growth_counts d_law_draws d_law_next d_law_blocks d_law_wide d_law_call d_law_raised d_law_judged d_law d_TooWide_init t_LAST_POSITION t_MAX_BLOCKS) : FnOk P w K mg base CX0 3 f_first_gap d_first_gap ["pieces", "target"] sp_first_gap := by
  refine T.F_first_gap.ok sc_first_gap (fun vs H Q E h => ?_) (fun cdv A outer s H vs Q E hr h => ?_)
  · obtain ⟨a, t, us, ps, lo, hi, rfl, _⟩ := h
    rfl
  · obtain ⟨a, t, us, ps, lo, hi, rfl, ha, iv, pc, few, ht, lh, q⟩ := h
    refine ⟨_, (pss_cons (ps_asg (pv 1) (pg_tup rfl (pgs_cons (pg_name (i := 2) sc_first_gap.nd rfl (Or.inl rfl)) (pgs_cons (pg_name (i := 3) sc_first_gap.nd rfl (Or.inl rfl)) pgs_nil))))
      (pss_cons (ps_for PassesOwn.never rfl (pi_list (pe_callB (cr_sortT (d := 2) (B := 10 ^ 13) (by decide)) (by rfl) T.z_sorted (by decide +kernel) (pa_cons (pe_call (ok_pieces_inside T) (hr.mono (by decide)) (by rfl) T.g_pieces_inside T.F_pieces_inside.kp T.b_pieces_inside .nil pass0 (pa_cons (pv 0) (pa_cons (pv 1) pa_nil))) pa_nil))) (pg_tup rfl (pgs_cons (pg_name (i := 4) sc_first_gap.nd rfl (Or.inl rfl)) (pgs_cons (pg_name (i := 5) sc_first_gap.nd rfl (Or.inl rfl)) pgs_nil)))
      (pss_cons (ps_if (pt_cmpR op_gt (pv 4) (pv 2) (nomark _))
      (pss_one (ps_ret (pv 2)))
      pss_nil)
      (pss_one (ps_set (i := 2) sc_first_gap.nd rfl (Or.inl rfl) (pe_callB (call_max2 rfl) (by rfl) T.z_max (by decide +kernel) (pa_cons (pv 2) (pa_cons (pe_op op_add (pv 5) pe_int) pa_nil)))))))
      (pss_one (ps_ret (pe_ifExp (pt_cmpR op_le (pv 2) (pv 3) (nomark _)) (pv 2) pe_non))))), ?_⟩
    refine ⟨.ref t, rfl, t, _, rfl, SqT.of ht, rfl, .int lo, [.int hi], rfl, .int hi, [], rfl, rfl, ?_⟩
    refine ⟨.ref a, rfl, .ref t, rfl, a, t, us, ps, lo, hi, rfl, ha, iv, by omega, ht, fun H1 p ws s1 ep iv1 => ?_⟩
    obtain ⟨fs, efs⟩ : ∃ fs, fs = ps.filter fun q => inI lo hi q.1 q.2 := ⟨_, rfl⟩
    have mf : ∀ q, q ∈ fs ↔ q ∈ ps ∧ lo ≤ q.1 ∧ q.2 ≤ hi := fun q => by
      rw [efs]
      exact mem_inI
    have lf : fs.length ≤ ps.length := by
      rw [efs]
      exact List.length_filter_le _ _
    rw [← efs] at iv1
    have lw := iv1.length
    have bdp : ∀ q ∈ fs, TS.Bd (10 ^ 13) [q.1, q.2] := fun q hq m hm => by
      have z := pc q ((mf q).mp hq).1
      rcases List.mem_cons.mp hm with rfl | hm
      · exact ⟨z.1.1, Int.lt_of_le_of_lt z.1.2 z.2⟩
      · rw [List.mem_singleton.mp hm]
        exact ⟨Int.le_trans z.1.1 z.1.2, z.2⟩
    refine ⟨p, ws, rfl, SqL.of ep, by omega, fun x hx => ?_, fun ys p2 pm pw np2 => ?_⟩
    · obtain ⟨b, qq, hqq, e, eb⟩ := iv1.mem hx
      exact ⟨[qq.1, qq.2], ⟨b, e, SqT.of eb⟩, rfl, bdp qq hqq⟩
    obtain ⟨gs, ivg, pmg⟩ := Ivs.perm pm iv1
    have mg : ∀ q, q ∈ gs ↔ q ∈ ps ∧ lo ≤ q.1 ∧ q.2 ≤ hi := fun q => by rw [pmg.mem_iff, mf]
    have asc : gs.Pairwise (fun a b => a.1 ≤ b.1) := by
      have z : gs.Pairwise (fun a b => TS.code (10 ^ 13) [a.1, a.2] ≤ TS.code (10 ^ 13) [b.1, b.2]) := Ivs.pair (S := fun a b => TS.code (10 ^ 13) [a.1, a.2] ≤ TS.code (10 ^ 13) [b.1, b.2]) (fun a b x y u v ea eb h => h [x, y] [u, v] ⟨a, rfl, SqT.of ea⟩ ⟨b, rfl, SqT.of eb⟩) ivg pw
      refine z.imp_of_mem fun {x y} hx hy h => ?_
      exact code_first (bdp x (pmg.mem_iff.mp hx)) (bdp y (pmg.mem_iff.mp hy)) h
    have s2 := same_new (o := .lst ys) np2
    have ep2 := upd_same (H := H1) (a := p2) (o := .lst ys)
    replace ivg := ivg.same s2
    generalize upd H1 p2 (.lst ys) = H2 at *
    have lg := ivg.length
    refine ⟨p2, rfl, ⟨_, SqL.of ep2⟩, for_list (K := K) (a := p2) (xs := ys) (fun i σ H' => H' = H2 ∧ ∃ (pos : Int) (y4 y5 : Option V), (lo ≤ pos ∧ pos ≤ hi + 1) ∧ (∀ z, lo ≤ z → z < pos → covI ps lo hi z) ∧ (∀ q ∈ gs.take i, q.2 < pos) ∧ σ = [some (.ref a), some (.ref t), some (.int pos), some (.int hi), y4, y5])
      ⟨rfl, lo, _, _, by omega, (fun z h1 h2 => absurd h1 (by omega)), (fun q hq => nomatch hq), rfl⟩ (fun i σ H' _ h => by rw [h.1]; exact SqL.of ep2) ?_ ?_⟩
    · rintro i v σ H' hi2 ⟨rfl, pos, y4, y5, b1, cv, dn, rfl⟩
      obtain ⟨b, x, y, rfl, exy, hb⟩ := ivg.get hi2
      have inq := (mg (x, y)).mp (List.mem_of_getElem? exy)
      have pq := pc _ inq.1
      simp only at inq pq
      refine ⟨b, _, rfl, SqT.of hb, rfl, .int x, [.int y], rfl, .int y, [], rfl, rfl, ?_⟩
      refine ⟨.int x, rfl, .int pos, rfl, _, _, rfl, rfl, _, rfl, ite2 (fun c => ?_) (fun c => ?_)⟩
      · have c := of_decide_eq_true c
        refine ⟨.int pos, rfl, ?_⟩
        have g : IsGap ps lo hi (some pos) := by
          refine ⟨by omega, fun ⟨q, hq, hin, h1, h2⟩ => ?_, cv⟩
          obtain ⟨j, ej⟩ := List.getElem?_of_mem ((mg q).mpr ⟨hq, hin⟩)
          rcases Nat.lt_or_ge j i with z | z
          · have := dn q (List.mem_of_getElem? (show (gs.take i)[j]? = some q by rw [List.getElem?_take_of_lt z]; exact ej))
            omega
          · have : x ≤ q.1 := by
              obtain ⟨hj', rfl⟩ := List.getElem?_eq_some_iff.mp ej
              obtain ⟨hi', e'⟩ := List.getElem?_eq_some_iff.mp exy
              rcases Nat.eq_or_lt_of_le z with z | z
              · subst z
                rw [e']
                exact Int.le_refl _
              · have := List.pairwise_iff_getElem.mp asc i j hi' hj' z
                rw [e'] at this
                exact this
            omega
        have z := q _ (s1.trans s2)
        rw [gapO_eq (q := (lo, hi)) g] at z
        exact z
      · have c : ¬ (pos < x) := fun z => c (decide_eq_true z)
        refine ⟨.int pos, rfl, .int y, rfl, _, _, rfl, rfl, _, _, rfl, rfl, mxI pos (y + 1), _, _, ?_, fun z h1 h2 => ?_, fun q hq => ?_, rfl⟩
        · unfold mxI
          split <;> omega
        · rcases Int.lt_or_le z pos with h | h
          · exact cv z h1 h
          · refine ⟨(x, y), inq.1, inq.2, ?_, ?_⟩
            · show x ≤ z
              omega
            · show z ≤ y
              unfold mxI at h2
              split at h2 <;> omega
        · rw [List.take_add_one, exy] at hq
          have m1 : pos ≤ mxI pos (y + 1) ∧ y + 1 ≤ mxI pos (y + 1) := by
            unfold mxI
            split <;> omega
          rcases List.mem_append.mp hq with hq | hq
          · have := dn q hq
            omega
          · rw [List.mem_singleton.mp hq]
            show y < _
            omega
    · rintro σ H' ⟨rfl, pos, y4, y5, b1, cv, dn, rfl⟩
      rw [lg, List.take_length] at dn
      have z := q _ (s1.trans s2)
      refine ⟨.int pos, rfl, .int hi, rfl, _, _, rfl, rfl, _, rfl, ite2 (fun c => ?_) (fun c => ?_)⟩
      · have c := of_decide_eq_true c
        have g : IsGap ps lo hi (some pos) := by
          refine ⟨by omega, fun ⟨q, hq, hin, h1, h2⟩ => ?_, cv⟩
          have := dn q ((mg q).mpr ⟨hq, hin⟩)
          omega
        rw [gapO_eq (q := (lo, hi)) g] at z
        exact ⟨.int pos, rfl, z⟩
      · have c : ¬ (pos ≤ hi) := fun z => c (decide_eq_true z)
        have g : IsGap ps lo hi none := fun p h1 h2 => cv p h1 (by omega)
        rw [gapO_eq (q := (lo, hi)) g] at z
        exact z

/-! ### the first missing demand -/
theorem iteND {c A B : Prop} [Decidable c] (hc : ¬ c) (h : A) : if (!decide c) = true then A else B := by
  rw [decide_eq_false hc]
  exact iteT h
theorem gap_upto (ps : List (Int × Int)) (lo hi : Int) : ∀ k : Nat, (∀ p, lo ≤ p → p < lo + k → covI ps lo hi p) ∨ ∃ g, (lo ≤ g ∧ g < lo + k) ∧ ¬ covI ps lo hi g ∧ ∀ p, lo ≤ p → p < g → covI ps lo hi p
  | 0 => .inl fun p h1 h2 => absurd h1 (by omega)
  | k + 1 => by
    rcases gap_upto ps lo hi k with h | ⟨g, h1, h2⟩
    · by_cases c : covI ps lo hi (lo + k)
      · refine .inl fun p h1 h2 => ?_
        rcases Int.lt_or_le p (lo + k) with z | z
        · exact h p h1 z
        · have : p = lo + k := by omega
          rw [this]
          exact c
      · exact .inr ⟨lo + k, by omega, c, fun p h1 h2 => h p h1 h2⟩
    · exact .inr ⟨g, by omega, h2⟩
theorem gapO_spec (ps : List (Int × Int)) (q : Int × Int) : IsGap ps q.1 q.2 (gapO ps q) := by
  have ex : ∃ o, IsGap ps q.1 q.2 o := by
    rcases gap_upto ps q.1 q.2 (q.2 + 1 - q.1).toNat with h | ⟨g, h1, h2, h3⟩
    · exact ⟨none, fun p h1 h2 => h p h1 (by omega)⟩
    · exact ⟨some g, ⟨h1.1, by omega⟩, h2, h3⟩
  obtain ⟨o, h⟩ := ex
  rw [gapO_eq h]
  exact h
noncomputable def misF (ps : List (Int × Int)) (t : Int × Int) : Option (Int × Int × Int) := (gapO ps t).map fun g => (g, t.1, t.2)
noncomputable def missO (ps ts : List (Int × Int)) : Option (Int × Int × Int) := ts.findSome? (misF ps)
theorem miss_step {f : Int × Int → Option (Int × Int × Int)} {ps : List (Int × Int)} {i : Nat} {q : Int × Int} (e : ps[i]? = some q) : (ps.drop i).findSome? f = match f q with
    | some r => some r
    | none => (ps.drop (i + 1)).findSome? f := by
  obtain ⟨hi, rfl⟩ := List.getElem?_eq_some_iff.mp e
  rw [List.drop_eq_getElem_cons hi, List.findSome?_cons]
  cases f ps[i] <;> rfl
theorem missO_some {ps ts : List (Int × Int)} {g lo hi : Int} (h : missO ps ts = some (g, lo, hi)) : (lo, hi) ∈ ts ∧ gapO ps (lo, hi) = some g := by
  unfold missO at h
  obtain ⟨t, ht, e⟩ := List.exists_of_findSome?_eq_some h
  unfold misF at e
  obtain ⟨g', e1, e2⟩ := Option.map_eq_some_iff.mp e
  cases e2
  exact ⟨ht, e1⟩
theorem missO_none {ps ts : List (Int × Int)} : missO ps ts = none ↔ ∀ t ∈ ts, gapO ps t = none := by
  unfold missO misF
  rw [List.findSome?_eq_none_iff]
  constructor
  · intro h t ht
    have z := h t ht
    rw [Option.map_eq_none_iff] at z
    exact z
  · intro h t ht
    rw [h t ht]
    rfl
theorem gap_self {ps : List (Int × Int)} {t : Int × Int} (h : t ∈ ps) : gapO ps t = none := gapO_eq (show IsGap ps t.1 t.2 none from fun p h1 h2 => ⟨t, h, ⟨Int.le_refl _, Int.le_refl _⟩, h1, h2⟩)
def demD : Option (Int × Int × Int) → PyData
  | none => .none
  | some (g, lo, hi) => .tuple [.int g, .tuple [.int lo, .int hi]]
def DV (H : Hp) (v : V) : Option (Int × Int × Int) → Prop
  | none => v = .non
  | some (g, lo, hi) => ∃ u t, v = .ref u ∧ H u = some (.tup [.int g, .ref t]) ∧ H t = some (.tup [.int lo, .int hi])
theorem DV.tps {H H' : Hp} (s : Tps H H') {v : V} {o : Option (Int × Int × Int)} (h : DV H v o) : DV H' v o := by
  match o, h with
  | none, h => exact h
  | some (g, lo, hi), h =>
    obtain ⟨u, t, e, e1, e2⟩ := h
    exact ⟨u, t, e, s _ _ e1, s _ _ e2⟩
theorem DV.dp {K : PySem.W.Frag} {H : Hp} {v : V} {o : Option (Int × Int × Int)} (h : DV H v o) : Dp K H v (demD o) := by
  match o, h with
  | none, h =>
    cases h
    exact .non
  | some (g, lo, hi), h =>
    obtain ⟨u, t, e, e1, e2⟩ := h
    subst e
    exact .tup (SqT.of e1) (.cons (.int g) (.cons (dp2 e2) .nil))
theorem sm_dem {o : Option (Int × Int × Int)} (h : ∀ g lo hi, o = some (g, lo, hi) → g.natAbs < 10 ^ 30 ∧ lo.natAbs < 10 ^ 30 ∧ hi.natAbs < 10 ^ 30) : Sm 406 2 (demD o) := by
  match o, h with
  | none, _ => exact Sm.none.mono (by decide) (by decide)
  | some (g, lo, hi), h =>
    obtain ⟨h1, h2, h3⟩ := h g lo hi rfl
    exact Sm.tup (n := 202) (dp := 1) (ds := [.int g, .tuple [.int lo, .int hi]]) (fun d hd => by
      rcases List.mem_cons.mp hd with rfl | hd
      · exact (Sm.int h1).mono (by decide) (by decide)
      · rcases List.mem_cons.mp hd with rfl | hd
        · exact sm2 h2 h3
        · cases hd)
def Tg (ts : List (Int × Int)) : Prop := ∀ t ∈ ts, t.1 ≤ t.2
def sp_find_missing : Sp := fun vs H Q _ => ∃ (a b : Addr) (tus us : List V) (ts ps : List (Int × Int)), vs = [.ref a, .ref b] ∧ H a = some (.tup tus) ∧ Ivs H tus ts ∧ Tg ts ∧ H b = some (.tup us) ∧ Ivs H us ps ∧ Pc ps ∧ ps.length ≤ 63 ∧
  ∀ H' r, Same H H' → DV H' r (missO ps ts) → Q r H'
theorem ok_find_missing (T : Tx K mg f_depth_changes f_find_blocks f_is_number f_is_position f_is_tuple_of f_is_interval f_is_ascending f_has_position f_contains f_intersect f_is_demand f_serves f_conflict f_is_independent f_demands_at_blocks f_is_open f_open_demands f_shadow_target f_pieces_inside f_first_gap f_generates f_find_missing f_without_item f_require_few_blocks f_decisive_demands f_largest_independent f_unserved_demands f_helpful_piece f_smallest_solution f_count_needed f_solve f_are_witnesses f_solution_holds f_helps f_helpful_interval f_has_open_demand f_widen f_essential_targets f_core_targets f_is_free f_growth_counts f_law_draws f_law_next f_law_blocks f_law_wide f_law_call f_law_raised f_law_judged f_law f_TooWide_init X_TooWide X_NotGenerated X_OutOfRange X_TooMany X_SpanError d_depth_changes d_find_blocks d_is_number d_is_position d_is_tuple_of d_is_interval d_is_ascending d_has_position d_contains d_intersect d_is_demand d_serves d_conflict d_is_independent d_demands_at_blocks d_is_open d_open_demands d_shadow_target d_pieces_inside d_first_gap d_generates d_find_missing d_without_item d_require_few_blocks d_decisive_demands d_largest_independent d_unserved_demands d_helpful_piece d_smallest_solution d_count_needed d_solve d_are_witnesses d_solution_holds d_helps d_helpful_interval d_has_open_demand d_widen d_essential_targets d_core_targets d_is_free d_growth_counts d_law_draws d_law_next d_law_blocks d_law_wide d_law_call d_law_raised d_law_judged d_law d_TooWide_init t_LAST_POSITION t_MAX_BLOCKS) : FnOk P w K mg base CX0 4 f_find_missing d_find_missing ["targets", "pieces"] sp_find_missing := by
  refine T.F_find_missing.ok sc_find_missing (fun vs H Q E h => ?_) (fun cdv A outer s H vs Q E hr h => ?_)
  · obtain ⟨a, b, tus, us, ts, ps, rfl, _⟩ := h
    rfl
  · obtain ⟨a, b, tus, us, ts, ps, rfl, ha, tiv, tg, hb, iv, pc, few, q⟩ := h
    refine ⟨_, (pss_cons (ps_for PassesOwn.never rfl (pi_tup (pv 0)) (pg_name (i := 2) sc_find_missing.nd rfl (Or.inl rfl))
      (pss_cons (ps_set (i := 3) sc_find_missing.nd rfl (Or.inl rfl) (pe_call (ok_first_gap T) (hr.mono (by decide)) (by rfl) T.g_first_gap T.F_first_gap.kp T.b_first_gap .nil pass0 (pa_cons (pv 1) (pa_cons (pv 2) pa_nil))))
      (pss_one (ps_if (pt_cmpR op_notN (pv 3) pe_non (nomark _))
      (pss_one (ps_ret (pe_tup (pa_cons (pv 3) (pa_cons (pv 2) pa_nil)))))
      pss_nil))))
      (pss_one (ps_ret pe_non))), ?_⟩
    refine ⟨.ref a, rfl, a, rfl, ⟨_, SqT.of ha⟩, for_tup (K := K) (a := a) (xs := tus) (fun i σ H' => Same H H' ∧ missO ps ts = (ts.drop i).findSome? (misF ps) ∧ ∃ y2 y3, σ = [some (.ref a), some (.ref b), y2, y3]) ⟨Same.refl _, rfl, _, _, rfl⟩ (fun i σ H' _ h => SqT.of (h.1 _ _ ha)) ?_ ?_⟩
    · rintro i x σ H1 hi ⟨s1, ef, y2, y3, rfl⟩
      obtain ⟨t, lo, hi2, rfl, et, ht⟩ := tiv.get hi
      have lh := tg _ (List.mem_of_getElem? et)
      rw [miss_step et] at ef
      unfold misF at ef
      refine ⟨.ref b, rfl, .ref t, rfl, b, t, us, ps, lo, hi2, rfl, s1 _ _ hb, iv.same s1, pc, few, s1 _ _ ht, lh, fun H2 s2 => ?_⟩
      have s12 := s1.trans s2
      cases eg : gapO ps (lo, hi2) with
      | none =>
        rw [eg] at ef
        exact ⟨_, rfl, rfl, _, rfl, iteF ⟨s12, ef, _, _, rfl⟩⟩
      | some g =>
        rw [eg] at ef
        refine ⟨_, rfl, rfl, _, rfl, ?_⟩
        refine iteND (fun z : V.int g = V.non => by cases z) ⟨_, rfl, .ref t, rfl, by show 2 ≤ sizeLine; decide, fun u nu => q _ _ (s12.trans (same_new nu)) ?_⟩
        rw [ef]
        exact ⟨u, t, rfl, upd_same, same_new nu _ _ (s12 _ _ ht)⟩
    · rintro σ H1 ⟨s1, ef, y2, y3, rfl⟩
      refine q _ _ s1 ?_
      rw [ef, tiv.length, List.drop_length]
      rfl

/-! ### first_gap over a list -/
def sp_pieces_insideL : Sp := fun vs H Q _ => ∃ (a t : Addr) (us : List V) (ps : List (Int × Int)) (lo hi : Int), vs = [.ref a, .ref t] ∧ H a = some (.lst us) ∧ Ivs H us ps ∧ ps.length < 1000 ∧ H t = some (.tup [.int lo, .int hi]) ∧
  ∀ H' p ws, Same H H' → H' p = some (.lst ws) → Ivs H' ws (ps.filter fun q => inI lo hi q.1 q.2) → Q (.ref p) H'
theorem ok_pieces_insideL (T : Tx K mg f_depth_changes f_find_blocks f_is_number f_is_position f_is_tuple_of f_is_interval f_is_ascending f_has_position f_contains f_intersect f_is_demand f_serves f_conflict f_is_independent f_demands_at_blocks f_is_open f_open_demands f_shadow_target f_pieces_inside f_first_gap f_generates f_find_missing f_without_item f_require_few_blocks f_decisive_demands f_largest_independent f_unserved_demands f_helpful_piece f_smallest_solution f_count_needed f_solve f_are_witnesses f_solution_holds f_helps f_helpful_interval f_has_open_demand f_widen f_essential_targets f_core_targets f_is_free f_growth_counts f_law_draws f_law_next f_law_blocks f_law_wide f_law_call f_law_raised f_law_judged f_law f_TooWide_init X_TooWide X_NotGenerated X_OutOfRange X_TooMany X_SpanError d_depth_changes d_find_blocks d_is_number d_is_position d_is_tuple_of d_is_interval d_is_ascending d_has_position d_contains d_intersect d_is_demand d_serves d_conflict d_is_independent d_demands_at_blocks d_is_open d_open_demands d_shadow_target d_pieces_inside d_first_gap d_generates d_find_missing d_without_item d_require_few_blocks d_decisive_demands d_largest_independent d_unserved_demands d_helpful_piece d_smallest_solution d_count_needed d_solve d_are_witnesses d_solution_holds d_helps d_helpful_interval d_has_open_demand d_widen d_essential_targets d_core_targets d_is_free d_growth_counts d_law_draws d_law_next d_law_blocks d_law_wide d_law_call d_law_raised d_law_judged d_law d_TooWide_init t_LAST_POSITION t_MAX_BLOCKS) : FnOk P w K mg base CX0 2 f_pieces_inside d_pieces_inside ["pieces", "target"] sp_pieces_insideL := by
  refine T.F_pieces_inside.ok sc_pieces_inside (fun vs H Q E h => ?_) (fun cdv A outer s H vs Q E hr h => ?_)
  · obtain ⟨a, t, us, ps, lo, hi, rfl, _⟩ := h
    rfl
  · obtain ⟨a, t, us, ps, lo, hi, rfl, ha, iv, few, ht, q⟩ := h
    have lu := iv.length
    refine ⟨_, (pss_one (ps_ret (pe_lc (own := [("piece", 2)]) (g := (gName 2)) (by rfl) sc_pieces_inside.nd (pi_list (pv 0)) (blkOk_by (own := [("piece", 2)]) (N := N_pieces_inside) (sc := defScope s_pieces_inside) (by decide +kernel)) (fun _ _ _ _ _ => (pg_name (i := 2) sc_pieces_inside.nd rfl (Or.inl rfl))) (fun _ _ _ _ _ => pts_one (pt_val (pe_call (ok_contains T) (hr.mono (by decide)) (by rfl) T.g_contains T.F_contains.kp T.b_contains .nil pass0 (pa_cons (pv 1) (pa_cons (pv 2) pa_nil))))) (fun _ _ _ _ _ => (pv 2))))), ?_⟩
    refine ⟨.ref a, rfl, a, rfl, ⟨_, SqL.of ha⟩, fun D nD => ?_⟩
    refine lcL (K := K) (a := a) (xs := us) (fun j H' ws => Ivs H' ws ((ps.take j).filter fun q => inI lo hi q.1 q.2)) nD (fun H' s => SqL.of (s _ _ ha)) (by omega) (fun _ _ _ _ t r => r.tps t) (fun j H' ws r => ?_) (fun _ => .nil) ?_ ?_
    · rw [r.length]
      exact Nat.le_trans (List.length_filter_le _ _) (List.length_take_le _ _)
    · rintro j z H' N acc hj sj eA sz r no yes
      obtain ⟨b, x, y, rfl, exy, hb⟩ := iv.get hj
      refine ⟨rfl, .ref t, rfl, .ref b, rfl, t, b, lo, hi, x, y, rfl, sj _ _ ht, sj _ _ hb, _, rfl, ite2 (fun c => ?_) (fun c => ?_)⟩
      · refine ⟨.ref b, rfl, yes H' _ (Same.refl _) ?_⟩
        rw [take_filter exy, if_pos c]
        exact r.snoc (sj _ _ hb)
      · refine no H' (Same.refl _) ?_
        rw [take_filter exy, if_neg c, List.append_nil]
        exact r
    · intro H' ws s' eD r
      rw [lu, List.take_length] at r
      exact q H' D ws s' eD r
def sp_first_gapL : Sp := fun vs H Q _ => ∃ (a t : Addr) (us : List V) (ps : List (Int × Int)) (lo hi : Int), vs = [.ref a, .ref t] ∧ H a = some (.lst us) ∧ Ivs H us ps ∧ Pc ps ∧ ps.length ≤ 63 ∧ H t = some (.tup [.int lo, .int hi]) ∧ lo ≤ hi ∧
  ∀ H', Same H H' → Q (gv (gapO ps (lo, hi))) H'
theorem ok_first_gapL (T : Tx K mg f_depth_changes f_find_blocks f_is_number f_is_position f_is_tuple_of f_is_interval f_is_ascending f_has_position f_contains f_intersect f_is_demand f_serves f_conflict f_is_independent f_demands_at_blocks f_is_open f_open_demands f_shadow_target f_pieces_inside f_first_gap f_generates f_find_missing f_without_item f_require_few_blocks f_decisive_demands f_largest_independent f_unserved_demands f_helpful_piece f_smallest_solution f_count_needed f_solve f_are_witnesses f_solution_holds f_helps f_helpful_interval f_has_open_demand f_widen f_essential_targets f_core_targets f_is_free f_growth_counts f_law_draws f_law_next f_law_blocks f_law_wide f_law_call f_law_raised f_law_judged f_law f_TooWide_init X_TooWide X_NotGenerated X_OutOfRange X_TooMany X_SpanError d_depth_changes d_find_blocks d_is_number d_is_position d_is_tuple_of d_is_interval d_is_ascending d_has_position d_contains d_intersect d_is_demand d_serves d_conflict d_is_independent d_demands_at_blocks d_is_open d_open_demands d_shadow_target d_pieces_inside d_first_gap d_generates d_find_missing d_without_item d_require_few_blocks d_decisive_demands d_largest_independent d_unserved_demands d_helpful_piece d_smallest_solution d_count_needed d_solve d_are_witnesses d_solution_holds d_helps d_helpful_interval d_has_open_demand d_widen d_essential_targets d_core_targets d_is_free d_growth_counts d_law_draws d_law_next d_law_blocks d_law_wide d_law_call d_law_raised d_law_judged d_law d_TooWide_init t_LAST_POSITION t_MAX_BLOCKS) : FnOk P w K mg base CX0 3 f_first_gap d_first_gap ["pieces", "target"] sp_first_gapL := by
  refine T.F_first_gap.ok sc_first_gap (fun vs H Q E h => ?_) (fun cdv A outer s H vs Q E hr h => ?_)
  · obtain ⟨a, t, us, ps, lo, hi, rfl, _⟩ := h
    rfl
  · obtain ⟨a, t, us, ps, lo, hi, rfl, ha, iv, pc, few, ht, lh, q⟩ := h
    refine ⟨_, (pss_cons (ps_asg (pv 1) (pg_tup rfl (pgs_cons (pg_name (i := 2) sc_first_gap.nd rfl (Or.inl rfl)) (pgs_cons (pg_name (i := 3) sc_first_gap.nd rfl (Or.inl rfl)) pgs_nil))))
      (pss_cons (ps_for PassesOwn.never rfl (pi_list (pe_callB (cr_sortT (d := 2) (B := 10 ^ 13) (by decide)) (by rfl) T.z_sorted (by decide +kernel) (pa_cons (pe_call (ok_pieces_insideL T) (hr.mono (by decide)) (by rfl) T.g_pieces_inside T.F_pieces_inside.kp T.b_pieces_inside .nil pass0 (pa_cons (pv 0) (pa_cons (pv 1) pa_nil))) pa_nil))) (pg_tup rfl (pgs_cons (pg_name (i := 4) sc_first_gap.nd rfl (Or.inl rfl)) (pgs_cons (pg_name (i := 5) sc_first_gap.nd rfl (Or.inl rfl)) pgs_nil)))
      (pss_cons (ps_if (pt_cmpR op_gt (pv 4) (pv 2) (nomark _))
      (pss_one (ps_ret (pv 2)))
      pss_nil)
      (pss_one (ps_set (i := 2) sc_first_gap.nd rfl (Or.inl rfl) (pe_callB (call_max2 rfl) (by rfl) T.z_max (by decide +kernel) (pa_cons (pv 2) (pa_cons (pe_op op_add (pv 5) pe_int) pa_nil)))))))
      (pss_one (ps_ret (pe_ifExp (pt_cmpR op_le (pv 2) (pv 3) (nomark _)) (pv 2) pe_non))))), ?_⟩
    refine ⟨.ref t, rfl, t, _, rfl, SqT.of ht, rfl, .int lo, [.int hi], rfl, .int hi, [], rfl, rfl, ?_⟩
    refine ⟨.ref a, rfl, .ref t, rfl, a, t, us, ps, lo, hi, rfl, ha, iv, by omega, ht, fun H1 p ws s1 ep iv1 => ?_⟩
    obtain ⟨fs, efs⟩ : ∃ fs, fs = ps.filter fun q => inI lo hi q.1 q.2 := ⟨_, rfl⟩
    have mf : ∀ q, q ∈ fs ↔ q ∈ ps ∧ lo ≤ q.1 ∧ q.2 ≤ hi := fun q => by
      rw [efs]
      exact mem_inI
    have lf : fs.length ≤ ps.length := by
      rw [efs]
      exact List.length_filter_le _ _
    rw [← efs] at iv1
    have lw := iv1.length
    have bdp : ∀ q ∈ fs, TS.Bd (10 ^ 13) [q.1, q.2] := fun q hq m hm => by
      have z := pc q ((mf q).mp hq).1
      rcases List.mem_cons.mp hm with rfl | hm
      · exact ⟨z.1.1, Int.lt_of_le_of_lt z.1.2 z.2⟩
      · rw [List.mem_singleton.mp hm]
        exact ⟨Int.le_trans z.1.1 z.1.2, z.2⟩
    refine ⟨p, ws, rfl, SqL.of ep, by omega, fun x hx => ?_, fun ys p2 pm pw np2 => ?_⟩
    · obtain ⟨b, qq, hqq, e, eb⟩ := iv1.mem hx
      exact ⟨[qq.1, qq.2], ⟨b, e, SqT.of eb⟩, rfl, bdp qq hqq⟩
    obtain ⟨gs, ivg, pmg⟩ := Ivs.perm pm iv1
    have mg : ∀ q, q ∈ gs ↔ q ∈ ps ∧ lo ≤ q.1 ∧ q.2 ≤ hi := fun q => by rw [pmg.mem_iff, mf]
    have asc : gs.Pairwise (fun a b => a.1 ≤ b.1) := by
      have z : gs.Pairwise (fun a b => TS.code (10 ^ 13) [a.1, a.2] ≤ TS.code (10 ^ 13) [b.1, b.2]) := Ivs.pair (S := fun a b => TS.code (10 ^ 13) [a.1, a.2] ≤ TS.code (10 ^ 13) [b.1, b.2]) (fun a b x y u v ea eb h => h [x, y] [u, v] ⟨a, rfl, SqT.of ea⟩ ⟨b, rfl, SqT.of eb⟩) ivg pw
      refine z.imp_of_mem fun {x y} hx hy h => ?_
      exact code_first (bdp x (pmg.mem_iff.mp hx)) (bdp y (pmg.mem_iff.mp hy)) h
    have s2 := same_new (o := .lst ys) np2
    have ep2 := upd_same (H := H1) (a := p2) (o := .lst ys)
    replace ivg := ivg.same s2
    generalize upd H1 p2 (.lst ys) = H2 at *
    have lg := ivg.length
    refine ⟨p2, rfl, ⟨_, SqL.of ep2⟩, for_list (K := K) (a := p2) (xs := ys) (fun i σ H' => H' = H2 ∧ ∃ (pos : Int) (y4 y5 : Option V), (lo ≤ pos ∧ pos ≤ hi + 1) ∧ (∀ z, lo ≤ z → z < pos → covI ps lo hi z) ∧ (∀ q ∈ gs.take i, q.2 < pos) ∧ σ = [some (.ref a), some (.ref t), some (.int pos), some (.int hi), y4, y5])
      ⟨rfl, lo, _, _, by omega, (fun z h1 h2 => absurd h1 (by omega)), (fun q hq => nomatch hq), rfl⟩ (fun i σ H' _ h => by rw [h.1]; exact SqL.of ep2) ?_ ?_⟩
    · rintro i v σ H' hi2 ⟨rfl, pos, y4, y5, b1, cv, dn, rfl⟩
      obtain ⟨b, x, y, rfl, exy, hb⟩ := ivg.get hi2
      have inq := (mg (x, y)).mp (List.mem_of_getElem? exy)
      have pq := pc _ inq.1
      simp only at inq pq
      refine ⟨b, _, rfl, SqT.of hb, rfl, .int x, [.int y], rfl, .int y, [], rfl, rfl, ?_⟩
      refine ⟨.int x, rfl, .int pos, rfl, _, _, rfl, rfl, _, rfl, ite2 (fun c => ?_) (fun c => ?_)⟩
      · have c := of_decide_eq_true c
        refine ⟨.int pos, rfl, ?_⟩
        have g : IsGap ps lo hi (some pos) := by
          refine ⟨by omega, fun ⟨q, hq, hin, h1, h2⟩ => ?_, cv⟩
          obtain ⟨j, ej⟩ := List.getElem?_of_mem ((mg q).mpr ⟨hq, hin⟩)
          rcases Nat.lt_or_ge j i with z | z
          · have := dn q (List.mem_of_getElem? (show (gs.take i)[j]? = some q by rw [List.getElem?_take_of_lt z]; exact ej))
            omega
          · have : x ≤ q.1 := by
              obtain ⟨hj', rfl⟩ := List.getElem?_eq_some_iff.mp ej
              obtain ⟨hi', e'⟩ := List.getElem?_eq_some_iff.mp exy
              rcases Nat.eq_or_lt_of_le z with z | z
              · subst z
                rw [e']
                exact Int.le_refl _
              · have := List.pairwise_iff_getElem.mp asc i j hi' hj' z
                rw [e'] at this
                exact this
            omega
        have z := q _ (s1.trans s2)
        rw [gapO_eq (q := (lo, hi)) g] at z
        exact z
      · have c : ¬ (pos < x) := fun z => c (decide_eq_true z)
        refine ⟨.int pos, rfl, .int y, rfl, _, _, rfl, rfl, _, _, rfl, rfl, mxI pos (y + 1), _, _, ?_, fun z h1 h2 => ?_, fun q hq => ?_, rfl⟩
        · unfold mxI
          split <;> omega
        · rcases Int.lt_or_le z pos with h | h
          · exact cv z h1 h
          · refine ⟨(x, y), inq.1, inq.2, ?_, ?_⟩
            · show x ≤ z
              omega
            · show z ≤ y
              unfold mxI at h2
              split at h2 <;> omega
        · rw [List.take_add_one, exy] at hq
          have m1 : pos ≤ mxI pos (y + 1) ∧ y + 1 ≤ mxI pos (y + 1) := by
            unfold mxI
            split <;> omega
          rcases List.mem_append.mp hq with hq | hq
          · have := dn q hq
            omega
          · rw [List.mem_singleton.mp hq]
            show y < _
            omega
    · rintro σ H' ⟨rfl, pos, y4, y5, b1, cv, dn, rfl⟩
      rw [lg, List.take_length] at dn
      have z := q _ (s1.trans s2)
      refine ⟨.int pos, rfl, .int hi, rfl, _, _, rfl, rfl, _, rfl, ite2 (fun c => ?_) (fun c => ?_)⟩
      · have c := of_decide_eq_true c
        have g : IsGap ps lo hi (some pos) := by
          refine ⟨by omega, fun ⟨q, hq, hin, h1, h2⟩ => ?_, cv⟩
          have := dn q ((mg q).mpr ⟨hq, hin⟩)
          omega
        rw [gapO_eq (q := (lo, hi)) g] at z
        exact ⟨.int pos, rfl, z⟩
      · have c : ¬ (pos ≤ hi) := fun z => c (decide_eq_true z)
        have g : IsGap ps lo hi none := fun p h1 h2 => cv p h1 (by omega)
        rw [gapO_eq (q := (lo, hi)) g] at z
        exact z

/-! ### the least interval that serves the same -/
theorem OV.tps {H H' : Hp} (s : Tps H H') {v : V} {o : Option (Int × Int)} (h : OV H v o) : OV H' v o := by
  match o, h with
  | none, h => exact h
  | some (x, y), h =>
    obtain ⟨t, e, h⟩ := h
    exact ⟨t, e, s _ _ h⟩
def itO (p q : Int × Int) : Option (Int × Int) := if mxI p.1 q.1 ≤ mnI p.2 q.2 then some (mxI p.1 q.1, mnI p.2 q.2) else none
def sp_intersect : Sp := fun vs H Q _ => ∃ (a b : Addr) (x y u v : Int), vs = [.ref a, .ref b] ∧ H a = some (.tup [.int x, .int y]) ∧ H b = some (.tup [.int u, .int v]) ∧
  ∀ H' r, Same H H' → OV H' r (itO (x, y) (u, v)) → Q r H'
theorem ok_intersect (T : Tx K mg f_depth_changes f_find_blocks f_is_number f_is_position f_is_tuple_of f_is_interval f_is_ascending f_has_position f_contains f_intersect f_is_demand f_serves f_conflict f_is_independent f_demands_at_blocks f_is_open f_open_demands f_shadow_target f_pieces_inside f_first_gap f_generates f_find_missing f_without_item f_require_few_blocks f_decisive_demands f_largest_independent f_unserved_demands f_helpful_piece f_smallest_solution f_count_needed f_solve f_are_witnesses f_solution_holds f_helps f_helpful_interval f_has_open_demand f_widen f_essential_targets f_core_targets f_is_free f_growth_counts f_law_draws f_law_next f_law_blocks f_law_wide f_law_call f_law_raised f_law_judged f_law f_TooWide_init X_TooWide X_NotGenerated X_OutOfRange X_TooMany X_SpanError d_depth_changes d_find_blocks d_is_number d_is_position d_is_tuple_of d_is_interval d_is_ascending d_has_position d_contains d_intersect d_is_demand d_serves d_conflict d_is_independent d_demands_at_blocks d_is_open d_open_demands d_shadow_target d_pieces_inside d_first_gap d_generates d_find_missing d_without_item d_require_few_blocks d_decisive_demands d_largest_independent d_unserved_demands d_helpful_piece d_smallest_solution d_count_needed d_solve d_are_witnesses d_solution_holds d_helps d_helpful_interval d_has_open_demand d_widen d_essential_targets d_core_targets d_is_free d_growth_counts d_law_draws d_law_next d_law_blocks d_law_wide d_law_call d_law_raised d_law_judged d_law d_TooWide_init t_LAST_POSITION t_MAX_BLOCKS) : FnOk P w K mg base CX0 1 f_intersect d_intersect ["first", "second"] sp_intersect := by
  refine T.F_intersect.ok sc_intersect (fun vs H Q E h => ?_) (fun cdv A outer s H vs Q E hr h => ?_)
  · obtain ⟨a, b, x, y, u, v, rfl, _⟩ := h
    rfl
  · obtain ⟨a, b, x, y, u, v, rfl, ha, hb, q⟩ := h
    refine ⟨_, (pss_cons (ps_set (i := 2) sc_intersect.nd rfl (Or.inl rfl) (pe_callB (call_max2 rfl) (by rfl) T.z_max (by decide +kernel) (pa_cons (pe_ix ix_tup (pv 0) pe_int (fun _ _ => rfl)) (pa_cons (pe_ix ix_tup (pv 1) pe_int (fun _ _ => rfl)) pa_nil))))
      (pss_cons (ps_set (i := 3) sc_intersect.nd rfl (Or.inl rfl) (pe_callB (call_min2 rfl) (by rfl) T.z_min (by decide +kernel) (pa_cons (pe_ix ix_tup (pv 0) pe_int (fun _ _ => rfl)) (pa_cons (pe_ix ix_tup (pv 1) pe_int (fun _ _ => rfl)) pa_nil))))
      (pss_one (ps_ret (pe_ifExp (pt_cmpR op_le (pv 2) (pv 3) (nomark _)) (pe_tup (pa_cons (pv 2) (pa_cons (pv 3) pa_nil))) pe_non))))), ?_⟩
    refine ⟨.ref a, rfl, a, _, 0, .int x, rfl, rfl, SqT.of ha, rfl, .ref b, rfl, b, _, 0, .int u, rfl, rfl, SqT.of hb, rfl, _, _, rfl, ?_⟩
    refine ⟨.ref a, rfl, a, _, 1, .int y, rfl, rfl, SqT.of ha, rfl, .ref b, rfl, b, _, 1, .int v, rfl, rfl, SqT.of hb, rfl, _, _, rfl, ?_⟩
    refine ⟨_, rfl, _, rfl, _, _, rfl, rfl, _, rfl, ite2 (fun cc => ?_) (fun cc => ?_)⟩
    · have cc := of_decide_eq_true cc
      refine ⟨_, rfl, _, rfl, by show 2 ≤ sizeLine; decide, fun t nt => ?_⟩
      refine q _ (.ref t) (same_new nt) ?_
      have e : itO (x, y) (u, v) = some (mxI x u, mnI y v) := if_pos cc
      rw [e]
      exact ⟨t, rfl, upd_same⟩
    · have e : itO (x, y) (u, v) = none := if_neg (fun z => cc (decide_eq_true z))
      refine q _ .non (Same.refl _) ?_
      rw [e]
      rfl
def sp_generates : Sp := fun vs H Q _ => ∃ (a t : Addr) (us : List V) (ps : List (Int × Int)) (lo hi : Int), vs = [.ref a, .ref t] ∧ H a = some (.lst us) ∧ Ivs H us ps ∧ Pc ps ∧ ps.length ≤ 63 ∧ H t = some (.tup [.int lo, .int hi]) ∧ lo ≤ hi ∧
  ∀ H', Same H H' → Q (.bl (decide (gv (gapO ps (lo, hi)) = V.non))) H'
theorem ok_generates (T : Tx K mg f_depth_changes f_find_blocks f_is_number f_is_position f_is_tuple_of f_is_interval f_is_ascending f_has_position f_contains f_intersect f_is_demand f_serves f_conflict f_is_independent f_demands_at_blocks f_is_open f_open_demands f_shadow_target f_pieces_inside f_first_gap f_generates f_find_missing f_without_item f_require_few_blocks f_decisive_demands f_largest_independent f_unserved_demands f_helpful_piece f_smallest_solution f_count_needed f_solve f_are_witnesses f_solution_holds f_helps f_helpful_interval f_has_open_demand f_widen f_essential_targets f_core_targets f_is_free f_growth_counts f_law_draws f_law_next f_law_blocks f_law_wide f_law_call f_law_raised f_law_judged f_law f_TooWide_init X_TooWide X_NotGenerated X_OutOfRange X_TooMany X_SpanError d_depth_changes d_find_blocks d_is_number d_is_position d_is_tuple_of d_is_interval d_is_ascending d_has_position d_contains d_intersect d_is_demand d_serves d_conflict d_is_independent d_demands_at_blocks d_is_open d_open_demands d_shadow_target d_pieces_inside d_first_gap d_generates d_find_missing d_without_item d_require_few_blocks d_decisive_demands d_largest_independent d_unserved_demands d_helpful_piece d_smallest_solution d_count_needed d_solve d_are_witnesses d_solution_holds d_helps d_helpful_interval d_has_open_demand d_widen d_essential_targets d_core_targets d_is_free d_growth_counts d_law_draws d_law_next d_law_blocks d_law_wide d_law_call d_law_raised d_law_judged d_law d_TooWide_init t_LAST_POSITION t_MAX_BLOCKS) : FnOk P w K mg base CX0 4 f_generates d_generates ["pieces", "target"] sp_generates := by
  refine T.F_generates.ok sc_generates (fun vs H Q E h => ?_) (fun cdv A outer s H vs Q E hr h => ?_)
  · obtain ⟨a, t, us, ps, lo, hi, rfl, _⟩ := h
    rfl
  · obtain ⟨a, t, us, ps, lo, hi, rfl, ha, iv, pc, few, ht, lh, q⟩ := h
    refine ⟨_, (pss_one (ps_ret (pe_cmpR op_isN (pe_call (ok_first_gapL T) (hr.mono (by decide)) (by rfl) T.g_first_gap T.F_first_gap.kp T.b_first_gap .nil pass0 (pa_cons (pv 0) (pa_cons (pv 1) pa_nil))) pe_non (nomark _)))), ?_⟩
    refine ⟨.ref a, rfl, .ref t, rfl, a, t, us, ps, lo, hi, rfl, ha, iv, pc, few, ht, lh, fun H1 s1 => ?_⟩
    exact ⟨rfl, q H1 s1⟩
/-- t has an open demand that q serves -/
def Hod (ps : List (Int × Int)) (q t : Int × Int) : Prop := (t.1 ≤ q.1 ∧ q.2 ≤ t.2) ∧ ∃ p, q.1 ≤ p ∧ p ≤ q.2 ∧ ∀ s ∈ ps, t.1 ≤ s.1 → s.2 ≤ t.2 → ¬ (s.1 ≤ p ∧ p ≤ s.2)
theorem gap_parts {ps : List (Int × Int)} {q t : Int × Int} (c : t.1 ≤ q.1 ∧ q.2 ≤ t.2) : gapO (((ps.filter fun z => inI t.1 t.2 z.1 z.2).map fun s => itO s q).filterMap id) q = none ↔ ¬ Hod ps q t := by
  have sp := gapO_spec (((ps.filter fun z => inI t.1 t.2 z.1 z.2).map fun s => itO s q).filterMap id) q
  have mem : ∀ z, z ∈ ((ps.filter fun z => inI t.1 t.2 z.1 z.2).map fun s => itO s q).filterMap id ↔ ∃ s ∈ ps, (t.1 ≤ s.1 ∧ s.2 ≤ t.2) ∧ itO s q = some z := fun z => by
    rw [List.mem_filterMap]
    constructor
    · rintro ⟨o, ho, e⟩
      obtain ⟨s, hs, rfl⟩ := List.mem_map.mp ho
      have m := mem_inI.mp hs
      exact ⟨s, m.1, m.2, e⟩
    · rintro ⟨s, hs, h, e⟩
      exact ⟨_, List.mem_map.mpr ⟨s, mem_inI.mpr ⟨hs, h⟩, rfl⟩, e⟩
  have inter : ∀ s z : Int × Int, itO s q = some z → z = (mxI s.1 q.1, mnI s.2 q.2) ∧ mxI s.1 q.1 ≤ mnI s.2 q.2 := fun s z e => by
    unfold itO at e
    split at e
    · next h => exact ⟨(Option.some.inj e).symm, h⟩
    · cases e
  constructor
  · intro h ⟨_, p, p1, p2, no⟩
    rw [h] at sp
    obtain ⟨z, hz, _, k1, k2⟩ := sp p p1 p2
    obtain ⟨s, hs, st, e⟩ := (mem z).mp hz
    obtain ⟨e, _⟩ := inter s z e
    rw [e] at k1 k2
    refine no s hs st.1 st.2 ⟨?_, ?_⟩
    · have k1 : mxI s.1 q.1 ≤ p := k1
      unfold mxI at k1
      split at k1 <;> omega
    · have k2 : p ≤ mnI s.2 q.2 := k2
      unfold mnI at k2
      split at k2 <;> omega
  · intro h
    refine gapO_eq (show IsGap _ q.1 q.2 none from fun p p1 p2 => ?_)
    have ⟨s, hs, s1, s2, s3⟩ : ∃ s ∈ ps, t.1 ≤ s.1 ∧ s.2 ≤ t.2 ∧ (s.1 ≤ p ∧ p ≤ s.2) := Classical.byContradiction fun z => h ⟨c, p, p1, p2, fun s hs a b k => z ⟨s, hs, a, b, k⟩⟩
    have a1 : mxI s.1 q.1 ≤ p := by
      unfold mxI
      split <;> omega
    have a2 : p ≤ mnI s.2 q.2 := by
      unfold mnI
      split <;> omega
    have a3 : q.1 ≤ mxI s.1 q.1 := by
      unfold mxI
      split <;> omega
    have a4 : mnI s.2 q.2 ≤ q.2 := by
      unfold mnI
      split <;> omega
    exact ⟨(mxI s.1 q.1, mnI s.2 q.2), (mem _).mpr ⟨s, hs, ⟨s1, s2⟩, if_pos (by omega)⟩, ⟨a3, a4⟩, a1, a2⟩
def OVs (H : Hp) (vs : List V) (os : List (Option (Int × Int))) : Prop := vs.length = os.length ∧ ∀ (i : Nat) (v : V), vs[i]? = some v → ∃ o, os[i]? = some o ∧ OV H v o
theorem OVs.tps {H H' : Hp} (s : Tps H H') {vs : List V} {os : List (Option (Int × Int))} (h : OVs H vs os) : OVs H' vs os := ⟨h.1, fun i v e => by
  obtain ⟨o, e1, e2⟩ := h.2 i v e
  exact ⟨o, e1, e2.tps s⟩⟩
theorem OVs.snoc {H : Hp} {vs : List V} {os : List (Option (Int × Int))} (h : OVs H vs os) {v : V} {o : Option (Int × Int)} (e : OV H v o) : OVs H (vs ++ [v]) (os ++ [o]) := by
  refine ⟨by rw [List.length_append, List.length_append, h.1]; rfl, fun i u hu => ?_⟩
  rcases Nat.lt_or_ge i vs.length with l | l
  · rw [List.getElem?_append_left l] at hu
    obtain ⟨o', e1, e2⟩ := h.2 i u hu
    exact ⟨o', by rw [List.getElem?_append_left (by rw [← h.1]; exact l)]; exact e1, e2⟩
  · rw [List.getElem?_append_right l] at hu
    have z : i - vs.length = 0 := by
      have := (List.getElem?_eq_some_iff.mp hu).1
      simp at this
      omega
    rw [z] at hu
    cases hu
    exact ⟨o, by rw [List.getElem?_append_right (by rw [← h.1]; exact l), ← h.1, z]; rfl, e⟩
def sp_hod : Sp := fun vs H Q _ => ∃ (t a e : Addr) (us : List V) (ps : List (Int × Int)) (x y u v : Int), vs = [.ref t, .ref a, .ref e] ∧ H t = some (.tup [.int x, .int y]) ∧ H a = some (.tup us) ∧ Ivs H us ps ∧ Pc ps ∧ ps.length ≤ 40 ∧ H e = some (.tup [.int u, .int v]) ∧ (0 ≤ u ∧ u ≤ v ∧ v < 10 ^ 13) ∧
  ∀ H' b, Same H H' → (b = true ↔ Hod ps (u, v) (x, y)) → Q (.bl b) H'
theorem ok_has_open_demand (T : Tx K mg f_depth_changes f_find_blocks f_is_number f_is_position f_is_tuple_of f_is_interval f_is_ascending f_has_position f_contains f_intersect f_is_demand f_serves f_conflict f_is_independent f_demands_at_blocks f_is_open f_open_demands f_shadow_target f_pieces_inside f_first_gap f_generates f_find_missing f_without_item f_require_few_blocks f_decisive_demands f_largest_independent f_unserved_demands f_helpful_piece f_smallest_solution f_count_needed f_solve f_are_witnesses f_solution_holds f_helps f_helpful_interval f_has_open_demand f_widen f_essential_targets f_core_targets f_is_free f_growth_counts f_law_draws f_law_next f_law_blocks f_law_wide f_law_call f_law_raised f_law_judged f_law f_TooWide_init X_TooWide X_NotGenerated X_OutOfRange X_TooMany X_SpanError d_depth_changes d_find_blocks d_is_number d_is_position d_is_tuple_of d_is_interval d_is_ascending d_has_position d_contains d_intersect d_is_demand d_serves d_conflict d_is_independent d_demands_at_blocks d_is_open d_open_demands d_shadow_target d_pieces_inside d_first_gap d_generates d_find_missing d_without_item d_require_few_blocks d_decisive_demands d_largest_independent d_unserved_demands d_helpful_piece d_smallest_solution d_count_needed d_solve d_are_witnesses d_solution_holds d_helps d_helpful_interval d_has_open_demand d_widen d_essential_targets d_core_targets d_is_free d_growth_counts d_law_draws d_law_next d_law_blocks d_law_wide d_law_call d_law_raised d_law_judged d_law d_TooWide_init t_LAST_POSITION t_MAX_BLOCKS) : FnOk P w K mg base CX0 5 f_has_open_demand d_has_open_demand ["target", "pieces", "interval"] sp_hod := by
  refine T.F_has_open_demand.ok sc_has_open_demand (fun vs H Q E h => ?_) (fun cdv A outer s H vs Q E hr h => ?_)
  · obtain ⟨t, a, e, us, ps, x, y, u, v, rfl, _⟩ := h
    rfl
  · obtain ⟨t, a, e, us, ps, x, y, u, v, rfl, ht, ha, iv, pc, few, hq, uv, q⟩ := h
    refine ⟨_, (pss_cons (ps_if (pt_not (pt_val (pe_call (ok_contains T) (hr.mono (by decide)) (by rfl) T.g_contains T.F_contains.kp T.b_contains .nil pass0 (pa_cons (pv 0) (pa_cons (pv 2) pa_nil)))))
      (pss_one (ps_ret pe_bl))
      pss_nil)
      (pss_cons (ps_setLc (i := 3) (own := [("piece", 4)]) (g := (gName 4)) (tt := tYes) (by rfl) sc_has_open_demand.nd rfl rfl (sw_true rfl rfl rfl (by decide +kernel)) (pi_list (pe_call (ok_pieces_inside T) (hr.mono (by decide)) (by rfl) T.g_pieces_inside T.F_pieces_inside.kp T.b_pieces_inside .nil pass0 (pa_cons (pv 1) (pa_cons (pv 0) pa_nil)))) (blkOk_by (own := [("piece", 4)]) (N := N_has_open_demand) (sc := defScope s_has_open_demand) (by decide +kernel)) (fun _ _ _ _ _ => (pg_name (i := 4) sc_has_open_demand.nd rfl (Or.inl rfl))) (fun _ _ _ _ _ => pts_nil) (fun _ _ _ _ _ => (pe_call (ok_intersect T) (hr.mono (by decide)) (by rfl) T.g_intersect T.F_intersect.kp T.b_intersect .nil pass0 (pa_cons (pv 4) (pa_cons (pv 2) pa_nil)))))
      (pss_one (ps_ret (pe_not (pe_call (ok_generates T) (hr.mono (by decide)) (by rfl) T.g_generates T.F_generates.kp T.b_generates .nil pass0 (pa_cons (pe_lc (own := [("part", 5)]) (g := (gName 5)) (by rfl) sc_has_open_demand.nd (pi_list (pv 3)) (blkOk_by (own := [("part", 5)]) (N := N_has_open_demand) (sc := defScope s_has_open_demand) (by decide +kernel)) (fun _ _ _ _ _ => (pg_name (i := 5) sc_has_open_demand.nd rfl (Or.inl rfl))) (fun _ _ _ _ _ => pts_one (pt_cmpR op_notN (pv 5) pe_non (nomark _))) (fun _ _ _ _ _ => (pv 5))) (pa_cons (pv 2) pa_nil)))))))), ?_⟩
    refine ⟨.ref t, rfl, .ref e, rfl, t, e, x, y, u, v, rfl, ht, hq, _, rfl, ?_⟩
    by_cases c : inI x y u v = true
    · have c' : x ≤ u ∧ v ≤ y := by
        unfold inI at c
        rw [Bool.and_eq_true, decide_eq_true_iff, decide_eq_true_iff] at c
        exact c
      rw [c]
      refine iteF ?_
      have lu := iv.length
      refine ⟨.ref a, rfl, .ref t, rfl, a, t, us, ps, x, y, rfl, ha, iv, by omega, ht, fun H1 p ws s1 ep iv1 => ?_⟩
      have lf := List.length_filter_le (fun q : Int × Int => inI x y q.1 q.2) ps
      have lw := iv1.length
      refine ⟨p, rfl, ⟨_, SqL.of ep⟩, fun D nD => ?_⟩
      have okp : ∀ z ∈ ps.filter (fun q : Int × Int => inI x y q.1 q.2), z ∈ ps := fun z hz => (List.mem_filter.mp hz).1
      generalize hfs : ps.filter (fun q : Int × Int => inI x y q.1 q.2) = fs at *
      refine lcL (K := K) (a := p) (xs := ws) (fun j H' ws => OVs H' ws ((fs.take j).map fun s => itO s (u, v))) nD (fun H' s => SqL.of (s _ _ (ep))) (by omega) (fun _ _ _ _ t r => r.tps t) (fun j H' ws r => (by rw [r.1, List.length_map]; exact List.length_take_le _ _)) (fun _ => ⟨rfl, (by intro i v e; simp at e)⟩) ?_ ?_
      · rintro j z H' N acc hj sj eA sz r no yes
        obtain ⟨b, x', y', rfl, exy, hb⟩ := iv1.get hj
        refine ⟨rfl, .ref b, rfl, .ref e, rfl, b, e, x', y', u, v, rfl, sj _ _ hb, (s1.trans sj) _ _ hq, fun H2 rv s2 ov => yes H2 _ s2 ?_⟩
        rw [List.take_add_one, exy, List.map_append]
        exact (r.tps (Tps.same s2)).snoc ov
      intro H2 ws2 s2 eD r
      rw [lw, List.take_length] at r
      have lo := r.1
      rw [List.length_map] at lo
      generalize hos : fs.map (fun s => itO s (u, v)) = os at *
      refine ⟨.ref D, rfl, D, rfl, ⟨_, SqL.of eD⟩, fun D2 nD2 => ?_⟩
      refine lcL (K := K) (a := D) (xs := ws2) (fun j H' ws => Ivs H' ws ((os.take j).filterMap id)) nD2 (fun H' s => SqL.of (s _ _ (eD))) (by omega) (fun _ _ _ _ t r => r.tps t) (fun j H' ws r => (by rw [r.length]; exact Nat.le_trans (List.length_filterMap_le _ _) (List.length_take_le _ _))) (fun _ => .nil) ?_ ?_
      · rintro j z H' N acc hj sj eA sz r2 no yes
        obtain ⟨o, eo, ov⟩ := r.2 j z hj
        have ov := ov.same sj
        refine ⟨rfl, z, rfl, rfl, ?_⟩
        match o, ov, eo with
        | none, ov, eo =>
          cases (show z = V.non from ov)
          refine ⟨_, rfl, iteF (no _ (Same.refl _) ?_)⟩
          rw [List.take_add_one, eo, List.filterMap_append]
          show Ivs H' acc (List.filterMap id (List.take j os) ++ [])
          rw [List.append_nil]
          exact r2
        | some (x', y'), ov, eo =>
          obtain ⟨b, rfl, hb⟩ := ov
          refine ⟨_, rfl, iteND (fun z : V.ref b = V.non => by cases z) ⟨.ref b, rfl, yes _ _ (Same.refl _) ?_⟩⟩
          rw [List.take_add_one, eo, List.filterMap_append]
          exact r2.append (.cons hb .nil)
      intro H3 ws3 s3 eD2 r2
      rw [r.1, List.take_length] at r2
      have s13 := s1.trans (s2.trans s3)
      have pcs : Pc (os.filterMap id) := fun z hz => by
        obtain ⟨o, ho, ee⟩ := List.mem_filterMap.mp hz
        rw [← hos] at ho
        obtain ⟨s, hs, rfl⟩ := List.mem_map.mp ho
        have ps0 := pc s (okp s hs)
        have ee : itO s (u, v) = some z := ee
        unfold itO at ee
        split at ee
        · next h =>
          cases Option.some.inj ee
          unfold mxI mnI at h ⊢
          show (0 ≤ (if u > s.1 then u else s.1) ∧ (if u > s.1 then u else s.1) ≤ (if v < s.2 then v else s.2)) ∧ (if v < s.2 then v else s.2) < 10 ^ 13
          refine ⟨⟨by split <;> omega, h⟩, by split <;> omega⟩
        · cases ee
      have lfm := List.length_filterMap_le id os
      have los : os.length ≤ 40 := by
        rw [← hos, List.length_map]
        omega
      refine ⟨.ref e, rfl, D2, e, ws3, _, u, v, rfl, eD2, r2, pcs, by omega, s13 _ _ hq, by omega, fun H4 s4 => ?_⟩
      have key := gap_parts (ps := ps) (q := (u, v)) (t := (x, y)) c'
      simp only [hfs, hos] at key
      refine ⟨_, rfl, q H4 _ (s13.trans s4) ?_⟩
      rw [Bool.not_eq_true', decide_eq_false_iff_not]
      cases hg : gapO (os.filterMap id) (u, v) with
      | none =>
        have := key.mp hg
        exact ⟨fun z => absurd rfl z, fun z => absurd z this⟩
      | some g =>
        have nn : ¬ gapO (os.filterMap id) (u, v) = none := by rw [hg]; exact fun z => nomatch z
        have h2 : Hod ps (u, v) (x, y) := Classical.byContradiction fun z => nn (key.mpr z)
        exact ⟨fun _ => h2, fun _ z => nomatch z⟩
    · have c' : inI x y u v = false := Bool.not_eq_true _ ▸ c
      rw [c']
      refine iteT (q H false (Same.refl _) ⟨fun z => (nomatch z), fun z => ?_⟩)
      refine absurd ?_ c
      unfold inI
      rw [Bool.and_eq_true, decide_eq_true_iff, decide_eq_true_iff]
      exact z.1
/-- what widen gives -/
def WidR (ts ps : List (Int × Int)) (q r : Int × Int) : Prop := ((∀ t ∈ ts, ¬ Hod ps q t) → r = q) ∧ ((∃ t ∈ ts, Hod ps q t) → (∃ t ∈ ts, Hod ps q t ∧ t.1 = r.1) ∧ (∀ t ∈ ts, Hod ps q t → t.1 ≤ r.1) ∧ (∃ t ∈ ts, Hod ps q t ∧ t.2 = r.2) ∧ ∀ t ∈ ts, Hod ps q t → r.2 ≤ t.2)
theorem WidR.uniq {ts ps : List (Int × Int)} {q r r' : Int × Int} (h : WidR ts ps q r) (h' : WidR ts ps q r') : r = r' := by
  by_cases c : ∃ t ∈ ts, Hod ps q t
  · obtain ⟨⟨t1, m1, h1, e1⟩, a1, ⟨t2, m2, h2, e2⟩, a2⟩ := h.2 c
    obtain ⟨⟨t3, m3, h3, e3⟩, a3, ⟨t4, m4, h4, e4⟩, a4⟩ := h'.2 c
    have b1 := a3 t1 m1 h1
    have b2 := a1 t3 m3 h3
    have b3 := a4 t2 m2 h2
    have b4 := a2 t4 m4 h4
    exact Prod.ext (by omega) (by omega)
  · have c' : ∀ t ∈ ts, ¬ Hod ps q t := fun t ht z => c ⟨t, ht, z⟩
    rw [h.1 c', h'.1 c']
def sp_widen : Sp := fun vs H Q _ => ∃ (a b e : Addr) (us ws : List V) (ts ps : List (Int × Int)) (u v : Int), vs = [.ref a, .ref b, .ref e] ∧ H a = some (.tup us) ∧ Ivs H us ts ∧ ts.length ≤ 40 ∧ H b = some (.tup ws) ∧ Ivs H ws ps ∧ Pc ps ∧ ps.length ≤ 40 ∧ H e = some (.tup [.int u, .int v]) ∧ (0 ≤ u ∧ u ≤ v ∧ v < 10 ^ 13) ∧
  ∀ H' r x y, Same H H' → H' r = some (.tup [.int x, .int y]) → WidR ts ps (u, v) (x, y) → Q (.ref r) H'
theorem ok_widen (T : Tx K mg f_depth_changes f_find_blocks f_is_number f_is_position f_is_tuple_of f_is_interval f_is_ascending f_has_position f_contains f_intersect f_is_demand f_serves f_conflict f_is_independent f_demands_at_blocks f_is_open f_open_demands f_shadow_target f_pieces_inside f_first_gap f_generates f_find_missing f_without_item f_require_few_blocks f_decisive_demands f_largest_independent f_unserved_demands f_helpful_piece f_smallest_solution f_count_needed f_solve f_are_witnesses f_solution_holds f_helps f_helpful_interval f_has_open_demand f_widen f_essential_targets f_core_targets f_is_free f_growth_counts f_law_draws f_law_next f_law_blocks f_law_wide f_law_call f_law_raised f_law_judged f_law f_TooWide_init X_TooWide X_NotGenerated X_OutOfRange X_TooMany X_SpanError d_depth_changes d_find_blocks d_is_number d_is_position d_is_tuple_of d_is_interval d_is_ascending d_has_position d_contains d_intersect d_is_demand d_serves d_conflict d_is_independent d_demands_at_blocks d_is_open d_open_demands d_shadow_target d_pieces_inside d_first_gap d_generates d_find_missing d_without_item d_require_few_blocks d_decisive_demands d_largest_independent d_unserved_demands d_helpful_piece d_smallest_solution d_count_needed d_solve d_are_witnesses d_solution_holds d_helps d_helpful_interval d_has_open_demand d_widen d_essential_targets d_core_targets d_is_free d_growth_counts d_law_draws d_law_next d_law_blocks d_law_wide d_law_call d_law_raised d_law_judged d_law d_TooWide_init t_LAST_POSITION t_MAX_BLOCKS) : FnOk P w K mg base CX0 6 f_widen d_widen ["targets", "pieces", "interval"] sp_widen := by
  refine T.F_widen.ok sc_widen (fun vs H Q E h => ?_) (fun cdv A outer s H vs Q E hr h => ?_)
  · obtain ⟨a, b, e, us, ws, ts, ps, u, v, rfl, _⟩ := h
    rfl
  · obtain ⟨a, b, e, us, ws, ts, ps, u, v, rfl, ha, ivt, lt, hb, ivp, pc, lp, hq, uv, q⟩ := h
    refine ⟨_, (pss_cons (ps_setLc (i := 3) (own := [("target", 4)]) (g := (gName 4)) (by rfl) sc_widen.nd rfl rfl (sw_true rfl rfl rfl (by decide +kernel)) (pi_tup (pv 0)) (blkOk_by (own := [("target", 4)]) (N := N_widen) (sc := defScope s_widen) (by decide +kernel)) (fun _ _ _ _ _ => (pg_name (i := 4) sc_widen.nd rfl (Or.inl rfl))) (fun _ _ _ _ _ => pts_one (pt_val (pe_call (ok_has_open_demand T) (hr.mono (by decide)) (by rfl) T.g_has_open_demand T.F_has_open_demand.kp T.b_has_open_demand .nil pass0 (pa_cons (pv 4) (pa_cons (pv 1) (pa_cons (pv 2) pa_nil)))))) (fun _ _ _ _ _ => (pv 4)))
      (pss_cons (ps_if (pt_not (pt_truth (pv 3) (by intro _; rfl)))
      (pss_one (ps_ret (pv 2)))
      pss_nil)
      (pss_one (ps_ret (pe_tup (pa_cons (pe_callB (cr_max rfl) (by rfl) T.z_max (by decide +kernel) (pa_cons (pe_lc (own := [("low", 5), ("high", 6)]) (g := (gTup K 2 (gCons (gName 5) (gCons (gName 6) gNil)))) (tt := tYes) (by rfl) sc_widen.nd (pi_list (pv 3)) (blkOk_by (own := [("low", 5), ("high", 6)]) (N := N_widen) (sc := defScope s_widen) (by decide +kernel)) (fun _ _ _ _ _ => (pg_tup rfl (pgs_cons (pg_name (i := 5) sc_widen.nd rfl (Or.inl rfl)) (pgs_cons (pg_name (i := 6) sc_widen.nd rfl (Or.inl rfl)) pgs_nil)))) (fun _ _ _ _ _ => pts_nil) (fun _ _ _ _ _ => (pv 5))) pa_nil)) (pa_cons (pe_callB (cr_min rfl) (by rfl) T.z_min (by decide +kernel) (pa_cons (pe_lc (own := [("low", 5), ("high", 6)]) (g := (gTup K 2 (gCons (gName 5) (gCons (gName 6) gNil)))) (tt := tYes) (by rfl) sc_widen.nd (pi_list (pv 3)) (blkOk_by (own := [("low", 5), ("high", 6)]) (N := N_widen) (sc := defScope s_widen) (by decide +kernel)) (fun _ _ _ _ _ => (pg_tup rfl (pgs_cons (pg_name (i := 5) sc_widen.nd rfl (Or.inl rfl)) (pgs_cons (pg_name (i := 6) sc_widen.nd rfl (Or.inl rfl)) pgs_nil)))) (fun _ _ _ _ _ => pts_nil) (fun _ _ _ _ _ => (pv 6))) pa_nil)) pa_nil))))))), ?_⟩
    have lu := ivt.length
    refine ⟨.ref a, rfl, a, rfl, ⟨_, SqT.of ha⟩, fun D nD => ?_⟩
    refine lcT (K := K) (a := a) (xs := us) (fun j H' ws => ∃ L, Ivs H' ws L ∧ L.length ≤ j ∧ (∀ t ∈ ts.take j, Hod ps (u, v) t → t ∈ L) ∧ ∀ t ∈ L, t ∈ ts ∧ Hod ps (u, v) t) nD (fun H' s => SqT.of (s _ _ (ha))) (by omega) (fun _ _ _ _ t r => (let ⟨L, h1, h2⟩ := r; ⟨L, h1.tps t, h2⟩)) (fun j H' ws r => (by obtain ⟨L, h1, h2, _⟩ := r; rw [h1.length]; exact h2)) (fun _ => ⟨[], .nil, Nat.le_refl _, (fun q hq => nomatch hq), fun q hq => nomatch hq⟩) ?_ ?_
    · rintro j z H' N acc hj sj eA sz ⟨L, l1, l2, l3, l4⟩ no yes
      obtain ⟨o, x, y, rfl, eo, ho⟩ := ivt.get hj
      refine ⟨rfl, .ref o, rfl, .ref b, rfl, .ref e, rfl, o, b, e, ws, ps, x, y, u, v, rfl, sj _ _ ho, sj _ _ hb, ivp.same sj, pc, lp, sj _ _ hq, uv, fun H1 bb s1 hbb => ⟨_, rfl, ?_⟩⟩
      cases bb with
      | true =>
        refine iteT ⟨.ref o, rfl, yes H1 _ s1 ⟨L ++ [(x, y)], (l1.same s1).snoc ((sj.trans s1) _ _ ho), by rw [List.length_append]; show _ + 1 ≤ _; omega, fun t ht h => ?_, fun t ht => ?_⟩⟩
        · rw [List.take_add_one, eo] at ht
          rcases List.mem_append.mp ht with ht | ht
          · exact List.mem_append_left _ (l3 t ht h)
          · exact List.mem_append_right _ ht
        · rcases List.mem_append.mp ht with ht | ht
          · exact l4 t ht
          · rw [List.mem_singleton.mp ht]
            exact ⟨List.mem_of_getElem? eo, hbb.mp rfl⟩
      | false =>
        refine iteF (no H1 s1 ⟨L, l1.same s1, by omega, fun t ht h => ?_, l4⟩)
        rw [List.take_add_one, eo] at ht
        rcases List.mem_append.mp ht with ht | ht
        · exact l3 t ht h
        · rw [List.mem_singleton.mp ht] at h
          exact nomatch hbb.mpr h
    rintro H1 ws1 s1 eD ⟨L, iL, lL, cov, sub⟩
    rw [lu, List.take_length] at cov
    have lw1 := iL.length
    refine ⟨.ref D, rfl, !ws1.isEmpty, .inl ⟨_, SqL.of eD, rfl⟩, ?_⟩
    cases L with
    | nil =>
      cases iL
      refine iteT ⟨.ref e, rfl, ?_⟩
      refine q H1 _ u v s1 (s1 _ _ hq) ⟨fun _ => rfl, fun ⟨t, ht, h⟩ => nomatch cov t ht h⟩
    | cons t0 L =>
      have ne : (!ws1.isEmpty) = true := by
        cases iL
        rfl
      rw [ne]
      refine iteF ?_
      generalize hL : t0 :: L = M at *
      have mpos : 0 < M.length := by rw [← hL]; exact Nat.succ_pos _
      -- lows
      refine ⟨.ref D, rfl, D, rfl, ⟨_, SqL.of eD⟩, fun D2 nD2 => ?_⟩
      refine lcL (K := K) (a := D) (xs := ws1) (fun j H' ws => ws = ((M.take j).map (·.1)).map V.int) nD2 (fun H' s => SqL.of (s _ _ (eD))) (by omega) (fun _ _ _ _ t r => r) (fun j H' ws r => (by rw [r, List.length_map, List.length_map]; exact List.length_take_le _ _)) (fun _ => rfl) ?_ ?_
      · rintro j z H' N acc hj sj eA sz r no yes
        obtain ⟨o, x, y, rfl, eo, ho⟩ := iL.get hj
        refine ⟨o, _, rfl, SqT.of (sj _ _ ho), rfl, .int x, [.int y], rfl, .int y, [], rfl, rfl, rfl, .int x, rfl, yes H' _ (Same.refl _) ?_⟩
        rw [r, List.take_add_one, eo, List.map_append, List.map_append]
        rfl
      intro H2 ws2 s2 eD2 r2
      rw [lw1, List.take_length] at r2
      subst r2
      refine ⟨D2, M.map (·.1), rfl, SqL.of eD2, by rw [List.length_map]; exact mpos, fun lo hlo mlo => ?_⟩
      -- highs
      refine ⟨.ref D, rfl, D, rfl, ⟨_, SqL.of (s2 _ _ eD)⟩, fun D3 nD3 => ?_⟩
      refine lcL (K := K) (a := D) (xs := ws1) (fun j H' ws => ws = ((M.take j).map (·.2)).map V.int) nD3 (fun H' s => SqL.of (s _ _ (s2 _ _ eD))) (by omega) (fun _ _ _ _ t r => r) (fun j H' ws r => (by rw [r, List.length_map, List.length_map]; exact List.length_take_le _ _)) (fun _ => rfl) ?_ ?_
      · rintro j z H' N acc hj sj eA sz r no yes
        obtain ⟨o, x, y, rfl, eo, ho⟩ := iL.get hj
        refine ⟨o, _, rfl, SqT.of ((s2.trans sj) _ _ ho), rfl, .int x, [.int y], rfl, .int y, [], rfl, rfl, rfl, .int y, rfl, yes H' _ (Same.refl _) ?_⟩
        rw [r, List.take_add_one, eo, List.map_append, List.map_append]
        rfl
      intro H3 ws3 s3 eD3 r3
      rw [lw1, List.take_length] at r3
      subst r3
      refine ⟨D3, M.map (·.2), rfl, SqL.of eD3, by rw [List.length_map]; exact mpos, fun hi hhi mhi => ?_⟩
      refine ⟨by show 2 ≤ sizeLine; decide, fun r nr => ?_⟩
      obtain ⟨t1, m1, e1⟩ := List.mem_map.mp hlo
      obtain ⟨t2, m2, e2⟩ := List.mem_map.mp hhi
      refine q _ r lo hi (s1.trans (s2.trans (s3.trans (same_new nr)))) upd_same ⟨fun no => absurd (sub t1 m1).2 (no t1 (sub t1 m1).1), fun _ => ⟨⟨t1, (sub t1 m1).1, (sub t1 m1).2, e1⟩, fun t ht h => mlo _ (List.mem_map.mpr ⟨t, cov t ht h, rfl⟩), ⟨t2, (sub t2 m2).1, (sub t2 m2).2, e2⟩, fun t ht h => mhi _ (List.mem_map.mpr ⟨t, cov t ht h, rfl⟩)⟩⟩

/-! ### what a value is -/
def tyD : PyData → String
  | .none => "NoneType"
  | .bool _ => "bool"
  | .int _ => "int"
  | .str _ => "str"
  | .list _ => "list"
  | .tuple _ => "tuple"
  | .dict _ => "dict"
theorem Dv.ty {K : PySem.W.Frag} {H : Hp} {v : V} {d : PyData} (h : Dv K H v d) : TyX K H v (.type (tyD d)) := by
  cases h with
  | non => exact .base .non
  | bl b => exact .base (.bl b)
  | int i => exact .base (.int i)
  | str x => exact .base (.str x)
  | lst e _ => exact .base (.lst e)
  | tup e _ => exact .base (.tup e)
  | dic e _ => exact .base (.dK e)
def intB : PyData → Bool
  | .bool _ => true
  | .int _ => true
  | _ => false
def boolB : PyData → Bool
  | .bool _ => true
  | _ => false
def tupB : PyData → Bool
  | .tuple _ => true
  | _ => false
theorem kit_int {K : PySem.W.Frag} (d : PyData) : PySem.W.kitOne K (.type (tyD d)) (.type "int") = some (intB d) := by
  cases d with
  | none => exact kit_ty (a := "NoneType") (b := "int") (r := false) (by decide +kernel)
  | bool _ => exact kit_ty (a := "bool") (b := "int") (r := true) (by decide +kernel)
  | int _ => exact kit_ty (a := "int") (b := "int") (r := true) (by decide +kernel)
  | str _ => exact kit_ty (a := "str") (b := "int") (r := false) (by decide +kernel)
  | list _ => exact kit_ty (a := "list") (b := "int") (r := false) (by decide +kernel)
  | tuple _ => exact kit_ty (a := "tuple") (b := "int") (r := false) (by decide +kernel)
  | dict _ => exact kit_ty (a := "dict") (b := "int") (r := false) (by decide +kernel)
theorem kit_bool {K : PySem.W.Frag} (d : PyData) : PySem.W.kitOne K (.type (tyD d)) (.type "bool") = some (boolB d) := by
  cases d with
  | none => exact kit_ty (a := "NoneType") (b := "bool") (r := false) (by decide +kernel)
  | bool _ => exact kit_ty (a := "bool") (b := "bool") (r := true) (by decide +kernel)
  | int _ => exact kit_ty (a := "int") (b := "bool") (r := false) (by decide +kernel)
  | str _ => exact kit_ty (a := "str") (b := "bool") (r := false) (by decide +kernel)
  | list _ => exact kit_ty (a := "list") (b := "bool") (r := false) (by decide +kernel)
  | tuple _ => exact kit_ty (a := "tuple") (b := "bool") (r := false) (by decide +kernel)
  | dict _ => exact kit_ty (a := "dict") (b := "bool") (r := false) (by decide +kernel)
theorem kit_tup {K : PySem.W.Frag} (d : PyData) : PySem.W.kitOne K (.type (tyD d)) (.type "tuple") = some (tupB d) := by
  cases d with
  | none => exact kit_ty (a := "NoneType") (b := "tuple") (r := false) (by decide +kernel)
  | bool _ => exact kit_ty (a := "bool") (b := "tuple") (r := false) (by decide +kernel)
  | int _ => exact kit_ty (a := "int") (b := "tuple") (r := false) (by decide +kernel)
  | str _ => exact kit_ty (a := "str") (b := "tuple") (r := false) (by decide +kernel)
  | list _ => exact kit_ty (a := "list") (b := "tuple") (r := false) (by decide +kernel)
  | tuple _ => exact kit_ty (a := "tuple") (b := "tuple") (r := true) (by decide +kernel)
  | dict _ => exact kit_ty (a := "dict") (b := "tuple") (r := false) (by decide +kernel)
def inB (lo hi : Int) : PyData → Bool
  | .int i => decide (lo ≤ i) && decide (i ≤ hi)
  | _ => false
def leB : PyData → PyData → Bool
  | .int x, .int y => decide (x ≤ y)
  | _, _ => false
def ivB : PyData → Bool
  | .tuple [a, b] => inB 0 1000000000000 a && (inB 0 1000000000000 b && leB a b)
  | _ => false
theorem Dv.asInt {K : PySem.W.Frag} {H : Hp} {v : V} {i : Int} (h : Dv K H v (.int i)) : v = .int i := by
  cases h
  rfl
theorem dv_same {K : PySem.W.Frag} {H H' : Hp} (s : Same H H') {v : V} {d : PyData} (h : Dv K H v d) : Dv K H' v d :=
  Dv.rec (K := K) (H := H) (motive_1 := fun v d _ => Dv K H' v d) (motive_2 := fun vs ds _ => DvAll K H' vs ds) .non (fun b => .bl b) (fun i => .int i) (fun x => .str x) (fun e _ q => .lst (s _ _ e) q) (fun e _ q => .tup (s _ _ e) q) (fun e _ q => .dic (s _ _ e) q) .nil (fun _ _ a b => .cons a b) h
theorem dvAll_same {K : PySem.W.Frag} {H H' : Hp} (s : Same H H') : ∀ {vs : List V} {ds : List PyData}, DvAll K H vs ds → DvAll K H' vs ds
  | _, _, .nil => .nil
  | _, _, .cons a b => .cons (dv_same s a) (dvAll_same s b)
theorem DvAll.get {K : PySem.W.Frag} {H : Hp} : ∀ {vs : List V} {ds : List PyData}, DvAll K H vs ds → ∀ {i : Nat} {v : V}, vs[i]? = some v → ∃ d, ds[i]? = some d ∧ Dv K H v d
  | _, _, .nil, _, _, e => by simp at e
  | _, _, .cons a b, 0, _, e => by
    cases e
    exact ⟨_, rfl, a⟩
  | _, _, .cons a b, i + 1, _, e => b.get (i := i) e
theorem DvAll.append {K : PySem.W.Frag} {H : Hp} : ∀ {vs us : List V} {ds es : List PyData}, DvAll K H vs ds → DvAll K H us es → DvAll K H (vs ++ us) (ds ++ es)
  | _, _, _, _, .nil, h => h
  | _, _, _, _, .cons a b, h => .cons a (b.append h)
theorem Dv.dp {K : PySem.W.Frag} {H : Hp} {v : V} {d : PyData} (h : Dv K H v d) : d.canLay0 = true → Dp K H v d := by
  refine Dv.rec (K := K) (H := H) (motive_1 := fun v d _ => d.canLay0 = true → Dp K H v d) (motive_2 := fun vs ds _ => PyData.canLayAll0 ds = true → DpAll K H vs ds) (fun _ => .non) (fun b _ => .bl b) (fun i _ => .int i) (fun x _ => .str x) (fun e _ q z => .lst (SqL.of e) (q z)) (fun e _ q z => .tup (SqT.of e) (q z)) (fun _ _ _ z => ?_) (fun _ => .nil) (fun _ _ a b z => ?_) h
  · cases z
  · have z' := Bool.and_eq_true_iff.mp z
    exact .cons (a z'.1) (b z'.2)
/-- a value that may be asked whether it is an interval: what stands in it, if it is a tuple, has no dicts -/
def PlainT (d : PyData) : Prop := ∀ ds, d = .tuple ds → PyData.canLayAll0 ds = true ∧ PyData.depthAll ds ≤ 60

/-! ### the program's own -/
def sp_is_number (K : PySem.W.Frag) : Sp := fun vs H Q _ => ∃ (v : V) (d : PyData), vs = [v] ∧ Dv K H v d ∧ Q (.bl (intB d && !boolB d)) H
theorem ok_is_number (T : Tx K mg f_depth_changes f_find_blocks f_is_number f_is_position f_is_tuple_of f_is_interval f_is_ascending f_has_position f_contains f_intersect f_is_demand f_serves f_conflict f_is_independent f_demands_at_blocks f_is_open f_open_demands f_shadow_target f_pieces_inside f_first_gap f_generates f_find_missing f_without_item f_require_few_blocks f_decisive_demands f_largest_independent f_unserved_demands f_helpful_piece f_smallest_solution f_count_needed f_solve f_are_witnesses f_solution_holds f_helps f_helpful_interval f_has_open_demand f_widen f_essential_targets f_core_targets f_is_free f_growth_counts f_law_draws f_law_next f_law_blocks f_law_wide f_law_call f_law_raised f_law_judged f_law f_TooWide_init X_TooWide X_NotGenerated X_OutOfRange X_TooMany X_SpanError d_depth_changes d_find_blocks d_is_number d_is_position d_is_tuple_of d_is_interval d_is_ascending d_has_position d_contains d_intersect d_is_demand d_serves d_conflict d_is_independent d_demands_at_blocks d_is_open d_open_demands d_shadow_target d_pieces_inside d_first_gap d_generates d_find_missing d_without_item d_require_few_blocks d_decisive_demands d_largest_independent d_unserved_demands d_helpful_piece d_smallest_solution d_count_needed d_solve d_are_witnesses d_solution_holds d_helps d_helpful_interval d_has_open_demand d_widen d_essential_targets d_core_targets d_is_free d_growth_counts d_law_draws d_law_next d_law_blocks d_law_wide d_law_call d_law_raised d_law_judged d_law d_TooWide_init t_LAST_POSITION t_MAX_BLOCKS) : FnOk P w K mg base CX0 1 f_is_number d_is_number ["value"] (sp_is_number K) := by
  refine T.F_is_number.ok sc_is_number (fun vs H Q E h => ?_) (fun cdv A outer s H vs Q E hr h => ?_)
  · obtain ⟨v, d, rfl, _⟩ := h
    rfl
  · obtain ⟨v, d, rfl, hd, q⟩ := h
    refine ⟨_, (pss_one (ps_ret (pe_and (pe_callB call_isi (by rfl) T.z_isinstance (by decide +kernel) (pa_cons (pv 0) (pa_cons (pe_bltn (v := .ty "int") (u := .type "int") (by rfl) T.z_int (by decide +kernel) rfl) pa_nil))) (pe_one (pe_not (pe_callB call_isi (by rfl) T.z_isinstance (by decide +kernel) (pa_cons (pv 0) (pa_cons (pe_bltn (v := .ty "bool") (u := .type "bool") (by rfl) T.z_bool (by decide +kernel) rfl) pa_nil)))))))), ?_⟩
    refine ⟨v, rfl, v, .ty "int", _, _, _, rfl, .ty "int", hd.ty, kit_int d, _, rfl, ite2 (fun e => ?_) (fun e => ?_)⟩
    · refine ⟨v, rfl, v, .ty "bool", _, _, _, rfl, .ty "bool", hd.ty, kit_bool d, _, rfl, ?_⟩
      rw [e] at q
      exact q
    · rw [Bool.not_eq_true] at e
      rw [e] at q
      exact q
theorem num_int {d : PyData} (h : (intB d && !boolB d) = true) : ∃ i, d = .int i := by
  cases d with
  | int i => exact ⟨i, rfl⟩
  | _ => exact (Bool.false_ne_true h).elim
theorem num_no {d : PyData} {lo hi : Int} (h : (intB d && !boolB d) = false) : inB lo hi d = false := by
  cases d with
  | int i => exact Bool.noConfusion (show true = false from h)
  | _ => rfl
def sp_is_position (K : PySem.W.Frag) : Sp := fun vs H Q _ => ∃ (v : V) (d : PyData), vs = [v] ∧ Dv K H v d ∧ Q (.bl (inB 0 1000000000000 d)) H
theorem ok_is_position (T : Tx K mg f_depth_changes f_find_blocks f_is_number f_is_position f_is_tuple_of f_is_interval f_is_ascending f_has_position f_contains f_intersect f_is_demand f_serves f_conflict f_is_independent f_demands_at_blocks f_is_open f_open_demands f_shadow_target f_pieces_inside f_first_gap f_generates f_find_missing f_without_item f_require_few_blocks f_decisive_demands f_largest_independent f_unserved_demands f_helpful_piece f_smallest_solution f_count_needed f_solve f_are_witnesses f_solution_holds f_helps f_helpful_interval f_has_open_demand f_widen f_essential_targets f_core_targets f_is_free f_growth_counts f_law_draws f_law_next f_law_blocks f_law_wide f_law_call f_law_raised f_law_judged f_law f_TooWide_init X_TooWide X_NotGenerated X_OutOfRange X_TooMany X_SpanError d_depth_changes d_find_blocks d_is_number d_is_position d_is_tuple_of d_is_interval d_is_ascending d_has_position d_contains d_intersect d_is_demand d_serves d_conflict d_is_independent d_demands_at_blocks d_is_open d_open_demands d_shadow_target d_pieces_inside d_first_gap d_generates d_find_missing d_without_item d_require_few_blocks d_decisive_demands d_largest_independent d_unserved_demands d_helpful_piece d_smallest_solution d_count_needed d_solve d_are_witnesses d_solution_holds d_helps d_helpful_interval d_has_open_demand d_widen d_essential_targets d_core_targets d_is_free d_growth_counts d_law_draws d_law_next d_law_blocks d_law_wide d_law_call d_law_raised d_law_judged d_law d_TooWide_init t_LAST_POSITION t_MAX_BLOCKS) : FnOk P w K mg base CX0 2 f_is_position d_is_position ["value"] (sp_is_position K) := by
  refine T.F_is_position.ok sc_is_position (fun vs H Q E h => ?_) (fun cdv A outer s H vs Q E hr h => ?_)
  · obtain ⟨v, d, rfl, _⟩ := h
    rfl
  · obtain ⟨v, d, rfl, hd, q⟩ := h
    refine ⟨_, (pss_one (ps_ret (pe_and (pe_call (ok_is_number T) (hr.mono (by decide)) (by rfl) T.g_is_number T.F_is_number.kp T.b_is_number .nil pass0 (pa_cons (pv 0) pa_nil)) (pe_one (pe_chain op_le op_le pe_int (pv 0) (pe_glob (v := .int 1000000000000) (by rfl) T.c_LAST_POSITION ⟨_, rfl⟩)))))), ?_⟩
    refine ⟨v, rfl, v, d, rfl, hd, _, rfl, ite2 (fun e => ?_) (fun e => ?_)⟩
    · obtain ⟨i, rfl⟩ := num_int e
      have ev := hd.asInt
      subst ev
      refine ⟨.int i, rfl, _, _, rfl, rfl, _, rfl, ite2 (fun e2 => ?_) (fun e2 => ?_)⟩
      · refine ⟨_, _, rfl, rfl, ?_⟩
        have q' : Q (.bl (decide (0 ≤ i) && decide (i ≤ 1000000000000))) H := q
        rw [e2] at q'
        exact q'
      · have q' : Q (.bl (decide (0 ≤ i) && decide (i ≤ 1000000000000))) H := q
        rw [Bool.not_eq_true] at e2
        rw [e2] at q'
        exact q'
    · rw [Bool.not_eq_true] at e
      rw [num_no e] at q
      exact q
def sp_is_interval (K : PySem.W.Frag) : Sp := fun vs H Q _ => ∃ (v : V) (d : PyData), vs = [v] ∧ Dv K H v d ∧ Q (.bl (ivB d)) H
theorem iv_not {d : PyData} (h : tupB d = false) : ivB d = false := by
  cases d with
  | tuple ds => cases h
  | _ => rfl
def tlB (n : Int) : PyData → Bool
  | .tuple ds => decide ((ds.length : Int) = n)
  | _ => false
def sp_is_tuple_of (K : PySem.W.Frag) : Sp := fun vs H Q _ => ∃ (v : V) (d : PyData) (n : Int), vs = [v, .int n] ∧ Dv K H v d ∧ Q (.bl (tlB n d)) H
theorem tl_not {n : Int} {d : PyData} (h : tupB d = false) : tlB n d = false := by
  cases d with
  | tuple ds => cases h
  | _ => rfl
theorem ok_is_tuple_of (T : Tx K mg f_depth_changes f_find_blocks f_is_number f_is_position f_is_tuple_of f_is_interval f_is_ascending f_has_position f_contains f_intersect f_is_demand f_serves f_conflict f_is_independent f_demands_at_blocks f_is_open f_open_demands f_shadow_target f_pieces_inside f_first_gap f_generates f_find_missing f_without_item f_require_few_blocks f_decisive_demands f_largest_independent f_unserved_demands f_helpful_piece f_smallest_solution f_count_needed f_solve f_are_witnesses f_solution_holds f_helps f_helpful_interval f_has_open_demand f_widen f_essential_targets f_core_targets f_is_free f_growth_counts f_law_draws f_law_next f_law_blocks f_law_wide f_law_call f_law_raised f_law_judged f_law f_TooWide_init X_TooWide X_NotGenerated X_OutOfRange X_TooMany X_SpanError d_depth_changes d_find_blocks d_is_number d_is_position d_is_tuple_of d_is_interval d_is_ascending d_has_position d_contains d_intersect d_is_demand d_serves d_conflict d_is_independent d_demands_at_blocks d_is_open d_open_demands d_shadow_target d_pieces_inside d_first_gap d_generates d_find_missing d_without_item d_require_few_blocks d_decisive_demands d_largest_independent d_unserved_demands d_helpful_piece d_smallest_solution d_count_needed d_solve d_are_witnesses d_solution_holds d_helps d_helpful_interval d_has_open_demand d_widen d_essential_targets d_core_targets d_is_free d_growth_counts d_law_draws d_law_next d_law_blocks d_law_wide d_law_call d_law_raised d_law_judged d_law d_TooWide_init t_LAST_POSITION t_MAX_BLOCKS) : FnOk P w K mg base CX0 1 f_is_tuple_of d_is_tuple_of ["value", "length"] (sp_is_tuple_of K) := by
  refine T.F_is_tuple_of.ok sc_is_tuple_of (fun vs H Q E h => ?_) (fun cdv A outer s H vs Q E hr h => ?_)
  · obtain ⟨v, d, n, rfl, _⟩ := h
    rfl
  · obtain ⟨v, d, n, rfl, hd, q⟩ := h
    refine ⟨_, (pss_one (ps_ret (pe_and (pe_callB call_isi (by rfl) T.z_isinstance (by decide +kernel) (pa_cons (pv 0) (pa_cons (pe_bltn (v := .ty "tuple") (u := .type "tuple") (by rfl) T.z_tuple (by decide +kernel) rfl) pa_nil))) (pe_one (pe_cmpR op_eq (pe_callB call_len_seq (by rfl) T.z_len PySem.boot_len (pa_cons (pv 0) pa_nil)) (pv 1) (nomark _)))))), ?_⟩
    refine ⟨v, rfl, v, .ty "tuple", _, _, _, rfl, .ty "tuple", hd.ty, kit_tup d, _, rfl, ?_⟩
    cases tb : tupB d with
    | false =>
      refine iteF ?_
      rw [tl_not tb] at q
      exact q
    | true =>
      refine iteT ?_
      cases hd with
      | @tup a xs ds e all =>
        have len := all.length
        refine ⟨.ref a, rfl, a, xs, rfl, .inr (SqT.of e), .int n, rfl, rfl, ?_⟩
        have z : tlB n (.tuple ds) = decide (V.int (xs.length : Nat) = V.int n) := by
          show decide ((ds.length : Int) = n) = _
          rw [← len]
          by_cases y : ((xs.length : Nat) : Int) = n
          · rw [decide_eq_true y, decide_eq_true (by rw [y])]
          · rw [decide_eq_false y, decide_eq_false (fun z => y (V.int.inj z))]
        rw [z] at q
        exact q
      | _ => exact (Bool.false_ne_true tb).elim
theorem tl_two {d : PyData} (h : tlB 2 d = true) : ∃ a b, d = .tuple [a, b] := by
  match d, h with
  | .tuple [a, b], _ => exact ⟨a, b, rfl⟩
  | .tuple (x :: y :: z :: l), h =>
    have h' : ((x :: y :: z :: l).length : Int) = 2 := of_decide_eq_true (show decide (((x :: y :: z :: l).length : Int) = 2) = true from h)
    rw [List.length_cons, List.length_cons, List.length_cons] at h'
    omega
theorem iv_two {d : PyData} (h : ¬ tlB 2 d = true) : ivB d = false := by
  match d, h with
  | .tuple [a, b], h => exact absurd rfl h
  | .tuple [], _ => rfl
  | .tuple [_], _ => rfl
  | .tuple (_ :: _ :: _ :: l), _ => rfl
  | .none, _ => rfl
  | .bool _, _ => rfl
  | .int _, _ => rfl
  | .str _, _ => rfl
  | .list _, _ => rfl
  | .dict _, _ => rfl
theorem ok_is_interval (T : Tx K mg f_depth_changes f_find_blocks f_is_number f_is_position f_is_tuple_of f_is_interval f_is_ascending f_has_position f_contains f_intersect f_is_demand f_serves f_conflict f_is_independent f_demands_at_blocks f_is_open f_open_demands f_shadow_target f_pieces_inside f_first_gap f_generates f_find_missing f_without_item f_require_few_blocks f_decisive_demands f_largest_independent f_unserved_demands f_helpful_piece f_smallest_solution f_count_needed f_solve f_are_witnesses f_solution_holds f_helps f_helpful_interval f_has_open_demand f_widen f_essential_targets f_core_targets f_is_free f_growth_counts f_law_draws f_law_next f_law_blocks f_law_wide f_law_call f_law_raised f_law_judged f_law f_TooWide_init X_TooWide X_NotGenerated X_OutOfRange X_TooMany X_SpanError d_depth_changes d_find_blocks d_is_number d_is_position d_is_tuple_of d_is_interval d_is_ascending d_has_position d_contains d_intersect d_is_demand d_serves d_conflict d_is_independent d_demands_at_blocks d_is_open d_open_demands d_shadow_target d_pieces_inside d_first_gap d_generates d_find_missing d_without_item d_require_few_blocks d_decisive_demands d_largest_independent d_unserved_demands d_helpful_piece d_smallest_solution d_count_needed d_solve d_are_witnesses d_solution_holds d_helps d_helpful_interval d_has_open_demand d_widen d_essential_targets d_core_targets d_is_free d_growth_counts d_law_draws d_law_next d_law_blocks d_law_wide d_law_call d_law_raised d_law_judged d_law d_TooWide_init t_LAST_POSITION t_MAX_BLOCKS) : FnOk P w K mg base CX0 3 f_is_interval d_is_interval ["value"] (sp_is_interval K) := by
  refine T.F_is_interval.ok sc_is_interval (fun vs H Q E h => ?_) (fun cdv A outer s H vs Q E hr h => ?_)
  · obtain ⟨v, d, rfl, _⟩ := h
    rfl
  · obtain ⟨v, d, rfl, hd, q⟩ := h
    refine ⟨_, (pss_cons (ps_if (pt_not (pt_val (pe_call (ok_is_tuple_of T) (hr.mono (by decide)) (by rfl) T.g_is_tuple_of T.F_is_tuple_of.kp T.b_is_tuple_of .nil pass0 (pa_cons (pv 0) (pa_cons pe_int pa_nil)))))
      (pss_one (ps_ret pe_bl))
      pss_nil)
      (pss_cons (ps_asg (pv 0) (pg_tup rfl (pgs_cons (pg_name (i := 1) sc_is_interval.nd rfl (Or.inl rfl)) (pgs_cons (pg_name (i := 2) sc_is_interval.nd rfl (Or.inl rfl)) pgs_nil))))
      (pss_one (ps_ret (pe_and (pe_call (ok_is_position T) (hr.mono (by decide)) (by rfl) T.g_is_position T.F_is_position.kp T.b_is_position .nil pass0 (pa_cons (pv 1) pa_nil)) (pe_and (pe_call (ok_is_position T) (hr.mono (by decide)) (by rfl) T.g_is_position T.F_is_position.kp T.b_is_position .nil pass0 (pa_cons (pv 2) pa_nil)) (pe_one (pe_cmpR op_le (pv 1) (pv 2) (nomark _))))))))), ?_⟩
    refine ⟨v, rfl, v, d, 2, rfl, hd, _, rfl, ?_⟩
    by_cases tb : tlB 2 d = true
    · rw [tb]
      refine iteF ?_
      obtain ⟨d1, d2, rfl⟩ := tl_two tb
      cases hd with
      | @tup a xs ds e all =>
        match xs, all, e, q with
          | [v1, v2], .cons h1 (.cons h2 .nil), e, q =>
            refine ⟨.ref a, rfl, a, _, rfl, SqT.of e, rfl, v1, [v2], rfl, v2, [], rfl, rfl, ?_⟩
            refine ⟨v1, rfl, v1, d1, rfl, h1, _, rfl, ite2 (fun e1 => ?_) (fun e1 => ?_)⟩
            · refine ⟨v2, rfl, v2, d2, rfl, h2, _, rfl, ite2 (fun e2 => ?_) (fun e2 => ?_)⟩
              · cases d1 with
                | int i =>
                  cases d2 with
                  | int j =>
                    have x1 := h1.asInt
                    have x2 := h2.asInt
                    subst x1 x2
                    refine ⟨.int i, rfl, .int j, rfl, _, _, rfl, rfl, ?_⟩
                    have q' : Q (.bl (inB 0 1000000000000 (.int i) && (inB 0 1000000000000 (.int j) && decide (i ≤ j)))) H := q
                    rw [e1, e2] at q'
                    exact q'
                  | _ => exact absurd e2 (by simp [inB])
                | _ => exact absurd e1 (by simp [inB])
              · have q' : Q (.bl (inB 0 1000000000000 d1 && (inB 0 1000000000000 d2 && leB d1 d2))) H := q
                rw [Bool.not_eq_true] at e2
                rw [e1, e2] at q'
                exact q'
            · have q' : Q (.bl (inB 0 1000000000000 d1 && (inB 0 1000000000000 d2 && leB d1 d2))) H := q
              rw [Bool.not_eq_true] at e1
              rw [e1] at q'
              exact q'
    · rw [iv_two tb] at q
      rw [Bool.not_eq_true] at tb
      rw [tb]
      exact iteT q
/-! ### the law's own -/

theorem iv_shape {d : PyData} (h : ivB d = true) : ∃ x y, d = .tuple [.int x, .int y] := by
  cases d with
  | tuple ds =>
    match ds, h with
    | [], h => exact (Bool.false_ne_true h).elim
    | [_], h => exact (Bool.false_ne_true h).elim
    | _ :: _ :: _ :: _, h => exact (Bool.false_ne_true h).elim
    | [a, b], h =>
      have h' : (inB 0 1000000000000 a && (inB 0 1000000000000 b && leB a b)) = true := h
      have h1 := (Bool.and_eq_true_iff.mp h').1
      have h2 := (Bool.and_eq_true_iff.mp (Bool.and_eq_true_iff.mp h').2).1
      cases a with
      | int x =>
        cases b with
        | int y => exact ⟨x, y, rfl⟩
        | _ => exact (Bool.false_ne_true h2).elim
      | _ => exact (Bool.false_ne_true h1).elim
  | _ => exact (Bool.false_ne_true h).elim
theorem Dv.asPair {K : PySem.W.Frag} {H : Hp} {v : V} {x y : Int} (h : Dv K H v (.tuple [.int x, .int y])) : ∃ b, v = .ref b ∧ H b = some (.tup [.int x, .int y]) := by
  cases h with
  | @tup a xs _ e all =>
    match xs, all with
    | [_, _], .cons h1 (.cons h2 .nil) =>
      cases h1
      cases h2
      exact ⟨a, rfl, e⟩

/-! ### comprehensions over longer rows (comp.part's, to a million) -/
theorem few_lineb {n : Nat} (h : n < 1000000) : n < sizeLine := by
  rw [show sizeLine = 16777216 by decide]
  omega
theorem lcLb {K : PySem.W.Frag} {a : Addr} {xs : List V} {g : TG} {tt : TT} {te : TE} {vs : List Nat} {σ : L2.St} {H1 : Hp} {D : Addr} {Qd : Hp → Prop} (R : Nat → Hp → List V → Prop) (nD : H1 D = none) (hl : ∀ H', Same H1 H' → SqL K H' a xs) (few : xs.length < 1000000)
    (mono : ∀ i H' H'' ws, Tps H' H'' → R i H' ws → R i H'' ws) (len : ∀ i H' ws, R i H' ws → ws.length ≤ i) (r0 : ∀ H', R 0 H' [])
    (hs : ∀ i x H' (N : Hp → Prop) acc, xs[i]? = some x → Same H1 H' → H' D = some (.lst acc) → acc.length < sizeLine → R i H' acc → (∀ H'', Same H' H'' → R (i + 1) H'' acc → N H'') → (∀ H'' y, Same H' H'' → R (i + 1) H'' (acc ++ [y]) → ∃ acc', H'' D = some (.lst acc') ∧ acc'.length < sizeLine ∧ N (upd H'' D (.lst (acc' ++ [y])))) →
      g x (wipe σ vs) H' fun σ2 H2 => wipe σ2 vs = wipe σ vs ∧ tt σ2 H2 fun b H3 => if b = true then te σ2 H3 fun y H4 => ∃ acc, H4 D = some (.lst acc) ∧ acc.length < sizeLine ∧ N (upd H4 D (.lst (acc ++ [y]))) else N H3)
    (hd : ∀ H' ws, Same H1 H' → H' D = some (.lst ws) → R xs.length H' ws → Qd H') :
    ∃ W : Nat → Nat → Hp → Prop, (∃ m, W 0 m (upd H1 D (.lst []))) ∧ ∀ i m H, W i m H →
      ((Itl K a).stop i H ∧ Qd H) ∨ ((Itl K a).go i H ∧ ∃ Nx : Hp → Prop, (∀ H', Nx H' → ∃ m', m' < m ∧ W (i + 1) m' H') ∧ ∀ x H', (Itl K a).yld i H x H' → g x (wipe σ vs) H' fun σ2 H2 => wipe σ2 vs = wipe σ vs ∧ tt σ2 H2 fun b H3 =>
        if b = true then te σ2 H3 fun y H4 => ∃ acc, H4 D = some (.lst acc) ∧ acc.length < sizeLine ∧ Nx (upd H4 D (.lst (acc ++ [y]))) else Nx H3) := by
  refine lc_list (K := K) (a := a) (xs := xs) (fun i H' => Same H1 H' ∧ ∃ ws, H' D = some (.lst ws) ∧ R i H' ws) ⟨same_new nD, [], upd_same, r0 _⟩ (fun i H' _ h => hl H' h.1) ?_ ?_
  · rintro i x H' hi ⟨sm, ws, eD, r⟩
    have lt := (List.getElem?_eq_some_iff.mp hi).1
    have lw := len i H' ws r
    have sz : ws.length < sizeLine := few_lineb (by omega)
    refine hs i x H' _ ws hi sm eD sz r (fun H'' s r2 => ⟨sm.trans s, ws, s _ _ eD, r2⟩) (fun H'' y s r2 => ?_)
    exact ⟨ws, s _ _ eD, sz, same_off nD (sm.trans s), _, upd_same, mono _ _ _ _ (Tps.lst (s _ _ eD)) r2⟩
  · rintro H' ⟨sm, ws, eD, r⟩
    exact hd H' ws sm eD r
theorem lcTb {K : PySem.W.Frag} {a : Addr} {xs : List V} {g : TG} {tt : TT} {te : TE} {vs : List Nat} {σ : L2.St} {H1 : Hp} {D : Addr} {Qd : Hp → Prop} (R : Nat → Hp → List V → Prop) (nD : H1 D = none) (hl : ∀ H', Same H1 H' → SqT K H' a xs) (few : xs.length < 1000000)
    (mono : ∀ i H' H'' ws, Tps H' H'' → R i H' ws → R i H'' ws) (len : ∀ i H' ws, R i H' ws → ws.length ≤ i) (r0 : ∀ H', R 0 H' [])
    (hs : ∀ i x H' (N : Hp → Prop) acc, xs[i]? = some x → Same H1 H' → H' D = some (.lst acc) → acc.length < sizeLine → R i H' acc → (∀ H'', Same H' H'' → R (i + 1) H'' acc → N H'') → (∀ H'' y, Same H' H'' → R (i + 1) H'' (acc ++ [y]) → ∃ acc', H'' D = some (.lst acc') ∧ acc'.length < sizeLine ∧ N (upd H'' D (.lst (acc' ++ [y])))) →
      g x (wipe σ vs) H' fun σ2 H2 => wipe σ2 vs = wipe σ vs ∧ tt σ2 H2 fun b H3 => if b = true then te σ2 H3 fun y H4 => ∃ acc, H4 D = some (.lst acc) ∧ acc.length < sizeLine ∧ N (upd H4 D (.lst (acc ++ [y]))) else N H3)
    (hd : ∀ H' ws, Same H1 H' → H' D = some (.lst ws) → R xs.length H' ws → Qd H') :
    ∃ W : Nat → Nat → Hp → Prop, (∃ m, W 0 m (upd H1 D (.lst []))) ∧ ∀ i m H, W i m H →
      ((Itt K a).stop i H ∧ Qd H) ∨ ((Itt K a).go i H ∧ ∃ Nx : Hp → Prop, (∀ H', Nx H' → ∃ m', m' < m ∧ W (i + 1) m' H') ∧ ∀ x H', (Itt K a).yld i H x H' → g x (wipe σ vs) H' fun σ2 H2 => wipe σ2 vs = wipe σ vs ∧ tt σ2 H2 fun b H3 =>
        if b = true then te σ2 H3 fun y H4 => ∃ acc, H4 D = some (.lst acc) ∧ acc.length < sizeLine ∧ Nx (upd H4 D (.lst (acc ++ [y]))) else Nx H3) := by
  refine lc_tup (K := K) (a := a) (xs := xs) (fun i H' => Same H1 H' ∧ ∃ ws, H' D = some (.lst ws) ∧ R i H' ws) ⟨same_new nD, [], upd_same, r0 _⟩ (fun i H' _ h => hl H' h.1) ?_ ?_
  · rintro i x H' hi ⟨sm, ws, eD, r⟩
    have lt := (List.getElem?_eq_some_iff.mp hi).1
    have lw := len i H' ws r
    have sz : ws.length < sizeLine := few_lineb (by omega)
    refine hs i x H' _ ws hi sm eD sz r (fun H'' s r2 => ⟨sm.trans s, ws, s _ _ eD, r2⟩) (fun H'' y s r2 => ?_)
    exact ⟨ws, s _ _ eD, sz, same_off nD (sm.trans s), _, upd_same, mono _ _ _ _ (Tps.lst (s _ _ eD)) r2⟩
  · rintro H' ⟨sm, ws, eD, r⟩
    exact hd H' ws sm eD r

/-! ### t != () -/
section
variable {X : Cx}
def rNeE (K : PySem.W.Frag) : R2 := fun x y H Q => ∃ (a b : Addr) (xs : List V), x = .ref a ∧ y = .ref b ∧ SqT K H a xs ∧ SqT K H b [] ∧ Q (.bl (!xs.isEmpty)) H
theorem op_neE (units : X.A.units < cLine) : OpR X (compareOp .NotEq) (rNeE X.K) := by
  intro pins s σ H x y v u Q I rx ry h
  obtain ⟨a, b, xs, rfl, rfl, ha, hb, q⟩ := h
  cases rx
  cases ry
  obtain ⟨its, r1, p1, _⟩ := I.tuple ha
  obtain ⟨its2, r2, p2, _⟩ := I.tuple hb
  cases r2
  refine SeqAt.RcNeAt.tuples (e := fun _ => true) (show s.heap.IsTuple a its.toArray from p1) (show s.heap.IsTuple b ([] : List Value).toArray from p2) units (fun j h1 h2 => absurd h2 (Nat.not_lt_zero j)) X.prog X.w X.xe (EP X pins σ Q) ⟨.bl (!xs.isEmpty), H, I, ?_, q⟩
  cases r1 with
  | nil => rfl
  | cons r t => rfl
end

/-! ### data by its weight, with a bound on the length of each row: what a value with a part replaced weighs -/
mutual
def intsB (B L : Nat) : PyData → Bool
  | .none | .bool _ | .str _ => true
  | .int i => decide (i.natAbs < B)
  | .list xs | .tuple xs => decide (xs.length ≤ L) && intsBAll B L xs
  | .dict kvs => intsBKv B L kvs
def intsBAll (B L : Nat) : List PyData → Bool
  | [] => true
  | x :: xs => intsB B L x && intsBAll B L xs
def intsBKv (B L : Nat) : List (PyData × PyData) → Bool
  | [] => true
  | (k, v) :: r => intsB B L k && intsB B L v && intsBKv B L r
end
mutual
theorem intsB_mono {B C L M : Nat} (h : B ≤ C) (g : L ≤ M) : ∀ d : PyData, intsB B L d = true → intsB C M d = true
  | .none, _ => by unfold intsB; rfl
  | .bool _, _ => by unfold intsB; rfl
  | .str _, _ => by unfold intsB; rfl
  | .int i, q => by
    unfold intsB at q ⊢
    have := of_decide_eq_true q
    exact decide_eq_true (Nat.lt_of_lt_of_le this h)
  | .list xs, q => by
    unfold intsB at q ⊢
    have z := Bool.and_eq_true_iff.mp q
    exact Bool.and_eq_true_iff.mpr ⟨decide_eq_true (Nat.le_trans (of_decide_eq_true z.1) g), intsBAll_mono h g xs z.2⟩
  | .tuple xs, q => by
    unfold intsB at q ⊢
    have z := Bool.and_eq_true_iff.mp q
    exact Bool.and_eq_true_iff.mpr ⟨decide_eq_true (Nat.le_trans (of_decide_eq_true z.1) g), intsBAll_mono h g xs z.2⟩
  | .dict kvs, q => by
    unfold intsB at q ⊢
    exact intsBKv_mono h g kvs q
theorem intsBAll_mono {B C L M : Nat} (h : B ≤ C) (g : L ≤ M) : ∀ xs : List PyData, intsBAll B L xs = true → intsBAll C M xs = true
  | [], _ => by unfold intsBAll; rfl
  | x :: xs, q => by
    unfold intsBAll at q ⊢
    have z := Bool.and_eq_true_iff.mp q
    exact Bool.and_eq_true_iff.mpr ⟨intsB_mono h g x z.1, intsBAll_mono h g xs z.2⟩
theorem intsBKv_mono {B C L M : Nat} (h : B ≤ C) (g : L ≤ M) : ∀ xs : List (PyData × PyData), intsBKv B L xs = true → intsBKv C M xs = true
  | [], _ => by unfold intsBKv; rfl
  | (k, v) :: xs, q => by
    unfold intsBKv at q ⊢
    have z := Bool.and_eq_true_iff.mp q
    have y := Bool.and_eq_true_iff.mp z.1
    exact Bool.and_eq_true_iff.mpr ⟨Bool.and_eq_true_iff.mpr ⟨intsB_mono h g k y.1, intsB_mono h g v y.2⟩, intsBKv_mono h g xs z.2⟩
end
theorem intsBAll_mem {B L : Nat} : ∀ {xs : List PyData}, intsBAll B L xs = true → ∀ x ∈ xs, intsB B L x = true
  | [], _, x, hx => nomatch hx
  | y :: xs, q, x, hx => by
    unfold intsBAll at q
    have z := Bool.and_eq_true_iff.mp q
    rcases List.mem_cons.mp hx with rfl | hx
    · exact z.1
    · exact intsBAll_mem z.2 x hx
theorem intsBAll_of {B L : Nat} : ∀ {xs : List PyData}, (∀ x ∈ xs, intsB B L x = true) → intsBAll B L xs = true
  | [], _ => by unfold intsBAll; rfl
  | y :: xs, q => by
    unfold intsBAll
    exact Bool.and_eq_true_iff.mpr ⟨q y List.mem_cons_self, intsBAll_of fun x hx => q x (List.mem_cons_of_mem _ hx)⟩
/-- what may be shown, with numbers below B -/
structure Fine (B L : Nat) (d : PyData) : Prop where
  shows : d.showable = true
  short : d.leavesShort 40 = true
  nums : intsB B L d = true
theorem Fine.mono {B C L M : Nat} {d : PyData} (h : Fine B L d) (l : B ≤ C) (g : L ≤ M) : Fine C M d := ⟨h.shows, h.short, intsB_mono l g d h.nums⟩
theorem Fine.bool (B L : Nat) (b : Bool) : Fine B L (.bool b) := ⟨rfl, rfl, by unfold intsB; rfl⟩
theorem Fine.none (B L : Nat) : Fine B L .none := ⟨rfl, rfl, by unfold intsB; rfl⟩
theorem Fine.int {B L : Nat} {i : Int} (h : i.natAbs < B) (l : B ≤ 10 ^ 30) : Fine B L (.int i) := by
  have s := Sm.int (Nat.lt_of_lt_of_le h l)
  exact ⟨s.shows, s.short, by unfold intsB; exact decide_eq_true h⟩
theorem Fine.lt {B L : Nat} {i : Int} (h : Fine B L (.int i)) : i.natAbs < B := by
  have z := h.nums
  unfold intsB at z
  exact of_decide_eq_true z
theorem fine_seq {B L : Nat} {ds : List PyData} (h : ∀ x ∈ ds, Fine B L x) : PyData.showableAll ds = true ∧ PyData.leavesShortAll 40 ds = true ∧ intsBAll B L ds = true := by
  induction ds with
  | nil => exact ⟨rfl, rfl, by unfold intsBAll; rfl⟩
  | cons d ds ih =>
    obtain ⟨a, b, c⟩ := ih fun x hx => h x (List.mem_cons_of_mem _ hx)
    have z := h d List.mem_cons_self
    refine ⟨?_, ?_, intsBAll_of fun x hx => (h x hx).nums⟩
    · show (d.showable && PyData.showableAll ds) = true
      rw [z.shows, a]
      rfl
    · show (d.leavesShort 40 && PyData.leavesShortAll 40 ds) = true
      rw [z.short, b]
      rfl
theorem Fine.tup {B L : Nat} {ds : List PyData} (l : ds.length ≤ L) (h : ∀ x ∈ ds, Fine B L x) : Fine B L (.tuple ds) :=
  let ⟨a, b, c⟩ := fine_seq h
  ⟨a, b, by unfold intsB; exact Bool.and_eq_true_iff.mpr ⟨decide_eq_true l, c⟩⟩
theorem Fine.lst {B L : Nat} {ds : List PyData} (l : ds.length ≤ L) (h : ∀ x ∈ ds, Fine B L x) : Fine B L (.list ds) :=
  let ⟨a, b, c⟩ := fine_seq h
  ⟨a, b, by unfold intsB; exact Bool.and_eq_true_iff.mpr ⟨decide_eq_true l, c⟩⟩
theorem fine_all {B L : Nat} : ∀ {ds : List PyData}, PyData.showableAll ds = true → PyData.leavesShortAll 40 ds = true → intsBAll B L ds = true → ∀ x ∈ ds, Fine B L x
  | [], _, _, _, x, hx => nomatch hx
  | d :: ds, h1, h2, h3, x, hx => by
    have z1 := Bool.and_eq_true_iff.mp (show (d.showable && PyData.showableAll ds) = true from h1)
    have z2 := Bool.and_eq_true_iff.mp (show (d.leavesShort 40 && PyData.leavesShortAll 40 ds) = true from h2)
    unfold intsBAll at h3
    have z3 := Bool.and_eq_true_iff.mp h3
    rcases List.mem_cons.mp hx with rfl | hx
    · exact ⟨z1.1, z2.1, z3.1⟩
    · exact fine_all z1.2 z2.2 z3.2 x hx
theorem Fine.mem {B L : Nat} {ds : List PyData} (h : Fine B L (.tuple ds)) : ∀ x ∈ ds, Fine B L x := by
  have c := h.nums
  unfold intsB at c
  exact fine_all h.shows h.short (Bool.and_eq_true_iff.mp c).2
theorem Fine.len {B L : Nat} {ds : List PyData} (h : Fine B L (.tuple ds)) : ds.length ≤ L := by
  have c := h.nums
  unfold intsB at c
  exact of_decide_eq_true (Bool.and_eq_true_iff.mp c).1
theorem wAll_app : ∀ {a b : List PyData}, PyData.weightAll (a ++ b) = PyData.weightAll a + PyData.weightAll b
  | [], b => (Nat.zero_add _).symm
  | x :: a, b => by
    show x.weight + 1 + PyData.weightAll (a ++ b) = x.weight + 1 + PyData.weightAll a + PyData.weightAll b
    rw [wAll_app]
    omega
theorem wAll_mem : ∀ {a : List PyData} {x : PyData}, x ∈ a → x.weight + 1 ≤ PyData.weightAll a
  | y :: a, x, h => by
    show x.weight + 1 ≤ y.weight + 1 + PyData.weightAll a
    rcases List.mem_cons.mp h with rfl | h
    · omega
    · have := wAll_mem h
      omega
theorem wAll_take (n : Nat) (a : List PyData) : PyData.weightAll (a.take n) ≤ PyData.weightAll a := by
  have := wAll_app (a := a.take n) (b := a.drop n)
  rw [List.take_append_drop] at this
  omega
theorem wAll_drop (n : Nat) (a : List PyData) : PyData.weightAll (a.drop n) ≤ PyData.weightAll a := by
  have := wAll_app (a := a.take n) (b := a.drop n)
  rw [List.take_append_drop] at this
  omega
theorem wAll_rev : ∀ a : List PyData, PyData.weightAll a.reverse = PyData.weightAll a
  | [] => rfl
  | x :: a => by
    rw [List.reverse_cons, wAll_app, wAll_rev a]
    show PyData.weightAll a + (x.weight + 1 + 0) = x.weight + 1 + PyData.weightAll a
    omega
theorem wAll_set {ds : List PyData} {i : Nat} {x y : PyData} (h : ds[i]? = some x) : PyData.weightAll (ds.take i ++ [y] ++ ds.drop (i + 1)) + x.weight = PyData.weightAll ds + y.weight := by
  have e : ds = ds.take i ++ [x] ++ ds.drop (i + 1) := by
    obtain ⟨z, w⟩ := List.getElem?_eq_some_iff.mp h
    rw [← w, List.append_assoc, List.singleton_append, List.getElem_cons_drop, List.take_append_drop]
  have w1 := congrArg PyData.weightAll e
  rw [wAll_app, wAll_app] at w1 ⊢
  show _ + (y.weight + 1 + 0) + _ + _ = _
  rw [w1]
  show _ = _ + (x.weight + 1 + 0) + _ + _
  omega
theorem dAll_mem : ∀ {a : List PyData} {n : Nat}, (∀ x ∈ a, x.depth ≤ n) → PyData.depthAll a ≤ n
  | [], _, _ => Nat.zero_le _
  | x :: a, n, h => Nat.max_le.mpr ⟨h x List.mem_cons_self, dAll_mem fun y hy => h y (List.mem_cons_of_mem _ hy)⟩
theorem dAll_le : ∀ {a : List PyData} {x : PyData}, x ∈ a → x.depth ≤ PyData.depthAll a
  | y :: a, x, h => by
    rcases List.mem_cons.mp h with rfl | h
    · exact Nat.le_max_left _ _
    · exact Nat.le_trans (dAll_le h) (Nat.le_max_right _ _)
theorem len_weight : ∀ a : List PyData, a.length ≤ PyData.weightAll a
  | [] => Nat.le_refl _
  | x :: a => by
    have := len_weight a
    show a.length + 1 ≤ x.weight + 1 + PyData.weightAll a
    omega
/-- a value of data: fine, of weight at most N and depth at most dp -/
def Gwt (K : PySem.W.Frag) (B L N dp : Nat) (G : Hp) (v : V) : Prop := ∃ d, Dv K G v d ∧ Fine B L d ∧ d.weight ≤ N ∧ d.depth ≤ dp
/-- items of data, of weight at most N together -/
def Rwt (K : PySem.W.Frag) (B L N dp : Nat) (G : Hp) (us : List V) : Prop := ∃ ds, DvAll K G us ds ∧ (∀ x ∈ ds, Fine B L x ∧ x.depth ≤ dp) ∧ PyData.weightAll ds ≤ N
section
variable {K : PySem.W.Frag} {B C L L2 N M dp dq : Nat} {G G' : Hp} {v : V} {us vs : List V}
theorem Gwt.same (h : Gwt K B L N dp G v) (s : Same G G') : Gwt K B L N dp G' v :=
  let ⟨d, a, b, c⟩ := h
  ⟨d, dv_same s a, b, c⟩
theorem Gwt.mono (h : Gwt K B L N dp G v) (l1 : B ≤ C) (l4 : L ≤ L2) (l2 : N ≤ M) (l3 : dp ≤ dq) : Gwt K C L2 M dq G v :=
  let ⟨d, a, b, c, e⟩ := h
  ⟨d, a, b.mono l1 l4, Nat.le_trans c l2, Nat.le_trans e l3⟩
theorem Gwt.sm (h : Gwt K B L N dp G v) : ∃ d, Dv K G v d ∧ Sm N dp d :=
  let ⟨d, a, b, c, e⟩ := h
  ⟨d, a, b.shows, b.short, c, e⟩
theorem Rwt.same (h : Rwt K B L N dp G us) (s : Same G G') : Rwt K B L N dp G' us :=
  let ⟨ds, a, b⟩ := h
  ⟨ds, dvAll_same s a, b⟩
theorem Rwt.mono (h : Rwt K B L N dp G us) (l1 : B ≤ C) (l4 : L ≤ L2) (l2 : N ≤ M) (l3 : dp ≤ dq) : Rwt K C L2 M dq G us :=
  let ⟨ds, a, b, c⟩ := h
  ⟨ds, a, fun x hx => ⟨(b x hx).1.mono l1 l4, Nat.le_trans (b x hx).2 l3⟩, Nat.le_trans c l2⟩
theorem Rwt.len (h : Rwt K B L N dp G us) : us.length ≤ N := by
  obtain ⟨ds, a, b, c⟩ := h
  rw [a.length]
  exact Nat.le_trans (len_weight ds) c
theorem dvAll_take' : ∀ {us : List V} {ds : List PyData}, DvAll K G us ds → ∀ n : Nat, DvAll K G (us.take n) (ds.take n)
  | _, _, .nil, n => by
    rw [List.take_nil, List.take_nil]
    exact .nil
  | _, _, .cons a b, 0 => .nil
  | _, _, .cons a b, n + 1 => .cons a (dvAll_take' b n)
theorem dvAll_drop' : ∀ {us : List V} {ds : List PyData}, DvAll K G us ds → ∀ n : Nat, DvAll K G (us.drop n) (ds.drop n)
  | _, _, .nil, n => by
    rw [List.drop_nil, List.drop_nil]
    exact .nil
  | _, _, .cons a b, 0 => .cons a b
  | _, _, .cons a b, n + 1 => dvAll_drop' b n
theorem dvAll_rev' : ∀ {vs : List V} {ds : List PyData}, DvAll K G vs ds → DvAll K G vs.reverse ds.reverse
  | _, _, .nil => .nil
  | _, _, .cons a b => by
    rw [List.reverse_cons, List.reverse_cons]
    exact (dvAll_rev' b).append (.cons a .nil)
theorem Rwt.cut (h : Rwt K B L N dp G us) (lo hi : Option Int) : Rwt K B L N dp G (cutV us lo hi) := by
  obtain ⟨ds, a, b, c⟩ := h
  unfold cutV
  exact ⟨_, dvAll_take' (dvAll_drop' a _) _, fun x hx => b x (List.mem_of_mem_drop (List.mem_of_mem_take hx)), Nat.le_trans (wAll_take _ _) (Nat.le_trans (wAll_drop _ _) c)⟩
theorem Rwt.cat (h : Rwt K B L N dp G us) (h2 : Rwt K B L M dp G vs) : Rwt K B L (N + M) dp G (us ++ vs) := by
  obtain ⟨ds, a, b, c⟩ := h
  obtain ⟨es, a2, b2, c2⟩ := h2
  refine ⟨_, a.append a2, fun x hx => ?_, by rw [wAll_app]; omega⟩
  rcases List.mem_append.mp hx with hx | hx
  · exact b x hx
  · exact b2 x hx
theorem Rwt.rev (h : Rwt K B L N dp G us) : Rwt K B L N dp G us.reverse := by
  obtain ⟨ds, a, b, c⟩ := h
  exact ⟨_, dvAll_rev' a, fun x hx => b x (List.mem_reverse.mp hx), by rw [wAll_rev]; exact c⟩
theorem Rwt.nil : Rwt K B L 0 dp G [] := ⟨[], .nil, (fun x hx => nomatch hx), Nat.le_refl _⟩
theorem Rwt.cons (h : Gwt K B L N dp G v) (h2 : Rwt K B L M dp G us) : Rwt K B L (N + 1 + M) dp G (v :: us) := by
  obtain ⟨d, a, b, c, e⟩ := h
  obtain ⟨ds, a2, b2, c2⟩ := h2
  refine ⟨d :: ds, .cons a a2, fun x hx => ?_, by show d.weight + 1 + PyData.weightAll ds ≤ _; omega⟩
  rcases List.mem_cons.mp hx with rfl | hx
  · exact ⟨b, e⟩
  · exact b2 x hx
theorem Rwt.one (h : Gwt K B L N dp G v) : Rwt K B L (N + 1) dp G [v] := Rwt.cons h .nil
theorem Rwt.tup (h : Rwt K B L N dp G us) (l : us.length ≤ L) {p : Addr} (e : G p = some (.tup us)) : Gwt K B L N (dp + 1) G (.ref p) := by
  obtain ⟨ds, a, b, c⟩ := h
  exact ⟨_, .tup e a, .tup (by rw [← a.length]; exact l) fun x hx => (b x hx).1, c, Nat.succ_le_succ (dAll_mem fun x hx => (b x hx).2)⟩
theorem Rwt.lst (h : Rwt K B L N dp G us) (l : us.length ≤ L) {p : Addr} (e : G p = some (.lst us)) : Gwt K B L N (dp + 1) G (.ref p) := by
  obtain ⟨ds, a, b, c⟩ := h
  exact ⟨_, .lst e a, .lst (by rw [← a.length]; exact l) fun x hx => (b x hx).1, c, Nat.succ_le_succ (dAll_mem fun x hx => (b x hx).2)⟩
/-- the row with one item replaced weighs as much more as the new item does -/
theorem swap_row {ds : List PyData} {y : V} {d : PyData} {i : Nat} (all : DvAll K G us ds) (fine : ∀ x ∈ ds, Fine B L x ∧ x.depth ≤ dp) (ed : ds[i]? = some d) (hy : Gwt K C L2 (2 * d.weight + M) dq G y) (l : B ≤ C) (l4 : L ≤ L2) (l3 : dp ≤ dq) : Rwt K C L2 (2 * PyData.weightAll ds + M) dq G (us.take i ++ [y] ++ us.drop (i + 1)) := by
  have wd := wAll_mem (List.mem_of_getElem? ed)
  obtain ⟨x, hx1, hx2, hx3, hx4⟩ := hy
  refine ⟨ds.take i ++ [x] ++ ds.drop (i + 1), ((dvAll_take' all i).append (.cons hx1 .nil)).append (dvAll_drop' all (i + 1)), fun z hz => ?_, ?_⟩
  · rcases List.mem_append.mp hz with hz | hz
    · rcases List.mem_append.mp hz with hz | hz
      · have m := fine z (List.mem_of_mem_take hz)
        exact ⟨m.1.mono l l4, Nat.le_trans m.2 l3⟩
      · rw [List.mem_singleton.mp hz]
        exact ⟨hx2, hx4⟩
    · have m := fine z (List.mem_of_mem_drop hz)
      exact ⟨m.1.mono l l4, Nat.le_trans m.2 l3⟩
  · have := wAll_set (y := x) ed
    omega
end

/-! ### demands among values of any kind -/
def hasB : PyData → PyData → Bool
  | .int p, .tuple [.int x, .int y] => decide (x ≤ p) && decide (p ≤ y)
  | _, _ => false
def demB : PyData → Bool
  | .tuple [a, b] => inB 0 1000000000000 a && (ivB b && hasB a b)
  | _ => false
theorem dem_shape {d : PyData} (h : demB d = true) : ∃ p x y, d = .tuple [.int p, .tuple [.int x, .int y]] ∧ 0 ≤ x ∧ x ≤ p ∧ p ≤ y ∧ y ≤ 1000000000000 := by
  match d, h with
  | .tuple [a, b], h =>
    have h' : (inB 0 1000000000000 a && (ivB b && hasB a b)) = true := h
    have h1 := Bool.and_eq_true_iff.mp h'
    have h2 := Bool.and_eq_true_iff.mp h1.2
    obtain ⟨x, y, rfl⟩ := iv_shape h2.1
    cases a with
    | int p =>
      have h3 := Bool.and_eq_true_iff.mp (show (decide (x ≤ p) && decide (p ≤ y)) = true from h2.2)
      have h4 : (inB 0 1000000000000 (.int x) && (inB 0 1000000000000 (.int y) && leB (.int x) (.int y))) = true := h2.1
      have h5 := Bool.and_eq_true_iff.mp h4
      have h6 := Bool.and_eq_true_iff.mp h5.2
      have h7 := Bool.and_eq_true_iff.mp (show (decide ((0 : Int) ≤ x) && decide (x ≤ 1000000000000)) = true from h5.1)
      have h8 := Bool.and_eq_true_iff.mp (show (decide ((0 : Int) ≤ y) && decide (y ≤ 1000000000000)) = true from h6.1)
      exact ⟨p, x, y, rfl, of_decide_eq_true h7.1, of_decide_eq_true h3.1, of_decide_eq_true h3.2, of_decide_eq_true h8.2⟩
    | _ => exact (Bool.false_ne_true h1.1).elim
theorem dem_int {p x y : Int} : demB (.tuple [.int p, .tuple [.int x, .int y]]) = (decide (0 ≤ x) && (decide (x ≤ p) && (decide (p ≤ y) && decide (y ≤ 1000000000000)))) := by
  show ((decide ((0 : Int) ≤ p) && decide (p ≤ 1000000000000)) && (((decide ((0 : Int) ≤ x) && decide (x ≤ 1000000000000)) && ((decide ((0 : Int) ≤ y) && decide (y ≤ 1000000000000)) && decide (x ≤ y))) && (decide (x ≤ p) && decide (p ≤ y)))) = _
  rw [Bool.eq_iff_iff]
  simp only [Bool.and_eq_true, decide_eq_true_eq]
  omega
theorem dem_two {d : PyData} (h : ¬ tlB 2 d = true) : demB d = false := by
  match d, h with
  | .tuple [a, b], h => exact absurd rfl h
  | .tuple [], _ => rfl
  | .tuple [_], _ => rfl
  | .tuple (_ :: _ :: _ :: l), _ => rfl
  | .none, _ => rfl
  | .bool _, _ => rfl
  | .int _, _ => rfl
  | .str _, _ => rfl
  | .list _, _ => rfl
  | .dict _, _ => rfl
def sp_is_demand (K : PySem.W.Frag) : Sp := fun vs H Q _ => ∃ (v : V) (d : PyData), vs = [v] ∧ Dv K H v d ∧ Q (.bl (demB d)) H
theorem ok_is_demand (T : Tx K mg f_depth_changes f_find_blocks f_is_number f_is_position f_is_tuple_of f_is_interval f_is_ascending f_has_position f_contains f_intersect f_is_demand f_serves f_conflict f_is_independent f_demands_at_blocks f_is_open f_open_demands f_shadow_target f_pieces_inside f_first_gap f_generates f_find_missing f_without_item f_require_few_blocks f_decisive_demands f_largest_independent f_unserved_demands f_helpful_piece f_smallest_solution f_count_needed f_solve f_are_witnesses f_solution_holds f_helps f_helpful_interval f_has_open_demand f_widen f_essential_targets f_core_targets f_is_free f_growth_counts f_law_draws f_law_next f_law_blocks f_law_wide f_law_call f_law_raised f_law_judged f_law f_TooWide_init X_TooWide X_NotGenerated X_OutOfRange X_TooMany X_SpanError d_depth_changes d_find_blocks d_is_number d_is_position d_is_tuple_of d_is_interval d_is_ascending d_has_position d_contains d_intersect d_is_demand d_serves d_conflict d_is_independent d_demands_at_blocks d_is_open d_open_demands d_shadow_target d_pieces_inside d_first_gap d_generates d_find_missing d_without_item d_require_few_blocks d_decisive_demands d_largest_independent d_unserved_demands d_helpful_piece d_smallest_solution d_count_needed d_solve d_are_witnesses d_solution_holds d_helps d_helpful_interval d_has_open_demand d_widen d_essential_targets d_core_targets d_is_free d_growth_counts d_law_draws d_law_next d_law_blocks d_law_wide d_law_call d_law_raised d_law_judged d_law d_TooWide_init t_LAST_POSITION t_MAX_BLOCKS) : FnOk P w K mg base CX0 4 f_is_demand d_is_demand ["value"] (sp_is_demand K) := by
  refine T.F_is_demand.ok sc_is_demand (fun vs H Q E h => ?_) (fun cdv A outer s H vs Q E hr h => ?_)
  · obtain ⟨v, d, rfl, _⟩ := h
    rfl
  · obtain ⟨v, d, rfl, hd, q⟩ := h
    refine ⟨_, (pss_cons (ps_if (pt_not (pt_val (pe_call (ok_is_tuple_of T) (hr.mono (by decide)) (by rfl) T.g_is_tuple_of T.F_is_tuple_of.kp T.b_is_tuple_of .nil pass0 (pa_cons (pv 0) (pa_cons pe_int pa_nil)))))
      (pss_one (ps_ret pe_bl))
      pss_nil)
      (pss_cons (ps_asg (pv 0) (pg_tup rfl (pgs_cons (pg_name (i := 1) sc_is_demand.nd rfl (Or.inl rfl)) (pgs_cons (pg_name (i := 2) sc_is_demand.nd rfl (Or.inl rfl)) pgs_nil))))
      (pss_one (ps_ret (pe_and (pe_call (ok_is_position T) (hr.mono (by decide)) (by rfl) T.g_is_position T.F_is_position.kp T.b_is_position .nil pass0 (pa_cons (pv 1) pa_nil)) (pe_and (pe_call (ok_is_interval T) (hr.mono (by decide)) (by rfl) T.g_is_interval T.F_is_interval.kp T.b_is_interval .nil pass0 (pa_cons (pv 2) pa_nil)) (pe_one (pe_call (ok_has_position T) (hr.mono (by decide)) (by rfl) T.g_has_position T.F_has_position.kp T.b_has_position .nil pass0 (pa_cons (pv 2) (pa_cons (pv 1) pa_nil)))))))))), ?_⟩
    refine ⟨v, rfl, v, d, 2, rfl, hd, _, rfl, ?_⟩
    by_cases tb : tlB 2 d = true
    · rw [tb]
      refine iteF ?_
      obtain ⟨d1, d2, rfl⟩ := tl_two tb
      cases hd with
      | @tup a xs ds e all =>
        match xs, all, e, q with
          | [v1, v2], .cons h1 (.cons h2 .nil), e, q =>
            have q' : Q (.bl (inB 0 1000000000000 d1 && (ivB d2 && hasB d1 d2))) H := q
            refine ⟨.ref a, rfl, a, _, rfl, SqT.of e, rfl, v1, [v2], rfl, v2, [], rfl, rfl, ?_⟩
            refine ⟨v1, rfl, v1, d1, rfl, h1, _, rfl, ite2 (fun e1 => ?_) (fun e1 => ?_)⟩
            · rw [e1] at q'
              refine ⟨v2, rfl, v2, d2, rfl, h2, _, rfl, ite2 (fun e2 => ?_) (fun e2 => ?_)⟩
              · rw [e2] at q'
                obtain ⟨x, y, rfl⟩ := iv_shape e2
                obtain ⟨b, rfl, hb⟩ := h2.asPair
                cases d1 with
                | int p =>
                  have x1 := h1.asInt
                  subst x1
                  exact ⟨.ref b, rfl, .int p, rfl, b, x, y, p, rfl, hb, q'⟩
                | _ => exact absurd e1 (by simp [inB])
              · rw [Bool.not_eq_true] at e2
                rw [e2] at q'
                exact q'
            · rw [Bool.not_eq_true] at e1
              rw [e1] at q'
              exact q'
    · rw [dem_two tb] at q
      rw [Bool.not_eq_true] at tb
      rw [tb]
      exact iteT q
def toDem : PyData → Dem
  | .tuple [.int p, .tuple [.int x, .int y]] => (p, x, y)
  | _ => (0, 0, 0)
theorem Dv.asDem {K : PySem.W.Frag} {H : Hp} {v : V} {p x y : Int} (h : Dv K H v (.tuple [.int p, .tuple [.int x, .int y]])) : ∃ u t, v = .ref u ∧ H u = some (.tup [.int p, .ref t]) ∧ H t = some (.tup [.int x, .int y]) := by
  cases h with
  | @tup a xs _ e all =>
    match xs, all with
    | [_, _], .cons h1 (.cons h2 .nil) =>
      cases h1
      obtain ⟨b, rfl, hb⟩ := h2.asPair
      exact ⟨a, b, rfl, e, hb⟩
theorem dems_of {K : PySem.W.Frag} {H : Hp} : ∀ {xs : List V} {ds : List PyData}, DvAll K H xs ds → ds.all demB = true → Dms H xs (ds.map toDem)
  | _, _, .nil, _ => .nil
  | _, _, .cons a b, h => by
    rw [List.all_cons] at h
    have h := Bool.and_eq_true_iff.mp h
    obtain ⟨p, x, y, rfl, _, h2, h3, _⟩ := dem_shape h.1
    exact .cons ⟨a.asDem, h2, h3⟩ (dems_of b h.2)
def badAt (W : List Dem) (k : Nat) : Bool := (W.take k).any fun z => cf (W.getD k (0, 0, 0)) z
def indL (W : List Dem) : Bool := !(List.range W.length).any (badAt W)
theorem ind_no {W : List Dem} {k : Nat} (hk : k < W.length) (h : badAt W k = true) : indL W = false := by
  unfold indL
  rw [List.any_eq_true.mpr ⟨k, List.mem_range.mpr hk, h⟩]
  rfl
theorem ind_yes {W : List Dem} (h : ∀ k, k < W.length → badAt W k = false) : indL W = true := by
  unfold indL
  rw [List.any_eq_false.mpr fun k hk => by rw [h k (List.mem_range.mp hk)]; decide]
  rfl
def indB : PyData → Bool
  | .tuple ds => ds.all demB && indL (ds.map toDem)
  | _ => false
theorem ind_tup {d : PyData} (h : tupB d = false) : indB d = false := by
  cases d with
  | tuple ds => cases h
  | _ => rfl
theorem getD_some' {ds : List Dem} {i : Nat} {d : Dem} (h : ds[i]? = some d) : ds.getD i (0, 0, 0) = d := by
  rw [List.getD_eq_getElem?_getD, h]
  rfl
theorem any_take {W : List Dem} {p : Dem → Bool} {j : Nat} {z : Dem} (h : W[j]? = some z) : (W.take (j + 1)).any p = ((W.take j).any p || p z) := by
  rw [List.take_add_one, h, List.any_append]
  show (_ || (p z || false)) = _
  rw [Bool.or_false]
def sp_is_independent (K : PySem.W.Frag) : Sp := fun vs H Q _ => ∃ (v : V) (d : PyData), vs = [v] ∧ Dv K H v d ∧ d.weight ≤ 100000 ∧ ∀ H', Same H H' → Q (.bl (indB d)) H'
theorem ok_is_independent (T : Tx K mg f_depth_changes f_find_blocks f_is_number f_is_position f_is_tuple_of f_is_interval f_is_ascending f_has_position f_contains f_intersect f_is_demand f_serves f_conflict f_is_independent f_demands_at_blocks f_is_open f_open_demands f_shadow_target f_pieces_inside f_first_gap f_generates f_find_missing f_without_item f_require_few_blocks f_decisive_demands f_largest_independent f_unserved_demands f_helpful_piece f_smallest_solution f_count_needed f_solve f_are_witnesses f_solution_holds f_helps f_helpful_interval f_has_open_demand f_widen f_essential_targets f_core_targets f_is_free f_growth_counts f_law_draws f_law_next f_law_blocks f_law_wide f_law_call f_law_raised f_law_judged f_law f_TooWide_init X_TooWide X_NotGenerated X_OutOfRange X_TooMany X_SpanError d_depth_changes d_find_blocks d_is_number d_is_position d_is_tuple_of d_is_interval d_is_ascending d_has_position d_contains d_intersect d_is_demand d_serves d_conflict d_is_independent d_demands_at_blocks d_is_open d_open_demands d_shadow_target d_pieces_inside d_first_gap d_generates d_find_missing d_without_item d_require_few_blocks d_decisive_demands d_largest_independent d_unserved_demands d_helpful_piece d_smallest_solution d_count_needed d_solve d_are_witnesses d_solution_holds d_helps d_helpful_interval d_has_open_demand d_widen d_essential_targets d_core_targets d_is_free d_growth_counts d_law_draws d_law_next d_law_blocks d_law_wide d_law_call d_law_raised d_law_judged d_law d_TooWide_init t_LAST_POSITION t_MAX_BLOCKS) : FnOk P w K mg base CX0 5 f_is_independent d_is_independent ["value"] (sp_is_independent K) := by
  refine T.F_is_independent.ok sc_is_independent (fun vs H Q E h => ?_) (fun cdv A outer s H vs Q E hr h => ?_)
  · obtain ⟨v, d, rfl, _⟩ := h
    rfl
  · obtain ⟨v, d, rfl, hd, wt, q⟩ := h
    refine ⟨_, (pss_cons (ps_if (PW.pt (pw_or (pt_not (pt_val (pe_callB call_isi (by rfl) T.z_isinstance (by decide +kernel) (pa_cons (pv 0) (pa_cons (pe_bltn (v := .ty "tuple") (u := .type "tuple") (by rfl) T.z_tuple (by decide +kernel) rfl) pa_nil))))) (pw_or1 (pt_not (pt_val (pe_callB (cr_all rfl) (by rfl) T.z_all (by decide +kernel) (pa_cons (pe_lc (own := [("item", 1)]) (g := (gName 1)) (tt := tYes) (by rfl) sc_is_independent.nd (pi_tup (pv 0)) (blkOk_by (own := [("item", 1)]) (N := N_is_independent) (sc := defScope s_is_independent) (by decide +kernel)) (fun _ _ _ _ _ => (pg_name (i := 1) sc_is_independent.nd rfl (Or.inl rfl))) (fun _ _ _ _ _ => pts_nil) (fun _ _ _ _ _ => (pe_call (ok_is_demand T) (hr.mono (by decide)) (by rfl) T.g_is_demand T.F_is_demand.kp T.b_is_demand .nil pass0 (pa_cons (pv 1) pa_nil)))) pa_nil)))))))
      (pss_one (ps_ret pe_bl))
      pss_nil)
      (pss_cons (ps_for PassesOwn.never rfl (pi_enumT (by rfl) T.z_enumerate (pa_cons (pv 0) pa_nil)) (pg_tup rfl (pgs_cons (pg_name (i := 2) sc_is_independent.nd rfl (Or.inl rfl)) (pgs_cons (pg_name (i := 3) sc_is_independent.nd rfl (Or.inr rfl)) pgs_nil)))
      (pss_one (ps_if (pt_val (pe_callB (cr_any rfl) (by rfl) T.z_any (by decide +kernel) (pa_cons (pe_lc (own := [("second", 4)]) (g := (gName 4)) (tt := tYes) (by rfl) sc_is_independent.nd (pi_tup (pe_slice sl_tupA (pv 0) po_none (po_some (pv 2)))) (blkOk_by (own := [("second", 4)]) (N := N_is_independent) (sc := defScope s_is_independent) (by decide +kernel)) (fun _ _ _ _ _ => (pg_name (i := 4) sc_is_independent.nd rfl (Or.inl rfl))) (fun _ _ _ _ _ => pts_nil) (fun _ _ _ _ _ => (pe_call (ok_conflict T) (hr.mono (by decide)) (by rfl) T.g_conflict T.F_conflict.kp T.b_conflict .nil pass0 (pa_cons (pv 3) (pa_cons (pv 4) pa_nil))))) pa_nil)))
      (pss_one (ps_ret pe_bl))
      pss_nil)))
      (pss_one (ps_ret pe_bl)))), ?_⟩
    refine ⟨v, rfl, v, .ty "tuple", _, _, _, rfl, .ty "tuple", hd.ty, kit_tup d, _, rfl, ?_⟩
    cases tb : tupB d with
    | false =>
      rw [ind_tup tb] at q
      exact iteT (iteT (q H (Same.refl _)))
    | true =>
      refine iteF ?_
      cases hd with
      | @tup a xs ds e all =>
        have lx := all.length
        have lw := len_weight ds
        have wt' : PyData.weightAll ds ≤ 100000 := wt
        have q' : ∀ H', Same H H' → Q (.bl (ds.all demB && indL (ds.map toDem))) H' := q
        refine ⟨.ref a, rfl, a, rfl, ⟨_, SqT.of e⟩, fun D nD => ?_⟩
        refine lcTb (K := K) (a := a) (xs := xs) (fun j H' ws => ws = ((ds.take j).map demB).map V.bl) nD (fun H' s => SqT.of (s _ _ (e))) (by omega) (fun _ _ _ _ t r => r) (fun j H' ws r => (by rw [r, List.length_map, List.length_map]; exact List.length_take_le _ _)) (fun _ => rfl) ?_ ?_
        · rintro j z H' N acc hj sm eA sz rr no yes
          obtain ⟨x, ex, hx⟩ := all.get hj
          refine ⟨rfl, z, rfl, z, x, rfl, dv_same sm hx, yes _ _ (Same.refl _) ?_⟩
          rw [rr, List.take_add_one, ex, List.map_append, List.map_append]
          rfl
        intro H1 ws s1 eD rr
        rw [lx, List.take_length] at rr
        subst rr
        refine ⟨D, _, rfl, SqL.of eD, ?_⟩
        have eqall : (ds.map demB).all id = ds.all demB := by rw [List.all_map]; rfl
        rw [eqall]
        cases ea : ds.all demB with
        | false =>
          refine ⟨_, rfl, iteT ?_⟩
          rw [ea] at q'
          exact q' H1 s1
        | true =>
          rw [ea] at q'
          refine ⟨_, rfl, iteF ?_⟩
          have e1 := s1 _ _ e
          have dm : Dms H1 xs (ds.map toDem) := dems_of (dvAll_same s1 all) ea
          generalize ds.map toDem = W at *
          have lW := dm.length
          refine ⟨.ref a, rfl, a, xs, rfl, SqT.of e1, ?_⟩
          refine for_enumT (K := K) (a := a) (xs := xs) (D := ⟨_, _, fun _ _ => True, fun _ _ => True⟩) (fun j σ H' => Same H1 H' ∧ (∀ k, k < j → badAt W k = false) ∧ ∃ y1 y2 y3 y4, σ = [some (.ref a), y1, y2, y3, y4])
            ⟨Same.refl _, (fun k hk => absurd hk (Nat.not_lt_zero k)), _, _, _, _, rfl⟩ (fun j σ H' h => SqT.of (h.1 _ _ e1)) ?_ ?_
          · rintro k z TT σ H3 hz ⟨s3, ok, y1, y2, y3, y4, rfl⟩ nT
            obtain ⟨p, lo, hi, ed, dz⟩ := (dm.same s3).get hz
            have kl := (List.getElem?_eq_some_iff.mp ed).1
            have gk := getD_some' ed
            have sT := same_new (o := .tup [.int (k : Nat), z]) nT
            have eT := upd_same (H := H3) (a := TT) (o := .tup [.int (k : Nat), z])
            generalize upd H3 TT (.tup [.int (k : Nat), z]) = H4 at *
            have s4 := s3.trans sT
            have dz4 := dz.same sT
            refine ⟨TT, _, rfl, SqT.of eT, rfl, .int (k : Nat), [z], rfl, z, [], rfl, rfl, ?_⟩
            refine ⟨.ref a, rfl, .int (k : Nat), rfl, k, rfl, slA_any (s4 _ _ e1) (fun H7 sl s7 esl => ?_)⟩
            rw [cutTo] at esl
            have s07 := s4.trans s7
            refine ⟨sl, rfl, ⟨_, SqT.of esl⟩, fun D3 nD3 => ?_⟩
            refine lcTb (K := K) (a := sl) (xs := (xs.take k)) (fun j H' ws => ∃ bs : List Bool, ws = bs.map V.bl ∧ bs.length ≤ j ∧ bs.any id = ((W.take k).take j).any fun o => cf (p, lo, hi) o) nD3 (fun H' s => SqT.of (s _ _ (esl))) (by rw [List.length_take]; omega) (fun _ _ _ _ t r => r) (fun j H' ws r => (by obtain ⟨bs, r1, r2, _⟩ := r; rw [r1, List.length_map]; exact r2)) (fun _ => ⟨[], rfl, Nat.le_refl _, rfl⟩) ?_ ?_
            · rintro j o H' N acc hj sm eA sz ⟨bs, rfl, rl, ra⟩ no yes
              obtain ⟨p2, lo2, hi2, eo, dzo⟩ := ((dm.same s07).take k).get hj
              refine ⟨rfl, z, rfl, o, rfl, z, o, p, lo, hi, p2, lo2, hi2, rfl, (dz4.same s7).same sm, dzo.same sm, ?_⟩
              refine yes H' _ (Same.refl _) ⟨bs ++ [cf (p, lo, hi) (p2, lo2, hi2)], by rw [List.map_append]; rfl, by rw [List.length_append]; show bs.length + 1 ≤ _; omega, ?_⟩
              rw [List.any_append, ra, any_take eo]
              show (_ || (id _ || false)) = _
              rw [Bool.or_false]
              rfl
            rintro H8 w8 s8 eD3 ⟨bs, rfl, rl, ra⟩
            refine ⟨D3, bs, rfl, SqL.of eD3, ?_⟩
            have lt : ((W.take k).take (xs.take k).length) = W.take k := by
              rw [List.length_take, List.take_of_length_le]
              rw [List.length_take]
              omega
            rw [lt] at ra
            have ba : badAt W k = bs.any id := by
              unfold badAt
              rw [gk, ra]
            cases eb : bs.any id with
            | true =>
              refine ⟨_, rfl, iteT ?_⟩
              rw [ind_no kl (ba.trans eb)] at q'
              exact q' _ (s1.trans (s07.trans s8))
            | false =>
              refine ⟨_, rfl, iteF ⟨s07.trans s8, fun k' hk' => ?_, _, _, _, _, rfl⟩⟩
              rcases Nat.lt_or_ge k' k with h | h
              · exact ok k' h
              · obtain rfl : k' = k := by omega
                exact ba.trans eb
          · rintro σ H3 ⟨s3, ok, y1, y2, y3, y4, rfl⟩
            rw [ind_yes fun k hk => ok k (by omega)] at q'
            exact q' H3 (s1.trans s3)
      | _ => exact (Bool.false_ne_true tb).elim

/-! ### the least number, by trying all -/
def Cvd (ps : List (Int × Int)) (t : Int × Int) : Prop := ∀ p, t.1 ≤ p → p ≤ t.2 → ∃ q ∈ ps, t.1 ≤ q.1 ∧ q.1 ≤ p ∧ p ≤ q.2 ∧ q.2 ≤ t.2
def frS (x y f : Int) (q : Int × Int) : Int := if (x ≤ q.1 ∧ q.1 ≤ f) ∧ q.2 ≤ y then (if q.2 + 1 > f then q.2 + 1 else f) else f
def fr (x y : Int) (l : List (Int × Int)) (f : Int) : Int := l.foldl (frS x y) f
theorem frS_le (x y f : Int) (q : Int × Int) : f ≤ frS x y f q := by
  unfold frS
  split
  · split <;> omega
  · omega
theorem fr_le (x y : Int) : ∀ (l : List (Int × Int)) (f : Int), f ≤ fr x y l f
  | [], f => Int.le_refl _
  | q :: l, f => Int.le_trans (frS_le x y f q) (fr_le x y l _)
theorem fr_cov (x y : Int) : ∀ (l : List (Int × Int)) (f p : Int), f ≤ p → p < fr x y l f → ∃ q ∈ l, x ≤ q.1 ∧ q.1 ≤ p ∧ p ≤ q.2 ∧ q.2 ≤ y
  | [], f, p, h1, h2 => absurd h2 (by show ¬ p < f; omega)
  | q :: l, f, p, h1, h2 => by
    by_cases c : frS x y f q ≤ p
    · obtain ⟨r, hr, k⟩ := fr_cov x y l _ p c h2
      exact ⟨r, List.mem_cons_of_mem _ hr, k⟩
    · unfold frS at c
      split at c
      · split at c
        · exact ⟨q, List.mem_cons_self, by omega⟩
        · omega
      · omega
theorem fr_stop (x y : Int) : ∀ (l : List (Int × Int)) (f : Int), (∀ r ∈ l, f < r.1) → fr x y l f = f
  | [], f, _ => rfl
  | q :: l, f, h => by
    have e : frS x y f q = f := by
      unfold frS
      rw [if_neg]
      have := h q List.mem_cons_self
      omega
    show fr x y l (frS x y f q) = f
    rw [e]
    exact fr_stop x y l f fun r hr => h r (List.mem_cons_of_mem _ hr)
theorem fr_out (x y : Int) : ∀ (l : List (Int × Int)) (f : Int), l.Pairwise leP → ∀ q ∈ l, x ≤ q.1 → q.2 ≤ y → ¬ (q.1 ≤ fr x y l f ∧ fr x y l f ≤ q.2)
  | [], _, _, _, h, _, _ => nomatch h
  | r :: l, f, asc, q, hq, a, b => by
    have p := List.pairwise_cons.mp asc
    show ¬ (q.1 ≤ fr x y l (frS x y f r) ∧ fr x y l (frS x y f r) ≤ q.2)
    rcases List.mem_cons.mp hq with rfl | hq
    · by_cases c : q.1 ≤ f
      · have := fr_le x y l (frS x y f q)
        have e : q.2 + 1 ≤ frS x y f q := by
          unfold frS
          rw [if_pos ⟨⟨a, c⟩, b⟩]
          split <;> omega
        omega
      · have e : frS x y f q = f := by
          unfold frS
          rw [if_neg]
          omega
        rw [e, fr_stop x y l f fun r hr => by
          have := p.1 r hr
          unfold leP at this
          omega]
        omega
    · exact fr_out x y l _ p.2 q hq a b
theorem fr_ok {x y : Int} {l ps : List (Int × Int)} (asc : l.Pairwise leP) (pm : l.Perm ps) : y < fr x y l x ↔ Cvd ps (x, y) := by
  constructor
  · intro h p h1 h2
    obtain ⟨q, hq, k⟩ := fr_cov x y l x p h1 (by have h2 : p ≤ y := h2; omega)
    exact ⟨q, pm.mem_iff.mp hq, k⟩
  · intro h
    by_cases c : y < fr x y l x
    · exact c
    · obtain ⟨q, hq, k1, k2, k3, k4⟩ := h (fr x y l x) (fr_le x y l x) (by show fr x y l x ≤ y; omega)
      exact absurd ⟨k2, k3⟩ (fr_out x y l x asc q (pm.mem_iff.mpr hq) k1 k4)
def sp_law_covers : Sp := fun vs H Q _ => ∃ (a t : Addr) (us : List V) (ps : List (Int × Int)) (x y : Int), vs = [.ref a, .ref t] ∧ H a = some (.tup us) ∧ Ivs H us ps ∧ H t = some (.tup [.int x, .int y]) ∧
  ∀ H' b, Same H H' → (b = true ↔ Cvd ps (x, y)) → Q (.bl b) H'
theorem noPart_of {σ : L2.St} {H : Hp} {Q : Option Int → Hp → Prop} (h : Q none H) : tNoPart σ H Q := h
/-! ### ascending tuples of any kind -/
theorem lcZs {K : PySem.W.Frag} {a b : Addr} {xs ys : List V} {g : TG} {tt : TT} {te : TE} {vs : List Nat} {σ : L2.St} {H1 : Hp} {D : Addr} {Qd : Hp → Prop} (R : Nat → Hp → List V → Prop) (nD : H1 D = none) (ha : ∀ H', Same H1 H' → SqT K H' a xs) (hb : ∀ H', Same H1 H' → SqT K H' b ys) (few : xs.length < 1000)
    (mono : ∀ i H' H'' ws, Tps H' H'' → R i H' ws → R i H'' ws) (len : ∀ i H' ws, R i H' ws → ws.length ≤ i) (r0 : ∀ H', R 0 H' [])
    (hs : ∀ i x y T H' (N : Hp → Prop) acc, xs[i]? = some x → ys[i]? = some y → Same H1 H' → H' T = some (.tup [x, y]) → H' D = some (.lst acc) → acc.length < sizeLine → R i H' acc → (∀ H'', Same H' H'' → R (i + 1) H'' acc → N H'') → (∀ H'' y, Same H' H'' → R (i + 1) H'' (acc ++ [y]) → ∃ acc', H'' D = some (.lst acc') ∧ acc'.length < sizeLine ∧ N (upd H'' D (.lst (acc' ++ [y])))) →
      g (.ref T) (wipe σ vs) H' fun σ2 H2 => wipe σ2 vs = wipe σ vs ∧ tt σ2 H2 fun b H3 => if b = true then te σ2 H3 fun y H4 => ∃ acc, H4 D = some (.lst acc) ∧ acc.length < sizeLine ∧ N (upd H4 D (.lst (acc ++ [y]))) else N H3)
    (hd : ∀ i H' ws, (xs.length ≤ i ∨ ys.length ≤ i) → Same H1 H' → H' D = some (.lst ws) → R i H' ws → Qd H') :
    ∃ W : Nat → Nat → Hp → Prop, (∃ m, W 0 m (upd H1 D (.lst []))) ∧ ∀ i m H, W i m H →
      ((RZ.ItzT K a b).stop i H ∧ Qd H) ∨ ((RZ.ItzT K a b).go i H ∧ ∃ Nx : Hp → Prop, (∀ H', Nx H' → ∃ m', m' < m ∧ W (i + 1) m' H') ∧ ∀ x H', (RZ.ItzT K a b).yld i H x H' → g x (wipe σ vs) H' fun σ2 H2 => wipe σ2 vs = wipe σ vs ∧ tt σ2 H2 fun b H3 =>
        if b = true then te σ2 H3 fun y H4 => ∃ acc, H4 D = some (.lst acc) ∧ acc.length < sizeLine ∧ Nx (upd H4 D (.lst (acc ++ [y]))) else Nx H3) := by
  refine ⟨fun i m H => m = xs.length - i ∧ i ≤ xs.length ∧ Same H1 H ∧ ∃ ws, H D = some (.lst ws) ∧ R i H ws, ⟨_, rfl, Nat.zero_le _, same_new nD, [], upd_same, r0 _⟩, ?_⟩
  rintro i m H ⟨rfl, hi, sm, ws, eD, r⟩
  have q1 := ha H sm
  have q2 := hb H sm
  by_cases c : i < xs.length ∧ i < ys.length
  · refine .inr ⟨⟨xs, ys, xs[i]'c.1, ys[i]'c.2, q1, q2, List.getElem?_eq_getElem c.1, List.getElem?_eq_getElem c.2⟩, (fun H => i + 1 ≤ xs.length ∧ Same H1 H ∧ ∃ ws, H D = some (.lst ws) ∧ R (i + 1) H ws), fun H' p' => ⟨xs.length - (i + 1), by omega, rfl, p'⟩, fun v H' hy => ?_⟩
    obtain ⟨T, x, y, rfl, nT, rfl, f1, f2⟩ := hy
    have sT := same_new (o := .tup [x, y]) nT
    have lw := len i H ws r
    have sz : ws.length < sizeLine := few_line (by omega)
    refine hs i x y T _ _ ws (f1 xs q1) (f2 ys q2) (sm.trans sT) upd_same (sT _ _ eD) sz (mono _ _ _ _ (Tps.same sT) r) (fun H'' s r2 => ⟨c.1, sm.trans (sT.trans s), ws, s _ _ (sT _ _ eD), r2⟩) (fun H'' y s r2 => ?_)
    exact ⟨ws, s _ _ (sT _ _ eD), sz, c.1, same_off nD (sm.trans (sT.trans s)), _, upd_same, mono _ _ _ _ (Tps.lst (s _ _ (sT _ _ eD))) r2⟩
  · exact .inl ⟨⟨xs, ys, q1, q2, by omega⟩, hd i H ws (by omega) sm eD r⟩
def nxt (ds : List PyData) : List (PyData × PyData) := ds.zip (ds.drop 1)
def risL (ds : List PyData) : Bool := (nxt ds).all fun p => PySem.W.dataLt p.1 p.2
def ascB (pB : PyData → Bool) : PyData → Bool
  | .tuple ds => ds.all pB && risL ds
  | _ => false
theorem asc_not {pB : PyData → Bool} {d : PyData} (h : tupB d = false) : ascB pB d = false := by
  cases d with
  | tuple ds => cases h
  | _ => rfl
theorem nxt_get {ds : List PyData} {j : Nat} {d e : PyData} (h1 : ds[j]? = some d) (h2 : (ds.drop 1)[j]? = some e) : (nxt ds)[j]? = some (d, e) := List.getElem?_zip_eq_some.mpr ⟨h1, h2⟩
theorem nxt_len (ds : List PyData) : (nxt ds).length = ds.length - 1 := by
  unfold nxt
  rw [List.length_zip, List.length_drop]
  omega
theorem nxt_all {ds : List PyData} {j : Nat} (h : ds.length ≤ j ∨ (ds.drop 1).length ≤ j) : (nxt ds).take j = nxt ds := by
  refine List.take_of_length_le ?_
  rw [nxt_len]
  rw [List.length_drop] at h
  omega
theorem iv_alike {d e : PyData} (h1 : ivB d = true) (h2 : ivB e = true) : PySem.W.alike d e = true := by
  obtain ⟨x, y, rfl⟩ := iv_shape h1
  obtain ⟨u, v, rfl⟩ := iv_shape h2
  rfl
theorem iv_fine {d : PyData} (h : ivB d = true) : d ≠ .none ∧ d.depth ≤ 60 ∧ d.canLay0 = true := by
  obtain ⟨x, y, rfl⟩ := iv_shape h
  exact ⟨(fun z => nomatch z), by show 1 ≤ 60; decide, rfl⟩
theorem dem_alike {d e : PyData} (h1 : demB d = true) (h2 : demB e = true) : PySem.W.alike d e = true := by
  obtain ⟨p, x, y, rfl, _⟩ := dem_shape h1
  obtain ⟨q, u, v, rfl, _⟩ := dem_shape h2
  rfl
theorem dem_fine {d : PyData} (h : demB d = true) : d ≠ .none ∧ d.depth ≤ 60 ∧ d.canLay0 = true := by
  obtain ⟨p, x, y, rfl, _⟩ := dem_shape h
  exact ⟨(fun z => nomatch z), by show 2 ≤ 60; decide, rfl⟩
def sp_any (K : PySem.W.Frag) (pB : PyData → Bool) : Sp := fun vs H Q _ => ∃ (v : V) (d : PyData), vs = [v] ∧ Dv K H v d ∧ Q (.bl (pB d)) H
def sp_is_ascending (K : PySem.W.Frag) (fi : Addr) (pB : PyData → Bool) : Sp := fun vs H Q _ => ∃ (v : V) (d : PyData) (B L : Nat), vs = [v, .ref fi] ∧ Dv K H v d ∧ Fine B L d ∧ L ≤ 50 ∧ ∀ H', Same H H' → Q (.bl (ascB pB d)) H'
theorem ok_is_ascending (T : Tx K mg f_depth_changes f_find_blocks f_is_number f_is_position f_is_tuple_of f_is_interval f_is_ascending f_has_position f_contains f_intersect f_is_demand f_serves f_conflict f_is_independent f_demands_at_blocks f_is_open f_open_demands f_shadow_target f_pieces_inside f_first_gap f_generates f_find_missing f_without_item f_require_few_blocks f_decisive_demands f_largest_independent f_unserved_demands f_helpful_piece f_smallest_solution f_count_needed f_solve f_are_witnesses f_solution_holds f_helps f_helpful_interval f_has_open_demand f_widen f_essential_targets f_core_targets f_is_free f_growth_counts f_law_draws f_law_next f_law_blocks f_law_wide f_law_call f_law_raised f_law_judged f_law f_TooWide_init X_TooWide X_NotGenerated X_OutOfRange X_TooMany X_SpanError d_depth_changes d_find_blocks d_is_number d_is_position d_is_tuple_of d_is_interval d_is_ascending d_has_position d_contains d_intersect d_is_demand d_serves d_conflict d_is_independent d_demands_at_blocks d_is_open d_open_demands d_shadow_target d_pieces_inside d_first_gap d_generates d_find_missing d_without_item d_require_few_blocks d_decisive_demands d_largest_independent d_unserved_demands d_helpful_piece d_smallest_solution d_count_needed d_solve d_are_witnesses d_solution_holds d_helps d_helpful_interval d_has_open_demand d_widen d_essential_targets d_core_targets d_is_free d_growth_counts d_law_draws d_law_next d_law_blocks d_law_wide d_law_call d_law_raised d_law_judged d_law d_TooWide_init t_LAST_POSITION t_MAX_BLOCKS) {fi : Addr} {fdi : FuncData} {psi : List Str} {kf : Nat} (pB : PyData → Bool) (al : ∀ {d e : PyData}, pB d = true → pB e = true → PySem.W.alike d e = true) (fn : ∀ {d : PyData}, pB d = true → d ≠ .none ∧ d.depth ≤ 60 ∧ d.canLay0 = true) (F : FnOk P w K mg base CX0 kf fi fdi psi (sp_any K pB)) (hkf : kf ≤ 4) (hk : PySem.W.keepIn K (.ref fi) = true) (hb : Binds K fdi psi []) : FnOk P w K mg base CX0 5 f_is_ascending d_is_ascending ["value", "is_item"] (sp_is_ascending K fi pB) := by
  refine T.F_is_ascending.ok sc_is_ascending (fun vs H Q E h => ?_) (fun cdv A outer s H vs Q E hr h => ?_)
  · obtain ⟨v, d, B, L, rfl, _⟩ := h
    rfl
  · obtain ⟨v, d, B, L, rfl, hd, fine, l50, q⟩ := h
    refine ⟨_, (pss_cons (ps_if (PW.pt (pw_or (pt_not (pt_val (pe_callB call_isi (by rfl) T.z_isinstance (by decide +kernel) (pa_cons (pv 0) (pa_cons (pe_bltn (v := .ty "tuple") (u := .type "tuple") (by rfl) T.z_tuple (by decide +kernel) rfl) pa_nil))))) (pw_or1 (pt_not (pt_val (pe_callB (cr_all rfl) (by rfl) T.z_all (by decide +kernel) (pa_cons (pe_lc (own := [("item", 2)]) (g := (gName 2)) (tt := tYes) (by rfl) sc_is_ascending.nd (pi_tup (pv 0)) (blkOk_by (own := [("item", 2)]) (N := N_is_ascending) (sc := defScope s_is_ascending) (by decide +kernel)) (fun _ _ _ _ _ => (pg_name (i := 2) sc_is_ascending.nd rfl (Or.inl rfl))) (fun _ _ _ _ _ => pts_nil) (fun _ _ _ _ _ => (pe_callL (i := 1) F (hr.mono (by omega)) (by rfl) (by first | exact Or.inl rfl | exact Or.inr (Or.inl rfl) | exact Or.inr (Or.inr rfl)) hk hb .nil pass0 (pa_cons (pv 2) pa_nil)))) pa_nil)))))))
      (pss_one (ps_ret pe_bl))
      pss_nil)
      (pss_one (ps_ret (pe_callB (cr_all rfl) (by rfl) T.z_all (by decide +kernel) (pa_cons (pe_lc (own := [("before", 3), ("item", 2)]) (g := (gTup K 2 (gCons (gName 3) (gCons (gName 2) gNil)))) (tt := tYes) (by rfl) sc_is_ascending.nd (RZ.pi_zipA (by rfl) T.z_zip (pa_cons (pv 0) (pa_cons (pe_slice sl_tupA (pv 0) (po_some pe_int) po_none) pa_nil))) (blkOk_by (own := [("before", 3), ("item", 2)]) (N := N_is_ascending) (sc := defScope s_is_ascending) (by decide +kernel)) (fun _ _ _ _ _ => (pg_tup rfl (pgs_cons (pg_name (i := 3) sc_is_ascending.nd rfl (Or.inl rfl)) (pgs_cons (pg_name (i := 2) sc_is_ascending.nd rfl (Or.inl rfl)) pgs_nil)))) (fun _ _ _ _ _ => pts_nil) (fun _ _ _ _ _ => (pe_cmpR (show OpR _ (compareOp .Lt) (rLtDt K) from (op_ltDt hr.units)) (pv 3) (pv 2) (nomark _)))) pa_nil))))), ?_⟩
    refine ⟨v, rfl, v, .ty "tuple", _, _, _, rfl, .ty "tuple", hd.ty, kit_tup d, _, rfl, ?_⟩
    cases tb : tupB d with
    | false =>
      rw [asc_not tb] at q
      exact iteT (iteT (q H (Same.refl _)))
    | true =>
      refine iteF ?_
      cases hd with
      | @tup a us ds ha all =>
        have lx := all.length
        have ll := fine.len
        have q' : ∀ H', Same H H' → Q (.bl (ds.all pB && risL ds)) H' := q
        refine ⟨.ref a, rfl, a, rfl, ⟨_, SqT.of ha⟩, fun D nD => ?_⟩
        refine lcT (K := K) (a := a) (xs := us) (fun j H' ws => ws = ((ds.take j).map pB).map V.bl) nD (fun H' s => SqT.of (s _ _ (ha))) (by omega) (fun _ _ _ _ t r => r) (fun j H' ws r => (by rw [r, List.length_map, List.length_map]; exact List.length_take_le _ _)) (fun _ => rfl) ?_ ?_
        · rintro j z H' N acc hj sm eA sz rr no yes
          obtain ⟨x, ex, hx⟩ := all.get hj
          refine ⟨rfl, rfl, z, rfl, z, x, rfl, dv_same sm hx, yes H' _ (Same.refl _) ?_⟩
          rw [rr, List.take_add_one, ex, List.map_append, List.map_append]
          rfl
        intro H1 ws s1 eD rr
        rw [lx, List.take_length] at rr
        subst rr
        refine ⟨D, _, rfl, SqL.of eD, ?_⟩
        have eqall : (ds.map pB).all id = ds.all pB := by rw [List.all_map]; rfl
        rw [eqall]
        cases ea : ds.all pB with
        | false =>
          refine ⟨_, rfl, iteT ?_⟩
          rw [ea] at q'
          exact q' H1 s1
        | true =>
          rw [ea] at q'
          refine ⟨_, rfl, iteF ?_⟩
          have pall := List.all_eq_true.mp ea
          have ha1 := s1 _ _ ha
          refine ⟨.ref a, rfl, .ref a, rfl, 1, rfl, ?_⟩
          refine noPart_of ?_
          refine slA_any ha1 (fun H2 sl s2 esl => ?_)
          rw [show (1 : Int) = ((1 : Nat) : Int) from rfl, cutFrom] at esl
          have s12 := s1.trans s2
          have ha2 := s2 _ _ ha1
          refine ⟨a, sl, _, _, rfl, .inr ⟨SqT.of ha2, SqT.of esl, fun D2 nD2 => ?_⟩⟩
          refine lcZs (K := K) (a := a) (b := sl) (xs := us) (ys := us.drop 1) (fun j H' ws => ws = (((nxt ds).take j).map fun p => PySem.W.dataLt p.1 p.2).map V.bl) nD2 (fun H' s => SqT.of (s _ _ ha2)) (fun H' s => SqT.of (s _ _ esl)) (by omega) (fun _ _ _ _ _ h => h) (fun i H' ws h => by rw [h, List.length_map, List.length_map]; exact List.length_take_le _ _) (fun _ => rfl) ?_ ?_
          · rintro j u v TT H' N acc hu hv sm eT eD2 sz r no yes
            obtain ⟨d1, f1, h1⟩ := all.get hu
            obtain ⟨d2, f2, h2⟩ := (dvAll_drop' all 1).get hv
            have st := s12.trans sm
            have p1 := pall d1 (List.mem_of_getElem? f1)
            have p2 := pall d2 (List.mem_of_mem_drop (List.mem_of_getElem? f2))
            have g1 := fn p1
            refine ⟨TT, _, rfl, SqT.of eT, rfl, u, [v], rfl, v, [], rfl, rfl, rfl, u, rfl, v, rfl, d1, d2, (dv_same st h1).dp g1.2.2, (dv_same st h2).dp (fn p2).2.2, al p1 p2, g1.1, g1.2.1, ?_⟩
            refine yes H' _ (Same.refl _) ?_
            rw [r, List.take_add_one, nxt_get f1 f2, List.map_append, List.map_append]
            rfl
          · rintro j H' ws jl sm eD2 r
            rw [List.length_drop, lx, ← List.length_drop] at jl
            rw [nxt_all jl] at r
            subst r
            refine ⟨D2, _, rfl, SqL.of eD2, ?_⟩
            have e2 : ((nxt ds).map fun p => PySem.W.dataLt p.1 p.2).all id = risL ds := by rw [List.all_map]; rfl
            rw [e2]
            exact q' H' (s12.trans sm)
      | _ => exact (Bool.false_ne_true tb).elim
def dsOf : PyData → List PyData
  | .tuple ds => ds
  | _ => []
def witB (ts ps : List (Int × Int)) (d : PyData) : Bool := ascB demB d && (indL ((dsOf d).map toDem) && ((dsOf d).map toDem).all fun z => decide (z.2 ∈ ts) && opB ps z)
def sp_are_witnesses (K : PySem.W.Frag) : Sp := fun vs H Q _ => ∃ (a b : Addr) (v : V) (us ws : List V) (ts ps : List (Int × Int)) (d : PyData) (B L : Nat), vs = [.ref a, .ref b, v] ∧ H a = some (.tup us) ∧ Ivs H us ts ∧ H b = some (.tup ws) ∧ Ivs H ws ps ∧ ps.length < 900 ∧ Dv K H v d ∧ Fine B L d ∧ L ≤ 50 ∧ d.weight ≤ 100000 ∧
  ∀ H', Same H H' → Q (.bl (witB ts ps d)) H'
theorem ok_are_witnesses (T : Tx K mg f_depth_changes f_find_blocks f_is_number f_is_position f_is_tuple_of f_is_interval f_is_ascending f_has_position f_contains f_intersect f_is_demand f_serves f_conflict f_is_independent f_demands_at_blocks f_is_open f_open_demands f_shadow_target f_pieces_inside f_first_gap f_generates f_find_missing f_without_item f_require_few_blocks f_decisive_demands f_largest_independent f_unserved_demands f_helpful_piece f_smallest_solution f_count_needed f_solve f_are_witnesses f_solution_holds f_helps f_helpful_interval f_has_open_demand f_widen f_essential_targets f_core_targets f_is_free f_growth_counts f_law_draws f_law_next f_law_blocks f_law_wide f_law_call f_law_raised f_law_judged f_law f_TooWide_init X_TooWide X_NotGenerated X_OutOfRange X_TooMany X_SpanError d_depth_changes d_find_blocks d_is_number d_is_position d_is_tuple_of d_is_interval d_is_ascending d_has_position d_contains d_intersect d_is_demand d_serves d_conflict d_is_independent d_demands_at_blocks d_is_open d_open_demands d_shadow_target d_pieces_inside d_first_gap d_generates d_find_missing d_without_item d_require_few_blocks d_decisive_demands d_largest_independent d_unserved_demands d_helpful_piece d_smallest_solution d_count_needed d_solve d_are_witnesses d_solution_holds d_helps d_helpful_interval d_has_open_demand d_widen d_essential_targets d_core_targets d_is_free d_growth_counts d_law_draws d_law_next d_law_blocks d_law_wide d_law_call d_law_raised d_law_judged d_law d_TooWide_init t_LAST_POSITION t_MAX_BLOCKS) : FnOk P w K mg base CX0 6 f_are_witnesses d_are_witnesses ["targets", "pieces", "value"] (sp_are_witnesses K) := by
  refine T.F_are_witnesses.ok sc_are_witnesses (fun vs H Q E h => ?_) (fun cdv A outer s H vs Q E hr h => ?_)
  · obtain ⟨a, b, v, us, ws, ts, ps, d, B, L, rfl, _⟩ := h
    rfl
  · obtain ⟨a, b, v, us, ws, ts, ps, d, B, L, rfl, ha, ivt, hb, ivp, l2, hd, fine, l50, wt, q⟩ := h
    refine ⟨_, (pss_cons (ps_if (pt_not (pt_val (pe_call (ok_is_ascending T demB dem_alike dem_fine (ok_is_demand T) (by decide) T.F_is_demand.kp T.b_is_demand) (hr.mono (by decide)) (by rfl) T.g_is_ascending T.F_is_ascending.kp T.b_is_ascending .nil pass0 (pa_cons (pv 2) (pa_cons (pe_glob (v := .ref f_is_demand) (by rfl) T.g_is_demand rfl) pa_nil)))))
      (pss_one (ps_ret pe_bl))
      pss_nil)
      (pss_one (ps_ret (pe_and (pe_call (ok_is_independent T) (hr.mono (by decide)) (by rfl) T.g_is_independent T.F_is_independent.kp T.b_is_independent .nil pass0 (pa_cons (pv 2) pa_nil)) (pe_one (pe_callB (cr_all rfl) (by rfl) T.z_all (by decide +kernel) (pa_cons (pe_lc (own := [("demand", 3)]) (g := (gName 3)) (tt := tYes) (by rfl) sc_are_witnesses.nd (pi_tup (pv 2)) (blkOk_by (own := [("demand", 3)]) (N := N_are_witnesses) (sc := defScope s_are_witnesses) (by decide +kernel)) (fun _ _ _ _ _ => (pg_name (i := 3) sc_are_witnesses.nd rfl (Or.inl rfl))) (fun _ _ _ _ _ => pts_nil) (fun _ _ _ _ _ => (pe_and (pe_cmpR (show OpR _ (compareOp .In) (rInT K) from (op_inT (units65 hr))) (pe_ix (show IxR _ (rIxT K) from ix_tup) (pv 3) pe_int (fun _ _ => rfl)) (pv 0) (by rfl)) (pe_one (pe_call (ok_is_open T) (hr.mono (by decide)) (by rfl) T.g_is_open T.F_is_open.kp T.b_is_open .nil pass0 (pa_cons (pv 1) (pa_cons (pv 3) pa_nil))))))) pa_nil))))))), ?_⟩
    refine ⟨v, rfl, v, d, B, L, rfl, hd, fine, l50, fun H1 s1 => ⟨_, rfl, ?_⟩⟩
    have q' : ∀ H', Same H H' → Q (.bl (ascB demB d && (indL ((dsOf d).map toDem) && ((dsOf d).map toDem).all fun z => decide (z.2 ∈ ts) && opB ps z))) H' := q
    cases ea : ascB demB d with
    | false =>
      rw [ea] at q'
      exact iteT (q' H1 s1)
    | true =>
      rw [ea] at q'
      refine iteF ?_
      have hd1 := dv_same s1 hd
      refine ⟨v, rfl, v, d, rfl, hd1, wt, fun H2 s2 => ?_⟩
      have s12 := s1.trans s2
      have hd2 := dv_same s2 hd1
      cases hd2 with
      | @tup w zs ds hv all =>
        have ab := Bool.and_eq_true_iff.mp (show (ds.all demB && risL ds) = true from ea)
        have dm := dems_of all ab.1
        have ei : indB (.tuple ds) = indL (ds.map toDem) := by
          show (ds.all demB && _) = _
          rw [ab.1, Bool.true_and]
        have q2 : ∀ H', Same H H' → Q (.bl (indL (ds.map toDem) && (ds.map toDem).all fun z => decide (z.2 ∈ ts) && opB ps z)) H' := q'
        rw [ei]
        generalize ds.map toDem = W at *
        have lW := dm.length
        have ll := fine.len
        have lx := all.length
        cases ci : indL W with
        | false =>
          rw [ci] at q2
          exact ⟨_, rfl, iteF (q2 H2 s12)⟩
        | true =>
          rw [ci] at q2
          refine ⟨_, rfl, iteT ?_⟩
          refine ⟨.ref w, rfl, w, rfl, ⟨_, SqT.of hv⟩, fun D nD => ?_⟩
          refine lcT (K := K) (a := w) (xs := zs) (fun j H' ws => ws = ((W.take j).map fun z => decide (z.2 ∈ ts) && opB ps z).map V.bl) nD (fun H' s => SqT.of (s _ _ (hv))) (by omega) (fun _ _ _ _ t r => r) (fun j H' ws r => (by rw [r, List.length_map, List.length_map]; exact List.length_take_le _ _)) (fun _ => rfl) ?_ ?_
          · rintro j z H' N acc hj sm eA sz rr no yes
            have sj := s12.trans sm
            obtain ⟨p, lo, hi, ed, dz⟩ := dm.get hj
            have dzj := dz.same sm
            obtain ⟨u, t, rfl, e1, e2⟩ := dzj.ex
            refine ⟨rfl, .ref u, rfl, u, _, 1, .ref t, rfl, rfl, SqT.of e1, rfl, .ref a, rfl, .tuple [.int lo, .int hi], ts.map pairD, dp2 e2, .tup (SqT.of (sj _ _ ha)) (ivt.same sj).dp, rfl, shaped_pairs _, ?_⟩
            rw [any_pair]
            have nx : ∀ bb, bb = (decide ((lo, hi) ∈ ts) && opB ps (p, lo, hi)) → acc ++ [V.bl bb] = ((W.take (j + 1)).map fun z => decide (z.2 ∈ ts) && opB ps z).map V.bl := fun bb e => by
              rw [rr, List.take_add_one, ed, List.map_append, List.map_append, e]
              rfl
            cases cm : decide ((lo, hi) ∈ ts) with
            | false =>
              refine ⟨_, rfl, iteF (yes H' _ (Same.refl _) (nx _ ?_))⟩
              rw [cm]
              rfl
            | true =>
              refine ⟨_, rfl, iteT ?_⟩
              refine ⟨.ref b, rfl, .ref u, rfl, b, .ref u, ws, ps, p, lo, hi, rfl, sj _ _ hb, ivp.same sj, by omega, dzj, fun H3 s3 => ?_⟩
              refine yes H3 _ s3 (nx _ ?_)
              rw [cm]
              rfl
          intro H3 ws3 s3 eD rr
          rw [lW, List.take_length] at rr
          subst rr
          refine ⟨D, _, rfl, SqL.of eD, ?_⟩
          have eqall : ∀ f : Dem → Bool, (W.map f).all id = W.all f := fun f => by rw [List.all_map]; rfl
          rw [eqall]
          exact q2 H3 (s12.trans s3)
      | _ => cases ea
/-! ### a solution among values of any kind -/
def toPair : PyData → Int × Int
  | .tuple [.int x, .int y] => (x, y)
  | _ => (0, 0)
theorem ivs_of {K : PySem.W.Frag} {H : Hp} : ∀ {xs : List V} {ds : List PyData}, DvAll K H xs ds → ds.all ivB = true → Ivs H xs (ds.map toPair)
  | _, _, .nil, _ => .nil
  | _, _, .cons a b, h => by
    rw [List.all_cons] at h
    have h := Bool.and_eq_true_iff.mp h
    obtain ⟨x, y, rfl⟩ := iv_shape h.1
    obtain ⟨t, rfl, ht⟩ := a.asPair
    exact .cons ht (ivs_of b h.2)
theorem iv_ok {x y : Int} (h : ivB (.tuple [.int x, .int y]) = true) : 0 ≤ x ∧ x ≤ y ∧ y ≤ 1000000000000 := by
  have h4 : (inB 0 1000000000000 (.int x) && (inB 0 1000000000000 (.int y) && leB (.int x) (.int y))) = true := h
  have h5 := Bool.and_eq_true_iff.mp h4
  have h6 := Bool.and_eq_true_iff.mp h5.2
  have h7 := Bool.and_eq_true_iff.mp (show (decide ((0 : Int) ≤ x) && decide (x ≤ 1000000000000)) = true from h5.1)
  have h8 := Bool.and_eq_true_iff.mp (show (decide ((0 : Int) ≤ y) && decide (y ≤ 1000000000000)) = true from h6.1)
  exact ⟨of_decide_eq_true h7.1, of_decide_eq_true h6.2, of_decide_eq_true h8.2⟩
theorem pairs_ok {ds : List PyData} (h : ds.all ivB = true) : ∀ q ∈ ds.map toPair, 0 ≤ q.1 ∧ q.1 ≤ q.2 ∧ q.2 ≤ 1000000000000 := fun q hq => by
  obtain ⟨d, hd, rfl⟩ := List.mem_map.mp hq
  have hi := List.all_eq_true.mp h d hd
  obtain ⟨x, y, rfl⟩ := iv_shape hi
  exact iv_ok hi
noncomputable def covB (ps ts : List (Int × Int)) : Bool := @decide (∀ t ∈ ts, Cvd ps t) (Classical.propDecidable _)
theorem covB_iff {ps ts : List (Int × Int)} : covB ps ts = true ↔ ∀ t ∈ ts, Cvd ps t := by
  unfold covB
  exact @decide_eq_true_iff _ (Classical.propDecidable _)
theorem cov_miss {ps ts : List (Int × Int)} : covB ps ts = true ↔ missO ps ts = none := by
  rw [covB_iff, missO_none]
  constructor
  · intro h t ht
    exact gapO_eq (show IsGap ps t.1 t.2 none from fun p h1 h2 => by
      obtain ⟨q, hq, q1, q2, q3, q4⟩ := h t ht p h1 h2
      exact ⟨q, hq, ⟨q1, q4⟩, q2, q3⟩)
  · intro h t ht p h1 h2
    have g := gapO_spec ps t
    rw [h t ht] at g
    obtain ⟨q, hq, k1, k2⟩ := (show ∀ p, t.1 ≤ p → p ≤ t.2 → covI ps t.1 t.2 p from g) p h1 h2
    exact ⟨q, hq, k1.1, k2.1, k2.2, k1.2⟩
noncomputable def holdB (ts ps : List (Int × Int)) : PyData → Bool
  | .tuple [a, b] => (ascB ivB a && witB ts ps b) && (decide ((dsOf a).length = (dsOf b).length) && covB (ps ++ (dsOf a).map toPair) ts)
  | _ => false
theorem hold_two {ts ps : List (Int × Int)} {d : PyData} (h : ¬ tlB 2 d = true) : holdB ts ps d = false := by
  match d, h with
  | .tuple [a, b], h => exact absurd rfl h
  | .tuple [], _ => rfl
  | .tuple [_], _ => rfl
  | .tuple (_ :: _ :: _ :: l), _ => rfl
  | .none, _ => rfl
  | .bool _, _ => rfl
  | .int _, _ => rfl
  | .str _, _ => rfl
  | .list _, _ => rfl
  | .dict _, _ => rfl
def sp_solution_holds (K : PySem.W.Frag) : Sp := fun vs H Q _ => ∃ (a b : Addr) (v : V) (us ws : List V) (ts ps : List (Int × Int)) (d : PyData) (B L : Nat), vs = [.ref a, .ref b, v] ∧ H a = some (.tup us) ∧ Ivs H us ts ∧ Tg ts ∧ H b = some (.tup ws) ∧ Ivs H ws ps ∧ ps.length ≤ 13 ∧ Pc ps ∧ Dv K H v d ∧ Fine B L d ∧ L ≤ 50 ∧ d.weight ≤ 100000 ∧
  ∀ H', Same H H' → Q (.bl (holdB ts ps d)) H'
theorem ok_solution_holds (T : Tx K mg f_depth_changes f_find_blocks f_is_number f_is_position f_is_tuple_of f_is_interval f_is_ascending f_has_position f_contains f_intersect f_is_demand f_serves f_conflict f_is_independent f_demands_at_blocks f_is_open f_open_demands f_shadow_target f_pieces_inside f_first_gap f_generates f_find_missing f_without_item f_require_few_blocks f_decisive_demands f_largest_independent f_unserved_demands f_helpful_piece f_smallest_solution f_count_needed f_solve f_are_witnesses f_solution_holds f_helps f_helpful_interval f_has_open_demand f_widen f_essential_targets f_core_targets f_is_free f_growth_counts f_law_draws f_law_next f_law_blocks f_law_wide f_law_call f_law_raised f_law_judged f_law f_TooWide_init X_TooWide X_NotGenerated X_OutOfRange X_TooMany X_SpanError d_depth_changes d_find_blocks d_is_number d_is_position d_is_tuple_of d_is_interval d_is_ascending d_has_position d_contains d_intersect d_is_demand d_serves d_conflict d_is_independent d_demands_at_blocks d_is_open d_open_demands d_shadow_target d_pieces_inside d_first_gap d_generates d_find_missing d_without_item d_require_few_blocks d_decisive_demands d_largest_independent d_unserved_demands d_helpful_piece d_smallest_solution d_count_needed d_solve d_are_witnesses d_solution_holds d_helps d_helpful_interval d_has_open_demand d_widen d_essential_targets d_core_targets d_is_free d_growth_counts d_law_draws d_law_next d_law_blocks d_law_wide d_law_call d_law_raised d_law_judged d_law d_TooWide_init t_LAST_POSITION t_MAX_BLOCKS) : FnOk P w K mg base CX0 7 f_solution_holds d_solution_holds ["targets", "pieces", "value"] (sp_solution_holds K) := by
  refine T.F_solution_holds.ok sc_solution_holds (fun vs H Q E h => ?_) (fun cdv A outer s H vs Q E hr h => ?_)
  · obtain ⟨a, b, v, us, ws, ts, ps, d, B, L, rfl, _⟩ := h
    rfl
  · obtain ⟨a, b, v, us, ws, ts, ps, d, B, L, rfl, ha, ivt, tg, hb, ivp, l1, pcp, hd, fine, l50, wt, q⟩ := h
    refine ⟨_, (pss_cons (ps_if (pt_not (pt_val (pe_call (ok_is_tuple_of T) (hr.mono (by decide)) (by rfl) T.g_is_tuple_of T.F_is_tuple_of.kp T.b_is_tuple_of .nil pass0 (pa_cons (pv 2) (pa_cons pe_int pa_nil)))))
      (pss_one (ps_ret pe_bl))
      pss_nil)
      (pss_cons (ps_asg (pv 2) (pg_tup rfl (pgs_cons (pg_name (i := 3) sc_solution_holds.nd rfl (Or.inl rfl)) (pgs_cons (pg_name (i := 4) sc_solution_holds.nd rfl (Or.inl rfl)) pgs_nil))))
      (pss_cons (ps_if (PW.pt (pw_or (pt_not (pt_val (pe_call (ok_is_ascending T ivB iv_alike iv_fine (ok_is_interval T) (by decide) T.F_is_interval.kp T.b_is_interval) (hr.mono (by decide)) (by rfl) T.g_is_ascending T.F_is_ascending.kp T.b_is_ascending .nil pass0 (pa_cons (pv 3) (pa_cons (pe_glob (v := .ref f_is_interval) (by rfl) T.g_is_interval rfl) pa_nil))))) (pw_or1 (pt_not (pt_val (pe_call (ok_are_witnesses T) (hr.mono (by decide)) (by rfl) T.g_are_witnesses T.F_are_witnesses.kp T.b_are_witnesses .nil pass0 (pa_cons (pv 0) (pa_cons (pv 1) (pa_cons (pv 4) pa_nil)))))))))
      (pss_one (ps_ret pe_bl))
      pss_nil)
      (pss_one (ps_ret (pe_and (pe_cmpR op_eq (pe_callB call_len_seq (by rfl) T.z_len PySem.boot_len (pa_cons (pv 3) pa_nil)) (pe_callB call_len_seq (by rfl) T.z_len PySem.boot_len (pa_cons (pv 4) pa_nil)) (nomark _)) (pe_one (pe_cmpR op_isN (pe_call (ok_find_missing T) (hr.mono (by decide)) (by rfl) T.g_find_missing T.F_find_missing.kp T.b_find_missing .nil pass0 (pa_cons (pv 0) (pa_cons (pe_op op_catA (pv 1) (pv 3)) pa_nil))) pe_non (nomark _))))))))), ?_⟩
    have lw := ivp.length
    refine ⟨v, rfl, v, d, 2, rfl, hd, _, rfl, ?_⟩
    by_cases tb : tlB 2 d = true
    · rw [tb]
      refine iteF ?_
      obtain ⟨d1, d2, rfl⟩ := tl_two tb
      cases hd with
      | @tup r xs ds e all =>
        match xs, all, e, q with
        | [v1, v2], .cons h1 (.cons h2 .nil), e, q =>
          have q' : ∀ H', Same H H' → Q (.bl ((ascB ivB d1 && witB ts ps d2) && (decide ((dsOf d1).length = (dsOf d2).length) && covB (ps ++ (dsOf d1).map toPair) ts))) H' := q
          have f1 := fine.mem d1 List.mem_cons_self
          have f2 := fine.mem d2 (List.mem_cons_of_mem _ List.mem_cons_self)
          have w2 := wAll_mem (a := [d1, d2]) (x := d2) (List.mem_cons_of_mem _ List.mem_cons_self)
          have wt' : PyData.weightAll [d1, d2] ≤ 100000 := wt
          refine ⟨.ref r, rfl, r, _, rfl, SqT.of e, rfl, v1, [v2], rfl, v2, [], rfl, rfl, ?_⟩
          refine ⟨v1, rfl, v1, d1, B, L, rfl, h1, f1, l50, fun H1 s1 => ⟨_, rfl, ?_⟩⟩
          cases ea : ascB ivB d1 with
          | false =>
            rw [ea] at q'
            exact iteT (q' H1 s1)
          | true =>
            rw [ea] at q'
            refine iteF ?_
            refine ⟨.ref a, rfl, .ref b, rfl, v2, rfl, a, b, v2, us, ws, ts, ps, d2, B, L, rfl, s1 _ _ ha, ivt.same s1, s1 _ _ hb, ivp.same s1, by omega, dv_same s1 h2, f2, l50, by omega, fun H2 s2 => ⟨_, rfl, ?_⟩⟩
            have s12 := s1.trans s2
            cases ew : witB ts ps d2 with
            | false =>
              rw [ew] at q'
              exact iteT (q' H2 s12)
            | true =>
              rw [ew] at q'
              refine iteF ?_
              have t2 := (Bool.and_eq_true_iff.mp (show (ascB demB d2 && _) = true from ew)).1
              have h1 := dv_same s12 h1
              have h2 := dv_same s12 h2
              cases h1 with
              | @tup x zs es hx allx =>
                cases h2 with
                | @tup y wv fs hy ally =>
                  have lz := allx.length
                  have lwv := ally.length
                  have q2 : ∀ H', Same H H' → Q (.bl (decide (es.length = fs.length) && covB (ps ++ es.map toPair) ts)) H' := q'
                  have ab := Bool.and_eq_true_iff.mp (show (es.all ivB && risL es) = true from ea)
                  have iva := ivs_of allx ab.1
                  have okA := pairs_ok ab.1
                  have lA := iva.length
                  have le := f1.len
                  generalize es.map toPair = A at *
                  refine ⟨.ref x, rfl, x, zs, rfl, .inr (SqT.of hx), .ref y, rfl, y, wv, rfl, .inr (SqT.of hy), rfl, ?_⟩
                  have el : decide (V.int (zs.length : Nat) = V.int (wv.length : Nat)) = decide (es.length = fs.length) := by
                    rw [lz, lwv]
                    by_cases z : es.length = fs.length
                    · rw [decide_eq_true z, decide_eq_true (by rw [z])]
                    · rw [decide_eq_false z, decide_eq_false (fun y => z (by have := V.int.inj y; omega))]
                  rw [el]
                  cases ec : decide (es.length = fs.length) with
                  | false =>
                    rw [ec] at q2
                    exact ⟨_, rfl, iteF (q2 H2 s12)⟩
                  | true =>
                    rw [ec] at q2
                    refine ⟨_, rfl, iteT ?_⟩
                    refine ⟨.ref a, rfl, .ref b, rfl, .ref x, rfl, catA_any (s12 _ _ hb) hx (by rw [show sizeLine = 16777216 by decide]; omega) (fun H3 pc s3 epc => ?_)⟩
                    have s13 := s12.trans s3
                    have pcA : Pc (ps ++ A) := fun q hq => by
                      rcases List.mem_append.mp hq with h | h
                      · exact pcp q h
                      · have := okA q h
                        refine ⟨⟨this.1, this.2.1⟩, ?_⟩
                        exact Int.lt_of_le_of_lt this.2.2 (by decide)
                    refine ⟨a, pc, us, ws ++ zs, ts, ps ++ A, rfl, s13 _ _ ha, ivt.same s13, tg, epc, ((ivp.same s12).append iva).same s3, pcA, by rw [List.length_append]; omega, fun H4 v s4 dv => ?_⟩
                    have s14 := s13.trans s4
                    cases em : missO (ps ++ A) ts with
                    | none =>
                      rw [em] at dv
                      have dv : v = .non := dv
                      subst dv
                      rw [cov_miss.mpr em] at q2
                      exact ⟨rfl, q2 H4 s14⟩
                    | some z =>
                      rw [em] at dv
                      have cn : covB (ps ++ A) ts = false := by
                        rw [← Bool.not_eq_true, cov_miss, em]
                        intro z
                        cases z
                      rw [cn] at q2
                      obtain ⟨g, lo, hi⟩ := z
                      obtain ⟨uu, tt, rfl, _, _⟩ := dv
                      exact ⟨rfl, q2 H4 s14⟩
                | _ => cases t2
              | _ => cases ea
    · rw [hold_two tb] at q
      rw [Bool.not_eq_true] at tb
      rw [tb]
      exact iteT (q H (Same.refl _))

/-! ### too many blocks -/
/-- what an error of the class X with one field does -/
def OneE (E : XK) (H : Hp) (X : Addr) (f : Str) (v : V) : Prop := ∀ d H', H d = none → H' d = some (.xd [(f, v)]) → Same H H' → E (.ref X) (some d) H'
theorem OneE.same {E : XK} {H H' : Hp} {X : Addr} {f : Str} {v : V} (h : OneE E H X f v) (s : Same H H') : OneE E H' X f v := fun d H2 nd e s2 => h d H2 (s.free nd) e (s.trans s2)
theorem ok_TooWide_init (T : Tx K mg f_depth_changes f_find_blocks f_is_number f_is_position f_is_tuple_of f_is_interval f_is_ascending f_has_position f_contains f_intersect f_is_demand f_serves f_conflict f_is_independent f_demands_at_blocks f_is_open f_open_demands f_shadow_target f_pieces_inside f_first_gap f_generates f_find_missing f_without_item f_require_few_blocks f_decisive_demands f_largest_independent f_unserved_demands f_helpful_piece f_smallest_solution f_count_needed f_solve f_are_witnesses f_solution_holds f_helps f_helpful_interval f_has_open_demand f_widen f_essential_targets f_core_targets f_is_free f_growth_counts f_law_draws f_law_next f_law_blocks f_law_wide f_law_call f_law_raised f_law_judged f_law f_TooWide_init X_TooWide X_NotGenerated X_OutOfRange X_TooMany X_SpanError d_depth_changes d_find_blocks d_is_number d_is_position d_is_tuple_of d_is_interval d_is_ascending d_has_position d_contains d_intersect d_is_demand d_serves d_conflict d_is_independent d_demands_at_blocks d_is_open d_open_demands d_shadow_target d_pieces_inside d_first_gap d_generates d_find_missing d_without_item d_require_few_blocks d_decisive_demands d_largest_independent d_unserved_demands d_helpful_piece d_smallest_solution d_count_needed d_solve d_are_witnesses d_solution_holds d_helps d_helpful_interval d_has_open_demand d_widen d_essential_targets d_core_targets d_is_free d_growth_counts d_law_draws d_law_next d_law_blocks d_law_wide d_law_call d_law_raised d_law_judged d_law d_TooWide_init t_LAST_POSITION t_MAX_BLOCKS) : FnOk P w K mg base CX0 1 f_TooWide_init d_TooWide_init ["self", "bound"] (sp_exc_init K X_TooWide "bound") := by
  refine T.F_TooWide_init.ok sc_TooWide_init (fun vs H Q E h => ?_) (fun cdv A outer s H vs Q E hr h => ?_)
  · obtain ⟨a, v, rfl, _⟩ := h
    rfl
  · obtain ⟨a, v, rfl, ha, q⟩ := h
    refine ⟨_, (pss_one (ps_ost (pv 0) (pv 1))), ?_⟩
    exact ⟨v, rfl, .ref a, rfl, a, X_TooWide, rfl, T.xi_TooWide.ox, T.xi_TooWide.no, .inl ⟨ha, fun dx nd ne => q dx nd ne⟩⟩
structure Wide (ts ps : List (Int × Int)) : Prop where
  good : Good (ts ++ ps)
  fk : FewK (ts ++ ps)
  many : 8 < (blocksOf (ts ++ ps)).length
def spr_few (XW : Addr) : Sp := fun vs H _ E => ∃ (a : Addr) (us : List V) (row : List (Int × Int)), vs = [.ref a] ∧ H a = some (.tup us) ∧ Ivs H us row ∧ Good row ∧ FewK row ∧ 8 < (blocksOf row).length ∧ OneE E H XW "bound" (.int 8)
theorem okr_require_few_blocks (T : Tx K mg f_depth_changes f_find_blocks f_is_number f_is_position f_is_tuple_of f_is_interval f_is_ascending f_has_position f_contains f_intersect f_is_demand f_serves f_conflict f_is_independent f_demands_at_blocks f_is_open f_open_demands f_shadow_target f_pieces_inside f_first_gap f_generates f_find_missing f_without_item f_require_few_blocks f_decisive_demands f_largest_independent f_unserved_demands f_helpful_piece f_smallest_solution f_count_needed f_solve f_are_witnesses f_solution_holds f_helps f_helpful_interval f_has_open_demand f_widen f_essential_targets f_core_targets f_is_free f_growth_counts f_law_draws f_law_next f_law_blocks f_law_wide f_law_call f_law_raised f_law_judged f_law f_TooWide_init X_TooWide X_NotGenerated X_OutOfRange X_TooMany X_SpanError d_depth_changes d_find_blocks d_is_number d_is_position d_is_tuple_of d_is_interval d_is_ascending d_has_position d_contains d_intersect d_is_demand d_serves d_conflict d_is_independent d_demands_at_blocks d_is_open d_open_demands d_shadow_target d_pieces_inside d_first_gap d_generates d_find_missing d_without_item d_require_few_blocks d_decisive_demands d_largest_independent d_unserved_demands d_helpful_piece d_smallest_solution d_count_needed d_solve d_are_witnesses d_solution_holds d_helps d_helpful_interval d_has_open_demand d_widen d_essential_targets d_core_targets d_is_free d_growth_counts d_law_draws d_law_next d_law_blocks d_law_wide d_law_call d_law_raised d_law_judged d_law d_TooWide_init t_LAST_POSITION t_MAX_BLOCKS) : FnOk P w K mg base (L2.CX P w) 3 f_require_few_blocks d_require_few_blocks ["intervals"] (spr_few X_TooWide) := by
  refine T.F_require_few_blocks.okX sc_require_few_blocks (fun vs H Q E h => ?_) (fun cdv A outer s H vs Q E hr h => ?_)
  · obtain ⟨a, us, row, rfl, _⟩ := h
    rfl
  · obtain ⟨a, us, row, rfl, ha, iv, g, lr, many, q⟩ := h
    refine ⟨_, (pss_one (ps_if (pt_cmpR op_gt (pe_callB call_len_seq (by rfl) T.z_len PySem.boot_len (pa_cons (pe_call (ok_find_blocks T) (hr.mono (by decide)) (by rfl) T.g_find_blocks T.F_find_blocks.kp T.b_find_blocks .nil pass0 (pa_cons (pv 0) pa_nil)) pa_nil)) (pe_glob (v := .int 8) (by rfl) T.c_MAX_BLOCKS ⟨_, rfl⟩) (nomark _))
      (pss_one (ps_raise1 rfl (takes_of rfl rfl rfl rfl) T.xn_TooWide T.xi_TooWide (ok_TooWide_init T) (hr.mono (by decide)) T.b_TooWide_init (by rfl) (pa_cons (pe_glob (v := .int 8) (by rfl) T.c_MAX_BLOCKS ⟨_, rfl⟩) pa_nil)))
      pss_nil)), ?_⟩
    refine ⟨.ref a, rfl, a, us, row, rfl, ha, iv, g, lr, fun H1 b ws s1 eb ivb => ?_⟩
    refine ⟨b, ws, rfl, .inr (SqT.of eb), _, _, rfl, rfl, _, rfl, ite2 (fun _ => ?_) (fun c => absurd (decide_eq_true (by rw [ivb.length]; omega)) c)⟩
    exact ⟨.int 8, rfl, fun d nd => q d _ (s1.free nd) upd_same (s1.trans (same_new nd))⟩
theorem okx_require_few_blocks (T : Tx K mg f_depth_changes f_find_blocks f_is_number f_is_position f_is_tuple_of f_is_interval f_is_ascending f_has_position f_contains f_intersect f_is_demand f_serves f_conflict f_is_independent f_demands_at_blocks f_is_open f_open_demands f_shadow_target f_pieces_inside f_first_gap f_generates f_find_missing f_without_item f_require_few_blocks f_decisive_demands f_largest_independent f_unserved_demands f_helpful_piece f_smallest_solution f_count_needed f_solve f_are_witnesses f_solution_holds f_helps f_helpful_interval f_has_open_demand f_widen f_essential_targets f_core_targets f_is_free f_growth_counts f_law_draws f_law_next f_law_blocks f_law_wide f_law_call f_law_raised f_law_judged f_law f_TooWide_init X_TooWide X_NotGenerated X_OutOfRange X_TooMany X_SpanError d_depth_changes d_find_blocks d_is_number d_is_position d_is_tuple_of d_is_interval d_is_ascending d_has_position d_contains d_intersect d_is_demand d_serves d_conflict d_is_independent d_demands_at_blocks d_is_open d_open_demands d_shadow_target d_pieces_inside d_first_gap d_generates d_find_missing d_without_item d_require_few_blocks d_decisive_demands d_largest_independent d_unserved_demands d_helpful_piece d_smallest_solution d_count_needed d_solve d_are_witnesses d_solution_holds d_helps d_helpful_interval d_has_open_demand d_widen d_essential_targets d_core_targets d_is_free d_growth_counts d_law_draws d_law_next d_law_blocks d_law_wide d_law_call d_law_raised d_law_judged d_law d_TooWide_init t_LAST_POSITION t_MAX_BLOCKS) : FnOk P w K mg base (L2.CX P w) 3 f_require_few_blocks d_require_few_blocks ["intervals"] (fun vs H Q E => sp_few vs H Q E ∨ (spr_few X_TooWide) vs H Q E) := fn_or ((ok_require_few_blocks T).mono (by first | exact Nat.le_refl _ | decide)) (okr_require_few_blocks T)
def spr_count (XW : Addr) : Sp := fun vs H _ E => ∃ (a b : Addr) (us ws : List V) (ts ps : List (Int × Int)), vs = [.ref a, .ref b] ∧ H a = some (.tup us) ∧ H b = some (.tup ws) ∧ Ivs H us ts ∧ Ivs H ws ps ∧ Wide ts ps ∧ OneE E H XW "bound" (.int 8)
theorem okr_count_needed (T : Tx K mg f_depth_changes f_find_blocks f_is_number f_is_position f_is_tuple_of f_is_interval f_is_ascending f_has_position f_contains f_intersect f_is_demand f_serves f_conflict f_is_independent f_demands_at_blocks f_is_open f_open_demands f_shadow_target f_pieces_inside f_first_gap f_generates f_find_missing f_without_item f_require_few_blocks f_decisive_demands f_largest_independent f_unserved_demands f_helpful_piece f_smallest_solution f_count_needed f_solve f_are_witnesses f_solution_holds f_helps f_helpful_interval f_has_open_demand f_widen f_essential_targets f_core_targets f_is_free f_growth_counts f_law_draws f_law_next f_law_blocks f_law_wide f_law_call f_law_raised f_law_judged f_law f_TooWide_init X_TooWide X_NotGenerated X_OutOfRange X_TooMany X_SpanError d_depth_changes d_find_blocks d_is_number d_is_position d_is_tuple_of d_is_interval d_is_ascending d_has_position d_contains d_intersect d_is_demand d_serves d_conflict d_is_independent d_demands_at_blocks d_is_open d_open_demands d_shadow_target d_pieces_inside d_first_gap d_generates d_find_missing d_without_item d_require_few_blocks d_decisive_demands d_largest_independent d_unserved_demands d_helpful_piece d_smallest_solution d_count_needed d_solve d_are_witnesses d_solution_holds d_helps d_helpful_interval d_has_open_demand d_widen d_essential_targets d_core_targets d_is_free d_growth_counts d_law_draws d_law_next d_law_blocks d_law_wide d_law_call d_law_raised d_law_judged d_law d_TooWide_init t_LAST_POSITION t_MAX_BLOCKS) : FnOk P w K mg base (L2.CX P w) (lgN+5) f_count_needed d_count_needed ["targets", "pieces"] (spr_count X_TooWide) := by
  refine T.F_count_needed.okX sc_count_needed (fun vs H Q E h => ?_) (fun cdv A outer s H vs Q E hr h => ?_)
  · obtain ⟨a, b, us, ws, ts, ps, rfl, _⟩ := h
    rfl
  · obtain ⟨a, b, us, ws, ts, ps, rfl, ha, hb, ivt, ivp, g, q⟩ := h
    refine ⟨_, (pss_cons (ps_expr (pe_callS (okx_require_few_blocks T) (hr.mono (by decide)) (by rfl) T.g_require_few_blocks T.F_require_few_blocks.kp T.b_require_few_blocks (fun σ => passAt (takes_of rfl rfl rfl rfl) σ) (pa_cons (pe_op op_catA (pv 0) (pv 1)) pa_nil))) (PSs.nox (pss_one (ps_ret (pe_callB call_len_seq (by rfl) T.z_len PySem.boot_len (pa_cons (pe_call (ok_largest_independent T) (hr.mono (by decide)) (by rfl) T.g_largest_independent T.F_largest_independent.kp T.b_largest_independent .nil pass0 (pa_cons (pe_call (ok_decisive_demands T) (hr.mono (by decide)) (by rfl) T.g_decisive_demands T.F_decisive_demands.kp T.b_decisive_demands .nil pass0 (pa_cons (pv 0) (pa_cons (pv 1) pa_nil))) pa_nil)) pa_nil)))))), ?_⟩
    have l60 : ts.length + ps.length ≤ 60 := by rw [← List.length_append]; exact g.fk.le
    have lu := ivt.length
    have lw := ivp.length
    refine ⟨.ref a, rfl, .ref b, rfl, catA_any ha hb (by rw [show sizeLine = 16777216 by decide]; omega) (fun H1 c s1 ec => ?_)⟩
    exact .inr ⟨c, us ++ ws, ts ++ ps, rfl, ec, (ivt.same s1).append (ivp.same s1), g.good, g.fk, g.many, q.same s1⟩
theorem okx_count_needed (T : Tx K mg f_depth_changes f_find_blocks f_is_number f_is_position f_is_tuple_of f_is_interval f_is_ascending f_has_position f_contains f_intersect f_is_demand f_serves f_conflict f_is_independent f_demands_at_blocks f_is_open f_open_demands f_shadow_target f_pieces_inside f_first_gap f_generates f_find_missing f_without_item f_require_few_blocks f_decisive_demands f_largest_independent f_unserved_demands f_helpful_piece f_smallest_solution f_count_needed f_solve f_are_witnesses f_solution_holds f_helps f_helpful_interval f_has_open_demand f_widen f_essential_targets f_core_targets f_is_free f_growth_counts f_law_draws f_law_next f_law_blocks f_law_wide f_law_call f_law_raised f_law_judged f_law f_TooWide_init X_TooWide X_NotGenerated X_OutOfRange X_TooMany X_SpanError d_depth_changes d_find_blocks d_is_number d_is_position d_is_tuple_of d_is_interval d_is_ascending d_has_position d_contains d_intersect d_is_demand d_serves d_conflict d_is_independent d_demands_at_blocks d_is_open d_open_demands d_shadow_target d_pieces_inside d_first_gap d_generates d_find_missing d_without_item d_require_few_blocks d_decisive_demands d_largest_independent d_unserved_demands d_helpful_piece d_smallest_solution d_count_needed d_solve d_are_witnesses d_solution_holds d_helps d_helpful_interval d_has_open_demand d_widen d_essential_targets d_core_targets d_is_free d_growth_counts d_law_draws d_law_next d_law_blocks d_law_wide d_law_call d_law_raised d_law_judged d_law d_TooWide_init t_LAST_POSITION t_MAX_BLOCKS) : FnOk P w K mg base (L2.CX P w) (lgN+5) f_count_needed d_count_needed ["targets", "pieces"] (fun vs H Q E => sp_count vs H Q E ∨ (spr_count X_TooWide) vs H Q E) := fn_or ((ok_count_needed T).mono (by first | exact Nat.le_refl _ | decide)) (okr_count_needed T)
theorem okr_solve (T : Tx K mg f_depth_changes f_find_blocks f_is_number f_is_position f_is_tuple_of f_is_interval f_is_ascending f_has_position f_contains f_intersect f_is_demand f_serves f_conflict f_is_independent f_demands_at_blocks f_is_open f_open_demands f_shadow_target f_pieces_inside f_first_gap f_generates f_find_missing f_without_item f_require_few_blocks f_decisive_demands f_largest_independent f_unserved_demands f_helpful_piece f_smallest_solution f_count_needed f_solve f_are_witnesses f_solution_holds f_helps f_helpful_interval f_has_open_demand f_widen f_essential_targets f_core_targets f_is_free f_growth_counts f_law_draws f_law_next f_law_blocks f_law_wide f_law_call f_law_raised f_law_judged f_law f_TooWide_init X_TooWide X_NotGenerated X_OutOfRange X_TooMany X_SpanError d_depth_changes d_find_blocks d_is_number d_is_position d_is_tuple_of d_is_interval d_is_ascending d_has_position d_contains d_intersect d_is_demand d_serves d_conflict d_is_independent d_demands_at_blocks d_is_open d_open_demands d_shadow_target d_pieces_inside d_first_gap d_generates d_find_missing d_without_item d_require_few_blocks d_decisive_demands d_largest_independent d_unserved_demands d_helpful_piece d_smallest_solution d_count_needed d_solve d_are_witnesses d_solution_holds d_helps d_helpful_interval d_has_open_demand d_widen d_essential_targets d_core_targets d_is_free d_growth_counts d_law_draws d_law_next d_law_blocks d_law_wide d_law_call d_law_raised d_law_judged d_law d_TooWide_init t_LAST_POSITION t_MAX_BLOCKS) (hT : TabH base mg d_helpful_piece pT) : FnOk P w K mg base (L2.CX P w) (lgN+11) f_solve d_solve ["targets", "pieces"] (spr_count X_TooWide) := by
  refine T.F_solve.okX sc_solve (fun vs H Q E h => ?_) (fun cdv A outer s H vs Q E hr h => ?_)
  · obtain ⟨a, b, us, ws, ts, ps, rfl, _⟩ := h
    rfl
  · obtain ⟨a, b, us, ws, ts, ps, rfl, ha, hb, ivt, ivp, g, q⟩ := h
    refine ⟨_, (pss_cons (ps_expr (pe_callS (okx_require_few_blocks T) (hr.mono (by decide)) (by rfl) T.g_require_few_blocks T.F_require_few_blocks.kp T.b_require_few_blocks (fun σ => passAt (takes_of rfl rfl rfl rfl) σ) (pa_cons (pe_op op_catA (pv 0) (pv 1)) pa_nil))) (PSs.nox (pss_one (ps_ret (pe_call (ok_smallest_solution T hT) (hr.mono (by decide)) (by rfl) T.g_smallest_solution T.F_smallest_solution.kp T.b_smallest_solution .nil pass0 (pa_cons (pv 0) (pa_cons (pv 1) pa_nil))))))), ?_⟩
    have l60 : ts.length + ps.length ≤ 60 := by rw [← List.length_append]; exact g.fk.le
    have lu := ivt.length
    have lw := ivp.length
    refine ⟨.ref a, rfl, .ref b, rfl, catA_any ha hb (by rw [show sizeLine = 16777216 by decide]; omega) (fun H1 c s1 ec => ?_)⟩
    exact .inr ⟨c, us ++ ws, ts ++ ps, rfl, ec, (ivt.same s1).append (ivp.same s1), g.good, g.fk, g.many, q.same s1⟩
theorem okx_solve (T : Tx K mg f_depth_changes f_find_blocks f_is_number f_is_position f_is_tuple_of f_is_interval f_is_ascending f_has_position f_contains f_intersect f_is_demand f_serves f_conflict f_is_independent f_demands_at_blocks f_is_open f_open_demands f_shadow_target f_pieces_inside f_first_gap f_generates f_find_missing f_without_item f_require_few_blocks f_decisive_demands f_largest_independent f_unserved_demands f_helpful_piece f_smallest_solution f_count_needed f_solve f_are_witnesses f_solution_holds f_helps f_helpful_interval f_has_open_demand f_widen f_essential_targets f_core_targets f_is_free f_growth_counts f_law_draws f_law_next f_law_blocks f_law_wide f_law_call f_law_raised f_law_judged f_law f_TooWide_init X_TooWide X_NotGenerated X_OutOfRange X_TooMany X_SpanError d_depth_changes d_find_blocks d_is_number d_is_position d_is_tuple_of d_is_interval d_is_ascending d_has_position d_contains d_intersect d_is_demand d_serves d_conflict d_is_independent d_demands_at_blocks d_is_open d_open_demands d_shadow_target d_pieces_inside d_first_gap d_generates d_find_missing d_without_item d_require_few_blocks d_decisive_demands d_largest_independent d_unserved_demands d_helpful_piece d_smallest_solution d_count_needed d_solve d_are_witnesses d_solution_holds d_helps d_helpful_interval d_has_open_demand d_widen d_essential_targets d_core_targets d_is_free d_growth_counts d_law_draws d_law_next d_law_blocks d_law_wide d_law_call d_law_raised d_law_judged d_law d_TooWide_init t_LAST_POSITION t_MAX_BLOCKS) (hT : TabH base mg d_helpful_piece pT) : FnOk P w K mg base (L2.CX P w) (lgN+11) f_solve d_solve ["targets", "pieces"] (fun vs H Q E => (sp_solve pT) vs H Q E ∨ (spr_count X_TooWide) vs H Q E) := fn_or ((ok_solve T hT).mono (by first | exact Nat.le_refl _ | decide)) (okr_solve T hT)
theorem okr_helpful_interval (T : Tx K mg f_depth_changes f_find_blocks f_is_number f_is_position f_is_tuple_of f_is_interval f_is_ascending f_has_position f_contains f_intersect f_is_demand f_serves f_conflict f_is_independent f_demands_at_blocks f_is_open f_open_demands f_shadow_target f_pieces_inside f_first_gap f_generates f_find_missing f_without_item f_require_few_blocks f_decisive_demands f_largest_independent f_unserved_demands f_helpful_piece f_smallest_solution f_count_needed f_solve f_are_witnesses f_solution_holds f_helps f_helpful_interval f_has_open_demand f_widen f_essential_targets f_core_targets f_is_free f_growth_counts f_law_draws f_law_next f_law_blocks f_law_wide f_law_call f_law_raised f_law_judged f_law f_TooWide_init X_TooWide X_NotGenerated X_OutOfRange X_TooMany X_SpanError d_depth_changes d_find_blocks d_is_number d_is_position d_is_tuple_of d_is_interval d_is_ascending d_has_position d_contains d_intersect d_is_demand d_serves d_conflict d_is_independent d_demands_at_blocks d_is_open d_open_demands d_shadow_target d_pieces_inside d_first_gap d_generates d_find_missing d_without_item d_require_few_blocks d_decisive_demands d_largest_independent d_unserved_demands d_helpful_piece d_smallest_solution d_count_needed d_solve d_are_witnesses d_solution_holds d_helps d_helpful_interval d_has_open_demand d_widen d_essential_targets d_core_targets d_is_free d_growth_counts d_law_draws d_law_next d_law_blocks d_law_wide d_law_call d_law_raised d_law_judged d_law d_TooWide_init t_LAST_POSITION t_MAX_BLOCKS) (hT : TabH base mg d_helpful_piece pT) : FnOk P w K mg base (L2.CX P w) (lgN+10) f_helpful_interval d_helpful_interval ["targets", "pieces"] (spr_count X_TooWide) := by
  refine T.F_helpful_interval.okX sc_helpful_interval (fun vs H Q E h => ?_) (fun cdv A outer s H vs Q E hr h => ?_)
  · obtain ⟨a, b, us, ws, ts, ps, rfl, _⟩ := h
    rfl
  · obtain ⟨a, b, us, ws, ts, ps, rfl, ha, hb, ivt, ivp, g, q⟩ := h
    refine ⟨_, (pss_cons (ps_expr (pe_callS (okx_require_few_blocks T) (hr.mono (by decide)) (by rfl) T.g_require_few_blocks T.F_require_few_blocks.kp T.b_require_few_blocks (fun σ => passAt (takes_of rfl rfl rfl rfl) σ) (pa_cons (pe_op op_catA (pv 0) (pv 1)) pa_nil))) (PSs.nox (pss_cons (ps_set (i := 2) sc_helpful_interval.nd rfl (Or.inl rfl) (pe_call (ok_decisive_demands T) (hr.mono (by decide)) (by rfl) T.g_decisive_demands T.F_decisive_demands.kp T.b_decisive_demands .nil pass0 (pa_cons (pv 0) (pa_cons (pv 1) pa_nil))))
      (pss_one (ps_ret (pe_ifExp (pt_truth (pv 2) (by intro _; rfl)) (pe_call (ok_helpful_piece T hT) (hr.mono (by decide)) (by rfl) T.g_helpful_piece T.F_helpful_piece.kp T.b_helpful_piece .nil pass0 (pa_cons (pv 2) (pa_cons (pe_call (ok_find_blocks T) (hr.mono (by decide)) (by rfl) T.g_find_blocks T.F_find_blocks.kp T.b_find_blocks .nil pass0 (pa_cons (pe_op op_catA (pv 0) (pv 1)) pa_nil)) pa_nil))) pe_non)))))), ?_⟩
    have l60 : ts.length + ps.length ≤ 60 := by rw [← List.length_append]; exact g.fk.le
    have lu := ivt.length
    have lw := ivp.length
    refine ⟨.ref a, rfl, .ref b, rfl, catA_any ha hb (by rw [show sizeLine = 16777216 by decide]; omega) (fun H1 c s1 ec => ?_)⟩
    exact .inr ⟨c, us ++ ws, ts ++ ps, rfl, ec, (ivt.same s1).append (ivp.same s1), g.good, g.fk, g.many, q.same s1⟩
theorem okx_helpful_interval (T : Tx K mg f_depth_changes f_find_blocks f_is_number f_is_position f_is_tuple_of f_is_interval f_is_ascending f_has_position f_contains f_intersect f_is_demand f_serves f_conflict f_is_independent f_demands_at_blocks f_is_open f_open_demands f_shadow_target f_pieces_inside f_first_gap f_generates f_find_missing f_without_item f_require_few_blocks f_decisive_demands f_largest_independent f_unserved_demands f_helpful_piece f_smallest_solution f_count_needed f_solve f_are_witnesses f_solution_holds f_helps f_helpful_interval f_has_open_demand f_widen f_essential_targets f_core_targets f_is_free f_growth_counts f_law_draws f_law_next f_law_blocks f_law_wide f_law_call f_law_raised f_law_judged f_law f_TooWide_init X_TooWide X_NotGenerated X_OutOfRange X_TooMany X_SpanError d_depth_changes d_find_blocks d_is_number d_is_position d_is_tuple_of d_is_interval d_is_ascending d_has_position d_contains d_intersect d_is_demand d_serves d_conflict d_is_independent d_demands_at_blocks d_is_open d_open_demands d_shadow_target d_pieces_inside d_first_gap d_generates d_find_missing d_without_item d_require_few_blocks d_decisive_demands d_largest_independent d_unserved_demands d_helpful_piece d_smallest_solution d_count_needed d_solve d_are_witnesses d_solution_holds d_helps d_helpful_interval d_has_open_demand d_widen d_essential_targets d_core_targets d_is_free d_growth_counts d_law_draws d_law_next d_law_blocks d_law_wide d_law_call d_law_raised d_law_judged d_law d_TooWide_init t_LAST_POSITION t_MAX_BLOCKS) (hT : TabH base mg d_helpful_piece pT) : FnOk P w K mg base (L2.CX P w) (lgN+10) f_helpful_interval d_helpful_interval ["targets", "pieces"] (fun vs H Q E => (sp_hint pT) vs H Q E ∨ (spr_count X_TooWide) vs H Q E) := fn_or ((ok_helpful_interval T hT).mono (by first | exact Nat.le_refl _ | decide)) (okr_helpful_interval T hT)
def spr_helps (XW : Addr) : Sp := fun vs H _ E => ∃ (a b t : Addr) (us ws : List V) (ts ps : List (Int × Int)) (x y : Int), vs = [.ref a, .ref b, .ref t] ∧ H a = some (.tup us) ∧ H b = some (.tup ws) ∧ Ivs H us ts ∧ Ivs H ws ps ∧ H t = some (.tup [.int x, .int y]) ∧ Wide ts (ps ++ [(x, y)]) ∧ OneE E H XW "bound" (.int 8)
theorem okr_helps (T : Tx K mg f_depth_changes f_find_blocks f_is_number f_is_position f_is_tuple_of f_is_interval f_is_ascending f_has_position f_contains f_intersect f_is_demand f_serves f_conflict f_is_independent f_demands_at_blocks f_is_open f_open_demands f_shadow_target f_pieces_inside f_first_gap f_generates f_find_missing f_without_item f_require_few_blocks f_decisive_demands f_largest_independent f_unserved_demands f_helpful_piece f_smallest_solution f_count_needed f_solve f_are_witnesses f_solution_holds f_helps f_helpful_interval f_has_open_demand f_widen f_essential_targets f_core_targets f_is_free f_growth_counts f_law_draws f_law_next f_law_blocks f_law_wide f_law_call f_law_raised f_law_judged f_law f_TooWide_init X_TooWide X_NotGenerated X_OutOfRange X_TooMany X_SpanError d_depth_changes d_find_blocks d_is_number d_is_position d_is_tuple_of d_is_interval d_is_ascending d_has_position d_contains d_intersect d_is_demand d_serves d_conflict d_is_independent d_demands_at_blocks d_is_open d_open_demands d_shadow_target d_pieces_inside d_first_gap d_generates d_find_missing d_without_item d_require_few_blocks d_decisive_demands d_largest_independent d_unserved_demands d_helpful_piece d_smallest_solution d_count_needed d_solve d_are_witnesses d_solution_holds d_helps d_helpful_interval d_has_open_demand d_widen d_essential_targets d_core_targets d_is_free d_growth_counts d_law_draws d_law_next d_law_blocks d_law_wide d_law_call d_law_raised d_law_judged d_law d_TooWide_init t_LAST_POSITION t_MAX_BLOCKS) : FnOk P w K mg base (L2.CX P w) (lgN+6) f_helps d_helps ["targets", "pieces", "interval"] (spr_helps X_TooWide) := by
  refine T.F_helps.okX sc_helps (fun vs H Q E h => ?_) (fun cdv A outer s H vs Q E hr h => ?_)
  · obtain ⟨a, b, t, us, ws, ts, ps, x, y, rfl, _⟩ := h
    rfl
  · obtain ⟨a, b, t, us, ws, ts, ps, x, y, rfl, ha, hb, ivt, ivp, ht, g, q⟩ := h
    refine ⟨_, (pss_one (ps_ret (pe_cmpR op_lt (pe_callS (okx_count_needed T) (hr.mono (by decide)) (by rfl) T.g_count_needed T.F_count_needed.kp T.b_count_needed (fun σ => passAt (takes_of rfl rfl rfl rfl) σ) (pa_cons (pv 0) (pa_cons (pe_op op_catA (pv 1) (pe_tup (pa_cons (pv 2) pa_nil))) pa_nil))) (pe_callS (okx_count_needed T) (hr.mono (by decide)) (by rfl) T.g_count_needed T.F_count_needed.kp T.b_count_needed (fun σ => passAt (takes_of rfl rfl rfl rfl) σ) (pa_cons (pv 0) (pa_cons (pv 1) pa_nil))) (nomark _)))), ?_⟩
    have l60 := g.fk.le
    rw [List.length_append, List.length_append] at l60
    have lu := ivt.length
    have lw := ivp.length
    refine ⟨.ref a, rfl, .ref b, rfl, .ref t, rfl, by show 1 ≤ sizeLine; decide, fun u nu => ?_⟩
    have s1 := same_new (o := .tup [.ref t]) nu
    have eu := upd_same (H := H) (a := u) (o := .tup [.ref t])
    generalize upd H u (.tup [.ref t]) = H1 at *
    refine catA_any (s1 _ _ hb) eu (by rw [show sizeLine = 16777216 by decide]; show _ + 1 ≤ _; omega) (fun H2 c s2 ec => ?_)
    have s12 := s1.trans s2
    exact .inr ⟨a, c, us, ws ++ [.ref t], ts, ps ++ [(x, y)], rfl, s12 _ _ ha, ec, ivt.same s12, (ivp.same s12).snoc (s12 _ _ ht), g, q.same s12⟩
theorem okx_helps (T : Tx K mg f_depth_changes f_find_blocks f_is_number f_is_position f_is_tuple_of f_is_interval f_is_ascending f_has_position f_contains f_intersect f_is_demand f_serves f_conflict f_is_independent f_demands_at_blocks f_is_open f_open_demands f_shadow_target f_pieces_inside f_first_gap f_generates f_find_missing f_without_item f_require_few_blocks f_decisive_demands f_largest_independent f_unserved_demands f_helpful_piece f_smallest_solution f_count_needed f_solve f_are_witnesses f_solution_holds f_helps f_helpful_interval f_has_open_demand f_widen f_essential_targets f_core_targets f_is_free f_growth_counts f_law_draws f_law_next f_law_blocks f_law_wide f_law_call f_law_raised f_law_judged f_law f_TooWide_init X_TooWide X_NotGenerated X_OutOfRange X_TooMany X_SpanError d_depth_changes d_find_blocks d_is_number d_is_position d_is_tuple_of d_is_interval d_is_ascending d_has_position d_contains d_intersect d_is_demand d_serves d_conflict d_is_independent d_demands_at_blocks d_is_open d_open_demands d_shadow_target d_pieces_inside d_first_gap d_generates d_find_missing d_without_item d_require_few_blocks d_decisive_demands d_largest_independent d_unserved_demands d_helpful_piece d_smallest_solution d_count_needed d_solve d_are_witnesses d_solution_holds d_helps d_helpful_interval d_has_open_demand d_widen d_essential_targets d_core_targets d_is_free d_growth_counts d_law_draws d_law_next d_law_blocks d_law_wide d_law_call d_law_raised d_law_judged d_law d_TooWide_init t_LAST_POSITION t_MAX_BLOCKS) : FnOk P w K mg base (L2.CX P w) (lgN+6) f_helps d_helps ["targets", "pieces", "interval"] (fun vs H Q E => sp_helps vs H Q E ∨ (spr_helps X_TooWide) vs H Q E) := fn_or ((ok_helps T).mono (by first | exact Nat.le_refl _ | decide)) (okr_helps T)
def spr_free (XW : Addr) : Sp := fun vs H _ E => ∃ (a t : Addr) (us : List V) (ts : List (Int × Int)) (x y : Int), vs = [.ref a, .ref t] ∧ H a = some (.tup us) ∧ Ivs H us ts ∧ H t = some (.tup [.int x, .int y]) ∧ Wide (ts ++ [(x, y)]) [] ∧ OneE E H XW "bound" (.int 8)
theorem okr_is_free (T : Tx K mg f_depth_changes f_find_blocks f_is_number f_is_position f_is_tuple_of f_is_interval f_is_ascending f_has_position f_contains f_intersect f_is_demand f_serves f_conflict f_is_independent f_demands_at_blocks f_is_open f_open_demands f_shadow_target f_pieces_inside f_first_gap f_generates f_find_missing f_without_item f_require_few_blocks f_decisive_demands f_largest_independent f_unserved_demands f_helpful_piece f_smallest_solution f_count_needed f_solve f_are_witnesses f_solution_holds f_helps f_helpful_interval f_has_open_demand f_widen f_essential_targets f_core_targets f_is_free f_growth_counts f_law_draws f_law_next f_law_blocks f_law_wide f_law_call f_law_raised f_law_judged f_law f_TooWide_init X_TooWide X_NotGenerated X_OutOfRange X_TooMany X_SpanError d_depth_changes d_find_blocks d_is_number d_is_position d_is_tuple_of d_is_interval d_is_ascending d_has_position d_contains d_intersect d_is_demand d_serves d_conflict d_is_independent d_demands_at_blocks d_is_open d_open_demands d_shadow_target d_pieces_inside d_first_gap d_generates d_find_missing d_without_item d_require_few_blocks d_decisive_demands d_largest_independent d_unserved_demands d_helpful_piece d_smallest_solution d_count_needed d_solve d_are_witnesses d_solution_holds d_helps d_helpful_interval d_has_open_demand d_widen d_essential_targets d_core_targets d_is_free d_growth_counts d_law_draws d_law_next d_law_blocks d_law_wide d_law_call d_law_raised d_law_judged d_law d_TooWide_init t_LAST_POSITION t_MAX_BLOCKS) : FnOk P w K mg base (L2.CX P w) (lgN+6) f_is_free d_is_free ["targets", "interval"] (spr_free X_TooWide) := by
  refine T.F_is_free.okX sc_is_free (fun vs H Q E h => ?_) (fun cdv A outer s H vs Q E hr h => ?_)
  · obtain ⟨a, t, us, ts, x, y, rfl, _⟩ := h
    rfl
  · obtain ⟨a, t, us, ts, x, y, rfl, ha, iv, ht, g, q⟩ := h
    refine ⟨_, (pss_one (ps_ret (pe_cmpR op_eq (pe_callS (okx_count_needed T) (hr.mono (by decide)) (by rfl) T.g_count_needed T.F_count_needed.kp T.b_count_needed (fun σ => passAt (takes_of rfl rfl rfl rfl) σ) (pa_cons (pe_op op_catA (pv 0) (pe_tup (pa_cons (pv 1) pa_nil))) (pa_cons (pe_tup pa_nil) pa_nil))) (pe_callS (okx_count_needed T) (hr.mono (by decide)) (by rfl) T.g_count_needed T.F_count_needed.kp T.b_count_needed (fun σ => passAt (takes_of rfl rfl rfl rfl) σ) (pa_cons (pv 0) (pa_cons (pe_tup pa_nil) pa_nil))) (nomark _)))), ?_⟩
    have l60 := g.fk.le
    rw [List.append_nil, List.length_append] at l60
    have lu := iv.length
    refine ⟨.ref a, rfl, .ref t, rfl, by show 1 ≤ sizeLine; decide, fun u nu => ?_⟩
    have s1 := same_new (o := .tup [.ref t]) nu
    have eu := upd_same (H := H) (a := u) (o := .tup [.ref t])
    generalize upd H u (.tup [.ref t]) = H1 at *
    refine catA_any (s1 _ _ ha) eu (by rw [show sizeLine = 16777216 by decide]; show _ + 1 ≤ _; omega) (fun H2 c s2 ec => ?_)
    have s12 := s1.trans s2
    refine ⟨by show 0 ≤ sizeLine; decide, fun e ne => ?_⟩
    have s3 := same_new (o := .tup []) ne
    have ee := upd_same (H := H2) (a := e) (o := .tup [])
    generalize upd H2 e (.tup []) = H3 at *
    have s13 := s12.trans s3
    exact .inr ⟨c, e, us ++ [.ref t], [], ts ++ [(x, y)], [], rfl, s3 _ _ ec, ee, (iv.same s13).snoc (s13 _ _ ht), .nil, g, q.same s13⟩
theorem okx_is_free (T : Tx K mg f_depth_changes f_find_blocks f_is_number f_is_position f_is_tuple_of f_is_interval f_is_ascending f_has_position f_contains f_intersect f_is_demand f_serves f_conflict f_is_independent f_demands_at_blocks f_is_open f_open_demands f_shadow_target f_pieces_inside f_first_gap f_generates f_find_missing f_without_item f_require_few_blocks f_decisive_demands f_largest_independent f_unserved_demands f_helpful_piece f_smallest_solution f_count_needed f_solve f_are_witnesses f_solution_holds f_helps f_helpful_interval f_has_open_demand f_widen f_essential_targets f_core_targets f_is_free f_growth_counts f_law_draws f_law_next f_law_blocks f_law_wide f_law_call f_law_raised f_law_judged f_law f_TooWide_init X_TooWide X_NotGenerated X_OutOfRange X_TooMany X_SpanError d_depth_changes d_find_blocks d_is_number d_is_position d_is_tuple_of d_is_interval d_is_ascending d_has_position d_contains d_intersect d_is_demand d_serves d_conflict d_is_independent d_demands_at_blocks d_is_open d_open_demands d_shadow_target d_pieces_inside d_first_gap d_generates d_find_missing d_without_item d_require_few_blocks d_decisive_demands d_largest_independent d_unserved_demands d_helpful_piece d_smallest_solution d_count_needed d_solve d_are_witnesses d_solution_holds d_helps d_helpful_interval d_has_open_demand d_widen d_essential_targets d_core_targets d_is_free d_growth_counts d_law_draws d_law_next d_law_blocks d_law_wide d_law_call d_law_raised d_law_judged d_law d_TooWide_init t_LAST_POSITION t_MAX_BLOCKS) : FnOk P w K mg base (L2.CX P w) (lgN+6) f_is_free d_is_free ["targets", "interval"] (fun vs H Q E => sp_is_free vs H Q E ∨ (spr_free X_TooWide) vs H Q E) := fn_or ((ok_is_free T).mono (by first | exact Nat.le_refl _ | decide)) (okr_is_free T)
def spr_one (XW : Addr) : Sp := fun vs H _ E => ∃ (a : Addr) (us : List V) (ts : List (Int × Int)), vs = [.ref a] ∧ H a = some (.tup us) ∧ Ivs H us ts ∧ Wide ts [] ∧ ts.length ≤ 12 ∧ OneE E H XW "bound" (.int 8)
theorem okr_essential_targets (T : Tx K mg f_depth_changes f_find_blocks f_is_number f_is_position f_is_tuple_of f_is_interval f_is_ascending f_has_position f_contains f_intersect f_is_demand f_serves f_conflict f_is_independent f_demands_at_blocks f_is_open f_open_demands f_shadow_target f_pieces_inside f_first_gap f_generates f_find_missing f_without_item f_require_few_blocks f_decisive_demands f_largest_independent f_unserved_demands f_helpful_piece f_smallest_solution f_count_needed f_solve f_are_witnesses f_solution_holds f_helps f_helpful_interval f_has_open_demand f_widen f_essential_targets f_core_targets f_is_free f_growth_counts f_law_draws f_law_next f_law_blocks f_law_wide f_law_call f_law_raised f_law_judged f_law f_TooWide_init X_TooWide X_NotGenerated X_OutOfRange X_TooMany X_SpanError d_depth_changes d_find_blocks d_is_number d_is_position d_is_tuple_of d_is_interval d_is_ascending d_has_position d_contains d_intersect d_is_demand d_serves d_conflict d_is_independent d_demands_at_blocks d_is_open d_open_demands d_shadow_target d_pieces_inside d_first_gap d_generates d_find_missing d_without_item d_require_few_blocks d_decisive_demands d_largest_independent d_unserved_demands d_helpful_piece d_smallest_solution d_count_needed d_solve d_are_witnesses d_solution_holds d_helps d_helpful_interval d_has_open_demand d_widen d_essential_targets d_core_targets d_is_free d_growth_counts d_law_draws d_law_next d_law_blocks d_law_wide d_law_call d_law_raised d_law_judged d_law d_TooWide_init t_LAST_POSITION t_MAX_BLOCKS) : FnOk P w K mg base (L2.CX P w) (lgN+6) f_essential_targets d_essential_targets ["targets"] (spr_one X_TooWide) := by
  refine T.F_essential_targets.okX sc_essential_targets (fun vs H Q E h => ?_) (fun cdv A outer s H vs Q E hr h => ?_)
  · obtain ⟨a, us, ts, rfl, _⟩ := h
    rfl
  · obtain ⟨a, us, ts, rfl, ha, iv, g, l12, q⟩ := h
    refine ⟨_, (pss_cons (ps_set (i := 1) sc_essential_targets.nd rfl (Or.inr rfl) (pe_callS (okx_count_needed T) (hr.mono (by decide)) (by rfl) T.g_count_needed T.F_count_needed.kp T.b_count_needed (fun σ => passAt (takes_of rfl rfl rfl rfl) σ) (pa_cons (pv 0) (pa_cons (pe_tup pa_nil) pa_nil))))
      (pss_one (ps_ret (pe_callTy call_tuple_of (by rfl) T.z_tuple (by decide +kernel) (pa_cons (pe_lc (own := [("target", 2)]) (g := (gName 2)) (by rfl) sc_essential_targets.nd (pi_tup (pv 0)) (blkOk_by (own := [("target", 2)]) (N := N_essential_targets) (sc := defScope s_essential_targets) (by decide +kernel)) (fun _ _ _ _ _ => (pg_name (i := 2) sc_essential_targets.nd rfl (Or.inl rfl))) (fun _ _ _ _ _ => pts_one (pt_cmpR op_lt (pe_call (ok_count_needed T) (hr.mono (by decide)) (by rfl) T.g_count_needed T.F_count_needed.kp T.b_count_needed .nil pass0 (pa_cons (pe_call (ok_without_item T) (hr.mono (by decide)) (by rfl) T.g_without_item T.F_without_item.kp T.b_without_item .nil pass0 (pa_cons (pv 0) (pa_cons (pv 2) pa_nil))) (pa_cons (pe_tup pa_nil) pa_nil))) (pv 1) (nomark _))) (fun _ _ _ _ _ => (pv 2))) pa_nil))))), ?_⟩
    refine ⟨.ref a, rfl, by show 0 ≤ sizeLine; decide, fun e ne => ?_⟩
    have s1 := same_new (o := .tup []) ne
    have ee := upd_same (H := H) (a := e) (o := .tup [])
    generalize upd H e (.tup []) = H1 at *
    exact .inr ⟨a, e, us, [], ts, [], rfl, s1 _ _ ha, ee, iv.same s1, .nil, g, q.same s1⟩
theorem okx_essential_targets (T : Tx K mg f_depth_changes f_find_blocks f_is_number f_is_position f_is_tuple_of f_is_interval f_is_ascending f_has_position f_contains f_intersect f_is_demand f_serves f_conflict f_is_independent f_demands_at_blocks f_is_open f_open_demands f_shadow_target f_pieces_inside f_first_gap f_generates f_find_missing f_without_item f_require_few_blocks f_decisive_demands f_largest_independent f_unserved_demands f_helpful_piece f_smallest_solution f_count_needed f_solve f_are_witnesses f_solution_holds f_helps f_helpful_interval f_has_open_demand f_widen f_essential_targets f_core_targets f_is_free f_growth_counts f_law_draws f_law_next f_law_blocks f_law_wide f_law_call f_law_raised f_law_judged f_law f_TooWide_init X_TooWide X_NotGenerated X_OutOfRange X_TooMany X_SpanError d_depth_changes d_find_blocks d_is_number d_is_position d_is_tuple_of d_is_interval d_is_ascending d_has_position d_contains d_intersect d_is_demand d_serves d_conflict d_is_independent d_demands_at_blocks d_is_open d_open_demands d_shadow_target d_pieces_inside d_first_gap d_generates d_find_missing d_without_item d_require_few_blocks d_decisive_demands d_largest_independent d_unserved_demands d_helpful_piece d_smallest_solution d_count_needed d_solve d_are_witnesses d_solution_holds d_helps d_helpful_interval d_has_open_demand d_widen d_essential_targets d_core_targets d_is_free d_growth_counts d_law_draws d_law_next d_law_blocks d_law_wide d_law_call d_law_raised d_law_judged d_law d_TooWide_init t_LAST_POSITION t_MAX_BLOCKS) : FnOk P w K mg base (L2.CX P w) (lgN+6) f_essential_targets d_essential_targets ["targets"] (fun vs H Q E => sp_ess vs H Q E ∨ (spr_one X_TooWide) vs H Q E) := fn_or ((ok_essential_targets T).mono (by first | exact Nat.le_refl _ | decide)) (okr_essential_targets T)
theorem okr_core_targets (T : Tx K mg f_depth_changes f_find_blocks f_is_number f_is_position f_is_tuple_of f_is_interval f_is_ascending f_has_position f_contains f_intersect f_is_demand f_serves f_conflict f_is_independent f_demands_at_blocks f_is_open f_open_demands f_shadow_target f_pieces_inside f_first_gap f_generates f_find_missing f_without_item f_require_few_blocks f_decisive_demands f_largest_independent f_unserved_demands f_helpful_piece f_smallest_solution f_count_needed f_solve f_are_witnesses f_solution_holds f_helps f_helpful_interval f_has_open_demand f_widen f_essential_targets f_core_targets f_is_free f_growth_counts f_law_draws f_law_next f_law_blocks f_law_wide f_law_call f_law_raised f_law_judged f_law f_TooWide_init X_TooWide X_NotGenerated X_OutOfRange X_TooMany X_SpanError d_depth_changes d_find_blocks d_is_number d_is_position d_is_tuple_of d_is_interval d_is_ascending d_has_position d_contains d_intersect d_is_demand d_serves d_conflict d_is_independent d_demands_at_blocks d_is_open d_open_demands d_shadow_target d_pieces_inside d_first_gap d_generates d_find_missing d_without_item d_require_few_blocks d_decisive_demands d_largest_independent d_unserved_demands d_helpful_piece d_smallest_solution d_count_needed d_solve d_are_witnesses d_solution_holds d_helps d_helpful_interval d_has_open_demand d_widen d_essential_targets d_core_targets d_is_free d_growth_counts d_law_draws d_law_next d_law_blocks d_law_wide d_law_call d_law_raised d_law_judged d_law d_TooWide_init t_LAST_POSITION t_MAX_BLOCKS) : FnOk P w K mg base (L2.CX P w) (lgN+6) f_core_targets d_core_targets ["targets"] (spr_one X_TooWide) := by
  refine T.F_core_targets.okX sc_core_targets (fun vs H Q E h => ?_) (fun cdv A outer s H vs Q E hr h => ?_)
  · obtain ⟨a, us, ts, rfl, _⟩ := h
    rfl
  · obtain ⟨a, us, ts, rfl, ha, iv, g, l12, q⟩ := h
    refine ⟨_, (pss_cons (ps_set (i := 1) sc_core_targets.nd rfl (Or.inl rfl) (pe_callS (okx_count_needed T) (hr.mono (by decide)) (by rfl) T.g_count_needed T.F_count_needed.kp T.b_count_needed (fun σ => passAt (takes_of rfl rfl rfl rfl) σ) (pa_cons (pv 0) (pa_cons (pe_tup pa_nil) pa_nil))))
      (pss_cons (ps_set (i := 2) sc_core_targets.nd rfl (Or.inl rfl) (pv 0))
      (pss_cons (ps_for (passes_of rfl) rfl (pi_tup (pv 0)) (pg_name (i := 3) sc_core_targets.nd rfl (Or.inl rfl))
      (pss_cons (ps_set (i := 4) sc_core_targets.nd rfl (Or.inl rfl) (pe_call (ok_without_item T) (hr.mono (by decide)) (by rfl) T.g_without_item T.F_without_item.kp T.b_without_item .nil pass0 (pa_cons (pv 2) (pa_cons (pv 3) pa_nil))))
      (pss_one (ps_if (pt_cmpR op_eq (pe_callS (okx_count_needed T) (hr.mono (by decide)) (by rfl) T.g_count_needed T.F_count_needed.kp T.b_count_needed (fun σ => passAt (takes_of rfl rfl rfl rfl) σ) (pa_cons (pv 4) (pa_cons (pe_tup pa_nil) pa_nil))) (pv 1) (nomark _))
      (PSs.nox (pss_one (ps_set (i := 2) sc_core_targets.nd rfl (Or.inl rfl) (pv 4))))
      pss_nil)))) (PSs.nox (pss_one (ps_ret (pv 2))))))), ?_⟩
    refine ⟨.ref a, rfl, by show 0 ≤ sizeLine; decide, fun e ne => ?_⟩
    have s1 := same_new (o := .tup []) ne
    have ee := upd_same (H := H) (a := e) (o := .tup [])
    generalize upd H e (.tup []) = H1 at *
    exact .inr ⟨a, e, us, [], ts, [], rfl, s1 _ _ ha, ee, iv.same s1, .nil, g, q.same s1⟩
theorem okx_core_targets (T : Tx K mg f_depth_changes f_find_blocks f_is_number f_is_position f_is_tuple_of f_is_interval f_is_ascending f_has_position f_contains f_intersect f_is_demand f_serves f_conflict f_is_independent f_demands_at_blocks f_is_open f_open_demands f_shadow_target f_pieces_inside f_first_gap f_generates f_find_missing f_without_item f_require_few_blocks f_decisive_demands f_largest_independent f_unserved_demands f_helpful_piece f_smallest_solution f_count_needed f_solve f_are_witnesses f_solution_holds f_helps f_helpful_interval f_has_open_demand f_widen f_essential_targets f_core_targets f_is_free f_growth_counts f_law_draws f_law_next f_law_blocks f_law_wide f_law_call f_law_raised f_law_judged f_law f_TooWide_init X_TooWide X_NotGenerated X_OutOfRange X_TooMany X_SpanError d_depth_changes d_find_blocks d_is_number d_is_position d_is_tuple_of d_is_interval d_is_ascending d_has_position d_contains d_intersect d_is_demand d_serves d_conflict d_is_independent d_demands_at_blocks d_is_open d_open_demands d_shadow_target d_pieces_inside d_first_gap d_generates d_find_missing d_without_item d_require_few_blocks d_decisive_demands d_largest_independent d_unserved_demands d_helpful_piece d_smallest_solution d_count_needed d_solve d_are_witnesses d_solution_holds d_helps d_helpful_interval d_has_open_demand d_widen d_essential_targets d_core_targets d_is_free d_growth_counts d_law_draws d_law_next d_law_blocks d_law_wide d_law_call d_law_raised d_law_judged d_law d_TooWide_init t_LAST_POSITION t_MAX_BLOCKS) : FnOk P w K mg base (L2.CX P w) (lgN+6) f_core_targets d_core_targets ["targets"] (fun vs H Q E => sp_core vs H Q E ∨ (spr_one X_TooWide) vs H Q E) := fn_or ((ok_core_targets T).mono (by first | exact Nat.le_refl _ | decide)) (okr_core_targets T)
/-- blocks of a part -/
theorem blocks_sub {r1 r2 : List (Int × Int)} (g2 : Good r2) (h : ∀ q ∈ r1, q ∈ r2) : (blocksOf r1).length ≤ (blocksOf r2).length := by
  have g1 : Good r1 := fun q hq => g2 q (h q hq)
  have nd : ((blocksOf r1).map (·.1)).Nodup := List.pairwise_map.mpr ((blk_asc g1).imp fun {a b} k e => by
    have e : a.1 = b.1 := e
    omega)
  have le := nodup_le (m := (blocksOf r2).map (·.1)) nd fun x hx => by
    obtain ⟨b, hb, rfl⟩ := List.mem_map.mp hx
    have k := blk_of g1 hb
    obtain ⟨q, hq, d1, d2⟩ := k.dep
    obtain ⟨z, hz, z1, z2⟩ := dep_in g2 (pos := b.1) (dep_pos.mpr ⟨q, h q hq, d1, d2⟩)
    have kz := blk_of g2 hz
    obtain ⟨r, hr, er⟩ := k.lo
    refine List.mem_map.mpr ⟨z, hz, ?_⟩
    rcases Int.lt_or_eq_of_le z1 with lt | e
    · exact absurd ⟨r, h r hr, er⟩ (kz.gap b.1 lt z2)
    · exact e
  rw [List.length_map, List.length_map] at le
  exact le
theorem FewB.of {ts : List (Int × Int)} (g : Good ts) (h : (blocksOf ts).length ≤ 8) : FewB ts := fun l sub => by
  rw [List.append_nil]
  exact Nat.le_trans (blocks_sub g fun q hq => sub.mem hq) h
theorem FewK.part {row l r : List (Int × Int)} (h : FewK r) (e : r = row) (s : l.Sublist row) : FewK l := by
  subst e
  have := s.length_le
  rcases h with h | ⟨h, L, h1, h2⟩
  · exact .inl (by omega)
  · exact .inr ⟨by omega, L, h1, fun q hq => h2 q (s.mem hq)⟩
theorem least_of {p : Nat → Prop} : ∀ n : Nat, p n → ∃ k, p k ∧ ∀ j, j < k → ¬ p j := fun n => by
  induction n using Nat.strongRecOn with
  | _ n ih =>
    intro h
    by_cases c : ∃ m, m < n ∧ p m
    · obtain ⟨m, hm, pm⟩ := c
      exact ih m hm pm
    · exact ⟨n, h, fun j hj pj => c ⟨j, hj, pj⟩⟩
theorem okr_growth_counts (T : Tx K mg f_depth_changes f_find_blocks f_is_number f_is_position f_is_tuple_of f_is_interval f_is_ascending f_has_position f_contains f_intersect f_is_demand f_serves f_conflict f_is_independent f_demands_at_blocks f_is_open f_open_demands f_shadow_target f_pieces_inside f_first_gap f_generates f_find_missing f_without_item f_require_few_blocks f_decisive_demands f_largest_independent f_unserved_demands f_helpful_piece f_smallest_solution f_count_needed f_solve f_are_witnesses f_solution_holds f_helps f_helpful_interval f_has_open_demand f_widen f_essential_targets f_core_targets f_is_free f_growth_counts f_law_draws f_law_next f_law_blocks f_law_wide f_law_call f_law_raised f_law_judged f_law f_TooWide_init X_TooWide X_NotGenerated X_OutOfRange X_TooMany X_SpanError d_depth_changes d_find_blocks d_is_number d_is_position d_is_tuple_of d_is_interval d_is_ascending d_has_position d_contains d_intersect d_is_demand d_serves d_conflict d_is_independent d_demands_at_blocks d_is_open d_open_demands d_shadow_target d_pieces_inside d_first_gap d_generates d_find_missing d_without_item d_require_few_blocks d_decisive_demands d_largest_independent d_unserved_demands d_helpful_piece d_smallest_solution d_count_needed d_solve d_are_witnesses d_solution_holds d_helps d_helpful_interval d_has_open_demand d_widen d_essential_targets d_core_targets d_is_free d_growth_counts d_law_draws d_law_next d_law_blocks d_law_wide d_law_call d_law_raised d_law_judged d_law d_TooWide_init t_LAST_POSITION t_MAX_BLOCKS) : FnOk P w K mg base (L2.CX P w) (lgN+6) f_growth_counts d_growth_counts ["targets"] (spr_one X_TooWide) := by
  refine T.F_growth_counts.okX sc_growth_counts (fun vs H Q E h => ?_) (fun cdv A outer s H vs Q E hr h => ?_)
  · obtain ⟨a, us, ts, rfl, _⟩ := h
    rfl
  · obtain ⟨a, us, ts, rfl, ha, iv, g, l12, q⟩ := h
    refine ⟨_, (pss_one (ps_ret (pe_callTy call_tuple_of (by rfl) T.z_tuple (by decide +kernel) (pa_cons (pe_lcX rfl rfl (takes_of rfl rfl rfl rfl) (own := [("many", 1)]) (g := (gName 1)) (tt := tYes) (by rfl) sc_growth_counts.nd (pi_range1 (by rfl) T.z_range (pa_cons (pe_op op_add (pe_callB call_len_seq (by rfl) T.z_len PySem.boot_len (pa_cons (pv 0) pa_nil)) pe_int) pa_nil)) (blkOk_by (own := [("many", 1)]) (N := N_growth_counts) (sc := defScope s_growth_counts) (by decide +kernel)) (fun _ _ _ _ _ => (pg_name (i := 1) sc_growth_counts.nd rfl (Or.inl rfl))) (fun _ _ _ _ _ => pts_nil) (fun _ _ _ _ _ => (pe_callS (okx_count_needed T) (hr.mono (by decide)) (by rfl) T.g_count_needed T.F_count_needed.kp T.b_count_needed (fun σ => pass_blk σ) (pa_cons (pe_slice (show SlR _ (rSlA K) from sl_tupA) (pv 0) po_none (po_some (pv 1))) (pa_cons (pe_tup pa_nil) pa_nil))))) pa_nil)))), ?_⟩
    have lu := iv.length
    have l60 := g.fk.le
    have gt := g.good
    have mw := g.many
    rw [List.append_nil] at l60 gt mw
    -- the first part with too many blocks
    obtain ⟨k, kl, kw, kb⟩ : ∃ k, k ≤ ts.length ∧ 8 < (blocksOf (ts.take k)).length ∧ ∀ j, j < k → (blocksOf (ts.take j)).length ≤ 8 := by
      obtain ⟨k, kw, kb⟩ := least_of (p := fun k => 8 < (blocksOf (ts.take k)).length) ts.length (by rw [List.take_length]; exact mw)
      refine ⟨k, ?_, kw, fun j hj => Nat.not_lt.mp (kb j hj)⟩
      exact Nat.not_lt.mp fun z => kb ts.length z (by rw [List.take_length]; exact mw)
    refine ⟨.ref a, rfl, a, us, rfl, .inr (SqT.of ha), _, _, rfl, rfl, (us.length : Int) + 1, rfl, by omega, by omega, fun D nD => ?_⟩
    refine lcR (lo := 0) (n := ((us.length : Int) + 1).toNat) (fun j H' ws => j ≤ k ∧ ws.length = j) nD (by omega) (fun _ _ _ _ _ r => r) (fun j H' ws r => by rw [r.2]; exact Nat.le_refl _) (fun _ => ⟨Nat.zero_le _, rfl⟩) ?_ ?_
    · rintro j H' N acc hj sj eA sz ⟨r, rl⟩ no yes
      refine ⟨rfl, .ref a, rfl, .int (0 + (j : Nat)), rfl, 0 + (j : Nat), rfl, slA_any (sj _ _ ha) (fun H2 p s2 ep => ?_)⟩
      rw [show (0 + ((j : Nat) : Int)) = ((j : Nat) : Int) by omega, cutTo] at ep
      have sub : (ts.take j).Sublist ts := List.take_sublist _ _
      have lk := sub.length_le
      have s12 := sj.trans s2
      refine ⟨by show 0 ≤ sizeLine; decide, fun e ne => ?_⟩
      have s3 := same_new (o := .tup []) ne
      have ee := upd_same (H := H2) (a := e) (o := .tup [])
      generalize upd H2 e (.tup []) = H3 at *
      have s13 := s12.trans s3
      have gj : Good (ts.take j ++ []) := by rw [List.append_nil]; exact gt.sub sub
      have fj : FewK (ts.take j ++ []) := by rw [List.append_nil]; exact g.fk.part (by rw [List.append_nil]) sub
      rcases Nat.lt_or_ge j k with lt | ge
      · refine .inl ⟨p, e, _, [], ts.take j, [], rfl, s3 _ _ ep, ee, ((iv.same sj).take j).same (s2.trans s3), .nil, gj, by omega, fj, by rw [List.append_nil]; exact kb j lt, by show 8 * (ts.take j).length ≤ 96; omega, fun H4 s4 => ?_⟩
        refine yes H4 _ (s2.trans (s3.trans s4)) ⟨lt, ?_⟩
        rw [List.length_append, rl]
        rfl
      · obtain rfl : j = k := by omega
        exact .inr ⟨p, e, _, [], ts.take j, [], rfl, s3 _ _ ep, ee, ((iv.same sj).take j).same (s2.trans s3), .nil, ⟨gj, fj, by rw [List.append_nil]; exact kw⟩, q.same s13⟩
    · intro H1 ws s1 eD ⟨r, _⟩
      omega
theorem okx_growth_counts (T : Tx K mg f_depth_changes f_find_blocks f_is_number f_is_position f_is_tuple_of f_is_interval f_is_ascending f_has_position f_contains f_intersect f_is_demand f_serves f_conflict f_is_independent f_demands_at_blocks f_is_open f_open_demands f_shadow_target f_pieces_inside f_first_gap f_generates f_find_missing f_without_item f_require_few_blocks f_decisive_demands f_largest_independent f_unserved_demands f_helpful_piece f_smallest_solution f_count_needed f_solve f_are_witnesses f_solution_holds f_helps f_helpful_interval f_has_open_demand f_widen f_essential_targets f_core_targets f_is_free f_growth_counts f_law_draws f_law_next f_law_blocks f_law_wide f_law_call f_law_raised f_law_judged f_law f_TooWide_init X_TooWide X_NotGenerated X_OutOfRange X_TooMany X_SpanError d_depth_changes d_find_blocks d_is_number d_is_position d_is_tuple_of d_is_interval d_is_ascending d_has_position d_contains d_intersect d_is_demand d_serves d_conflict d_is_independent d_demands_at_blocks d_is_open d_open_demands d_shadow_target d_pieces_inside d_first_gap d_generates d_find_missing d_without_item d_require_few_blocks d_decisive_demands d_largest_independent d_unserved_demands d_helpful_piece d_smallest_solution d_count_needed d_solve d_are_witnesses d_solution_holds d_helps d_helpful_interval d_has_open_demand d_widen d_essential_targets d_core_targets d_is_free d_growth_counts d_law_draws d_law_next d_law_blocks d_law_wide d_law_call d_law_raised d_law_judged d_law d_TooWide_init t_LAST_POSITION t_MAX_BLOCKS) : FnOk P w K mg base (L2.CX P w) (lgN+6) f_growth_counts d_growth_counts ["targets"] (fun vs H Q E => sp_growth vs H Q E ∨ (spr_one X_TooWide) vs H Q E) := fn_or ((ok_growth_counts T).mono (by first | exact Nat.le_refl _ | decide)) (okr_growth_counts T)

/-! ### the law's own blocks -/
theorem for_zipLU {K : PySem.W.Frag} {a b : Addr} {xs ys : List V} {g : TG} {tb : TS} {D : Ends} {σ : L2.St} {H : Hp} (Pv : Nat → L2.St → Hp → Prop) (h0 : Pv 0 σ H) (hq : ∀ i σ H, Pv i σ H → SqL K H a xs ∧ SqL K H b ys)
    (hs : ∀ (i : Nat) (x y : V) (T : Addr) (σ : L2.St) (H : Hp), xs[i]? = some x → ys[i]? = some y → Pv i σ H → H T = none → g (.ref T) σ (upd H T (.tup [x, y])) fun σ2 H2 => tb { D with nx := Pv (i + 1), ct := Pv (i + 1), bk := D.nx } σ2 H2) (hd : ∀ i σ H, i ≤ xs.length → (xs.length ≤ i ∨ ys.length ≤ i) → Pv i σ H → D.nx σ H) :
    ∃ W : Nat → Nat → L2.St → Hp → Prop, (∃ m, W 0 m σ H) ∧ ∀ i m σ H, W i m σ H →
      ((Itz K a b).stop i H ∧ D.nx σ H) ∨ ((Itz K a b).go i H ∧ ∃ N : L2.St → Hp → Prop, (∀ σ' H', N σ' H' → ∃ m', m' < m ∧ W (i + 1) m' σ' H') ∧ ∀ v H', (Itz K a b).yld i H v H' → g v σ H' fun σ2 H2 => tb { D with nx := N, ct := N, bk := D.nx } σ2 H2) := by
  refine ⟨fun i m σ H => m = xs.length - i ∧ i ≤ xs.length ∧ Pv i σ H, ⟨_, rfl, Nat.zero_le _, h0⟩, ?_⟩
  rintro i m σ H ⟨rfl, hi, p⟩
  obtain ⟨q1, q2⟩ := hq i σ H p
  by_cases c : i < xs.length ∧ i < ys.length
  · refine .inr ⟨⟨xs, ys, xs[i]'c.1, ys[i]'c.2, q1, q2, List.getElem?_eq_getElem c.1, List.getElem?_eq_getElem c.2⟩, Pv (i + 1), fun σ' H' p' => ⟨xs.length - (i + 1), by omega, rfl, by omega, p'⟩, fun v H' hy => ?_⟩
    obtain ⟨T, x, y, rfl, nT, rfl, f1, f2⟩ := hy
    exact hs i x y T σ H (f1 xs q1) (f2 ys q2) p nT
  · have e : xs.length ≤ i ∨ ys.length ≤ i := by omega
    exact .inl ⟨⟨xs, ys, q1, q2, e⟩, hd i σ H hi e p⟩
/-- between two ascending cuts -/
theorem between {cs : List Int} (asc : cs.Pairwise (· < ·)) {p : Int} (h1 : ∃ a ∈ cs, a ≤ p) (h2 : ∃ b ∈ cs, p < b) : ∃ i x y, cs[i]? = some x ∧ cs[i + 1]? = some y ∧ x ≤ p ∧ p < y ∧ (∀ a ∈ cs, a ≤ p → a ≤ x) ∧ ∀ b ∈ cs, p < b → y ≤ b := by
  induction cs with
  | nil =>
    obtain ⟨a, ha, _⟩ := h1
    cases ha
  | cons c cs ih =>
    have pc := List.pairwise_cons.mp asc
    obtain ⟨a, ha, ap⟩ := h1
    obtain ⟨b, hb, bp⟩ := h2
    cases cs with
    | nil =>
      have := List.mem_singleton.mp ha
      have := List.mem_singleton.mp hb
      omega
    | cons e r =>
      have pe := List.pairwise_cons.mp pc.2
      have ge : ∀ z ∈ e :: r, e ≤ z := fun z hz => by
        rcases List.mem_cons.mp hz with rfl | hz
        · exact Int.le_refl _
        · exact Int.le_of_lt (pe.1 z hz)
      have ce := pc.1 e List.mem_cons_self
      by_cases k : p < e
      · have cp : c ≤ p := by
          rcases List.mem_cons.mp ha with rfl | ha
          · exact ap
          · have := ge a ha
            omega
        refine ⟨0, c, e, rfl, rfl, cp, k, fun z hz zp => ?_, fun z hz zp => ?_⟩
        · rcases List.mem_cons.mp hz with rfl | hz
          · exact Int.le_refl _
          · have := ge z hz
            omega
        · rcases List.mem_cons.mp hz with rfl | hz
          · omega
          · exact ge z hz
      · have hb2 : b ∈ e :: r := by
          rcases List.mem_cons.mp hb with rfl | hb
          · omega
          · exact hb
        obtain ⟨i, x, y, e1, e2, x1, x2, f1, f2⟩ := ih pc.2 ⟨e, List.mem_cons_self, by omega⟩ ⟨b, hb2, bp⟩
        refine ⟨i + 1, x, y, e1, e2, x1, x2, fun z hz zp => ?_, fun z hz zp => ?_⟩
        · rcases List.mem_cons.mp hz with rfl | hz
          · have := f1 e List.mem_cons_self (by omega)
            omega
          · exact f1 z hz zp
        · rcases List.mem_cons.mp hz with rfl | hz
          · omega
          · exact f2 z hz zp
def cvR (row : List (Int × Int)) (x : Int) : Bool := row.any fun q => decide (q.1 ≤ x) && decide (x ≤ q.2)
theorem cvR_iff {row : List (Int × Int)} {x : Int} : cvR row x = true ↔ ∃ q ∈ row, q.1 ≤ x ∧ x ≤ q.2 := by
  unfold cvR
  rw [List.any_eq_true]
  exact ⟨fun ⟨q, hq, h⟩ => ⟨q, hq, of_decide_eq_true (Bool.and_eq_true_iff.mp h).1, of_decide_eq_true (Bool.and_eq_true_iff.mp h).2⟩, fun ⟨q, hq, h1, h2⟩ => ⟨q, hq, Bool.and_eq_true_iff.mpr ⟨decide_eq_true h1, decide_eq_true h2⟩⟩⟩
def outB1 (row : List (Int × Int)) (cs : List Int) (k : Nat) : Option (Int × Int) := (cs[k]?).bind fun x => (cs[k + 1]?).bind fun y => if cvR row x = true then some (x, y - 1) else none
/-- what stands between neighbouring cuts and is covered -/
def outB (row : List (Int × Int)) (cs : List Int) (i : Nat) : List (Int × Int) := (List.range i).filterMap (outB1 row cs)
theorem outB_len (row : List (Int × Int)) (cs : List Int) (i : Nat) : (outB row cs i).length ≤ i := by
  have := List.length_filterMap_le (outB1 row cs) (List.range i)
  rw [List.length_range] at this
  exact this
theorem outB_succ (row : List (Int × Int)) (cs : List Int) (i : Nat) : outB row cs (i + 1) = outB row cs i ++ (outB1 row cs i).toList := by
  unfold outB
  rw [List.range_succ, List.filterMap_append]
  congr 1
theorem mem_outB {row : List (Int × Int)} {cs : List Int} {i : Nat} {b : Int × Int} : b ∈ outB row cs i ↔ ∃ k x y, k < i ∧ cs[k]? = some x ∧ cs[k + 1]? = some y ∧ (∃ q ∈ row, q.1 ≤ x ∧ x ≤ q.2) ∧ b = (x, y - 1) := by
  unfold outB
  rw [List.mem_filterMap]
  constructor
  · rintro ⟨k, hk, e⟩
    unfold outB1 at e
    obtain ⟨x, ex, e⟩ := Option.bind_eq_some_iff.mp e
    obtain ⟨y, ey, e⟩ := Option.bind_eq_some_iff.mp e
    split at e
    · next c => exact ⟨k, x, y, List.mem_range.mp hk, ex, ey, cvR_iff.mp c, (Option.some.inj e).symm⟩
    · cases e
  · rintro ⟨k, x, y, hk, ex, ey, c, rfl⟩
    refine ⟨k, List.mem_range.mpr hk, ?_⟩
    unfold outB1
    rw [ex, ey]
    exact if_pos (cvR_iff.mpr c)
theorem asc_at {cs : List Int} (asc : cs.Pairwise (· < ·)) {i j : Nat} {x y : Int} (ij : i < j) (hi : cs[i]? = some x) (hj : cs[j]? = some y) : x < y := by
  obtain ⟨li, ei⟩ := List.getElem?_eq_some_iff.mp hi
  obtain ⟨lj, ej⟩ := List.getElem?_eq_some_iff.mp hj
  have := List.pairwise_iff_getElem.mp asc i j li lj ij
  rw [ei, ej] at this
  exact this
theorem outB_asc {row : List (Int × Int)} {cs : List Int} (asc : cs.Pairwise (· < ·)) (i : Nat) : (outB row cs i).Pairwise (fun a b => a.1 < b.1) := by
  induction i with
  | zero => exact List.Pairwise.nil
  | succ i ih =>
    rw [outB_succ]
    refine List.pairwise_append.mpr ⟨ih, ?_, fun a ha b hb => ?_⟩
    · cases outB1 row cs i with
      | none => exact List.Pairwise.nil
      | some z => exact List.pairwise_singleton _ _
    · obtain ⟨k, x, y, hk, ex, _, _, rfl⟩ := mem_outB.mp ha
      have hb' : outB1 row cs i = some b := by
        cases h : outB1 row cs i with
        | none => rw [h] at hb; cases hb
        | some z => rw [h] at hb; rw [List.mem_singleton.mp hb]
      unfold outB1 at hb'
      obtain ⟨u, eu, e⟩ := Option.bind_eq_some_iff.mp hb'
      obtain ⟨v, ev, e⟩ := Option.bind_eq_some_iff.mp e
      split at e
      · cases Option.some.inj e
        exact asc_at asc hk ex eu
      · cases e
theorem outB_eq {row : List (Int × Int)} {cs : List Int} (good : Good row) (asc : cs.Pairwise (· < ·)) (inR : ∀ z, z ∈ cs ↔ Bd row z) {i : Nat} (hi : cs.length ≤ i + 1) : outB row cs i = blocksOf row := by
  refine asc_uniq (outB_asc asc i) (blk_asc good) fun b => ?_
  rw [blk_iff good, mem_outB]
  constructor
  · rintro ⟨k, x, y, hk, ex, ey, c, rfl⟩
    have xy := asc_at asc (Nat.lt_succ_self k) ex ey
    refine ⟨c, by show x ≤ y - 1; omega, (inR x).mp (List.mem_of_getElem? ex), ?_, fun z z1 z2 bz => ?_⟩
    · show Bd row (y - 1 + 1)
      rw [show y - 1 + 1 = y by omega]
      exact (inR y).mp (List.mem_of_getElem? ey)
    · have z1 : x < z := z1
      have z2 : z ≤ y - 1 := z2
      obtain ⟨m, em⟩ := List.getElem?_of_mem ((inR z).mpr bz)
      rcases Nat.lt_trichotomy m (k + 1) with h | h | h
      · rcases Nat.lt_or_ge m k with h' | h'
        · have := asc_at asc h' em ex
          omega
        · have : m = k := by omega
          subst this
          rw [ex] at em
          cases em
          omega
      · subst h
        rw [ey] at em
        cases em
        omega
      · have := asc_at asc h ey em
        omega
  · intro kb
    have kle := kb.le
    have m1 := (inR _).mpr kb.lo
    have m2 := (inR _).mpr kb.hi
    obtain ⟨k, x, y, e1, e2, x1, x2, f1, f2⟩ := between asc (p := b.1) ⟨_, m1, Int.le_refl _⟩ ⟨_, m2, by omega⟩
    have a1 := f1 _ m1 (Int.le_refl _)
    have a2 := f2 _ m2 (by omega)
    have kl := (List.getElem?_eq_some_iff.mp e2).1
    have ym := (inR y).mp (List.mem_of_getElem? e2)
    have ey : ¬ y ≤ b.2 := fun z => kb.gap y (by omega) z ym
    have ex : x = b.1 := by omega
    subst ex
    exact ⟨k, b.1, y, by omega, e1, e2, kb.dep, Prod.ext rfl (by show b.2 = y - 1; omega)⟩
def sp_law_blocks : Sp := fun vs H Q _ => ∃ (a : Addr) (us : List V) (row : List (Int × Int)), vs = [.ref a] ∧ H a = some (.tup us) ∧ Ivs H us row ∧ Good row ∧ row.length ≤ 29 ∧
  ∀ H' p ws bs, Same H H' → H' p = some (.lst ws) → Ivs H' ws bs → bs = blocksOf row → Q (.ref p) H'
theorem ok_law_blocks (T : Tx K mg f_depth_changes f_find_blocks f_is_number f_is_position f_is_tuple_of f_is_interval f_is_ascending f_has_position f_contains f_intersect f_is_demand f_serves f_conflict f_is_independent f_demands_at_blocks f_is_open f_open_demands f_shadow_target f_pieces_inside f_first_gap f_generates f_find_missing f_without_item f_require_few_blocks f_decisive_demands f_largest_independent f_unserved_demands f_helpful_piece f_smallest_solution f_count_needed f_solve f_are_witnesses f_solution_holds f_helps f_helpful_interval f_has_open_demand f_widen f_essential_targets f_core_targets f_is_free f_growth_counts f_law_draws f_law_next f_law_blocks f_law_wide f_law_call f_law_raised f_law_judged f_law f_TooWide_init X_TooWide X_NotGenerated X_OutOfRange X_TooMany X_SpanError d_depth_changes d_find_blocks d_is_number d_is_position d_is_tuple_of d_is_interval d_is_ascending d_has_position d_contains d_intersect d_is_demand d_serves d_conflict d_is_independent d_demands_at_blocks d_is_open d_open_demands d_shadow_target d_pieces_inside d_first_gap d_generates d_find_missing d_without_item d_require_few_blocks d_decisive_demands d_largest_independent d_unserved_demands d_helpful_piece d_smallest_solution d_count_needed d_solve d_are_witnesses d_solution_holds d_helps d_helpful_interval d_has_open_demand d_widen d_essential_targets d_core_targets d_is_free d_growth_counts d_law_draws d_law_next d_law_blocks d_law_wide d_law_call d_law_raised d_law_judged d_law d_TooWide_init t_LAST_POSITION t_MAX_BLOCKS) : FnOk P w K mg base CX0 1 f_law_blocks d_law_blocks ["_law_intervals"] sp_law_blocks := by
  refine T.F_law_blocks.ok sc_law_blocks (fun vs H Q E h => ?_) (fun cdv A outer s H vs Q E hr h => ?_)
  · obtain ⟨a, us, row, rfl, _⟩ := h
    rfl
  · obtain ⟨a, us, row, rfl, ha, iv, good, few, q⟩ := h
    refine ⟨_, (pss_cons (ps_set (i := 1) sc_law_blocks.nd rfl (Or.inl rfl) (pe_callB (cr_sortedSet rfl) (by rfl) T.z_sorted (by decide +kernel) (pa_cons (pe_callTy (cr_setOfI rfl) (by rfl) T.z_set (by decide +kernel) (pa_cons (pe_op op_cat (pe_lc (own := [("_law_low", 2), ("_law_high", 3)]) (g := (gTup K 2 (gCons (gName 2) (gCons (gName 3) gNil)))) (tt := tYes) (by rfl) sc_law_blocks.nd (pi_tup (pv 0)) (blkOk_by (own := [("_law_low", 2), ("_law_high", 3)]) (N := N_law_blocks) (sc := defScope s_law_blocks) (by decide +kernel)) (fun _ _ _ _ _ => (pg_tup rfl (pgs_cons (pg_name (i := 2) sc_law_blocks.nd rfl (Or.inl rfl)) (pgs_cons (pg_name (i := 3) sc_law_blocks.nd rfl (Or.inl rfl)) pgs_nil)))) (fun _ _ _ _ _ => pts_nil) (fun _ _ _ _ _ => (pv 2))) (pe_lc (own := [("_law_low", 2), ("_law_high", 3)]) (g := (gTup K 2 (gCons (gName 2) (gCons (gName 3) gNil)))) (tt := tYes) (by rfl) sc_law_blocks.nd (pi_tup (pv 0)) (blkOk_by (own := [("_law_low", 2), ("_law_high", 3)]) (N := N_law_blocks) (sc := defScope s_law_blocks) (by decide +kernel)) (fun _ _ _ _ _ => (pg_tup rfl (pgs_cons (pg_name (i := 2) sc_law_blocks.nd rfl (Or.inl rfl)) (pgs_cons (pg_name (i := 3) sc_law_blocks.nd rfl (Or.inl rfl)) pgs_nil)))) (fun _ _ _ _ _ => pts_nil) (fun _ _ _ _ _ => (pe_op op_add (pv 3) pe_int)))) pa_nil)) pa_nil)))
      (pss_cons (ps_set (i := 4) sc_law_blocks.nd rfl (Or.inl rfl) (pe_lst pa_nil))
      (pss_cons (ps_for PassesOwn.never rfl (pi_zip (by rfl) T.z_zip (pa_cons (pv 1) (pa_cons (pe_slice sl_list (pv 1) (po_some pe_int) po_none) pa_nil))) (pg_tup rfl (pgs_cons (pg_name (i := 2) sc_law_blocks.nd rfl (Or.inr rfl)) (pgs_cons (pg_name (i := 3) sc_law_blocks.nd rfl (Or.inl rfl)) pgs_nil)))
      (pss_one (ps_if (pt_cmpR (op_neL hr.units0) (pe_lc (own := [("_law_one_here", 5)]) (g := (gName 5)) (by rfl) sc_law_blocks.nd (pi_tup (pv 0)) (blkOk_by (own := [("_law_one_here", 5)]) (N := N_law_blocks) (sc := defScope s_law_blocks) (by decide +kernel)) (fun _ _ _ _ _ => (pg_name (i := 5) sc_law_blocks.nd rfl (Or.inl rfl))) (fun _ _ _ _ _ => pts_one (pt_chain op_le op_le (pe_ix (show IxR _ (rIxT K) from ix_tup) (pv 5) pe_int (fun _ _ => rfl)) (pv 2) (pe_ix (show IxR _ (rIxT K) from ix_tup) (pv 5) pe_int (fun _ _ => rfl)))) (fun _ _ _ _ _ => (pv 5))) (pe_lst pa_nil) (nomark _))
      (pss_one (ps_expr (pe_bm PySem.F.plainAttrs_list PySem.F.slot_list_append PySem.F.type_list_append mt_append (pv 4) (pa_cons (pe_tup (pa_cons (pv 2) (pa_cons (pe_op op_sub (pv 3) pe_int) pa_nil))) pa_nil))))
      pss_nil)))
      (pss_one (ps_ret (pv 4)))))), ?_⟩
    have lu := iv.length
    -- the low ends
    refine ⟨.ref a, rfl, a, rfl, ⟨_, SqT.of ha⟩, fun D nD => ?_⟩
    refine lcT (K := K) (a := a) (xs := us) (fun j H' ws => ws = ((row.take j).map (·.1)).map V.int) nD (fun H' s => SqT.of (s _ _ (ha))) (by omega) (fun _ _ _ _ t r => r) (fun j H' ws r => (by rw [r, List.length_map, List.length_map]; exact List.length_take_le _ _)) (fun _ => rfl) ?_ ?_
    · rintro j z H' N acc hj sj eA sz r no yes
      obtain ⟨b, x, y, rfl, exy, hb⟩ := iv.get hj
      refine ⟨b, _, rfl, SqT.of (sj _ _ hb), rfl, .int x, [.int y], rfl, .int y, [], rfl, rfl, rfl, .int x, rfl, yes H' _ (Same.refl _) ?_⟩
      rw [r, List.take_add_one, exy, List.map_append, List.map_append]
      rfl
    intro H1 ws s1 eD r
    rw [lu, List.take_length] at r
    subst r
    -- the high ends
    refine ⟨.ref a, rfl, a, rfl, ⟨_, SqT.of (s1 _ _ ha)⟩, fun D2 nD2 => ?_⟩
    refine lcT (K := K) (a := a) (xs := us) (fun j H' ws => ws = ((row.take j).map (fun q => q.2 + 1)).map V.int) nD2 (fun H' s => SqT.of (s _ _ (s1 _ _ ha))) (by omega) (fun _ _ _ _ _ r => r) (fun j H' ws r => by rw [r, List.length_map, List.length_map]; exact List.length_take_le _ _) (fun _ => rfl) ?_ ?_
    · rintro j z H' N acc hj sj eA sz r no yes
      obtain ⟨b, x, y, rfl, exy, hb⟩ := iv.get hj
      refine ⟨b, _, rfl, SqT.of (sj _ _ (s1 _ _ hb)), rfl, .int x, [.int y], rfl, .int y, [], rfl, rfl, rfl, .int y, rfl, _, _, rfl, rfl, yes H' _ (Same.refl _) ?_⟩
      rw [r, List.take_add_one, exy, List.map_append, List.map_append]
      rfl
    intro H2 ws s2 eD2 r
    rw [lu, List.take_length] at r
    subst r
    refine ⟨D, D2, _, _, rfl, rfl, s2 _ _ eD, eD2, by rw [show sizeLine = 16777216 by decide, List.length_map, List.length_map, List.length_map, List.length_map]; omega, fun g ng => ?_⟩
    have s3 := same_new (o := .lst ((row.map (·.1)).map V.int ++ (row.map (fun q => q.2 + 1)).map V.int)) ng
    have e3 := upd_same (H := H2) (a := g) (o := .lst ((row.map (·.1)).map V.int ++ (row.map (fun q => q.2 + 1)).map V.int))
    generalize upd H2 g (.lst ((row.map (·.1)).map V.int ++ (row.map (fun q => q.2 + 1)).map V.int)) = H3 at *
    rw [← List.map_append] at e3
    have s13 := s1.trans (s2.trans s3)
    have lall : (row.map (fun q : Int × Int => q.1) ++ row.map (fun q : Int × Int => q.2 + 1)).length ≤ 58 := by
      rw [List.length_append, List.length_map, List.length_map]
      omega
    have mall1 : ∀ q ∈ row, q.1 ∈ row.map (fun q : Int × Int => q.1) ++ row.map (fun q : Int × Int => q.2 + 1) := fun q hq => List.mem_append_left _ (List.mem_map.mpr ⟨q, hq, rfl⟩)
    have mall2 : ∀ q ∈ row, q.2 + 1 ∈ row.map (fun q : Int × Int => q.1) ++ row.map (fun q : Int × Int => q.2 + 1) := fun q hq => List.mem_append_right _ (List.mem_map.mpr ⟨q, hq, rfl⟩)
    have mallR : ∀ z ∈ row.map (fun q : Int × Int => q.1) ++ row.map (fun q : Int × Int => q.2 + 1), Bd row z := fun z hz => by
      rcases List.mem_append.mp hz with h | h
      · obtain ⟨q, hq, e⟩ := List.mem_map.mp h
        exact ⟨q, hq, .inl e⟩
      · obtain ⟨q, hq, e⟩ := List.mem_map.mp h
        exact ⟨q, hq, .inr e⟩
    generalize row.map (fun q : Int × Int => q.1) ++ row.map (fun q : Int × Int => q.2 + 1) = all at *
    dsimp only [tNil]
    refine ⟨g, all, rfl, SqL.of e3, by omega, fun H4 st n s4 nst est ln => ?_⟩
    refine ⟨st, _, n, rfl, est, by omega, fun cs pe asc mem len npe => ?_⟩
    have s5 := same_new (o := .lst (cs.map V.int)) npe
    have e5 := upd_same (H := H4) (a := pe) (o := .lst (cs.map V.int))
    generalize upd H4 pe (.lst (cs.map V.int)) = H5 at *
    have s15 := s13.trans (s4.trans s5)
    have in1 : ∀ q ∈ row, q.1 ∈ cs := fun q hq => (mem _).mpr (decide_eq_true (mall1 q hq))
    have in2 : ∀ q ∈ row, q.2 + 1 ∈ cs := fun q hq => (mem _).mpr (decide_eq_true (mall2 q hq))
    have inR : ∀ z, z ∈ cs ↔ Bd row z := fun z => by
      constructor
      · intro h
        exact mallR z (of_decide_eq_true ((mem _).mp h))
      · rintro ⟨q, hq, e | e⟩
        · exact e ▸ in1 q hq
        · exact e ▸ in2 q hq
    have lcs : cs.length ≤ 58 := by omega
    refine ⟨by show 0 ≤ sizeLine; decide, fun l nl => ?_⟩
    have s6 := same_new (o := .lst []) nl
    have el := upd_same (H := H5) (a := l) (o := .lst [])
    generalize upd H5 l (.lst []) = H6 at *
    have s16 := s15.trans s6
    have nl0 := s15.free nl
    refine ⟨.ref pe, rfl, .ref pe, rfl, 1, rfl, pe, _, rfl, SqL.of (s6 _ _ e5), fun pz npz => ?_⟩
    rw [show cutV (cs.map V.int) (some 1) none = (cs.map V.int).drop 1 from cutFrom1 _]
    have lpz : l ≠ pz := ne_of_none el npz
    have s7 := same_new (o := .lst ((cs.map V.int).drop 1)) npz
    have ez := upd_same (H := H6) (a := pz) (o := .lst ((cs.map V.int).drop 1))
    generalize upd H6 pz (.lst ((cs.map V.int).drop 1)) = H7 at *
    have s17 := s16.trans s7
    have el7 := s7 _ _ el
    have e57 := (s6.trans s7) _ _ e5
    refine ⟨pe, pz, cs.map V.int, (cs.map V.int).drop 1, rfl, SqL.of e57, SqL.of ez, ?_⟩
    have peL : pe ≠ l := ne_of_none e5 nl
    refine for_zipLU (K := K) (a := pe) (b := pz) (xs := cs.map V.int) (ys := (cs.map V.int).drop 1) (D := ⟨_, _, fun _ _ => True, fun _ _ => True⟩) (fun i σ H' => (∀ b o, b ≠ l → H7 b = some o → H' b = some o) ∧ (∃ ws, H' l = some (.lst ws) ∧ Ivs H' ws (outB row cs i)) ∧ ∃ y2 y3 y5, σ = [some (.ref a), some (.ref pe), y2, y3, some (.ref l), y5])
      ⟨fun b o _ e => e, ⟨[], el7, .nil⟩, _, _, _, rfl⟩ (fun i σ H' h => ⟨SqL.of (h.1 _ _ peL e57), SqL.of (h.1 _ _ lpz.symm ez)⟩) ?_ ?_
    · rintro i v1 v2 Tq σ H8 h1 h2 ⟨k8, ⟨ws, el8, ivb⟩, y2, y3, y5, rfl⟩ nT
      have lb := outB_len row cs i
      rw [List.getElem?_map] at h1
      obtain ⟨x, ex, rfl⟩ := Option.map_eq_some_iff.mp h1
      rw [List.getElem?_drop, Nat.add_comm 1 i, List.getElem?_map] at h2
      obtain ⟨y, ey, rfl⟩ := Option.map_eq_some_iff.mp h2
      have il := (List.getElem?_eq_some_iff.mp ex).1
      have lT : l ≠ Tq := ne_of_none el8 nT
      have s9 := same_new (o := .tup [.int x, .int y]) nT
      have eT := upd_same (H := H8) (a := Tq) (o := .tup [.int x, .int y])
      generalize upd H8 Tq (.tup [.int x, .int y]) = H9 at *
      refine ⟨Tq, _, rfl, SqT.of eT, rfl, .int x, [.int y], rfl, .int y, [], rfl, rfl, ?_⟩
      have ka : ∀ b o, b ≠ l → H7 b = some o → H9 b = some o := fun b o nb e => s9 _ _ (k8 b o nb e)
      have nal : ∀ {b : Addr} {o : HO}, H b = some o → b ≠ l := fun e z => by
        rw [z, nl0] at e
        cases e
      have ha9 := ka _ _ (nal ha) (s17 _ _ ha)
      have iv9 : Ivs H9 us row := iv.tps (fun b xs e => ka b _ (nal e) (s17 _ _ e))
      -- is anything there
      refine ⟨.ref a, rfl, a, rfl, ⟨_, SqT.of ha9⟩, fun D3 nD3 => ?_⟩
      refine lcT (K := K) (a := a) (xs := us) (fun j H' ws => Ivs H' ws ((row.take j).filter fun q => decide (q.1 ≤ x) && decide (x ≤ q.2))) nD3 (fun H' s => SqT.of (s _ _ (ha9))) (by omega) (fun _ _ _ _ t r => r.tps t) (fun j H' ws r => (by rw [r.length]; exact Nat.le_trans (List.length_filter_le _ _) (List.length_take_le _ _))) (fun _ => .nil) ?_ ?_
      · rintro j z H' N acc hj sj eA sz r no yes
        obtain ⟨b, lo, hi, rfl, exy, hb⟩ := iv9.get hj
        have hb := sj _ _ hb
        refine ⟨rfl, .ref b, rfl, b, _, 0, .int lo, rfl, rfl, SqT.of hb, rfl, .int x, rfl, _, _, rfl, rfl, _, rfl, ite2 (fun c1 => ?_) (fun c1 => ?_)⟩
        · refine ⟨.ref b, rfl, b, _, 1, .int hi, rfl, rfl, SqT.of hb, rfl, _, _, rfl, rfl, _, rfl, ite2 (fun c2 => ?_) (fun c2 => ?_)⟩
          · refine ⟨.ref b, rfl, yes _ _ (Same.refl _) ?_⟩
            rw [take_filter exy, if_pos (by rw [Bool.and_eq_true]; exact ⟨c1, c2⟩)]
            exact r.snoc hb
          · refine no _ (Same.refl _) ?_
            rw [take_filter exy, if_neg (fun z => c2 (Bool.and_eq_true_iff.mp z).2), List.append_nil]
            exact r
        · refine ⟨_, rfl, iteF (no _ (Same.refl _) ?_)⟩
          rw [take_filter exy, if_neg (fun z => c1 (Bool.and_eq_true_iff.mp z).1), List.append_nil]
          exact r
      intro H10 wsf s10 eD3 rf
      rw [lu, List.take_length] at rf
      refine ⟨by show 0 ≤ sizeLine; decide, fun z9 nz9 => ?_⟩
      have s11 := same_new (o := .lst []) nz9
      have ez9 := upd_same (H := H10) (a := z9) (o := .lst [])
      generalize upd H10 z9 (.lst []) = H11 at *
      refine ⟨D3, z9, wsf, rfl, rfl, SqL.of (s11 _ _ eD3), SqL.of ez9, _, rfl, ?_⟩
      have s911 := s10.trans s11
      have kz : ∀ b o, b ≠ l → H7 b = some o → H11 b = some o := fun b o nb e => s911 _ _ (ka b o nb e)
      have el11 := s911 _ _ (s9 _ _ el8)
      have ivb11 := (ivb.same s9).same s911
      have lws := ivb.length
      by_cases em : wsf.isEmpty = true
      · have none : ¬ ∃ q ∈ row, q.1 ≤ x ∧ x ≤ q.2 := fun ⟨q, hq, h⟩ => by
          have l0 := rf.length
          rw [List.isEmpty_iff.mp em] at l0
          have e0 := List.length_eq_zero_iff.mp l0.symm
          have : q ∈ row.filter fun q => decide (q.1 ≤ x) && decide (x ≤ q.2) := List.mem_filter.mpr ⟨hq, by rw [Bool.and_eq_true]; exact ⟨decide_eq_true h.1, decide_eq_true h.2⟩⟩
          rw [e0] at this
          cases this
        rw [em]
        refine iteF ⟨kz, ⟨ws, el11, ?_⟩, _, _, _, rfl⟩
        rw [outB_succ, show outB1 row cs i = Option.none by unfold outB1; rw [ex, ey]; exact if_neg (fun c => none (cvR_iff.mp c))]
        show Ivs H11 ws (outB row cs i ++ [])
        rw [List.append_nil]
        exact ivb11
      · rw [Bool.not_eq_true] at em
        rw [em]
        refine iteT ⟨.ref l, rfl, .inl ⟨rfl, _, SqL.of el11⟩, .int x, rfl, .int y, rfl, _, _, rfl, rfl, by show 2 ≤ sizeLine; decide, fun t nt => ?_⟩
        have st := same_new (o := .tup [.int x, .int (y - 1)]) nt
        have ltn : l ≠ t := ne_of_none el11 nt
        refine ⟨l, ws, _, rfl, rfl, st _ _ el11, small1000 (by omega), ?_⟩
        have eT2 : upd H11 t (.tup [.int x, .int (y - 1)]) t = some (.tup [.int x, .int (y - 1)]) := upd_same
        refine ⟨fun b o nb e => by rw [upd_ne nb]; exact st _ _ (kz b o nb e), ⟨ws ++ [.ref t], upd_same, ?_⟩, _, _, _, rfl⟩
        have cov : cvR row x = true := by
          cases hw : wsf with
          | nil => rw [hw] at em; cases em
          | cons v r =>
            have l0 := rf.length
            rw [hw, List.length_cons] at l0
            obtain ⟨q0, hq0⟩ := List.exists_mem_of_length_pos (l := row.filter fun q => decide (q.1 ≤ x) && decide (x ≤ q.2)) (by omega)
            have m0 := List.mem_filter.mp hq0
            exact List.any_eq_true.mpr ⟨q0, m0.1, m0.2⟩
        rw [outB_succ, show outB1 row cs i = some (x, y - 1) by unfold outB1; rw [ex, ey]; exact if_pos cov]
        exact ((ivb11.same st).snoc eT2).tps (Tps.lst (st _ _ el11))
    · rintro i σ H8 hi stop ⟨k8, ⟨ws, el8, ivb⟩, y2, y3, y5, rfl⟩
      rw [List.length_map] at hi
      rw [List.length_drop, List.length_map] at stop
      refine ⟨.ref l, rfl, q H8 l ws _ (fun b o e => k8 b o (fun z => by rw [z, nl0] at e; cases e) (s17 _ _ e)) el8 ivb (outB_eq good asc inR ?_)⟩
      omega

/-! ### targets and pieces with many blocks -/
structure WR (ts ps : List (Int × Int)) : Prop where
  len : ts.length + ps.length ≤ 11
  ok : ∀ q ∈ ts ++ ps, 0 ≤ q.1 ∧ q.1 ≤ q.2 ∧ q.2 ≤ 40
  ascT : ts.Pairwise ltP
  ascP : ps.Pairwise ltP
def sp_law_wide : Sp := fun vs H Q _ => ∃ (d : Addr) (c : Addr × Addr × Addr) (n : Int), vs = [.ref d] ∧ Dk H d c n ∧ 0 ≤ n ∧ n < 900000 ∧
  ∀ H' t a b us ws ts ps m, Kp d c H H' → Dk H' d c m → n ≤ m → m ≤ n + 40 → H' t = some (.tup [.ref a, .ref b]) → H' a = some (.tup us) → H' b = some (.tup ws) → Ivs H' us ts → Ivs H' ws ps → WR ts ps → Q (.ref t) H'
theorem mulS {x y : Int} (hx : x.natAbs < 2 ^ 64) (hy : y.natAbs < 2 ^ 64) : CMulW x y := wide_mul (a := 64) (b := 64) hx hy (by decide) (by decide) (by decide)
theorem ivs_drop {H : Hp} {us : List V} {row : List (Int × Int)} (h : Ivs H us row) : ∀ k : Nat, Ivs H (us.drop k) (row.drop k) := by
  induction h with
  | nil =>
    intro k
    rw [List.drop_nil, List.drop_nil]
    exact .nil
  | cons e h ih =>
    intro k
    cases k with
    | zero => exact .cons e h
    | succ k => exact ih k
/-- a list drawn by _law_wide -/
def WL (H' : Hp) (ws : List V) (j : Nat) : Prop := ∃ ps, Ivs H' ws ps ∧ ps.length = j ∧ ∀ z ∈ ps, 0 ≤ z.1 ∧ z.1 ≤ z.2 ∧ z.2 ≤ 40
theorem WL.tps {H' H'' : Hp} {ws : List V} {j : Nat} (t : Tps H' H'') : WL H' ws j → WL H'' ws j := fun ⟨ps, h1, h2⟩ => ⟨ps, h1.tps t, h2⟩
theorem WL.len {H' : Hp} {ws : List V} {j : Nat} : WL H' ws j → ws.length ≤ j := fun ⟨ps, h1, h2, _⟩ => by rw [h1.length, h2]; exact Nat.le_refl _
theorem WL.nil {H' : Hp} : WL H' [] 0 := ⟨[], .nil, rfl, fun z hz => nomatch hz⟩
theorem WL.snoc {H' : Hp} {ws : List V} {j : Nat} {t : Addr} {x y : Int} (h : WL H' ws j) (e : H' t = some (.tup [.int x, .int y])) (k : 0 ≤ x ∧ x ≤ y ∧ y ≤ 40) : WL H' (ws ++ [.ref t]) (j + 1) := by
  obtain ⟨ps, h1, h2, h3⟩ := h
  refine ⟨ps ++ [(x, y)], h1.snoc e, by rw [List.length_append, h2]; rfl, fun z hz => ?_⟩
  rcases List.mem_append.mp hz with hz | hz
  · exact h3 z hz
  · rw [List.mem_singleton.mp hz]
    exact k
theorem ok_law_wide (T : Tx K mg f_depth_changes f_find_blocks f_is_number f_is_position f_is_tuple_of f_is_interval f_is_ascending f_has_position f_contains f_intersect f_is_demand f_serves f_conflict f_is_independent f_demands_at_blocks f_is_open f_open_demands f_shadow_target f_pieces_inside f_first_gap f_generates f_find_missing f_without_item f_require_few_blocks f_decisive_demands f_largest_independent f_unserved_demands f_helpful_piece f_smallest_solution f_count_needed f_solve f_are_witnesses f_solution_holds f_helps f_helpful_interval f_has_open_demand f_widen f_essential_targets f_core_targets f_is_free f_growth_counts f_law_draws f_law_next f_law_blocks f_law_wide f_law_call f_law_raised f_law_judged f_law f_TooWide_init X_TooWide X_NotGenerated X_OutOfRange X_TooMany X_SpanError d_depth_changes d_find_blocks d_is_number d_is_position d_is_tuple_of d_is_interval d_is_ascending d_has_position d_contains d_intersect d_is_demand d_serves d_conflict d_is_independent d_demands_at_blocks d_is_open d_open_demands d_shadow_target d_pieces_inside d_first_gap d_generates d_find_missing d_without_item d_require_few_blocks d_decisive_demands d_largest_independent d_unserved_demands d_helpful_piece d_smallest_solution d_count_needed d_solve d_are_witnesses d_solution_holds d_helps d_helpful_interval d_has_open_demand d_widen d_essential_targets d_core_targets d_is_free d_growth_counts d_law_draws d_law_next d_law_blocks d_law_wide d_law_call d_law_raised d_law_judged d_law d_TooWide_init t_LAST_POSITION t_MAX_BLOCKS) : FnOk P w K mg base CX0 2 f_law_wide d_law_wide ["_law_state"] sp_law_wide := by
  refine T.F_law_wide.ok sc_law_wide (fun vs H Q E h => ?_) (fun cdv A outer s H vs Q E hr h => ?_)
  · obtain ⟨d, c, n, rfl, _⟩ := h
    rfl
  · obtain ⟨d, c, n, rfl, dk, n0, n1, q⟩ := h
    refine ⟨_, (pss_cons (ps_par (by rfl) sc_law_wide.nd (i := 1) (j := 2) rfl rfl (by decide) rfl rfl (pa_cons (pe_call (ok_law_next T) (hr.mono (by decide)) (by rfl) T.g_law_next T.F_law_next.kp T.b_law_next .nil pass0 (pa_cons (pv 0) (pa_cons pe_int pa_nil))) (pa_cons (pe_op op_add pe_int (pe_call (ok_law_next T) (hr.mono (by decide)) (by rfl) T.g_law_next T.F_law_next.kp T.b_law_next .nil pass0 (pa_cons (pv 0) (pa_cons pe_int pa_nil)))) pa_nil)) (by rfl))
      (pss_cons (ps_setLc (i := 3) (own := [("_law_k", 4)]) (g := (gName 4)) (tt := tYes) (by rfl) sc_law_wide.nd rfl rfl (sw_true rfl rfl rfl (by decide +kernel)) (pi_range1 (by rfl) T.z_range (pa_cons (pv 2) pa_nil)) (blkOk_by (own := [("_law_k", 4)]) (N := N_law_wide) (sc := defScope s_law_wide) (by decide +kernel)) (fun _ _ _ _ _ => (pg_name (i := 4) sc_law_wide.nd rfl (Or.inl rfl))) (fun _ _ _ _ _ => pts_nil) (fun _ _ _ _ _ => (pe_tup (pa_cons (pe_op op_mulW pe_int (pv 4)) (pa_cons (pe_op op_add (pe_op op_mulW pe_int (pv 4)) (pe_call (ok_law_next T) (hr.mono (by decide)) (by rfl) T.g_law_next T.F_law_next.kp T.b_law_next .nil pass0 (pa_cons (pv 0) (pa_cons pe_int pa_nil)))) pa_nil)))))
      (C8.pss_cut (ps_if (pt_cmpR op_eq (pv 1) pe_int (nomark _))
      (pss_one (ps_setLc (i := 3) (own := [("_law_k", 4)]) (g := (gName 4)) (tt := tYes) (by rfl) sc_law_wide.nd rfl rfl (sw_true rfl rfl rfl (by decide +kernel)) (pi_range1 (by rfl) T.z_range (pa_cons (pe_op op_add pe_int (pe_call (ok_law_next T) (hr.mono (by decide)) (by rfl) T.g_law_next T.F_law_next.kp T.b_law_next .nil pass0 (pa_cons (pv 0) (pa_cons pe_int pa_nil)))) pa_nil)) (blkOk_by (own := [("_law_k", 4)]) (N := N_law_wide) (sc := defScope s_law_wide) (by decide +kernel)) (fun _ _ _ _ _ => (pg_name (i := 4) sc_law_wide.nd rfl (Or.inl rfl))) (fun _ _ _ _ _ => pts_nil) (fun _ _ _ _ _ => (pe_tup (pa_cons (pv 4) (pa_cons (pe_op op_sub (pe_op op_sub pe_int (pv 4)) (pe_call (ok_law_next T) (hr.mono (by decide)) (by rfl) T.g_law_next T.F_law_next.kp T.b_law_next .nil pass0 (pa_cons (pv 0) (pa_cons pe_int pa_nil)))) pa_nil))))))
      pss_nil)
      (C8.pss_cut (ps_if (pt_cmpR op_eq (pv 1) pe_int (nomark _))
      (pss_one (ps_setLc (i := 3) (own := [("_law_k", 4)]) (g := (gName 4)) (tt := tYes) (by rfl) sc_law_wide.nd rfl rfl (sw_true rfl rfl rfl (by decide +kernel)) (pi_range1 (by rfl) T.z_range (pa_cons (pe_op op_add pe_int (pe_call (ok_law_next T) (hr.mono (by decide)) (by rfl) T.g_law_next T.F_law_next.kp T.b_law_next .nil pass0 (pa_cons (pv 0) (pa_cons pe_int pa_nil)))) pa_nil)) (blkOk_by (own := [("_law_k", 4)]) (N := N_law_wide) (sc := defScope s_law_wide) (by decide +kernel)) (fun _ _ _ _ _ => (pg_name (i := 4) sc_law_wide.nd rfl (Or.inl rfl))) (fun _ _ _ _ _ => pts_nil) (fun _ _ _ _ _ => (pe_tup (pa_cons (pe_op op_mulW pe_int (pv 4)) (pa_cons (pe_op op_add (pe_op op_add (pe_op op_mulW pe_int (pv 4)) pe_int) (pe_call (ok_law_next T) (hr.mono (by decide)) (by rfl) T.g_law_next T.F_law_next.kp T.b_law_next .nil pass0 (pa_cons (pv 0) (pa_cons pe_int pa_nil)))) pa_nil))))))
      pss_nil)
      (pss_cons (ps_set (i := 5) sc_law_wide.nd rfl (Or.inl rfl) (pe_call (ok_law_next T) (hr.mono (by decide)) (by rfl) T.g_law_next T.F_law_next.kp T.b_law_next .nil pass0 (pa_cons (pv 0) (pa_cons (pe_op op_add (pe_callB call_len_seq (by rfl) T.z_len PySem.boot_len (pa_cons (pv 3) pa_nil)) pe_int) pa_nil))))
      (pss_one (ps_ret (pe_tup (pa_cons (pe_callTy call_tuple_of (by rfl) T.z_tuple (by decide +kernel) (pa_cons (pe_callB (cr_sortedT rfl) (by rfl) T.z_sorted (by decide +kernel) (pa_cons (pe_callTy (cr_setOfT rfl hr.units) (by rfl) T.z_set (by decide +kernel) (pa_cons (pe_slice sl_list (pv 3) po_none (po_some (pv 5))) pa_nil)) pa_nil)) pa_nil)) (pa_cons (pe_callTy call_tuple_of (by rfl) T.z_tuple (by decide +kernel) (pa_cons (pe_callB (cr_sortedT rfl) (by rfl) T.z_sorted (by decide +kernel) (pa_cons (pe_callTy (cr_setOfT rfl hr.units) (by rfl) T.z_set (by decide +kernel) (pa_cons (pe_slice sl_list (pv 3) (po_some (pv 5)) po_none) pa_nil)) pa_nil)) pa_nil)) pa_nil)))))))))), ?_⟩
    refine ⟨.ref d, rfl, d, c, n, 3, rfl, dk, n0, by omega, by decide, by decide, fun H1 kind kp1 dk1 k0 k1 => ?_⟩
    refine ⟨.ref d, rfl, d, c, _, 7, rfl, dk1, by omega, by omega, by decide, by decide, fun H2 r kp2 dk2 r0 r1 => ?_⟩
    refine ⟨_, _, rfl, rfl, _, _, rfl, ?_⟩
    refine ⟨.int (5 + r), rfl, 5 + r, rfl, by omega, by omega, fun D nD => ?_⟩
    refine lcK (per := 1) (lo := 0) (n := (5 + r).toNat) (fun j H' ws => WL H' ws j) nD dk2 (by omega) (fun _ _ _ _ t r => r.tps t) (fun j H' ws r => r.len) (fun _ => .nil) ?_ ?_
    · rintro j H5 N acc hj kp5 dk5 eD wl yes
      refine ⟨rfl, .int (0 + (j : Nat)), rfl, _, _, rfl, rfl, mulS (by decide) (by omega), .int (0 + (j : Nat)), rfl, _, _, rfl, rfl, mulS (by decide) (by omega), .ref d, rfl, d, c, _, 2, rfl, dk5, by omega, by omega, by decide, by decide, fun H6 v kp6 dk6 v0 v1 => ?_⟩
      refine ⟨_, _, rfl, rfl, by show 2 ≤ sizeLine; decide, fun t nt => ?_⟩
      have s7 := same_new (o := .tup [.int (3 * (0 + (j : Int))), .int (3 * (0 + (j : Int)) + v)]) nt
      refine yes _ _ (kp6.trans (Kp.same s7)) ((dk6.kept s7).eq (by omega)) (((wl.tps (kp6.tps dk5)).tps (Tps.same s7)).snoc upd_same (by omega))
    rintro H5 ws5 kp5 dk5 eD5 wl5
    have kp15 : Kp d c H H5 := kp1.trans (kp2.trans kp5)
    refine ⟨fun σ H' => ∃ m L us k, Kp d c H H' ∧ Dk H' d c m ∧ n ≤ m ∧ m ≤ n + 20 ∧ H' L = some (.lst us) ∧ WL H' us k ∧ k ≤ 11 ∧ Off d c L ∧ ∃ y4 y5, σ = [some (.ref d), some (.int kind), some (.int (5 + r)), some (.ref L), y4, y5], ?_, ?_⟩
    · refine ⟨.int kind, rfl, rfl, _, rfl, ite2 (fun c0 => ?_) (fun c0 => ?_)⟩
      · refine ⟨.ref d, rfl, d, c, _, 3, rfl, dk5, by omega, by omega, by decide, by decide, fun H6 g kp6 dk6 g0 g1 => ?_⟩
        refine ⟨_, _, rfl, rfl, 4 + g, rfl, by omega, by omega, fun D2 nD2 => ?_⟩
        refine lcK (per := 1) (lo := 0) (n := (4 + g).toNat) (fun j H' ws => WL H' ws j) nD2 dk6 (by omega) (fun _ _ _ _ t r => r.tps t) (fun j H' ws r => r.len) (fun _ => .nil) ?_ ?_
        · rintro j H7 N acc hj kp7 dk7 eD wl yes
          refine ⟨rfl, .int (0 + (j : Nat)), rfl, .int (0 + (j : Nat)), rfl, _, _, rfl, rfl, .ref d, rfl, d, c, _, 2, rfl, dk7, by omega, by omega, by decide, by decide, fun H8 v kp8 dk8 v0 v1 => ?_⟩
          refine ⟨_, _, rfl, rfl, by show 2 ≤ sizeLine; decide, fun t nt => ?_⟩
          have s9 := same_new (o := .tup [.int (0 + (j : Int)), .int (20 - (0 + (j : Int)) - v)]) nt
          refine yes _ _ (kp8.trans (Kp.same s9)) ((dk8.kept s9).eq (by omega)) (((wl.tps (kp8.tps dk7)).tps (Tps.same s9)).snoc upd_same (by omega))
        rintro H7 ws7 kp7 dk7 eD7 wl7
        exact ⟨_, D2, ws7, _, kp15.trans (kp6.trans kp7), dk7, by omega, by omega, eD7, wl7, by omega, dk6.off nD2, _, _, rfl⟩
      · exact ⟨_, D, ws5, _, kp15, dk5, by omega, by omega, eD5, wl5, by omega, dk2.off nD, _, _, rfl⟩
    · rintro σ H6 ⟨m6, L6, us6, j6, kp6, dk6, m60, m61, e6, wl6, j11, off6, y4, y5, rfl⟩
      refine ⟨fun σ H' => ∃ m L us k, Kp d c H H' ∧ Dk H' d c m ∧ n ≤ m ∧ m ≤ n + 30 ∧ H' L = some (.lst us) ∧ WL H' us k ∧ k ≤ 11 ∧ Off d c L ∧ ∃ y4 y5, σ = [some (.ref d), some (.int kind), some (.int (5 + r)), some (.ref L), y4, y5], ?_, ?_⟩
      · refine ⟨.int kind, rfl, rfl, _, rfl, ite2 (fun c0 => ?_) (fun c0 => ?_)⟩
        · refine ⟨.ref d, rfl, d, c, _, 4, rfl, dk6, by omega, by omega, by decide, by decide, fun H7 g kp7 dk7 g0 g1 => ?_⟩
          refine ⟨_, _, rfl, rfl, 4 + g, rfl, by omega, by omega, fun D2 nD2 => ?_⟩
          refine lcK (per := 1) (lo := 0) (n := (4 + g).toNat) (fun j H' ws => WL H' ws j) nD2 dk7 (by omega) (fun _ _ _ _ t r => r.tps t) (fun j H' ws r => r.len) (fun _ => .nil) ?_ ?_
          · rintro j H8 N acc hj kp8 dk8 eD wl yes
            refine ⟨rfl, .int (0 + (j : Nat)), rfl, _, _, rfl, rfl, mulS (by decide) (by omega), .int (0 + (j : Nat)), rfl, _, _, rfl, rfl, mulS (by decide) (by omega), _, _, rfl, rfl, .ref d, rfl, d, c, _, 4, rfl, dk8, by omega, by omega, by decide, by decide, fun H9 v kp9 dk9 v0 v1 => ?_⟩
            refine ⟨_, _, rfl, rfl, by show 2 ≤ sizeLine; decide, fun t nt => ?_⟩
            have s9 := same_new (o := .tup [.int (2 * (0 + (j : Int))), .int (2 * (0 + (j : Int)) + 1 + v)]) nt
            refine yes _ _ (kp9.trans (Kp.same s9)) ((dk9.kept s9).eq (by omega)) (((wl.tps (kp9.tps dk8)).tps (Tps.same s9)).snoc upd_same (by omega))
          rintro H8 ws8 kp8 dk8 eD8 wl8
          exact ⟨_, D2, ws8, _, kp6.trans (kp7.trans kp8), dk8, by omega, by omega, eD8, wl8, by omega, dk7.off nD2, _, _, rfl⟩
        · exact ⟨_, L6, us6, _, kp6, dk6, by omega, by omega, e6, wl6, by omega, off6, _, _, rfl⟩
      · rintro σ H7 ⟨m7, L, us, k, kp7, dk7, m70, m71, eL, ⟨row, iv, rl, rok⟩, k11, offL, y4, y5, rfl⟩
        have lu := iv.length
        refine ⟨.ref d, rfl, .ref L, rfl, L, us, rfl, .inl (SqL.of eL), _, _, rfl, rfl, d, c, _, (us.length : Int) + 1, rfl, dk7, by omega, by omega, by omega, by omega, fun H8 cut kp8 dk8 c0 c1 => ?_⟩
        have eL8 := kp8.keep offL eL
        have iv8 := iv.tps (kp8.tps dk7)
        obtain ⟨cut, rfl⟩ : ∃ z : Nat, cut = z := ⟨cut.toNat, by omega⟩
        have bdr : ∀ z ∈ row, (0 ≤ z.1 ∧ z.1 < 10 ^ 13) ∧ 0 ≤ z.2 ∧ z.2 < 10 ^ 13 := fun z hz => by
          have := rok z hz
          omega
        refine ⟨.ref L, rfl, .int (cut : Nat), rfl, ((cut : Nat) : Int), rfl, L, us, rfl, SqL.of eL8, fun p1 np1 => ?_⟩
        rw [cutTo]
        have s9 := same_new (o := .lst (us.take cut)) np1
        have e9 := upd_same (H := H8) (a := p1) (o := .lst (us.take cut))
        generalize upd H8 p1 (.lst (us.take cut)) = H9 at *
        dsimp only [tNil]
        refine sorted_set_pairs (SqL.of e9) ((iv8.same s9).take cut) (by rw [List.length_take]; omega) (fun z hz => bdr z (List.mem_of_mem_take hz)) (fun H10 p2 us2 ts s10 np2 ep2 iv2 ascT memT => ?_)
        refine ⟨p2, us2, rfl, .inl ⟨SqL.of ep2, fun t1 nt1 => ?_⟩⟩
        have s11 := same_new (o := .tup us2) nt1
        have et1 := upd_same (H := H10) (a := t1) (o := .tup us2)
        generalize upd H10 t1 (.tup us2) = H11 at *
        have s811 := s9.trans (s10.trans s11)
        refine ⟨.ref L, rfl, .int (cut : Nat), rfl, ((cut : Nat) : Int), rfl, L, us, rfl, SqL.of (s811 _ _ eL8), fun p3 np3 => ?_⟩
        rw [cutFrom]
        have s12 := same_new (o := .lst (us.drop cut)) np3
        have e12 := upd_same (H := H11) (a := p3) (o := .lst (us.drop cut))
        generalize upd H11 p3 (.lst (us.drop cut)) = H12 at *
        dsimp only [tNil]
        refine sorted_set_pairs (SqL.of e12) (ivs_drop ((iv8.same s811).same s12) cut) (by rw [List.length_drop]; omega) (fun z hz => bdr z (List.mem_of_mem_drop hz)) (fun H13 p4 us4 ps s13 np4 ep4 iv4 ascP memP => ?_)
        refine ⟨p4, us4, rfl, .inl ⟨SqL.of ep4, fun t2 nt2 => ?_⟩⟩
        have s14 := same_new (o := .tup us4) nt2
        have et2 := upd_same (H := H13) (a := t2) (o := .tup us4)
        generalize upd H13 t2 (.tup us4) = H14 at *
        refine ⟨by show 2 ≤ sizeLine; decide, fun t3 nt3 => ?_⟩
        have s15 := same_new (o := .tup [.ref t1, .ref t2]) nt3
        have s1115 := s12.trans (s13.trans (s14.trans s15))
        have sAll := s811.trans s1115
        have l1 := Rw.len ascT memT
        have l2 := Rw.len ascP memP
        rw [List.length_take] at l1
        rw [List.length_drop] at l2
        refine q _ t3 t1 t2 us2 us4 ts ps _ ((kp7.trans kp8).trans (Kp.same sAll)) (dk8.kept sAll) (by omega) (by omega) upd_same (s1115 _ _ et1) (s15 _ _ et2) (iv2.same (s11.trans s1115)) (iv4.same (s14.trans s15)) ⟨by omega, fun z hz => ?_, ascT, ascP⟩
        rcases List.mem_append.mp hz with hz | hz
        · exact rok z (List.mem_of_mem_take ((memT z).mp hz))
        · exact rok z (List.mem_of_mem_drop ((memP z).mp hz))

/-! ### the eight functions -/
def rowX : Nat → List (Int × Int) → List (Int × Int) → Int × Int → List (Int × Int)
  | 0, ts, ps, _ => ts ++ ps
  | 1, ts, ps, _ => ts ++ ps
  | 2, ts, ps, _ => ts ++ ps
  | 3, ts, ps, q => ts ++ (ps ++ [q])
  | 4, ts, _, q => ts ++ [q]
  | _, ts, _, _ => ts
structure CB (ts ps : List (Int × Int)) (q : Int × Int) : Prop where
  wr : WR ts ps
  ok : 0 ≤ q.1 ∧ q.1 ≤ q.2 ∧ q.2 ≤ 40
theorem CB.good {ts ps : List (Int × Int)} {q : Int × Int} (h : CB ts ps q) : Good (ts ++ (ps ++ [q])) := fun z hz => by
  rcases List.mem_append.mp hz with hz | hz
  · have := h.wr.ok z (List.mem_append_left _ hz)
    omega
  · rcases List.mem_append.mp hz with hz | hz
    · have := h.wr.ok z (List.mem_append_right _ hz)
      omega
    · rw [List.mem_singleton.mp hz]
      have := h.ok
      omega
theorem CB.sub {ts ps : List (Int × Int)} {q : Int × Int} (i : Nat) : ∀ z ∈ rowX i ts ps q, z ∈ ts ++ (ps ++ [q]) := fun z hz => by
  have a : z ∈ ts ++ ps → z ∈ ts ++ (ps ++ [q]) := fun h => by
    rcases List.mem_append.mp h with h | h
    · exact List.mem_append_left _ h
    · exact List.mem_append_right _ (List.mem_append_left _ h)
  have b : z ∈ ts → z ∈ ts ++ (ps ++ [q]) := fun h => List.mem_append_left _ h
  match i, hz with
  | 0, hz => exact a hz
  | 1, hz => exact a hz
  | 2, hz => exact a hz
  | 3, hz => exact hz
  | 4, hz =>
    rcases List.mem_append.mp hz with h | h
    · exact b h
    · exact List.mem_append_right _ (List.mem_append_right _ h)
  | i + 5, hz => exact b hz
theorem CB.goodX {ts ps : List (Int × Int)} {q : Int × Int} (h : CB ts ps q) (i : Nat) : Good (rowX i ts ps q) := fun z hz => h.good z (CB.sub i z hz)
theorem CB.lenX {ts ps : List (Int × Int)} {q : Int × Int} (h : CB ts ps q) (i : Nat) : (rowX i ts ps q).length ≤ 12 := by
  have := h.wr.len
  match i with
  | 0 => show (ts ++ ps).length ≤ 12; rw [List.length_append]; omega
  | 1 => show (ts ++ ps).length ≤ 12; rw [List.length_append]; omega
  | 2 => show (ts ++ ps).length ≤ 12; rw [List.length_append]; omega
  | 3 => show (ts ++ (ps ++ [q])).length ≤ 12; rw [List.length_append, List.length_append]; show _ + (_ + 1) ≤ 12; omega
  | 4 => show (ts ++ [q]).length ≤ 12; rw [List.length_append]; show _ + 1 ≤ 12; omega
  | i + 5 => show ts.length ≤ 12; omega
def sp_law_call (pT : Addr) : Sp := fun vs H Q _ => ∃ (d : Addr) (c : Addr × Addr × Addr) (n : Int) (i : Nat) (a b t : Addr) (us ws : List V) (ts ps : List (Int × Int)) (x y : Int), vs = [.int i, .ref a, .ref b, .ref t] ∧ i < 8 ∧ c.2.2 = pT ∧ Dk H d c n ∧ H a = some (.tup us) ∧ H b = some (.tup ws) ∧ Ivs H us ts ∧ Ivs H ws ps ∧ H t = some (.tup [.int x, .int y]) ∧ CB ts ps (x, y) ∧ (blocksOf (rowX i ts ps (x, y))).length ≤ 8 ∧
  ∀ H', Kp d c H H' → Dk H' d c n → Q .non H'
theorem ok_law_call (T : Tx K mg f_depth_changes f_find_blocks f_is_number f_is_position f_is_tuple_of f_is_interval f_is_ascending f_has_position f_contains f_intersect f_is_demand f_serves f_conflict f_is_independent f_demands_at_blocks f_is_open f_open_demands f_shadow_target f_pieces_inside f_first_gap f_generates f_find_missing f_without_item f_require_few_blocks f_decisive_demands f_largest_independent f_unserved_demands f_helpful_piece f_smallest_solution f_count_needed f_solve f_are_witnesses f_solution_holds f_helps f_helpful_interval f_has_open_demand f_widen f_essential_targets f_core_targets f_is_free f_growth_counts f_law_draws f_law_next f_law_blocks f_law_wide f_law_call f_law_raised f_law_judged f_law f_TooWide_init X_TooWide X_NotGenerated X_OutOfRange X_TooMany X_SpanError d_depth_changes d_find_blocks d_is_number d_is_position d_is_tuple_of d_is_interval d_is_ascending d_has_position d_contains d_intersect d_is_demand d_serves d_conflict d_is_independent d_demands_at_blocks d_is_open d_open_demands d_shadow_target d_pieces_inside d_first_gap d_generates d_find_missing d_without_item d_require_few_blocks d_decisive_demands d_largest_independent d_unserved_demands d_helpful_piece d_smallest_solution d_count_needed d_solve d_are_witnesses d_solution_holds d_helps d_helpful_interval d_has_open_demand d_widen d_essential_targets d_core_targets d_is_free d_growth_counts d_law_draws d_law_next d_law_blocks d_law_wide d_law_call d_law_raised d_law_judged d_law d_TooWide_init t_LAST_POSITION t_MAX_BLOCKS) (hT : TabH base mg d_helpful_piece pT) : FnOk P w K mg base CX0 (lgN+12) f_law_call d_law_call ["_law_index", "_law_targets_here", "_law_pieces", "_law_interval"] (sp_law_call pT) := by
  refine T.F_law_call.ok sc_law_call (fun vs H Q E h => ?_) (fun cdv A outer s H vs Q E hr h => ?_)
  · obtain ⟨d, c, n, i, a, b, t, us, ws, ts, ps, x, y, rfl, _⟩ := h
    rfl
  · obtain ⟨d, c, n, i, a, b, t, us, ws, ts, ps, x, y, rfl, i8, ct, dk, ha, hb, ivt, ivp, ht, B, few, q⟩ := h
    refine ⟨_, (pss_one (ps_if (pt_cmpR op_eq (pv 0) pe_int (nomark _))
      (pss_one (ps_expr (pe_call (ok_count_needed T) (hr.mono (by decide)) (by rfl) T.g_count_needed T.F_count_needed.kp T.b_count_needed .nil pass0 (pa_cons (pv 1) (pa_cons (pv 2) pa_nil)))))
      (pss_one (ps_if (pt_cmpR op_eq (pv 0) pe_int (nomark _))
      (pss_one (ps_expr (pe_call (ok_solve T hT) (hr.mono (by decide)) (by rfl) T.g_solve T.F_solve.kp T.b_solve .nil pass0 (pa_cons (pv 1) (pa_cons (pv 2) pa_nil)))))
      (pss_one (ps_if (pt_cmpR op_eq (pv 0) pe_int (nomark _))
      (pss_one (ps_expr (pe_call (ok_helpful_interval T hT) (hr.mono (by decide)) (by rfl) T.g_helpful_interval T.F_helpful_interval.kp T.b_helpful_interval .nil pass0 (pa_cons (pv 1) (pa_cons (pv 2) pa_nil)))))
      (pss_one (ps_if (pt_cmpR op_eq (pv 0) pe_int (nomark _))
      (pss_one (ps_expr (pe_call (ok_helps T) (hr.mono (by decide)) (by rfl) T.g_helps T.F_helps.kp T.b_helps .nil pass0 (pa_cons (pv 1) (pa_cons (pv 2) (pa_cons (pv 3) pa_nil))))))
      (pss_one (ps_if (pt_cmpR op_eq (pv 0) pe_int (nomark _))
      (pss_one (ps_expr (pe_call (ok_is_free T) (hr.mono (by decide)) (by rfl) T.g_is_free T.F_is_free.kp T.b_is_free .nil pass0 (pa_cons (pv 1) (pa_cons (pv 3) pa_nil)))))
      (pss_one (ps_if (pt_cmpR op_eq (pv 0) pe_int (nomark _))
      (pss_one (ps_expr (pe_call (ok_essential_targets T) (hr.mono (by decide)) (by rfl) T.g_essential_targets T.F_essential_targets.kp T.b_essential_targets .nil pass0 (pa_cons (pv 1) pa_nil))))
      (pss_one (ps_if (pt_cmpR op_eq (pv 0) pe_int (nomark _))
      (pss_one (ps_expr (pe_call (ok_core_targets T) (hr.mono (by decide)) (by rfl) T.g_core_targets T.F_core_targets.kp T.b_core_targets .nil pass0 (pa_cons (pv 1) pa_nil))))
      (pss_one (ps_expr (pe_call (ok_growth_counts T) (hr.mono (by decide)) (by rfl) T.g_growth_counts T.F_growth_counts.kp T.b_growth_counts .nil pass0 (pa_cons (pv 1) pa_nil)))))))))))))))))), ?_⟩
    have len := B.wr.len
    have good := B.good
    have l30 : ts.length ≤ 30 := by omega
    have l8 : 8 * ts.length ≤ lgN := by show _ ≤ 96; omega
    have topT : ∀ q ∈ ts, q.2 < 10 ^ 13 := fun q hq => by
      have := B.wr.ok q (List.mem_append_left _ hq)
      omega
    have same : ∀ H', Same H H' → Q .non H' := fun H' s => q H' (Kp.same s) (dk.kept s)
    have gl := good_left good
    have fk : FewK (ts ++ ps) := .inl (by rw [List.length_append]; omega)
    match i, i8, few with
    | 0, _, few =>
      refine ⟨_, rfl, rfl, _, rfl, ite2 (fun _ => ?_) (fun z => absurd (decide_eq_true rfl) z)⟩
      exact ⟨.ref a, rfl, .ref b, rfl, a, b, us, ws, ts, ps, rfl, ha, hb, ivt, ivp, gl, l30, fk, few, l8, fun H' s => same H' s⟩
    | 1, _, few =>
      refine ⟨_, rfl, rfl, _, rfl, ite2 (fun z => absurd (V.int.inj (of_decide_eq_true z)) (by decide)) (fun _ => ?_)⟩
      refine ⟨_, rfl, rfl, _, rfl, ite2 (fun _ => ?_) (fun z => absurd (decide_eq_true rfl) z)⟩
      exact ⟨.ref a, rfl, .ref b, rfl, d, c, n, a, b, us, ws, ts, ps, rfl, ct, dk, ha, hb, ivt, ivp, ⟨gl, topT, l30, fk, few, l8, by decide⟩, fun H' r A kp dk' _ => q H' kp dk'⟩
    | 2, _, few =>
      refine ⟨_, rfl, rfl, _, rfl, ite2 (fun z => absurd (V.int.inj (of_decide_eq_true z)) (by decide)) (fun _ => ?_)⟩
      refine ⟨_, rfl, rfl, _, rfl, ite2 (fun z => absurd (V.int.inj (of_decide_eq_true z)) (by decide)) (fun _ => ?_)⟩
      refine ⟨_, rfl, rfl, _, rfl, ite2 (fun _ => ?_) (fun z => absurd (decide_eq_true rfl) z)⟩
      exact ⟨.ref a, rfl, .ref b, rfl, d, c, n, a, b, us, ws, ts, ps, rfl, ct, dk, ha, hb, ivt, ivp, ⟨gl, topT, l30, fk, few, l8, by decide⟩, fun H' v kp dk' _ => q H' kp dk'⟩
    | 3, _, few =>
      refine ⟨_, rfl, rfl, _, rfl, ite2 (fun z => absurd (V.int.inj (of_decide_eq_true z)) (by decide)) (fun _ => ?_)⟩
      refine ⟨_, rfl, rfl, _, rfl, ite2 (fun z => absurd (V.int.inj (of_decide_eq_true z)) (by decide)) (fun _ => ?_)⟩
      refine ⟨_, rfl, rfl, _, rfl, ite2 (fun z => absurd (V.int.inj (of_decide_eq_true z)) (by decide)) (fun _ => ?_)⟩
      refine ⟨_, rfl, rfl, _, rfl, ite2 (fun _ => ?_) (fun z => absurd (decide_eq_true rfl) z)⟩
      exact ⟨.ref a, rfl, .ref b, rfl, .ref t, rfl, a, b, t, us, ws, ts, ps, x, y, rfl, ha, hb, ivt, ivp, ht, good, l30, .inl (by rw [List.length_append, List.length_append]; show _ + (_ + 1) ≤ 31; omega), fk, l8, few, Nat.le_trans (blocks_sub good (CB.sub 0)) few, fun H' s => same H' s⟩
    | 4, _, few =>
      refine ⟨_, rfl, rfl, _, rfl, ite2 (fun z => absurd (V.int.inj (of_decide_eq_true z)) (by decide)) (fun _ => ?_)⟩
      refine ⟨_, rfl, rfl, _, rfl, ite2 (fun z => absurd (V.int.inj (of_decide_eq_true z)) (by decide)) (fun _ => ?_)⟩
      refine ⟨_, rfl, rfl, _, rfl, ite2 (fun z => absurd (V.int.inj (of_decide_eq_true z)) (by decide)) (fun _ => ?_)⟩
      refine ⟨_, rfl, rfl, _, rfl, ite2 (fun z => absurd (V.int.inj (of_decide_eq_true z)) (by decide)) (fun _ => ?_)⟩
      refine ⟨_, rfl, rfl, _, rfl, ite2 (fun _ => ?_) (fun z => absurd (decide_eq_true rfl) z)⟩
      have g4 : Good (ts ++ [(x, y)]) := B.goodX 4
      exact ⟨.ref a, rfl, .ref t, rfl, a, t, us, ts, x, y, rfl, ha, ivt, ht, g4, by omega, .inl (by rw [List.append_nil, List.length_append]; show _ + 1 ≤ 31; omega), .inl (by rw [List.append_nil]; omega), by show 8 * (ts.length + 1) ≤ 96; omega, by rw [List.append_nil]; exact few, by rw [List.append_nil]; exact Nat.le_trans (blocks_sub g4 fun z hz => List.mem_append_left _ hz) few, fun H' s => same H' s⟩
    | 5, _, few =>
      refine ⟨_, rfl, rfl, _, rfl, ite2 (fun z => absurd (V.int.inj (of_decide_eq_true z)) (by decide)) (fun _ => ?_)⟩
      refine ⟨_, rfl, rfl, _, rfl, ite2 (fun z => absurd (V.int.inj (of_decide_eq_true z)) (by decide)) (fun _ => ?_)⟩
      refine ⟨_, rfl, rfl, _, rfl, ite2 (fun z => absurd (V.int.inj (of_decide_eq_true z)) (by decide)) (fun _ => ?_)⟩
      refine ⟨_, rfl, rfl, _, rfl, ite2 (fun z => absurd (V.int.inj (of_decide_eq_true z)) (by decide)) (fun _ => ?_)⟩
      refine ⟨_, rfl, rfl, _, rfl, ite2 (fun z => absurd (V.int.inj (of_decide_eq_true z)) (by decide)) (fun _ => ?_)⟩
      refine ⟨_, rfl, rfl, _, rfl, ite2 (fun _ => ?_) (fun z => absurd (decide_eq_true rfl) z)⟩
      exact ⟨.ref a, rfl, a, us, ts, rfl, ha, ivt, B.goodX 5, by omega, l8, FewB.of (B.goodX 5) few, fun H' p ws s _ _ => same H' s⟩
    | 6, _, few =>
      refine ⟨_, rfl, rfl, _, rfl, ite2 (fun z => absurd (V.int.inj (of_decide_eq_true z)) (by decide)) (fun _ => ?_)⟩
      refine ⟨_, rfl, rfl, _, rfl, ite2 (fun z => absurd (V.int.inj (of_decide_eq_true z)) (by decide)) (fun _ => ?_)⟩
      refine ⟨_, rfl, rfl, _, rfl, ite2 (fun z => absurd (V.int.inj (of_decide_eq_true z)) (by decide)) (fun _ => ?_)⟩
      refine ⟨_, rfl, rfl, _, rfl, ite2 (fun z => absurd (V.int.inj (of_decide_eq_true z)) (by decide)) (fun _ => ?_)⟩
      refine ⟨_, rfl, rfl, _, rfl, ite2 (fun z => absurd (V.int.inj (of_decide_eq_true z)) (by decide)) (fun _ => ?_)⟩
      refine ⟨_, rfl, rfl, _, rfl, ite2 (fun z => absurd (V.int.inj (of_decide_eq_true z)) (by decide)) (fun _ => ?_)⟩
      refine ⟨_, rfl, rfl, _, rfl, ite2 (fun _ => ?_) (fun z => absurd (decide_eq_true rfl) z)⟩
      exact ⟨.ref a, rfl, a, us, ts, rfl, ha, ivt, B.goodX 6, by omega, l8, FewB.of (B.goodX 6) few, fun H' p ws s _ _ => same H' s⟩
    | 7, _, few =>
      refine ⟨_, rfl, rfl, _, rfl, ite2 (fun z => absurd (V.int.inj (of_decide_eq_true z)) (by decide)) (fun _ => ?_)⟩
      refine ⟨_, rfl, rfl, _, rfl, ite2 (fun z => absurd (V.int.inj (of_decide_eq_true z)) (by decide)) (fun _ => ?_)⟩
      refine ⟨_, rfl, rfl, _, rfl, ite2 (fun z => absurd (V.int.inj (of_decide_eq_true z)) (by decide)) (fun _ => ?_)⟩
      refine ⟨_, rfl, rfl, _, rfl, ite2 (fun z => absurd (V.int.inj (of_decide_eq_true z)) (by decide)) (fun _ => ?_)⟩
      refine ⟨_, rfl, rfl, _, rfl, ite2 (fun z => absurd (V.int.inj (of_decide_eq_true z)) (by decide)) (fun _ => ?_)⟩
      refine ⟨_, rfl, rfl, _, rfl, ite2 (fun z => absurd (V.int.inj (of_decide_eq_true z)) (by decide)) (fun _ => ?_)⟩
      refine ⟨_, rfl, rfl, _, rfl, ite2 (fun z => absurd (V.int.inj (of_decide_eq_true z)) (by decide)) (fun _ => ?_)⟩
      exact ⟨.ref a, rfl, a, us, ts, rfl, ha, ivt, B.goodX 7, by omega, l8, FewB.of (B.goodX 7) few, fun H' p s _ => same H' s⟩
    | i + 8, i8, _ => omega
def spr_law_call (XW : Addr) : Sp := fun vs H _ E => ∃ (i : Nat) (a b t : Addr) (us ws : List V) (ts ps : List (Int × Int)) (x y : Int), vs = [.int i, .ref a, .ref b, .ref t] ∧ i < 8 ∧ H a = some (.tup us) ∧ H b = some (.tup ws) ∧ Ivs H us ts ∧ Ivs H ws ps ∧ H t = some (.tup [.int x, .int y]) ∧ CB ts ps (x, y) ∧ 8 < (blocksOf (rowX i ts ps (x, y))).length ∧ OneE E H XW "bound" (.int 8)
theorem okr_law_call (T : Tx K mg f_depth_changes f_find_blocks f_is_number f_is_position f_is_tuple_of f_is_interval f_is_ascending f_has_position f_contains f_intersect f_is_demand f_serves f_conflict f_is_independent f_demands_at_blocks f_is_open f_open_demands f_shadow_target f_pieces_inside f_first_gap f_generates f_find_missing f_without_item f_require_few_blocks f_decisive_demands f_largest_independent f_unserved_demands f_helpful_piece f_smallest_solution f_count_needed f_solve f_are_witnesses f_solution_holds f_helps f_helpful_interval f_has_open_demand f_widen f_essential_targets f_core_targets f_is_free f_growth_counts f_law_draws f_law_next f_law_blocks f_law_wide f_law_call f_law_raised f_law_judged f_law f_TooWide_init X_TooWide X_NotGenerated X_OutOfRange X_TooMany X_SpanError d_depth_changes d_find_blocks d_is_number d_is_position d_is_tuple_of d_is_interval d_is_ascending d_has_position d_contains d_intersect d_is_demand d_serves d_conflict d_is_independent d_demands_at_blocks d_is_open d_open_demands d_shadow_target d_pieces_inside d_first_gap d_generates d_find_missing d_without_item d_require_few_blocks d_decisive_demands d_largest_independent d_unserved_demands d_helpful_piece d_smallest_solution d_count_needed d_solve d_are_witnesses d_solution_holds d_helps d_helpful_interval d_has_open_demand d_widen d_essential_targets d_core_targets d_is_free d_growth_counts d_law_draws d_law_next d_law_blocks d_law_wide d_law_call d_law_raised d_law_judged d_law d_TooWide_init t_LAST_POSITION t_MAX_BLOCKS) (hT : TabH base mg d_helpful_piece pT) : FnOk P w K mg base (L2.CX P w) (lgN+12) f_law_call d_law_call ["_law_index", "_law_targets_here", "_law_pieces", "_law_interval"] (spr_law_call X_TooWide) := by
  refine T.F_law_call.okX sc_law_call (fun vs H Q E h => ?_) (fun cdv A outer s H vs Q E hr h => ?_)
  · obtain ⟨i, a, b, t, us, ws, ts, ps, x, y, rfl, _⟩ := h
    rfl
  · obtain ⟨i, a, b, t, us, ws, ts, ps, x, y, rfl, i8, ha, hb, ivt, ivp, ht, B, many, q⟩ := h
    refine ⟨_, (pss_one (ps_if (pt_cmpR op_eq (pv 0) pe_int (nomark _))
      (pss_one (ps_expr (pe_callS (okx_count_needed T) (hr.mono (by decide)) (by rfl) T.g_count_needed T.F_count_needed.kp T.b_count_needed (fun σ => passAt (takes_of rfl rfl rfl rfl) σ) (pa_cons (pv 1) (pa_cons (pv 2) pa_nil)))))
      (pss_one (ps_if (pt_cmpR op_eq (pv 0) pe_int (nomark _))
      (pss_one (ps_expr (pe_callS (okx_solve T hT) (hr.mono (by decide)) (by rfl) T.g_solve T.F_solve.kp T.b_solve (fun σ => passAt (takes_of rfl rfl rfl rfl) σ) (pa_cons (pv 1) (pa_cons (pv 2) pa_nil)))))
      (pss_one (ps_if (pt_cmpR op_eq (pv 0) pe_int (nomark _))
      (pss_one (ps_expr (pe_callS (okx_helpful_interval T hT) (hr.mono (by decide)) (by rfl) T.g_helpful_interval T.F_helpful_interval.kp T.b_helpful_interval (fun σ => passAt (takes_of rfl rfl rfl rfl) σ) (pa_cons (pv 1) (pa_cons (pv 2) pa_nil)))))
      (pss_one (ps_if (pt_cmpR op_eq (pv 0) pe_int (nomark _))
      (pss_one (ps_expr (pe_callS (okx_helps T) (hr.mono (by decide)) (by rfl) T.g_helps T.F_helps.kp T.b_helps (fun σ => passAt (takes_of rfl rfl rfl rfl) σ) (pa_cons (pv 1) (pa_cons (pv 2) (pa_cons (pv 3) pa_nil))))))
      (pss_one (ps_if (pt_cmpR op_eq (pv 0) pe_int (nomark _))
      (pss_one (ps_expr (pe_callS (okx_is_free T) (hr.mono (by decide)) (by rfl) T.g_is_free T.F_is_free.kp T.b_is_free (fun σ => passAt (takes_of rfl rfl rfl rfl) σ) (pa_cons (pv 1) (pa_cons (pv 3) pa_nil)))))
      (pss_one (ps_if (pt_cmpR op_eq (pv 0) pe_int (nomark _))
      (pss_one (ps_expr (pe_callS (okx_essential_targets T) (hr.mono (by decide)) (by rfl) T.g_essential_targets T.F_essential_targets.kp T.b_essential_targets (fun σ => passAt (takes_of rfl rfl rfl rfl) σ) (pa_cons (pv 1) pa_nil))))
      (pss_one (ps_if (pt_cmpR op_eq (pv 0) pe_int (nomark _))
      (pss_one (ps_expr (pe_callS (okx_core_targets T) (hr.mono (by decide)) (by rfl) T.g_core_targets T.F_core_targets.kp T.b_core_targets (fun σ => passAt (takes_of rfl rfl rfl rfl) σ) (pa_cons (pv 1) pa_nil))))
      (pss_one (ps_expr (pe_callS (okx_growth_counts T) (hr.mono (by decide)) (by rfl) T.g_growth_counts T.F_growth_counts.kp T.b_growth_counts (fun σ => passAt (takes_of rfl rfl rfl rfl) σ) (pa_cons (pv 1) pa_nil)))))))))))))))))), ?_⟩
    have len := B.wr.len
    have good := B.good
    have gl := good_left good
    have fk : FewK (ts ++ ps) := .inl (by rw [List.length_append]; omega)
    match i, i8, many with
    | 0, _, many =>
      refine ⟨_, rfl, rfl, _, rfl, ite2 (fun _ => ?_) (fun z => absurd (decide_eq_true rfl) z)⟩
      exact ⟨.ref a, rfl, .ref b, rfl, .inr ⟨a, b, us, ws, ts, ps, rfl, ha, hb, ivt, ivp, ⟨gl, fk, many⟩, q⟩⟩
    | 1, _, many =>
      refine ⟨_, rfl, rfl, _, rfl, ite2 (fun z => absurd (V.int.inj (of_decide_eq_true z)) (by decide)) (fun _ => ?_)⟩
      refine ⟨_, rfl, rfl, _, rfl, ite2 (fun _ => ?_) (fun z => absurd (decide_eq_true rfl) z)⟩
      exact ⟨.ref a, rfl, .ref b, rfl, .inr ⟨a, b, us, ws, ts, ps, rfl, ha, hb, ivt, ivp, ⟨gl, fk, many⟩, q⟩⟩
    | 2, _, many =>
      refine ⟨_, rfl, rfl, _, rfl, ite2 (fun z => absurd (V.int.inj (of_decide_eq_true z)) (by decide)) (fun _ => ?_)⟩
      refine ⟨_, rfl, rfl, _, rfl, ite2 (fun z => absurd (V.int.inj (of_decide_eq_true z)) (by decide)) (fun _ => ?_)⟩
      refine ⟨_, rfl, rfl, _, rfl, ite2 (fun _ => ?_) (fun z => absurd (decide_eq_true rfl) z)⟩
      exact ⟨.ref a, rfl, .ref b, rfl, .inr ⟨a, b, us, ws, ts, ps, rfl, ha, hb, ivt, ivp, ⟨gl, fk, many⟩, q⟩⟩
    | 3, _, many =>
      refine ⟨_, rfl, rfl, _, rfl, ite2 (fun z => absurd (V.int.inj (of_decide_eq_true z)) (by decide)) (fun _ => ?_)⟩
      refine ⟨_, rfl, rfl, _, rfl, ite2 (fun z => absurd (V.int.inj (of_decide_eq_true z)) (by decide)) (fun _ => ?_)⟩
      refine ⟨_, rfl, rfl, _, rfl, ite2 (fun z => absurd (V.int.inj (of_decide_eq_true z)) (by decide)) (fun _ => ?_)⟩
      refine ⟨_, rfl, rfl, _, rfl, ite2 (fun _ => ?_) (fun z => absurd (decide_eq_true rfl) z)⟩
      exact ⟨.ref a, rfl, .ref b, rfl, .ref t, rfl, .inr ⟨a, b, t, us, ws, ts, ps, x, y, rfl, ha, hb, ivt, ivp, ht, ⟨good, .inl (by rw [List.length_append, List.length_append]; show _ + (_ + 1) ≤ 31; omega), many⟩, q⟩⟩
    | 4, _, many =>
      refine ⟨_, rfl, rfl, _, rfl, ite2 (fun z => absurd (V.int.inj (of_decide_eq_true z)) (by decide)) (fun _ => ?_)⟩
      refine ⟨_, rfl, rfl, _, rfl, ite2 (fun z => absurd (V.int.inj (of_decide_eq_true z)) (by decide)) (fun _ => ?_)⟩
      refine ⟨_, rfl, rfl, _, rfl, ite2 (fun z => absurd (V.int.inj (of_decide_eq_true z)) (by decide)) (fun _ => ?_)⟩
      refine ⟨_, rfl, rfl, _, rfl, ite2 (fun z => absurd (V.int.inj (of_decide_eq_true z)) (by decide)) (fun _ => ?_)⟩
      refine ⟨_, rfl, rfl, _, rfl, ite2 (fun _ => ?_) (fun z => absurd (decide_eq_true rfl) z)⟩
      exact ⟨.ref a, rfl, .ref t, rfl, .inr ⟨a, t, us, ts, x, y, rfl, ha, ivt, ht, ⟨by rw [List.append_nil]; exact B.goodX 4, .inl (by rw [List.append_nil, List.length_append]; show _ + 1 ≤ 31; omega), by rw [List.append_nil]; exact many⟩, q⟩⟩
    | 5, _, many =>
      refine ⟨_, rfl, rfl, _, rfl, ite2 (fun z => absurd (V.int.inj (of_decide_eq_true z)) (by decide)) (fun _ => ?_)⟩
      refine ⟨_, rfl, rfl, _, rfl, ite2 (fun z => absurd (V.int.inj (of_decide_eq_true z)) (by decide)) (fun _ => ?_)⟩
      refine ⟨_, rfl, rfl, _, rfl, ite2 (fun z => absurd (V.int.inj (of_decide_eq_true z)) (by decide)) (fun _ => ?_)⟩
      refine ⟨_, rfl, rfl, _, rfl, ite2 (fun z => absurd (V.int.inj (of_decide_eq_true z)) (by decide)) (fun _ => ?_)⟩
      refine ⟨_, rfl, rfl, _, rfl, ite2 (fun z => absurd (V.int.inj (of_decide_eq_true z)) (by decide)) (fun _ => ?_)⟩
      refine ⟨_, rfl, rfl, _, rfl, ite2 (fun _ => ?_) (fun z => absurd (decide_eq_true rfl) z)⟩
      exact ⟨.ref a, rfl, .inr ⟨a, us, ts, rfl, ha, ivt, ⟨by rw [List.append_nil]; exact B.goodX 5, .inl (by rw [List.append_nil]; omega), by rw [List.append_nil]; exact many⟩, by omega, q⟩⟩
    | 6, _, many =>
      refine ⟨_, rfl, rfl, _, rfl, ite2 (fun z => absurd (V.int.inj (of_decide_eq_true z)) (by decide)) (fun _ => ?_)⟩
      refine ⟨_, rfl, rfl, _, rfl, ite2 (fun z => absurd (V.int.inj (of_decide_eq_true z)) (by decide)) (fun _ => ?_)⟩
      refine ⟨_, rfl, rfl, _, rfl, ite2 (fun z => absurd (V.int.inj (of_decide_eq_true z)) (by decide)) (fun _ => ?_)⟩
      refine ⟨_, rfl, rfl, _, rfl, ite2 (fun z => absurd (V.int.inj (of_decide_eq_true z)) (by decide)) (fun _ => ?_)⟩
      refine ⟨_, rfl, rfl, _, rfl, ite2 (fun z => absurd (V.int.inj (of_decide_eq_true z)) (by decide)) (fun _ => ?_)⟩
      refine ⟨_, rfl, rfl, _, rfl, ite2 (fun z => absurd (V.int.inj (of_decide_eq_true z)) (by decide)) (fun _ => ?_)⟩
      refine ⟨_, rfl, rfl, _, rfl, ite2 (fun _ => ?_) (fun z => absurd (decide_eq_true rfl) z)⟩
      exact ⟨.ref a, rfl, .inr ⟨a, us, ts, rfl, ha, ivt, ⟨by rw [List.append_nil]; exact B.goodX 6, .inl (by rw [List.append_nil]; omega), by rw [List.append_nil]; exact many⟩, by omega, q⟩⟩
    | 7, _, many =>
      refine ⟨_, rfl, rfl, _, rfl, ite2 (fun z => absurd (V.int.inj (of_decide_eq_true z)) (by decide)) (fun _ => ?_)⟩
      refine ⟨_, rfl, rfl, _, rfl, ite2 (fun z => absurd (V.int.inj (of_decide_eq_true z)) (by decide)) (fun _ => ?_)⟩
      refine ⟨_, rfl, rfl, _, rfl, ite2 (fun z => absurd (V.int.inj (of_decide_eq_true z)) (by decide)) (fun _ => ?_)⟩
      refine ⟨_, rfl, rfl, _, rfl, ite2 (fun z => absurd (V.int.inj (of_decide_eq_true z)) (by decide)) (fun _ => ?_)⟩
      refine ⟨_, rfl, rfl, _, rfl, ite2 (fun z => absurd (V.int.inj (of_decide_eq_true z)) (by decide)) (fun _ => ?_)⟩
      refine ⟨_, rfl, rfl, _, rfl, ite2 (fun z => absurd (V.int.inj (of_decide_eq_true z)) (by decide)) (fun _ => ?_)⟩
      refine ⟨_, rfl, rfl, _, rfl, ite2 (fun z => absurd (V.int.inj (of_decide_eq_true z)) (by decide)) (fun _ => ?_)⟩
      exact ⟨.ref a, rfl, .inr ⟨a, us, ts, rfl, ha, ivt, ⟨by rw [List.append_nil]; exact B.goodX 7, .inl (by rw [List.append_nil]; omega), by rw [List.append_nil]; exact many⟩, by omega, q⟩⟩
    | i + 8, i8, _ => omega
theorem okx_law_call (T : Tx K mg f_depth_changes f_find_blocks f_is_number f_is_position f_is_tuple_of f_is_interval f_is_ascending f_has_position f_contains f_intersect f_is_demand f_serves f_conflict f_is_independent f_demands_at_blocks f_is_open f_open_demands f_shadow_target f_pieces_inside f_first_gap f_generates f_find_missing f_without_item f_require_few_blocks f_decisive_demands f_largest_independent f_unserved_demands f_helpful_piece f_smallest_solution f_count_needed f_solve f_are_witnesses f_solution_holds f_helps f_helpful_interval f_has_open_demand f_widen f_essential_targets f_core_targets f_is_free f_growth_counts f_law_draws f_law_next f_law_blocks f_law_wide f_law_call f_law_raised f_law_judged f_law f_TooWide_init X_TooWide X_NotGenerated X_OutOfRange X_TooMany X_SpanError d_depth_changes d_find_blocks d_is_number d_is_position d_is_tuple_of d_is_interval d_is_ascending d_has_position d_contains d_intersect d_is_demand d_serves d_conflict d_is_independent d_demands_at_blocks d_is_open d_open_demands d_shadow_target d_pieces_inside d_first_gap d_generates d_find_missing d_without_item d_require_few_blocks d_decisive_demands d_largest_independent d_unserved_demands d_helpful_piece d_smallest_solution d_count_needed d_solve d_are_witnesses d_solution_holds d_helps d_helpful_interval d_has_open_demand d_widen d_essential_targets d_core_targets d_is_free d_growth_counts d_law_draws d_law_next d_law_blocks d_law_wide d_law_call d_law_raised d_law_judged d_law d_TooWide_init t_LAST_POSITION t_MAX_BLOCKS) (hT : TabH base mg d_helpful_piece pT) : FnOk P w K mg base (L2.CX P w) (lgN+12) f_law_call d_law_call ["_law_index", "_law_targets_here", "_law_pieces", "_law_interval"] (fun vs H Q E => (sp_law_call pT) vs H Q E ∨ (spr_law_call X_TooWide) vs H Q E) := fn_or ((ok_law_call T hT).mono (by first | exact Nat.le_refl _ | decide)) (okr_law_call T hT)

theorem XcN.kitY {K : PySem.W.Frag} {mg : Str → Option Value} {x : Str} {D C : Addr} (N : XcN K mg x C) (s : PySem.W.subIn K (.ref D) (.ref C) = some true) : PySem.W.kitOne K (.ref D) (.ref C) = some true := by
  by_cases e : D = C
  · subst e
    exact kit_self
  · exact N.kit s e
theorem andV_bool {ta tb : TE} {σ : L2.St} {H : Hp} {Q : VK} {k1 k2 : Bool} (h1 : ∀ R : VK, R (.bl k1) H → ta σ H R) (h2 : k1 = true → ∀ R : VK, R (.bl k2) H → tb σ H R) (h : Q (.bl (k1 && k2)) H) : tAndV ta tb σ H Q := by
  refine h1 _ ⟨k1, rfl, ?_⟩
  cases k1 with
  | true => exact iteT (h2 rfl _ h)
  | false => exact iteF h
def sp_law_raised (pT : Addr) : Sp := fun vs H Q _ => ∃ (d : Addr) (c : Addr × Addr × Addr) (n : Int) (i : Nat) (a b t : Addr) (us ws : List V) (ts ps : List (Int × Int)) (x y : Int), vs = [.int i, .ref a, .ref b, .ref t] ∧ i < 8 ∧ c.2.2 = pT ∧ Dk H d c n ∧ H a = some (.tup us) ∧ H b = some (.tup ws) ∧ Ivs H us ts ∧ Ivs H ws ps ∧ H t = some (.tup [.int x, .int y]) ∧ CB ts ps (x, y) ∧
  ∀ H', Kp d c H H' → Dk H' d c n → Q (if 8 < (blocksOf (rowX i ts ps (x, y))).length then .int 8 else .non) H'
theorem ok_law_raised (T : Tx K mg f_depth_changes f_find_blocks f_is_number f_is_position f_is_tuple_of f_is_interval f_is_ascending f_has_position f_contains f_intersect f_is_demand f_serves f_conflict f_is_independent f_demands_at_blocks f_is_open f_open_demands f_shadow_target f_pieces_inside f_first_gap f_generates f_find_missing f_without_item f_require_few_blocks f_decisive_demands f_largest_independent f_unserved_demands f_helpful_piece f_smallest_solution f_count_needed f_solve f_are_witnesses f_solution_holds f_helps f_helpful_interval f_has_open_demand f_widen f_essential_targets f_core_targets f_is_free f_growth_counts f_law_draws f_law_next f_law_blocks f_law_wide f_law_call f_law_raised f_law_judged f_law f_TooWide_init X_TooWide X_NotGenerated X_OutOfRange X_TooMany X_SpanError d_depth_changes d_find_blocks d_is_number d_is_position d_is_tuple_of d_is_interval d_is_ascending d_has_position d_contains d_intersect d_is_demand d_serves d_conflict d_is_independent d_demands_at_blocks d_is_open d_open_demands d_shadow_target d_pieces_inside d_first_gap d_generates d_find_missing d_without_item d_require_few_blocks d_decisive_demands d_largest_independent d_unserved_demands d_helpful_piece d_smallest_solution d_count_needed d_solve d_are_witnesses d_solution_holds d_helps d_helpful_interval d_has_open_demand d_widen d_essential_targets d_core_targets d_is_free d_growth_counts d_law_draws d_law_next d_law_blocks d_law_wide d_law_call d_law_raised d_law_judged d_law d_TooWide_init t_LAST_POSITION t_MAX_BLOCKS) (hT : TabH base mg d_helpful_piece pT) : FnOk P w K mg base CX0 (lgN+13) f_law_raised d_law_raised ["_law_index", "_law_targets_here", "_law_pieces", "_law_interval"] (sp_law_raised pT) := by
  refine T.F_law_raised.ok sc_law_raised (fun vs H Q E h => ?_) (fun cdv A outer s H vs Q E hr h => ?_)
  · obtain ⟨d, c, n, i, a, b, t, us, ws, ts, ps, x, y, rfl, _⟩ := h
    rfl
  · obtain ⟨d, c, n, i, a, b, t, us, ws, ts, ps, x, y, rfl, i8, ct, dk, ha, hb, ivt, ivp, ht, B, q⟩ := h
    refine ⟨_, (pss_cons (ps_try_as (i := 4)  (Wout := fun _ _ _ _ => False) rfl rfl sc_law_raised.nd rfl rfl ⟨rfl, by decide, .inl T.xn_TooWide.g⟩ takes0
      (fun W pn xe tk _ => (pss_one (ps_expr (pe_callS (okx_law_call T hT) (hr.mono (by decide)) (by rfl) T.g_law_call T.F_law_call.kp T.b_law_call (fun σ => passAt tk σ) (pa_cons (pv 0) (pa_cons (pv 1) (pa_cons (pv 2) (pa_cons (pv 3) pa_nil))))))))
      (fun ea oe cls ed pn hz hf => (pss_cons (ps_set (i := 5) sc_law_raised.nd rfl (Or.inl rfl) (pe_not (pe_callB (call_isYT hz hf) (by rfl) T.z_isinstance (by decide +kernel) (pa_cons (pv 4) (pa_cons (pe_tup (pa_cons (pe_glob (v := .ref X_NotGenerated) (by rfl) T.xn_NotGenerated.g rfl) (pa_cons (pe_glob (v := .ref X_OutOfRange) (by rfl) T.xn_OutOfRange.g rfl) (pa_cons (pe_glob (v := .ref X_TooMany) (by rfl) T.xn_TooMany.g rfl) pa_nil)))) pa_nil)))))
      (pss_cons (ps_set (i := 6) sc_law_raised.nd rfl (Or.inl rfl) (pe_and (pv 5) (pe_and (pe_callB (call_isY hz hf) (by rfl) T.z_isinstance (by decide +kernel) (pa_cons (pv 4) (pa_cons (pe_glob (v := .ref X_SpanError) (by rfl) T.xn_SpanError.g rfl) pa_nil))) (pe_one (pe_callB (call_isY hz hf) (by rfl) T.z_isinstance (by decide +kernel) (pa_cons (pv 4) (pa_cons (pe_bltn (v := .ty "ValueError") (u := .type "ValueError") (by rfl) T.z_ValueError (by decide +kernel) rfl) pa_nil)))))))
      (pss_one (ps_ret (pe_ix (show IxR _ (rIxL K) from ix_list) (pe_lst (pa_cons (pe_un un_neg pe_int) (pa_cons (pe_xf T.xi_TooWide.xf T.xi_TooWide.no hz hf (pv 4)) pa_nil))) (pe_callTy call_int1 (by rfl) T.z_int (by decide +kernel) (pa_cons (pv 6) pa_nil)) (fun _ _ => rfl))))))))
      (pss_one (ps_ret pe_non))), ?_⟩
    refine ⟨_, rfl, .ref a, rfl, .ref b, rfl, .ref t, rfl, ?_⟩
    by_cases few : (blocksOf (rowX i ts ps (x, y))).length ≤ 8
    · rw [if_neg (by omega)] at q
      refine .inl ⟨d, c, n, i, a, b, t, us, ws, ts, ps, x, y, rfl, i8, ct, dk, ha, hb, ivt, ivp, ht, B, few, fun H' kp dk' => ?_⟩
      exact q H' kp dk'
    · rw [if_pos (by omega)] at q
      refine .inr ⟨i, a, b, t, us, ws, ts, ps, x, y, rfl, i8, ha, hb, ivt, ivp, ht, B, by omega, fun e H2 ne ee s2 => ?_⟩
      refine ⟨true, T.xn_TooWide.exm T.xs_TooWide_TooWide, fun _ ea na => ?_, fun z => nomatch z⟩
      have ex := T.xi_TooWide.ex
      refine ⟨.ref ea, rfl, by show 3 ≤ sizeLine; decide, fun u nu => ?_⟩
      have s3 := same_new (o := .tup [.ref X_NotGenerated, .ref X_OutOfRange, .ref X_TooMany]) nu
      have eu := upd_same (H := H2) (a := u) (o := .tup [.ref X_NotGenerated, .ref X_OutOfRange, .ref X_TooMany])
      generalize upd H2 u (.tup [.ref X_NotGenerated, .ref X_OutOfRange, .ref X_TooMany]) = H3 at *
      refine ⟨X_TooWide, u, _, _, _, rfl, rfl, .inr ⟨e, _, rfl, s3 _ _ ee⟩, ex, eu, .cons (.own _) (.cons (.own _) (.cons (.own _) .nil)), kit_noneI (mg := mg) T.xi_TooWide (l := [("NotGenerated", X_NotGenerated), ("OutOfRange", X_OutOfRange), ("TooMany", X_TooMany)]) (fun q hq => ?_), ?_⟩
      · rcases List.mem_cons.mp hq with rfl | hq
        · exact ⟨T.xn_NotGenerated, T.xs_TooWide_NotGenerated⟩
        rcases List.mem_cons.mp hq with rfl | hq
        · exact ⟨T.xn_OutOfRange, T.xs_TooWide_OutOfRange⟩
        rw [List.mem_singleton.mp hq]
        exact ⟨T.xn_TooMany, T.xs_TooWide_TooMany⟩
      have e3 := s3 _ _ ee
      refine ⟨false, rfl, ?_⟩
      refine ⟨_, rfl, true, rfl, iteT ?_⟩
      refine ⟨.ref ea, rfl, X_TooWide, .ref X_SpanError, _, true, rfl, rfl, .inr ⟨e, _, rfl, e3⟩, ex, .own _, T.xn_SpanError.kitY T.xs_TooWide_SpanError, true, rfl, iteT ?_⟩
      refine ⟨.ref ea, rfl, X_TooWide, .ty "ValueError", _, _, rfl, rfl, .inr ⟨e, _, rfl, e3⟩, ex, .ty _, kit_bltn (by decide +kernel) T.xv_TooWide, ?_⟩
      refine ⟨_, rfl, .ref ea, rfl, rfl, rfl, e, _, .int 8, rfl, e3, rfl, by show 2 ≤ sizeLine; decide, fun l nl => ?_⟩
      exact ⟨_, rfl, .inr ⟨true, rfl, l, _, 1, .int 8, rfl, rfl, SqL.of upd_same, rfl, q _ (Kp.same (s2.trans (s3.trans (same_new nl)))) (dk.kept (s2.trans (s3.trans (same_new nl))))⟩⟩

/-! ### solutions of many single positions, judged -/
def wRow (m : Nat) : List (Int × Int) := (List.range m).map fun k : Nat => (2 * (0 + (k : Int)), 2 * (0 + (k : Int)))
theorem wRow_succ (m : Nat) : wRow (m + 1) = wRow m ++ [(2 * (0 + (m : Int)), 2 * (0 + (m : Int)))] := by
  unfold wRow
  rw [List.range_succ, List.map_append]
  rfl
theorem wRow_len (m : Nat) : (wRow m).length = m := by
  unfold wRow
  rw [List.length_map, List.length_range]
theorem wRow_ok {m : Nat} (hm : m ≤ 17) : ∀ q ∈ wRow m, 0 ≤ q.1 ∧ q.1 ≤ q.2 ∧ q.2 ≤ 40 := fun q hq => by
  obtain ⟨k, hk, rfl⟩ := List.mem_map.mp hq
  have := List.mem_range.mp hk
  show 0 ≤ 2 * (0 + (k : Int)) ∧ 2 * (0 + (k : Int)) ≤ 2 * (0 + (k : Int)) ∧ 2 * (0 + (k : Int)) ≤ 40
  omega
def demQ (q : Int × Int) : Dem := (q.1, q.1, q.2)
def demT (d : Dem) : PyData := .tuple [.int d.1, .tuple [.int d.2.1, .int d.2.2]]
theorem ivs_dv {K : PySem.W.Frag} {H : Hp} {vs : List V} {ps : List (Int × Int)} (h : Ivs H vs ps) : DvAll K H vs (ps.map pairD) := by
  induction h with
  | nil => exact .nil
  | cons e h ih => exact .cons (.tup e (.cons (.int _) (.cons (.int _) .nil))) ih
theorem dms_dv {K : PySem.W.Frag} {H : Hp} {vs : List V} {ds : List Dem} (h : Dms H vs ds) : DvAll K H vs (ds.map demT) := by
  induction h with
  | nil => exact .nil
  | cons e h ih =>
    obtain ⟨u, t, rfl, e1, e2⟩ := e.ex
    exact .cons (.tup e1 (.cons (.int _) (.cons (.tup e2 (.cons (.int _) (.cons (.int _) .nil))) .nil))) ih
def solD (ts : List (Int × Int)) (ds : List Dem) : PyData := .tuple [.tuple (ts.map pairD), .tuple (ds.map demT)]
theorem fine_sol {ts : List (Int × Int)} {ds : List Dem} (h1 : ∀ q ∈ ts, 0 ≤ q.1 ∧ q.1 ≤ q.2 ∧ q.2 ≤ 40) (l1 : ts.length ≤ 20) (h2 : ∀ d ∈ ds, (0 ≤ d.1 ∧ d.1 ≤ 40) ∧ 0 ≤ d.2.1 ∧ d.2.1 ≤ d.2.2 ∧ d.2.2 ≤ 40) (l2 : ds.length ≤ 20) : Fine 1000 20 (solD ts ds) ∧ (solD ts ds).weight ≤ 100000 := by
  have fi : ∀ x : Int, 0 ≤ x → x ≤ 40 → Fine 1000 20 (.int x) := fun x a b => Fine.int (by omega) (by decide)
  have fp : ∀ q : Int × Int, (0 ≤ q.1 ∧ q.1 ≤ q.2 ∧ q.2 ≤ 40) → Fine 1000 20 (pairD q) ∧ Sm 202 1 (pairD q) := fun q h => by
    refine ⟨Fine.tup (by show 2 ≤ 20; decide) fun x hx => ?_, sm2 (by omega) (by omega)⟩
    rcases List.mem_cons.mp hx with rfl | hx
    · exact fi _ (by omega) (by omega)
    · rw [List.mem_singleton.mp hx]
      exact fi _ (by omega) (by omega)
  have fd : ∀ d ∈ ds, Fine 1000 20 (demT d) ∧ Sm 406 2 (demT d) := fun d hd => by
    have o := h2 d hd
    have p := fp (d.2.1, d.2.2) o.2
    refine ⟨Fine.tup (by show 2 ≤ 20; decide) fun x hx => ?_, (Sm.tup (n := 202) (dp := 1) (ds := [.int d.1, .tuple [.int d.2.1, .int d.2.2]]) fun x hx => ?_).mono (by show 2 * (202 + 1) ≤ 406; decide) (by decide)⟩
    · rcases List.mem_cons.mp hx with rfl | hx
      · exact fi _ (by omega) (by omega)
      · rw [List.mem_singleton.mp hx]
        exact p.1
    · rcases List.mem_cons.mp hx with rfl | hx
      · exact (Sm.int (by omega)).mono (by decide) (by decide)
      · rw [List.mem_singleton.mp hx]
        exact p.2
  have f1 : Fine 1000 20 (.tuple (ts.map pairD)) := Fine.tup (by rw [List.length_map]; exact l1) fun x hx => by
    obtain ⟨q, hq, rfl⟩ := List.mem_map.mp hx
    exact (fp q (h1 q hq)).1
  have f2 : Fine 1000 20 (.tuple (ds.map demT)) := Fine.tup (by rw [List.length_map]; exact l2) fun x hx => by
    obtain ⟨q, hq, rfl⟩ := List.mem_map.mp hx
    exact (fd q hq).1
  have s1 : Sm (20 * 407) 3 (.tuple (ts.map pairD)) := (Sm.tup (n := 202) (dp := 1) (ds := ts.map pairD) fun x hx => by
    obtain ⟨q, hq, rfl⟩ := List.mem_map.mp hx
    exact (fp q (h1 q hq)).2).mono (by rw [List.length_map]; omega) (by decide)
  have s2 : Sm (20 * 407) 3 (.tuple (ds.map demT)) := (Sm.tup (n := 406) (dp := 2) (ds := ds.map demT) fun x hx => by
    obtain ⟨q, hq, rfl⟩ := List.mem_map.mp hx
    exact (fd q hq).2).mono (by rw [List.length_map]; omega) (by decide)
  have sT : Sm (2 * (20 * 407 + 1)) 4 (solD ts ds) := Sm.tup (n := 20 * 407) (dp := 3) (ds := [.tuple (ts.map pairD), .tuple (ds.map demT)]) fun x hx => by
    rcases List.mem_cons.mp hx with rfl | hx
    · exact s1
    · rw [List.mem_singleton.mp hx]
      exact s2
  refine ⟨Fine.tup (by show 2 ≤ 20; decide) fun x hx => ?_, Nat.le_trans sT.small (by decide)⟩
  rcases List.mem_cons.mp hx with rfl | hx
  · exact f1
  · rw [List.mem_singleton.mp hx]
    exact f2
/-- the four answers -/
theorem judged4 {m : Nat} (h9 : 9 ≤ m) (h17 : m ≤ 17) : holdB (wRow m) [] (solD (wRow m) ((wRow m).map demQ)) = true ∧
    holdB (wRow m) ((wRow m).take 1) (solD ((wRow m).drop 1) (((wRow m).map demQ).drop 1)) = true ∧
    holdB (wRow m) [] (solD ((wRow m).drop 1) (((wRow m).map demQ).drop 1)) = false ∧ holdB (wRow m) [] (solD (wRow m) (((wRow m).map demQ).drop 1)) = false := by
  have dec : ∀ n : Fin 9, let m := n.val + 9; (ascB ivB (.tuple ((wRow m).map pairD)) && witB (wRow m) [] (.tuple (((wRow m).map demQ).map demT))) = true ∧
      (ascB ivB (.tuple (((wRow m).drop 1).map pairD)) && witB (wRow m) ((wRow m).take 1) (.tuple ((((wRow m).map demQ).drop 1).map demT))) = true ∧ (((wRow m).map pairD).map toPair = wRow m) ∧ ((((wRow m).drop 1).map pairD).map toPair = (wRow m).drop 1) ∧ (wRow m).take 1 ++ (wRow m).drop 1 = wRow m ∧ (0, 0) ∈ wRow m ∧ ∀ q ∈ (wRow m).drop 1, 0 < q.1 := by decide +kernel
  obtain ⟨n, rfl⟩ : ∃ n, m = n + 9 := ⟨m - 9, by omega⟩
  have d := dec ⟨n, by omega⟩
  have lw := wRow_len (n + 9)
  dsimp only at d
  generalize wRow (n + 9) = W at *
  obtain ⟨d1, d2, d3, d4, d5, d6, d7⟩ := d
  have cov : covB W W = true := covB_iff.mpr fun t ht p a b => ⟨t, ht, Int.le_refl _, a, b, Int.le_refl _⟩
  refine ⟨?_, ?_, ?_, ?_⟩
  · show ((_ && _) && (decide ((W.map pairD).length = ((W.map demQ).map demT).length) && covB ([] ++ (W.map pairD).map toPair) W)) = true
    rw [d1, d3, List.nil_append, cov, List.length_map, List.length_map, List.length_map, decide_eq_true rfl]
    rfl
  · show ((_ && _) && (decide (((W.drop 1).map pairD).length = (((W.map demQ).drop 1).map demT).length) && covB (W.take 1 ++ ((W.drop 1).map pairD).map toPair) W)) = true
    rw [d2, d4, d5, cov, List.length_map, List.length_map, List.length_drop, List.length_drop, List.length_map, decide_eq_true rfl]
    rfl
  · show ((_ && _) && (_ && covB ([] ++ ((W.drop 1).map pairD).map toPair) W)) = false
    rw [d4, List.nil_append]
    have nc : covB (W.drop 1) W = false := by
      rw [← Bool.not_eq_true]
      intro h
      obtain ⟨q, hq, a, b, c, e⟩ := covB_iff.mp h (0, 0) d6 0 (Int.le_refl _) (Int.le_refl _)
      have := d7 q hq
      omega
    rw [nc, Bool.and_false, Bool.and_false]
  · show ((_ && _) && (decide ((W.map pairD).length = (((W.map demQ).drop 1).map demT).length) && _)) = false
    rw [List.length_map, List.length_map, List.length_drop, List.length_map, decide_eq_false (by omega), Bool.false_and, Bool.and_false]
theorem dms_drop {H : Hp} {vs : List V} {ds : List Dem} (h : Dms H vs ds) : ∀ n : Nat, Dms H (vs.drop n) (ds.drop n) := by
  induction h with
  | nil =>
    intro n
    rw [List.drop_nil, List.drop_nil]
    exact .nil
  | cons e h ih =>
    intro n
    cases n with
    | zero => exact .cons e h
    | succ n => exact ih n
theorem judged_call {K : PySem.W.Frag} {H : Hp} {Q : VK} {E : XK} {W x p u b : Addr} {xs ys zs ws : List V} {R rows pcs : List (Int × Int)} {ds : List Dem} (eW : H W = some (.tup xs)) (iv : Ivs H xs R) (ex : H x = some (.tup ys)) (ivx : Ivs H ys rows) (ep : H p = some (.tup zs)) (dm : Dms H zs ds) (eb : H b = some (.tup ws)) (ivb : Ivs H ws pcs) (eu : H u = some (.tup [.ref x, .ref p]))
    (okR : ∀ q ∈ R, 0 ≤ q.1 ∧ q.1 ≤ q.2 ∧ q.2 ≤ 40) (okr : ∀ q ∈ rows, 0 ≤ q.1 ∧ q.1 ≤ q.2 ∧ q.2 ≤ 40) (okp : ∀ q ∈ pcs, 0 ≤ q.1 ∧ q.1 ≤ q.2 ∧ q.2 ≤ 40) (okd : ∀ d ∈ ds, (0 ≤ d.1 ∧ d.1 ≤ 40) ∧ 0 ≤ d.2.1 ∧ d.2.1 ≤ d.2.2 ∧ d.2.2 ≤ 40)
    (lr : rows.length ≤ 20) (ld : ds.length ≤ 20) (lp : pcs.length ≤ 13) (q : ∀ H', Same H H' → Q (.bl (holdB R pcs (solD rows ds))) H') : sp_solution_holds K [.ref W, .ref b, .ref u] H Q E := by
  obtain ⟨f, w⟩ := fine_sol okr lr okd ld
  exact ⟨W, b, .ref u, xs, ws, R, pcs, solD rows ds, 1000, 20, rfl, eW, iv, fun t ht => (okR t ht).2.1, eb, ivb, lp, (fun t ht => by have := okp t ht; omega), .tup eu (.cons (.tup ex (ivs_dv ivx)) (.cons (.tup ep (dms_dv dm)) .nil)), f, by decide, w, q⟩
def sp_law_judged : Sp := fun vs H Q _ => ∃ (d : Addr) (c : Addr × Addr × Addr) (n : Int), vs = [.ref d] ∧ Dk H d c n ∧ 0 ≤ n ∧ n < 900000 ∧ ∀ H', Q (.bl true) H'
theorem ok_law_judged (T : Tx K mg f_depth_changes f_find_blocks f_is_number f_is_position f_is_tuple_of f_is_interval f_is_ascending f_has_position f_contains f_intersect f_is_demand f_serves f_conflict f_is_independent f_demands_at_blocks f_is_open f_open_demands f_shadow_target f_pieces_inside f_first_gap f_generates f_find_missing f_without_item f_require_few_blocks f_decisive_demands f_largest_independent f_unserved_demands f_helpful_piece f_smallest_solution f_count_needed f_solve f_are_witnesses f_solution_holds f_helps f_helpful_interval f_has_open_demand f_widen f_essential_targets f_core_targets f_is_free f_growth_counts f_law_draws f_law_next f_law_blocks f_law_wide f_law_call f_law_raised f_law_judged f_law f_TooWide_init X_TooWide X_NotGenerated X_OutOfRange X_TooMany X_SpanError d_depth_changes d_find_blocks d_is_number d_is_position d_is_tuple_of d_is_interval d_is_ascending d_has_position d_contains d_intersect d_is_demand d_serves d_conflict d_is_independent d_demands_at_blocks d_is_open d_open_demands d_shadow_target d_pieces_inside d_first_gap d_generates d_find_missing d_without_item d_require_few_blocks d_decisive_demands d_largest_independent d_unserved_demands d_helpful_piece d_smallest_solution d_count_needed d_solve d_are_witnesses d_solution_holds d_helps d_helpful_interval d_has_open_demand d_widen d_essential_targets d_core_targets d_is_free d_growth_counts d_law_draws d_law_next d_law_blocks d_law_wide d_law_call d_law_raised d_law_judged d_law d_TooWide_init t_LAST_POSITION t_MAX_BLOCKS) : FnG P w K mg base 8 f_law_judged d_law_judged ["_law_state"] sp_law_judged := by
  refine FnG.of T.F_law_judged sc_law_judged (fun {vs H Q} h => ?_) (fun cdv A outer s H vs Q hr hq h => ?_)
  · obtain ⟨d, c, n, rfl, _⟩ := h
    rfl
  · obtain ⟨d, c, n, rfl, dk, n0, n1, q⟩ := h
    refine ⟨_, (pss_cons (ps_set (i := 1) sc_law_judged.nd rfl (Or.inl rfl) (pe_callTy call_tuple_of (by rfl) T.z_tuple (by decide +kernel) (pa_cons (pe_lc (own := [("_law_k", 2)]) (g := (gName 2)) (tt := tYes) (by rfl) sc_law_judged.nd (pi_range1 (by rfl) T.z_range (pa_cons (pe_op op_add pe_int (pe_call (ok_law_next T) (hr.mono (by decide)) (by rfl) T.g_law_next T.F_law_next.kp T.b_law_next .nil pass0 (pa_cons (pv 0) (pa_cons pe_int pa_nil)))) pa_nil)) (blkOk_by (own := [("_law_k", 2)]) (N := N_law_judged) (sc := defScope s_law_judged) (by decide +kernel)) (fun _ _ _ _ _ => (pg_name (i := 2) sc_law_judged.nd rfl (Or.inl rfl))) (fun _ _ _ _ _ => pts_nil) (fun _ _ _ _ _ => (pe_tup (pa_cons (pe_op op_mulW pe_int (pv 2)) (pa_cons (pe_op op_mulW pe_int (pv 2)) pa_nil))))) pa_nil)))
      (pss_cons (ps_set (i := 3) sc_law_judged.nd rfl (Or.inl rfl) (pe_callTy call_tuple_of (by rfl) T.z_tuple (by decide +kernel) (pa_cons (pe_lc (own := [("_law_low", 4), ("_law_high", 5)]) (g := (gTup K 2 (gCons (gName 4) (gCons (gName 5) gNil)))) (tt := tYes) (by rfl) sc_law_judged.nd (pi_tup (pv 1)) (blkOk_by (own := [("_law_low", 4), ("_law_high", 5)]) (N := N_law_judged) (sc := defScope s_law_judged) (by decide +kernel)) (fun _ _ _ _ _ => (pg_tup rfl (pgs_cons (pg_name (i := 4) sc_law_judged.nd rfl (Or.inl rfl)) (pgs_cons (pg_name (i := 5) sc_law_judged.nd rfl (Or.inl rfl)) pgs_nil)))) (fun _ _ _ _ _ => pts_nil) (fun _ _ _ _ _ => (pe_tup (pa_cons (pv 4) (pa_cons (pe_tup (pa_cons (pv 4) (pa_cons (pv 5) pa_nil))) pa_nil))))) pa_nil)))
      (pss_cons (ps_set (i := 6) sc_law_judged.nd rfl (Or.inl rfl) (pe_lst (pa_cons (pe_call (ok_solution_holds T) (hr.mono (by decide)) (by rfl) T.g_solution_holds T.F_solution_holds.kp T.b_solution_holds .nil pass0 (pa_cons (pv 1) (pa_cons (pe_tup pa_nil) (pa_cons (pe_tup (pa_cons (pv 1) (pa_cons (pv 3) pa_nil))) pa_nil)))) (pa_cons (pe_call (ok_solution_holds T) (hr.mono (by decide)) (by rfl) T.g_solution_holds T.F_solution_holds.kp T.b_solution_holds .nil pass0 (pa_cons (pv 1) (pa_cons (pe_slice sl_tupA (pv 1) po_none (po_some pe_int)) (pa_cons (pe_tup (pa_cons (pe_slice sl_tupA (pv 1) (po_some pe_int) po_none) (pa_cons (pe_slice sl_tupA (pv 3) (po_some pe_int) po_none) pa_nil))) pa_nil)))) pa_nil))))
      (pss_cons (ps_set (i := 6) sc_law_judged.nd rfl (Or.inl rfl) (pe_op op_cat (pv 6) (pe_lst (pa_cons (pe_call (ok_solution_holds T) (hr.mono (by decide)) (by rfl) T.g_solution_holds T.F_solution_holds.kp T.b_solution_holds .nil pass0 (pa_cons (pv 1) (pa_cons (pe_tup pa_nil) (pa_cons (pe_tup (pa_cons (pe_slice sl_tupA (pv 1) (po_some pe_int) po_none) (pa_cons (pe_slice sl_tupA (pv 3) (po_some pe_int) po_none) pa_nil))) pa_nil)))) (pa_cons (pe_call (ok_solution_holds T) (hr.mono (by decide)) (by rfl) T.g_solution_holds T.F_solution_holds.kp T.b_solution_holds .nil pass0 (pa_cons (pv 1) (pa_cons (pe_tup pa_nil) (pa_cons (pe_tup (pa_cons (pv 1) (pa_cons (pe_slice sl_tupA (pv 3) (po_some pe_int) po_none) pa_nil))) pa_nil)))) pa_nil)))))
      (pss_one (ps_ret (pe_cmpR op_eq (pe_callB (call_reprD hq hr.units) (by rfl) T.z_repr (by decide +kernel) (pa_cons (pv 6) pa_nil)) pe_str (nomark _)))))))), ?_⟩
    refine ⟨.ref d, rfl, d, c, n, 9, rfl, dk, n0, by omega, by decide, by decide, fun H1 r kp1 dk1 r0 r1 => ?_⟩
    refine ⟨_, _, rfl, rfl, 9 + r, rfl, by omega, by omega, fun D nD => ?_⟩
    refine lcR (lo := 0) (n := (9 + r).toNat) (fun j H' ws => Ivs H' ws (wRow j)) nD (by omega) (fun _ _ _ _ t r => r.tps t) (fun j H' ws r => by rw [r.length, wRow_len]; exact Nat.le_refl _) (fun _ => .nil) ?_ ?_
    · rintro j H' N acc hj sj eA sz r no yes
      refine ⟨rfl, .int (0 + (j : Nat)), rfl, _, _, rfl, rfl, mulS (by decide) (by omega), .int (0 + (j : Nat)), rfl, _, _, rfl, rfl, mulS (by decide) (by omega), by show 2 ≤ sizeLine; decide, fun t nt => ?_⟩
      refine yes _ _ (same_new nt) ?_
      rw [wRow_succ]
      exact (r.same (same_new nt)).snoc upd_same
    intro H2 xs s2 eD iv
    refine ⟨D, xs, rfl, .inl ⟨SqL.of eD, fun W nW => ?_⟩⟩
    have s3 := same_new (o := .tup xs) nW
    have eW := upd_same (H := H2) (a := W) (o := .tup xs)
    generalize upd H2 W (.tup xs) = H3 at *
    have iv := iv.same s3
    have h9 : 9 ≤ (9 + r).toNat := by omega
    have h17 : (9 + r).toNat ≤ 17 := by omega
    have lw := wRow_len (9 + r).toNat
    have okw := wRow_ok h17
    obtain ⟨j1, j2, j3, j4⟩ := judged4 h9 h17
    generalize wRow (9 + r).toNat = R at *
    have lx := iv.length
    refine ⟨.ref W, rfl, W, rfl, ⟨_, SqT.of eW⟩, fun D2 nD2 => ?_⟩
    refine lcT (K := K) (a := W) (xs := xs) (fun j H' ws => Dms H' ws ((R.take j).map demQ)) nD2 (fun H' s => SqT.of (s _ _ (eW))) (by omega) (fun _ _ _ _ t r => r.tps t) (fun j H' ws r => (by rw [r.length, List.length_map]; exact List.length_take_le _ _)) (fun _ => .nil) ?_ ?_
    · rintro j z H' N acc hj sj eA sz r no yes
      obtain ⟨b, x, y, rfl, exy, hb⟩ := iv.get hj
      have o := okw _ (List.mem_of_getElem? exy)
      refine ⟨b, _, rfl, SqT.of (sj _ _ hb), rfl, .int x, [.int y], rfl, .int y, [], rfl, rfl, rfl, .int x, rfl, .int x, rfl, .int y, rfl, by show 2 ≤ sizeLine; decide, fun t nt => ?_⟩
      have s5 := same_new (o := .tup [.int x, .int y]) nt
      have et := upd_same (H := H') (a := t) (o := .tup [.int x, .int y])
      generalize upd H' t (.tup [.int x, .int y]) = H5 at *
      refine ⟨by show 2 ≤ sizeLine; decide, fun u nu => ?_⟩
      have s6 := same_new (o := .tup [.int x, .ref t]) nu
      refine yes _ _ (s5.trans s6) ?_
      rw [List.take_add_one, exy, List.map_append]
      have e1 : (upd H5 u (.tup [.int x, .ref t])) u = _ := upd_same
      exact (r.tps (Tps.same (s5.trans s6))).snoc ⟨⟨u, t, rfl, e1, s6 _ _ et⟩, Int.le_refl _, o.2.1⟩
    intro H4 ps s4 eD2 dm
    rw [lx, List.take_length] at dm
    refine ⟨D2, ps, rfl, .inl ⟨SqL.of eD2, fun P nP => ?_⟩⟩
    have s5 := same_new (o := .tup ps) nP
    have eP := upd_same (H := H4) (a := P) (o := .tup ps)
    generalize upd H4 P (.tup ps) = H5 at *
    have dm := dm.same s5
    have lp := dm.length
    rw [List.length_map] at lp
    have s35 := s4.trans s5
    have eW5 := s35 _ _ eW
    have iv5 := iv.same s35
    have okd : ∀ e ∈ R.map demQ, (0 ≤ e.1 ∧ e.1 ≤ 40) ∧ 0 ≤ e.2.1 ∧ e.2.1 ≤ e.2.2 ∧ e.2.2 ≤ 40 := fun e he => by
      obtain ⟨z, hz, rfl⟩ := List.mem_map.mp he
      have := okw z hz
      show (0 ≤ z.1 ∧ z.1 ≤ 40) ∧ 0 ≤ z.1 ∧ z.1 ≤ z.2 ∧ z.2 ≤ 40
      omega
    have ldm : (R.map demQ).length ≤ 20 := by rw [List.length_map]; omega
    generalize R.map demQ = DM at *
    have okd1 : ∀ e ∈ DM.drop 1, (0 ≤ e.1 ∧ e.1 ≤ 40) ∧ 0 ≤ e.2.1 ∧ e.2.1 ≤ e.2.2 ∧ e.2.2 ≤ 40 := fun e he => okd e (List.mem_of_mem_drop he)
    have okw1 : ∀ e ∈ R.drop 1, 0 ≤ e.1 ∧ e.1 ≤ e.2 ∧ e.2 ≤ 40 := fun e he => okw e (List.mem_of_mem_drop he)
    have okt1 : ∀ e ∈ R.take 1, 0 ≤ e.1 ∧ e.1 ≤ e.2 ∧ e.2 ≤ 40 := fun e he => okw e (List.mem_of_mem_take he)
    have lr1 : (R.drop 1).length ≤ 20 := by rw [List.length_drop]; omega
    have ld1 : (DM.drop 1).length ≤ 20 := by rw [List.length_drop]; omega
    have lt1 : (R.take 1).length ≤ 13 := by have := List.length_take_le 1 R; omega
    -- all of it
    refine ⟨.ref W, rfl, by show 0 ≤ sizeLine; decide, fun e ne => ?_⟩
    have s6 := same_new (o := .tup []) ne
    have ee := upd_same (H := H5) (a := e) (o := .tup [])
    generalize upd H5 e (.tup []) = H6 at *
    refine ⟨.ref W, rfl, .ref P, rfl, by show 2 ≤ sizeLine; decide, fun u nu => ?_⟩
    have s7 := same_new (o := .tup [.ref W, .ref P]) nu
    have eu := upd_same (H := H6) (a := u) (o := .tup [.ref W, .ref P])
    generalize upd H6 u (.tup [.ref W, .ref P]) = H7 at *
    have s57 := s6.trans s7
    dsimp only [tNil]
    refine judged_call (s57 _ _ eW5) (iv5.same s57) (s57 _ _ eW5) (iv5.same s57) (s57 _ _ eP) (dm.same s57) (s7 _ _ ee) .nil eu okw okw (fun q hq => nomatch hq) okd (by omega) ldm (by decide) (fun H8 s8 => ?_)
    rw [j1]
    have s58 := s57.trans s8
    -- without the first ones, which is a piece
    refine ⟨.ref W, rfl, .ref W, rfl, 1, rfl, slA_any (s58 _ _ eW5) (fun H9 pc s9 epc => ?_)⟩
    rw [show (1 : Int) = ((1 : Nat) : Int) from rfl, cutTo] at epc
    have s59 := s58.trans s9
    refine ⟨.ref W, rfl, 1, rfl, ?_⟩
    refine noPart_of ?_
    refine slA_any (s59 _ _ eW5) (fun H10 w1 s10 ew1 => ?_)
    rw [show (1 : Int) = ((1 : Nat) : Int) from rfl, cutFrom] at ew1
    have s510 := s59.trans s10
    refine ⟨.ref P, rfl, 1, rfl, ?_⟩
    refine noPart_of ?_
    refine slA_any (s510 _ _ eP) (fun H11 p1 s11 ep1 => ?_)
    rw [show (1 : Int) = ((1 : Nat) : Int) from rfl, cutFrom] at ep1
    have s511 := s510.trans s11
    refine ⟨by show 2 ≤ sizeLine; decide, fun u2 nu2 => ?_⟩
    have s12 := same_new (o := .tup [.ref w1, .ref p1]) nu2
    have eu2 := upd_same (H := H11) (a := u2) (o := .tup [.ref w1, .ref p1])
    generalize upd H11 u2 (.tup [.ref w1, .ref p1]) = H12 at *
    have s512 := s511.trans s12
    dsimp only [tNil]
    refine judged_call (s512 _ _ eW5) (iv5.same s512) ((s11.trans s12) _ _ ew1) (ivs_drop (iv5.same s512) 1) (s12 _ _ ep1) (dms_drop (dm.same s512) 1) ((s10.trans (s11.trans s12)) _ _ epc) ((iv5.same s512).take 1) eu2 okw okw1 okt1 okd1 lr1 ld1 lt1 (fun H13 s13 => ?_)
    rw [j2]
    have s513 := s512.trans s13
    refine ⟨by show 2 ≤ sizeLine; decide, fun l1 nl1 => ?_⟩
    have s14 := same_new (o := .lst [.bl true, .bl true]) nl1
    have el1 := upd_same (H := H13) (a := l1) (o := .lst [.bl true, .bl true])
    generalize upd H13 l1 (.lst [.bl true, .bl true]) = H14 at *
    have s514 := s513.trans s14
    refine ⟨.ref l1, rfl, ?_⟩
    -- too few of both, then of the demands alone
    refine ⟨.ref W, rfl, by show 0 ≤ sizeLine; decide, fun e3 ne3 => ?_⟩
    have s15 := same_new (o := .tup []) ne3
    have ee3 := upd_same (H := H14) (a := e3) (o := .tup [])
    generalize upd H14 e3 (.tup []) = H15 at *
    have s515 := s514.trans s15
    refine ⟨.ref W, rfl, 1, rfl, ?_⟩
    refine noPart_of ?_
    refine slA_any (s515 _ _ eW5) (fun H16 w2 s16 ew2 => ?_)
    rw [show (1 : Int) = ((1 : Nat) : Int) from rfl, cutFrom] at ew2
    have s516 := s515.trans s16
    refine ⟨.ref P, rfl, 1, rfl, ?_⟩
    refine noPart_of ?_
    refine slA_any (s516 _ _ eP) (fun H17 p2 s17 ep2 => ?_)
    rw [show (1 : Int) = ((1 : Nat) : Int) from rfl, cutFrom] at ep2
    refine ⟨by show 2 ≤ sizeLine; decide, fun u3 nu3 => ?_⟩
    have s18 := same_new (o := .tup [.ref w2, .ref p2]) nu3
    have eu3 := upd_same (H := H17) (a := u3) (o := .tup [.ref w2, .ref p2])
    generalize upd H17 u3 (.tup [.ref w2, .ref p2]) = H18 at *
    have s518 := s516.trans (s17.trans s18)
    dsimp only [tNil]
    refine judged_call (s518 _ _ eW5) (iv5.same s518) ((s17.trans s18) _ _ ew2) (ivs_drop (iv5.same s518) 1) (s18 _ _ ep2) (dms_drop (dm.same s518) 1) ((s16.trans (s17.trans s18)) _ _ ee3) .nil eu3 okw okw1 (fun q hq => nomatch hq) okd1 lr1 ld1 (by decide) (fun H19 s19 => ?_)
    rw [j3]
    have s519 := s518.trans s19
    refine ⟨.ref W, rfl, by show 0 ≤ sizeLine; decide, fun e4 ne4 => ?_⟩
    have s20 := same_new (o := .tup []) ne4
    have ee4 := upd_same (H := H19) (a := e4) (o := .tup [])
    generalize upd H19 e4 (.tup []) = H20 at *
    have s520 := s519.trans s20
    refine ⟨.ref W, rfl, .ref P, rfl, 1, rfl, ?_⟩
    refine noPart_of ?_
    refine slA_any (s520 _ _ eP) (fun H21 p3 s21 ep3 => ?_)
    rw [show (1 : Int) = ((1 : Nat) : Int) from rfl, cutFrom] at ep3
    refine ⟨by show 2 ≤ sizeLine; decide, fun u4 nu4 => ?_⟩
    have s22 := same_new (o := .tup [.ref W, .ref p3]) nu4
    have eu4 := upd_same (H := H21) (a := u4) (o := .tup [.ref W, .ref p3])
    generalize upd H21 u4 (.tup [.ref W, .ref p3]) = H22 at *
    have s522 := s520.trans (s21.trans s22)
    dsimp only [tNil]
    refine judged_call (s522 _ _ eW5) (iv5.same s522) (s522 _ _ eW5) (iv5.same s522) (s22 _ _ ep3) (dms_drop (dm.same s522) 1) ((s21.trans s22) _ _ ee4) .nil eu4 okw okw (fun q hq => nomatch hq) okd1 (by omega) ld1 (by decide) (fun H23 s23 => ?_)
    rw [j4]
    refine ⟨by show 2 ≤ sizeLine; decide, fun l2 nl2 => ?_⟩
    have s24 := same_new (o := .lst [.bl false, .bl false]) nl2
    have el2 := upd_same (H := H23) (a := l2) (o := .lst [.bl false, .bl false])
    generalize upd H23 l2 (.lst [.bl false, .bl false]) = H24 at *
    have s1424 := s15.trans (s16.trans (s17.trans (s18.trans (s19.trans (s20.trans (s21.trans (s22.trans (s23.trans s24))))))))
    refine ⟨l1, l2, _, _, rfl, rfl, s1424 _ _ el1, el2, by show 4 ≤ sizeLine; decide, fun l3 nl3 => ?_⟩
    have e3 : upd H24 l3 (.lst [.bl true, .bl true, .bl false, .bl false]) l3 = _ := upd_same
    refine ⟨_, rfl, .ref l3, .list [.bool true, .bool true, .bool false, .bool false], 100, 10, rfl, (Dv.lst e3 (.cons (.bl _) (.cons (.bl _) (.cons (.bl _) (.cons (.bl _) .nil))))).dp rfl, (Sm.lst (n := 0) (dp := 0) fun d hd => ?_).mono (by decide) (by decide), by decide, by decide, ?_⟩
    · simp only [List.mem_cons, List.not_mem_nil, or_false] at hd
      rcases hd with rfl | rfl | rfl | rfl <;> exact Sm.bool _
    · refine ⟨rfl, ?_⟩
      have z : decide (V.str (PyData.list [.bool true, .bool true, .bool false, .bool false]).shown = V.str (Str.ofString "[True, True, False, False]")) = true := by decide +kernel
      rw [z]
      exact q _

theorem iteSame {a : V} {A B : Prop} (h : B) : if (!decide (a = a)) = true then A else B := by
  rw [decide_eq_true rfl]
  exact h
def sp_law (K : PySem.W.Frag) (pT : Addr) : Sp := fun vs H Q _ => ∃ (a : Addr) (ns : List Int), vs = [.ref a] ∧ SqL K H a (ns.map V.int) ∧ ns.length ≤ 63 ∧ H pT = some (.tbl #[]) ∧ ∀ H', Q (.bl true) H'
theorem ok_law (T : Tx K mg f_depth_changes f_find_blocks f_is_number f_is_position f_is_tuple_of f_is_interval f_is_ascending f_has_position f_contains f_intersect f_is_demand f_serves f_conflict f_is_independent f_demands_at_blocks f_is_open f_open_demands f_shadow_target f_pieces_inside f_first_gap f_generates f_find_missing f_without_item f_require_few_blocks f_decisive_demands f_largest_independent f_unserved_demands f_helpful_piece f_smallest_solution f_count_needed f_solve f_are_witnesses f_solution_holds f_helps f_helpful_interval f_has_open_demand f_widen f_essential_targets f_core_targets f_is_free f_growth_counts f_law_draws f_law_next f_law_blocks f_law_wide f_law_call f_law_raised f_law_judged f_law f_TooWide_init X_TooWide X_NotGenerated X_OutOfRange X_TooMany X_SpanError d_depth_changes d_find_blocks d_is_number d_is_position d_is_tuple_of d_is_interval d_is_ascending d_has_position d_contains d_intersect d_is_demand d_serves d_conflict d_is_independent d_demands_at_blocks d_is_open d_open_demands d_shadow_target d_pieces_inside d_first_gap d_generates d_find_missing d_without_item d_require_few_blocks d_decisive_demands d_largest_independent d_unserved_demands d_helpful_piece d_smallest_solution d_count_needed d_solve d_are_witnesses d_solution_holds d_helps d_helpful_interval d_has_open_demand d_widen d_essential_targets d_core_targets d_is_free d_growth_counts d_law_draws d_law_next d_law_blocks d_law_wide d_law_call d_law_raised d_law_judged d_law d_TooWide_init t_LAST_POSITION t_MAX_BLOCKS) (hT : TabH base mg d_helpful_piece pT) : FnG P w K mg base (lgN+14) f_law d_law ["_law_script"] (sp_law K pT) := by
  refine FnG.of T.F_law sc_law (fun {vs H Q} h => ?_) (fun cdv A outer s H vs Q hr hq h => ?_)
  · obtain ⟨a, ns, rfl, _⟩ := h
    rfl
  · obtain ⟨a, ns, rfl, hS, hlen, hP, q⟩ := h
    refine ⟨_, (pss_cons (ps_set (i := 1) sc_law.nd rfl (Or.inl rfl) (pe_call (ok_law_draws (pT := pT) T) (hr.mono (by decide)) (by rfl) T.g_law_draws T.F_law_draws.kp T.b_law_draws .nil pass0 (pa_cons (pv 0) pa_nil)))
      (pss_cons (ps_for PassesOwn.never rfl (pi_range1 (by rfl) T.z_range (pa_cons pe_int pa_nil)) (pg_name (i := 2) sc_law.nd rfl (Or.inl rfl))
      (pss_cons (ps_asg (pe_call (ok_law_wide T) (hr.mono (by decide)) (by rfl) T.g_law_wide T.F_law_wide.kp T.b_law_wide .nil pass0 (pa_cons (pv 1) pa_nil)) (pg_tup rfl (pgs_cons (pg_name (i := 3) sc_law.nd rfl (Or.inl rfl)) (pgs_cons (pg_name (i := 4) sc_law.nd rfl (Or.inl rfl)) pgs_nil))))
      (pss_cons (ps_set (i := 5) sc_law.nd rfl (Or.inl rfl) (pe_call (ok_law_next T) (hr.mono (by decide)) (by rfl) T.g_law_next T.F_law_next.kp T.b_law_next .nil pass0 (pa_cons (pv 1) (pa_cons pe_int pa_nil))))
      (pss_cons (ps_set (i := 6) sc_law.nd rfl (Or.inl rfl) (pe_tup (pa_cons (pv 5) (pa_cons (pe_op op_add (pv 5) (pe_call (ok_law_next T) (hr.mono (by decide)) (by rfl) T.g_law_next T.F_law_next.kp T.b_law_next .nil pass0 (pa_cons (pv 1) (pa_cons pe_int pa_nil)))) pa_nil))))
      (pss_cons (ps_for PassesOwn.never rfl (pi_range1 (by rfl) T.z_range (pa_cons pe_int pa_nil)) (pg_name (i := 7) sc_law.nd rfl (Or.inl rfl))
      (pss_cons (ps_set (i := 8) sc_law.nd rfl (Or.inl rfl) (pe_lst (pa_cons (pe_op op_catA (pv 3) (pv 4)) (pa_cons (pe_op op_catA (pe_op op_catA (pv 3) (pv 4)) (pe_tup (pa_cons (pv 6) pa_nil))) (pa_cons (pe_op op_catA (pv 3) (pe_tup (pa_cons (pv 6) pa_nil))) (pa_cons (pv 3) pa_nil))))))
      (pss_cons (ps_set (i := 9) sc_law.nd rfl (Or.inl rfl) (pe_callB call_len_seq (by rfl) T.z_len PySem.boot_len (pa_cons (pe_call (ok_law_blocks T) (hr.mono (by decide)) (by rfl) T.g_law_blocks T.F_law_blocks.kp T.b_law_blocks .nil pass0 (pa_cons (pe_ix ix_list (pv 8) (pe_callB (call_max2 rfl) (by rfl) T.z_max (by decide +kernel) (pa_cons pe_int (pa_cons (pe_callB (call_min2 rfl) (by rfl) T.z_min (by decide +kernel) (pa_cons pe_int (pa_cons (pe_op op_sub (pv 7) pe_int) pa_nil))) pa_nil))) (fun _ _ => rfl)) pa_nil)) pa_nil)))
      (pss_cons (ps_set (i := 10) sc_law.nd rfl (Or.inl rfl) (pe_ix ix_list (pe_lst (pa_cons pe_non (pa_cons pe_int pa_nil))) (pe_callTy call_int1 (by rfl) T.z_int (by decide +kernel) (pa_cons (pe_cmpR op_gt (pv 9) pe_int (nomark _)) pa_nil)) (fun _ _ => rfl)))
      (pss_one (ps_if (pt_cmpR op_ne (pe_callB (call_reprD hq hr.units) (by rfl) T.z_repr (by decide +kernel) (pa_cons (pe_call (ok_law_raised T hT) (hr.mono (by decide)) (by rfl) T.g_law_raised T.F_law_raised.kp T.b_law_raised .nil pass0 (pa_cons (pv 7) (pa_cons (pv 3) (pa_cons (pv 4) (pa_cons (pv 6) pa_nil))))) pa_nil)) (pe_callB (call_reprD hq hr.units) (by rfl) T.z_repr (by decide +kernel) (pa_cons (pv 10) pa_nil)) (nomark _))
      (pss_one (ps_ret pe_bl))
      pss_nil))))))
      (pss_cons (ps_if (pt_not (pt_val (pe_callB call_isi (by rfl) T.z_isinstance (by decide +kernel) (pa_cons (pe_call (ok_solution_holds T) (hr.mono (by decide)) (by rfl) T.g_solution_holds T.F_solution_holds.kp T.b_solution_holds .nil pass0 (pa_cons (pv 3) (pa_cons (pv 4) (pa_cons (pe_tup (pa_cons (pv 3) (pa_cons (pe_tup pa_nil) pa_nil))) pa_nil)))) (pa_cons (pe_bltn (v := .ty "bool") (u := .type "bool") (by rfl) T.z_bool (by decide +kernel) rfl) pa_nil)))))
      (pss_one (ps_ret pe_bl))
      pss_nil)
      (pss_one (ps_if (pt_not (pt_val (pe_callB call_isi (by rfl) T.z_isinstance (by decide +kernel) (pa_cons (pe_call (ok_widen T) (hr.mono (by decide)) (by rfl) T.g_widen T.F_widen.kp T.b_widen .nil pass0 (pa_cons (pv 3) (pa_cons (pv 4) (pa_cons (pv 6) pa_nil)))) (pa_cons (pe_bltn (v := .ty "tuple") (u := .type "tuple") (by rfl) T.z_tuple (by decide +kernel) rfl) pa_nil)))))
      (pss_one (ps_ret pe_bl))
      pss_nil))))))))
      (pss_one (ps_ret (pe_and (pe_cmpR op_eq (pe_callB (call_reprD hq hr.units) (by rfl) T.z_repr (by decide +kernel) (pa_cons (pe_glob (v := .int 8) (by rfl) T.c_MAX_BLOCKS ⟨_, rfl⟩) pa_nil)) pe_str (nomark _)) (pe_one (pe_callG (ok_law_judged T) (hr.mono (by decide)) hq (by rfl) T.g_law_judged T.F_law_judged.kp T.b_law_judged (pa_cons (pv 1) pa_nil)))))))), ?_⟩
    refine ⟨.ref a, rfl, a, ns, rfl, hS, hlen, LamX.TabS.nil hP, fun H1 d c s1 nd ct dk0 => ?_⟩
    refine ⟨5, rfl, by decide, by decide, for_range (D := ⟨_, _, fun _ _ => True, fun _ _ => True⟩) (n := 5) (fun i σ H' => (∃ n : Int, Dk H' d c n ∧ 0 ≤ n ∧ n ≤ 100 * i) ∧ ∃ y2 y3 y4 y5 y6 y7 y8 y9 y10, σ = [some (.ref a), some (.ref d), y2, y3, y4, y5, y6, y7, y8, y9, y10])
      ⟨⟨0, dk0, by decide, by decide⟩, _, _, _, _, _, _, _, _, _, rfl⟩ ?_ ?_⟩
    · rintro i σ H2 hi ⟨⟨n, dk2, n0, n1⟩, y2, y3, y4, y5, y6, y7, y8, y9, y10, rfl⟩
      refine ⟨.ref d, rfl, d, c, n, rfl, dk2, n0, by omega, fun H3 t at' bt us ws ts ps m kp3 dk3 m0 m1 et ea eb ivt ivp wr => ?_⟩
      refine ⟨t, _, rfl, SqT.of et, rfl, .ref at', [.ref bt], rfl, .ref bt, [], rfl, rfl, ?_⟩
      refine ⟨.ref d, rfl, d, c, m, 22, rfl, dk3, by omega, by omega, by decide, by decide, fun H4 lo kp4 dk4 lo0 lo1 => ?_⟩
      refine ⟨.int lo, rfl, .int lo, rfl, .ref d, rfl, d, c, _, 9, rfl, dk4, by omega, by omega, by decide, by decide, fun H5 sz kp5 dk5 sz0 sz1 => ?_⟩
      refine ⟨_, _, rfl, rfl, by show 2 ≤ sizeLine; decide, fun q1 nq1 => ?_⟩
      have s6 := same_new (o := .tup [.int lo, .int (lo + sz)]) nq1
      have eq := upd_same (H := H5) (a := q1) (o := .tup [.int lo, .int (lo + sz)])
      generalize upd H5 q1 (.tup [.int lo, .int (lo + sz)]) = H6 at *
      have kp46 := kp4.trans (kp5.trans (Kp.same s6))
      have ea6 := kp46.tup dk3 ea
      have eb6 := kp46.tup dk3 eb
      have ivt6 := ivt.tps (kp46.tps dk3)
      have ivp6 := ivp.tps (kp46.tps dk3)
      have dk6 := dk5.kept s6
      have B : CB ts ps (lo, lo + sz) := ⟨wr, by show 0 ≤ lo ∧ lo ≤ lo + sz ∧ lo + sz ≤ 40; omega⟩
      refine ⟨8, rfl, by decide, by decide, for_range (D := ⟨_, _, fun _ _ => True, fun _ _ => True⟩) (n := 8) (fun j σ H' => Kp d c H6 H' ∧ Dk H' d c (m + 1 + 1) ∧ ∃ y7 y8 y9 y10, σ = [some (.ref a), some (.ref d), some (.int (0 + (i : Int))), some (.ref at'), some (.ref bt), some (.int lo), some (.ref q1), y7, y8, y9, y10])
        ⟨Kp.same (Same.refl _), dk6, _, _, _, _, rfl⟩ ?_ ?_⟩
      · rintro j σ H7 hj ⟨kp7, dk7, z7, z8, z9, z10, rfl⟩
        have ea7 := kp7.tup dk6 ea6
        have eb7 := kp7.tup dk6 eb6
        have eq7 := kp7.tup dk6 eq
        have ivt7 := ivt6.tps (kp7.tps dk6)
        have ivp7 := ivp6.tps (kp7.tps dk6)
        have lu := ivt7.length
        have lw := ivp7.length
        have len := wr.len
        have big : sizeLine = 16777216 := by decide
        rw [show (0 + (j : Int)) = ((j : Nat) : Int) from Int.zero_add _]
        refine ⟨.ref at', rfl, .ref bt, rfl, catA_any ea7 eb7 (by rw [big]; omega) (fun H8 r0 s8 er0 => ?_)⟩
        have iv0 := (ivt7.same s8).append (ivp7.same s8)
        refine ⟨.ref at', rfl, .ref bt, rfl, catA_any (s8 _ _ ea7) (s8 _ _ eb7) (by rw [big]; omega) (fun H9 r1' s9 er1' => ?_)⟩
        have s79 := s8.trans s9
        refine ⟨.ref q1, rfl, by show 1 ≤ sizeLine; decide, fun u1 nu1 => ?_⟩
        have s10 := same_new (o := .tup [.ref q1]) nu1
        have eu1 := upd_same (H := H9) (a := u1) (o := .tup [.ref q1])
        generalize upd H9 u1 (.tup [.ref q1]) = H10 at *
        refine catA_any (s10 _ _ er1') eu1 (by rw [big, List.length_append]; show _ + 1 ≤ _; omega) (fun H11 r1 s11 er1 => ?_)
        have s711 := s79.trans (s10.trans s11)
        have iv1 := ((ivt7.same s711).append (ivp7.same s711)).snoc (s711 _ _ eq7)
        refine ⟨.ref at', rfl, .ref q1, rfl, by show 1 ≤ sizeLine; decide, fun u2 nu2 => ?_⟩
        have s12 := same_new (o := .tup [.ref q1]) nu2
        have eu2 := upd_same (H := H11) (a := u2) (o := .tup [.ref q1])
        generalize upd H11 u2 (.tup [.ref q1]) = H12 at *
        refine catA_any ((s711.trans s12) _ _ ea7) eu2 (by rw [big]; show _ + 1 ≤ _; omega) (fun H13 r2 s13 er2 => ?_)
        have s713 := s711.trans (s12.trans s13)
        have iv2 := (ivt7.same s713).snoc (s713 _ _ eq7)
        refine ⟨.ref at', rfl, by show 4 ≤ sizeLine; decide, fun L nL => ?_⟩
        have s14 := same_new (o := .lst [.ref r0, .ref r1, .ref r2, .ref at']) nL
        have eL := upd_same (H := H13) (a := L) (o := .lst [.ref r0, .ref r1, .ref r2, .ref at'])
        generalize upd H13 L (.lst [.ref r0, .ref r1, .ref r2, .ref at']) = H14 at *
        have s714 := s713.trans s14
        have s814 : Same H8 H14 := s9.trans (s10.trans (s11.trans (s12.trans (s13.trans s14))))
        have s1114 : Same H11 H14 := s12.trans (s13.trans s14)
        have pick : ∃ r rus, atI [V.ref r0, .ref r1, .ref r2, .ref at'] (if (if (j : Int) - 2 < 3 then (j : Int) - 2 else 3) > 0 then (if (j : Int) - 2 < 3 then (j : Int) - 2 else 3) else 0) = some (.ref r) ∧ H14 r = some (.tup rus) ∧ Ivs H14 rus (rowX j ts ps (lo, lo + sz)) := by
          match j, hj with
          | 0, _ => exact ⟨r0, _, rfl, s814 _ _ er0, iv0.same s814⟩
          | 1, _ => exact ⟨r0, _, rfl, s814 _ _ er0, iv0.same s814⟩
          | 2, _ => exact ⟨r0, _, rfl, s814 _ _ er0, iv0.same s814⟩
          | 3, _ => exact ⟨r1, _, rfl, s1114 _ _ er1, by show Ivs H14 _ (ts ++ (ps ++ [(lo, lo + sz)])); rw [← List.append_assoc]; exact iv1.same s1114⟩
          | 4, _ => exact ⟨r2, _, rfl, s14 _ _ er2, iv2.same s14⟩
          | 5, _ => exact ⟨at', _, rfl, s714 _ _ ea7, ivt7.same s714⟩
          | 6, _ => exact ⟨at', _, rfl, s714 _ _ ea7, ivt7.same s714⟩
          | 7, _ => exact ⟨at', _, rfl, s714 _ _ ea7, ivt7.same s714⟩
          | j + 8, hj => omega
        obtain ⟨r, rus, pk, er, ivr⟩ := pick
        have lX := B.lenX j
        have gX := B.goodX j
        refine ⟨.ref L, rfl, .int j, rfl, _, _, rfl, rfl, 3, _, rfl, 0, _, rfl, L, _, _, .ref r, rfl, rfl, SqL.of eL, pk, r, rus, _, rfl, er, ivr, gX, by omega, fun H15 o os bs s15 eo ivo ebs => ?_⟩
        have lo' := ivo.length
        rw [ebs] at lo'
        refine ⟨o, os, rfl, .inl (SqL.of eo), ?_⟩
        rw [lo']
        have z0 : (((blocksOf (rowX j ts ps (lo, lo + sz))).length : Nat) : Int) > 8 ↔ 8 < (blocksOf (rowX j ts ps (lo, lo + sz))).length := by omega
        obtain ⟨dv, dd, hdv, hdd, sm, at2⟩ : ∃ (dv : V) (dd : PyData), dv = (if 8 < (blocksOf (rowX j ts ps (lo, lo + sz))).length then V.int 8 else V.non) ∧ (∀ G : Hp, Dp K G dv dd) ∧ Sm 100 0 dd ∧ atI [V.non, .int 8] (if decide ((8 : Int) < (((blocksOf (rowX j ts ps (lo, lo + sz))).length : Nat) : Int)) = true then 1 else 0) = some dv := by
          by_cases h : 8 < (blocksOf (rowX j ts ps (lo, lo + sz))).length
          · rw [if_pos h, decide_eq_true (by omega)]
            exact ⟨_, .int 8, rfl, fun G => .int 8, Sm.int (by decide), rfl⟩
          · rw [if_neg h, decide_eq_false (by omega)]
            exact ⟨_, .none, rfl, fun G => .non, Sm.none.mono (by decide) (by decide), rfl⟩
        refine ⟨by show 2 ≤ sizeLine; decide, fun l nl => ?_⟩
        have s16 := same_new (o := .lst [V.non, .int 8]) nl
        have el := upd_same (H := H15) (a := l) (o := .lst [V.non, .int 8])
        generalize upd H15 l (.lst [V.non, .int 8]) = H16 at *
        have s716 := s714.trans (s15.trans s16)
        refine ⟨_, rfl, _, _, rfl, rfl, .inr ⟨_, rfl, l, _, _, dv, rfl, rfl, SqL.of el, at2, ?_⟩⟩
        refine ⟨.int j, rfl, .ref at', rfl, .ref bt, rfl, .ref q1, rfl, d, c, _, j, at', bt, q1, us, ws, ts, ps, lo, lo + sz, rfl, hj, ct, dk7.kept s716, s716 _ _ ea7, s716 _ _ eb7, ivt7.same s716, ivp7.same s716, s716 _ _ eq7, B, fun H17 kp17 dk17 => ?_⟩
        rw [← hdv]
        refine ⟨dv, dd, 100, 0, rfl, hdd _, sm, by decide, by decide, dv, rfl, dv, dd, 100, 0, rfl, hdd _, sm, by decide, by decide, rfl, _, rfl, iteSame ?_⟩
        exact ⟨kp7.trans ((Kp.same s716).trans kp17), dk17, _, _, _, _, rfl⟩
      · rintro σ H7 ⟨kp7, dk7, z7, z8, z9, z10, rfl⟩
        have ea7 := kp7.tup dk6 ea6
        have eb7 := kp7.tup dk6 eb6
        have eq7 := kp7.tup dk6 eq
        have ivt7 := ivt6.tps (kp7.tps dk6)
        have ivp7 := ivp6.tps (kp7.tps dk6)
        have len := wr.len
        have okt : ∀ z ∈ ts, 0 ≤ z.1 ∧ z.1 ≤ z.2 ∧ z.2 ≤ 40 := fun z hz => wr.ok z (List.mem_append_left _ hz)
        have okp : ∀ z ∈ ps, 0 ≤ z.1 ∧ z.1 ≤ z.2 ∧ z.2 ≤ 40 := fun z hz => wr.ok z (List.mem_append_right _ hz)
        refine ⟨.ref at', rfl, .ref bt, rfl, .ref at', rfl, by show 0 ≤ sizeLine; decide, fun e ne => ?_⟩
        have s8 := same_new (o := .tup []) ne
        have ee := upd_same (H := H7) (a := e) (o := .tup [])
        generalize upd H7 e (.tup []) = H8 at *
        refine ⟨by show 2 ≤ sizeLine; decide, fun u nu => ?_⟩
        have s9 := same_new (o := .tup [.ref at', .ref e]) nu
        have eu := upd_same (H := H8) (a := u) (o := .tup [.ref at', .ref e])
        generalize upd H8 u (.tup [.ref at', .ref e]) = H9 at *
        have s79 := s8.trans s9
        dsimp only [tNil]
        refine judged_call (ds := []) (s79 _ _ ea7) (ivt7.same s79) (s79 _ _ ea7) (ivt7.same s79) (s9 _ _ ee) .nil (s79 _ _ eb7) (ivp7.same s79) eu okt okt okp (fun d hd => nomatch hd) (by omega) (by decide) (by omega) (fun H10 s10 => ?_)
        have s710 := s79.trans s10
        refine ⟨_, .ty "bool", _, _, _, rfl, .ty "bool", (Dv.bl (holdB ts ps (solD ts []))).ty, kit_bool _, _, rfl, iteF ?_⟩
        refine ⟨.ref at', rfl, .ref bt, rfl, .ref q1, rfl, at', bt, q1, us, ws, ts, ps, lo, lo + sz, rfl, s710 _ _ ea7, ivt7.same s710, by omega, s710 _ _ eb7, ivp7.same s710, (fun z hz => by have := okp z hz; omega), by omega, s710 _ _ eq7, by omega, fun H11 r x y s11 er _ => ?_⟩
        refine ⟨_, .ty "tuple", _, _, _, rfl, .ty "tuple", (Dv.tup er (.cons (.int x) (.cons (.int y) .nil))).ty, kit_tup _, _, rfl, iteF ?_⟩
        exact ⟨⟨_, dk7.kept (s710.trans s11), by omega, by omega⟩, _, _, _, _, _, _, _, _, _, rfl⟩
    · rintro σ H2 ⟨⟨n, dk2, n0, n1⟩, y2, y3, y4, y5, y6, y7, y8, y9, y10, rfl⟩
      refine ⟨.int 8, .int 8, 100, 0, rfl, .int 8, Sm.int (by decide), by decide, by decide, rfl, ?_⟩
      have z : decide (V.str (PyData.int 8).shown = V.str (Str.ofString "8")) = true := by decide +kernel
      rw [z]
      refine ⟨true, rfl, iteT ?_⟩
      exact ⟨.ref d, rfl, d, c, n, rfl, dk2, n0, by omega, fun H3 => q H3⟩

end
theorem all_mk {l : PySem.W.OpenLaw} {w : World} {K : PySem.W.Frag} {h : Heap} {mg : Str → Option Value} {fa f1 f2 f3 f4 f5 f6 f7 f8 f9 f10 f11 f12 f13 f14 f15 f16 f17 f18 f19 f20 f21 f22 f23 f24 f25 f26 f27 f28 f29 f30 f31 f32 f33 f34 f35 f36 f37 f38 f39 f40 f41 f42 f43 f44 f45 f46 f47 f48 f49 f50 X_TooWide X_NotGenerated X_OutOfRange X_TooMany X_SpanError : Addr} (X : K.In h) (G : h.Ns mainGlobals mg) (hfa : mg "law" = some (.ref fa))
    {od1 an1 od2 an2 od3 an3 od4 an4 od5 an5 od6 an6 od7 an7 od8 an8 od9 an9 od10 an10 od11 an11 od12 an12 od13 an13 od14 an14 od15 an15 od16 an16 od17 an17 od18 an18 od19 an19 od20 an20 od21 an21 od22 an22 od23 an23 od24 an24 od25 an25 od26 an26 od27 an27 od28 an28 od29 an29 od30 an30 od31 an31 od32 an32 od33 an33 od34 an34 od35 an35 od36 an36 od37 an37 od38 an38 od39 an39 od40 an40 od41 an41 od42 an42 od43 an43 od44 an44 od45 an45 od46 an46 od47 an47 od48 an48 od49 an49 od50 an50 : Option Addr} {sl1 sl2 sl3 sl4 sl5 sl6 sl7 sl8 sl9 sl10 sl11 sl12 sl13 sl14 sl15 sl16 sl17 sl18 sl19 sl20 sl21 sl22 sl23 sl24 sl25 sl26 sl27 sl28 sl29 sl30 sl31 sl32 sl33 sl34 sl35 sl36 sl37 sl38 sl39 sl40 sl41 sl42 sl43 sl44 sl45 sl46 sl47 sl48 sl49 sl50 : Array (Option Value)} {oc1 kV1 dc1 pm1 cd1 ct1 oc2 kV2 dc2 pm2 cd2 ct2 oc3 kV3 dc3 pm3 cd3 ct3 oc4 kV4 dc4 pm4 cd4 ct4 oc5 kV5 dc5 pm5 cd5 ct5 oc6 kV6 dc6 pm6 cd6 ct6 oc7 kV7 dc7 pm7 cd7 ct7 oc8 kV8 dc8 pm8 cd8 ct8 oc9 kV9 dc9 pm9 cd9 ct9 oc10 kV10 dc10 pm10 cd10 ct10 oc11 kV11 dc11 pm11 cd11 ct11 oc12 kV12 dc12 pm12 cd12 ct12 oc13 kV13 dc13 pm13 cd13 ct13 oc14 kV14 dc14 pm14 cd14 ct14 oc15 kV15 dc15 pm15 cd15 ct15 oc16 kV16 dc16 pm16 cd16 ct16 oc17 kV17 dc17 pm17 cd17 ct17 oc18 kV18 dc18 pm18 cd18 ct18 oc19 kV19 dc19 pm19 cd19 ct19 oc20 kV20 dc20 pm20 cd20 ct20 oc21 kV21 dc21 pm21 cd21 ct21 oc22 kV22 dc22 pm22 cd22 ct22 oc23 kV23 dc23 pm23 cd23 ct23 oc24 kV24 dc24 pm24 cd24 ct24 oc25 kV25 dc25 pm25 cd25 ct25 oc26 kV26 dc26 pm26 cd26 ct26 oc27 kV27 dc27 pm27 cd27 ct27 oc28 kV28 dc28 pm28 cd28 ct28 oc29 kV29 dc29 pm29 cd29 ct29 oc30 kV30 dc30 pm30 cd30 ct30 oc31 kV31 dc31 pm31 cd31 ct31 oc32 kV32 dc32 pm32 cd32 ct32 oc33 kV33 dc33 pm33 cd33 ct33 oc34 kV34 dc34 pm34 cd34 ct34 oc35 kV35 dc35 pm35 cd35 ct35 oc36 kV36 dc36 pm36 cd36 ct36 oc37 kV37 dc37 pm37 cd37 ct37 oc38 kV38 dc38 pm38 cd38 ct38 oc39 kV39 dc39 pm39 cd39 ct39 oc40 kV40 dc40 pm40 cd40 ct40 oc41 kV41 dc41 pm41 cd41 ct41 oc42 kV42 dc42 pm42 cd42 ct42 oc43 kV43 dc43 pm43 cd43 ct43 oc44 kV44 dc44 pm44 cd44 ct44 oc45 kV45 dc45 pm45 cd45 ct45 oc46 kV46 dc46 pm46 cd46 ct46 oc47 kV47 dc47 pm47 cd47 ct47 oc48 kV48 dc48 pm48 cd48 ct48 oc49 kV49 dc49 pm49 cd49 ct49 oc50 kV50 dc50 pm50 cd50 ct50 : Value} {tk0 tk1 : Tok} {cc PP : Addr}
    (a1 : PySem.W.nsIn K mainGlobals "depth_changes" = some (some (.ref f1))) (l1 : K.lookup f1 = some ⟨oc1, od1, .func (PySem.W.fnOf "depth_changes" "depth_changes" (defArgs s_depth_changes) (defBody s_depth_changes) (defScope s_depth_changes) .none kV1 dc1 pm1 an1 cd1 ct1), sl1⟩) (c1 : PySem.W.codeIn K cd1 "depth_changes" = true) (k1 : PySem.W.keepIn K (.ref f1) = true)
    (a2 : PySem.W.nsIn K mainGlobals "find_blocks" = some (some (.ref f2))) (l2 : K.lookup f2 = some ⟨oc2, od2, .func (PySem.W.fnOf "find_blocks" "find_blocks" (defArgs s_find_blocks) (defBody s_find_blocks) (defScope s_find_blocks) .none kV2 dc2 pm2 an2 cd2 ct2), sl2⟩) (c2 : PySem.W.codeIn K cd2 "find_blocks" = true) (k2 : PySem.W.keepIn K (.ref f2) = true)
    (a3 : PySem.W.nsIn K mainGlobals "is_number" = some (some (.ref f3))) (l3 : K.lookup f3 = some ⟨oc3, od3, .func (PySem.W.fnOf "is_number" "is_number" (defArgs s_is_number) (defBody s_is_number) (defScope s_is_number) .none kV3 dc3 pm3 an3 cd3 ct3), sl3⟩) (c3 : PySem.W.codeIn K cd3 "is_number" = true) (k3 : PySem.W.keepIn K (.ref f3) = true)
    (a4 : PySem.W.nsIn K mainGlobals "is_position" = some (some (.ref f4))) (l4 : K.lookup f4 = some ⟨oc4, od4, .func (PySem.W.fnOf "is_position" "is_position" (defArgs s_is_position) (defBody s_is_position) (defScope s_is_position) .none kV4 dc4 pm4 an4 cd4 ct4), sl4⟩) (c4 : PySem.W.codeIn K cd4 "is_position" = true) (k4 : PySem.W.keepIn K (.ref f4) = true)
    (a5 : PySem.W.nsIn K mainGlobals "is_tuple_of" = some (some (.ref f5))) (l5 : K.lookup f5 = some ⟨oc5, od5, .func (PySem.W.fnOf "is_tuple_of" "is_tuple_of" (defArgs s_is_tuple_of) (defBody s_is_tuple_of) (defScope s_is_tuple_of) .none kV5 dc5 pm5 an5 cd5 ct5), sl5⟩) (c5 : PySem.W.codeIn K cd5 "is_tuple_of" = true) (k5 : PySem.W.keepIn K (.ref f5) = true)
    (a6 : PySem.W.nsIn K mainGlobals "is_interval" = some (some (.ref f6))) (l6 : K.lookup f6 = some ⟨oc6, od6, .func (PySem.W.fnOf "is_interval" "is_interval" (defArgs s_is_interval) (defBody s_is_interval) (defScope s_is_interval) .none kV6 dc6 pm6 an6 cd6 ct6), sl6⟩) (c6 : PySem.W.codeIn K cd6 "is_interval" = true) (k6 : PySem.W.keepIn K (.ref f6) = true)
    (a7 : PySem.W.nsIn K mainGlobals "is_ascending" = some (some (.ref f7))) (l7 : K.lookup f7 = some ⟨oc7, od7, .func (PySem.W.fnOf "is_ascending" "is_ascending" (defArgs s_is_ascending) (defBody s_is_ascending) (defScope s_is_ascending) .none kV7 dc7 pm7 an7 cd7 ct7), sl7⟩) (c7 : PySem.W.codeIn K cd7 "is_ascending" = true) (k7 : PySem.W.keepIn K (.ref f7) = true)
    (a8 : PySem.W.nsIn K mainGlobals "has_position" = some (some (.ref f8))) (l8 : K.lookup f8 = some ⟨oc8, od8, .func (PySem.W.fnOf "has_position" "has_position" (defArgs s_has_position) (defBody s_has_position) (defScope s_has_position) .none kV8 dc8 pm8 an8 cd8 ct8), sl8⟩) (c8 : PySem.W.codeIn K cd8 "has_position" = true) (k8 : PySem.W.keepIn K (.ref f8) = true)
    (a9 : PySem.W.nsIn K mainGlobals "contains" = some (some (.ref f9))) (l9 : K.lookup f9 = some ⟨oc9, od9, .func (PySem.W.fnOf "contains" "contains" (defArgs s_contains) (defBody s_contains) (defScope s_contains) .none kV9 dc9 pm9 an9 cd9 ct9), sl9⟩) (c9 : PySem.W.codeIn K cd9 "contains" = true) (k9 : PySem.W.keepIn K (.ref f9) = true)
    (a10 : PySem.W.nsIn K mainGlobals "intersect" = some (some (.ref f10))) (l10 : K.lookup f10 = some ⟨oc10, od10, .func (PySem.W.fnOf "intersect" "intersect" (defArgs s_intersect) (defBody s_intersect) (defScope s_intersect) .none kV10 dc10 pm10 an10 cd10 ct10), sl10⟩) (c10 : PySem.W.codeIn K cd10 "intersect" = true) (k10 : PySem.W.keepIn K (.ref f10) = true)
    (a11 : PySem.W.nsIn K mainGlobals "is_demand" = some (some (.ref f11))) (l11 : K.lookup f11 = some ⟨oc11, od11, .func (PySem.W.fnOf "is_demand" "is_demand" (defArgs s_is_demand) (defBody s_is_demand) (defScope s_is_demand) .none kV11 dc11 pm11 an11 cd11 ct11), sl11⟩) (c11 : PySem.W.codeIn K cd11 "is_demand" = true) (k11 : PySem.W.keepIn K (.ref f11) = true)
    (a12 : PySem.W.nsIn K mainGlobals "serves" = some (some (.ref f12))) (l12 : K.lookup f12 = some ⟨oc12, od12, .func (PySem.W.fnOf "serves" "serves" (defArgs s_serves) (defBody s_serves) (defScope s_serves) .none kV12 dc12 pm12 an12 cd12 ct12), sl12⟩) (c12 : PySem.W.codeIn K cd12 "serves" = true) (k12 : PySem.W.keepIn K (.ref f12) = true)
    (a13 : PySem.W.nsIn K mainGlobals "conflict" = some (some (.ref f13))) (l13 : K.lookup f13 = some ⟨oc13, od13, .func (PySem.W.fnOf "conflict" "conflict" (defArgs s_conflict) (defBody s_conflict) (defScope s_conflict) .none kV13 dc13 pm13 an13 cd13 ct13), sl13⟩) (c13 : PySem.W.codeIn K cd13 "conflict" = true) (k13 : PySem.W.keepIn K (.ref f13) = true)
    (a14 : PySem.W.nsIn K mainGlobals "is_independent" = some (some (.ref f14))) (l14 : K.lookup f14 = some ⟨oc14, od14, .func (PySem.W.fnOf "is_independent" "is_independent" (defArgs s_is_independent) (defBody s_is_independent) (defScope s_is_independent) .none kV14 dc14 pm14 an14 cd14 ct14), sl14⟩) (c14 : PySem.W.codeIn K cd14 "is_independent" = true) (k14 : PySem.W.keepIn K (.ref f14) = true)
    (a15 : PySem.W.nsIn K mainGlobals "demands_at_blocks" = some (some (.ref f15))) (l15 : K.lookup f15 = some ⟨oc15, od15, .func (PySem.W.fnOf "demands_at_blocks" "demands_at_blocks" (defArgs s_demands_at_blocks) (defBody s_demands_at_blocks) (defScope s_demands_at_blocks) .none kV15 dc15 pm15 an15 cd15 ct15), sl15⟩) (c15 : PySem.W.codeIn K cd15 "demands_at_blocks" = true) (k15 : PySem.W.keepIn K (.ref f15) = true)
    (a16 : PySem.W.nsIn K mainGlobals "is_open" = some (some (.ref f16))) (l16 : K.lookup f16 = some ⟨oc16, od16, .func (PySem.W.fnOf "is_open" "is_open" (defArgs s_is_open) (defBody s_is_open) (defScope s_is_open) .none kV16 dc16 pm16 an16 cd16 ct16), sl16⟩) (c16 : PySem.W.codeIn K cd16 "is_open" = true) (k16 : PySem.W.keepIn K (.ref f16) = true)
    (a17 : PySem.W.nsIn K mainGlobals "open_demands" = some (some (.ref f17))) (l17 : K.lookup f17 = some ⟨oc17, od17, .func (PySem.W.fnOf "open_demands" "open_demands" (defArgs s_open_demands) (defBody s_open_demands) (defScope s_open_demands) .none kV17 dc17 pm17 an17 cd17 ct17), sl17⟩) (c17 : PySem.W.codeIn K cd17 "open_demands" = true) (k17 : PySem.W.keepIn K (.ref f17) = true)
    (a18 : PySem.W.nsIn K mainGlobals "shadow_target" = some (some (.ref f18))) (l18 : K.lookup f18 = some ⟨oc18, od18, .func (PySem.W.fnOf "shadow_target" "shadow_target" (defArgs s_shadow_target) (defBody s_shadow_target) (defScope s_shadow_target) .none kV18 dc18 pm18 an18 cd18 ct18), sl18⟩) (c18 : PySem.W.codeIn K cd18 "shadow_target" = true) (k18 : PySem.W.keepIn K (.ref f18) = true)
    (a19 : PySem.W.nsIn K mainGlobals "pieces_inside" = some (some (.ref f19))) (l19 : K.lookup f19 = some ⟨oc19, od19, .func (PySem.W.fnOf "pieces_inside" "pieces_inside" (defArgs s_pieces_inside) (defBody s_pieces_inside) (defScope s_pieces_inside) .none kV19 dc19 pm19 an19 cd19 ct19), sl19⟩) (c19 : PySem.W.codeIn K cd19 "pieces_inside" = true) (k19 : PySem.W.keepIn K (.ref f19) = true)
    (a20 : PySem.W.nsIn K mainGlobals "first_gap" = some (some (.ref f20))) (l20 : K.lookup f20 = some ⟨oc20, od20, .func (PySem.W.fnOf "first_gap" "first_gap" (defArgs s_first_gap) (defBody s_first_gap) (defScope s_first_gap) .none kV20 dc20 pm20 an20 cd20 ct20), sl20⟩) (c20 : PySem.W.codeIn K cd20 "first_gap" = true) (k20 : PySem.W.keepIn K (.ref f20) = true)
    (a21 : PySem.W.nsIn K mainGlobals "generates" = some (some (.ref f21))) (l21 : K.lookup f21 = some ⟨oc21, od21, .func (PySem.W.fnOf "generates" "generates" (defArgs s_generates) (defBody s_generates) (defScope s_generates) .none kV21 dc21 pm21 an21 cd21 ct21), sl21⟩) (c21 : PySem.W.codeIn K cd21 "generates" = true) (k21 : PySem.W.keepIn K (.ref f21) = true)
    (a22 : PySem.W.nsIn K mainGlobals "find_missing" = some (some (.ref f22))) (l22 : K.lookup f22 = some ⟨oc22, od22, .func (PySem.W.fnOf "find_missing" "find_missing" (defArgs s_find_missing) (defBody s_find_missing) (defScope s_find_missing) .none kV22 dc22 pm22 an22 cd22 ct22), sl22⟩) (c22 : PySem.W.codeIn K cd22 "find_missing" = true) (k22 : PySem.W.keepIn K (.ref f22) = true)
    (a23 : PySem.W.nsIn K mainGlobals "without_item" = some (some (.ref f23))) (l23 : K.lookup f23 = some ⟨oc23, od23, .func (PySem.W.fnOf "without_item" "without_item" (defArgs s_without_item) (defBody s_without_item) (defScope s_without_item) .none kV23 dc23 pm23 an23 cd23 ct23), sl23⟩) (c23 : PySem.W.codeIn K cd23 "without_item" = true) (k23 : PySem.W.keepIn K (.ref f23) = true)
    (a24 : PySem.W.nsIn K mainGlobals "require_few_blocks" = some (some (.ref f24))) (l24 : K.lookup f24 = some ⟨oc24, od24, .func (PySem.W.fnOf "require_few_blocks" "require_few_blocks" (defArgs s_require_few_blocks) (defBody s_require_few_blocks) (defScope s_require_few_blocks) .none kV24 dc24 pm24 an24 cd24 ct24), sl24⟩) (c24 : PySem.W.codeIn K cd24 "require_few_blocks" = true) (k24 : PySem.W.keepIn K (.ref f24) = true)
    (a25 : PySem.W.nsIn K mainGlobals "decisive_demands" = some (some (.ref f25))) (l25 : K.lookup f25 = some ⟨oc25, od25, .func (PySem.W.fnOf "decisive_demands" "decisive_demands" (defArgs s_decisive_demands) (defBody s_decisive_demands) (defScope s_decisive_demands) .none kV25 dc25 pm25 an25 cd25 ct25), sl25⟩) (c25 : PySem.W.codeIn K cd25 "decisive_demands" = true) (k25 : PySem.W.keepIn K (.ref f25) = true)
    (a26 : PySem.W.nsIn K mainGlobals "largest_independent" = some (some (.ref f26))) (l26 : K.lookup f26 = some ⟨oc26, od26, .func (PySem.W.fnOf "largest_independent" "largest_independent" (defArgs s_largest_independent) (defBody s_largest_independent) (defScope s_largest_independent) .none kV26 dc26 pm26 an26 cd26 ct26), sl26⟩) (c26 : PySem.W.codeIn K cd26 "largest_independent" = true) (k26 : PySem.W.keepIn K (.ref f26) = true)
    (a27 : PySem.W.nsIn K mainGlobals "unserved_demands" = some (some (.ref f27))) (l27 : K.lookup f27 = some ⟨oc27, od27, .func (PySem.W.fnOf "unserved_demands" "unserved_demands" (defArgs s_unserved_demands) (defBody s_unserved_demands) (defScope s_unserved_demands) .none kV27 dc27 pm27 an27 cd27 ct27), sl27⟩) (c27 : PySem.W.codeIn K cd27 "unserved_demands" = true) (k27 : PySem.W.keepIn K (.ref f27) = true)
    (a28 : PySem.W.nsIn K mainGlobals "helpful_piece" = some (some (.ref f28))) (l28 : K.lookup f28 = some ⟨oc28, od28, .func (PySem.W.fnOf "helpful_piece" "helpful_piece" (defArgs s_helpful_piece) (defBody s_helpful_piece) (defScope s_helpful_piece) .none kV28 dc28 pm28 an28 cd28 ct28), sl28⟩) (c28 : PySem.W.codeIn K cd28 "helpful_piece" = true) (k28 : PySem.W.keepIn K (.ref f28) = true)
    (a29 : PySem.W.nsIn K mainGlobals "smallest_solution" = some (some (.ref f29))) (l29 : K.lookup f29 = some ⟨oc29, od29, .func (PySem.W.fnOf "smallest_solution" "smallest_solution" (defArgs s_smallest_solution) (defBody s_smallest_solution) (defScope s_smallest_solution) .none kV29 dc29 pm29 an29 cd29 ct29), sl29⟩) (c29 : PySem.W.codeIn K cd29 "smallest_solution" = true) (k29 : PySem.W.keepIn K (.ref f29) = true)
    (a30 : PySem.W.nsIn K mainGlobals "count_needed" = some (some (.ref f30))) (l30 : K.lookup f30 = some ⟨oc30, od30, .func (PySem.W.fnOf "count_needed" "count_needed" (defArgs s_count_needed) (defBody s_count_needed) (defScope s_count_needed) .none kV30 dc30 pm30 an30 cd30 ct30), sl30⟩) (c30 : PySem.W.codeIn K cd30 "count_needed" = true) (k30 : PySem.W.keepIn K (.ref f30) = true)
    (a31 : PySem.W.nsIn K mainGlobals "solve" = some (some (.ref f31))) (l31 : K.lookup f31 = some ⟨oc31, od31, .func (PySem.W.fnOf "solve" "solve" (defArgs s_solve) (defBody s_solve) (defScope s_solve) .none kV31 dc31 pm31 an31 cd31 ct31), sl31⟩) (c31 : PySem.W.codeIn K cd31 "solve" = true) (k31 : PySem.W.keepIn K (.ref f31) = true)
    (a32 : PySem.W.nsIn K mainGlobals "are_witnesses" = some (some (.ref f32))) (l32 : K.lookup f32 = some ⟨oc32, od32, .func (PySem.W.fnOf "are_witnesses" "are_witnesses" (defArgs s_are_witnesses) (defBody s_are_witnesses) (defScope s_are_witnesses) .none kV32 dc32 pm32 an32 cd32 ct32), sl32⟩) (c32 : PySem.W.codeIn K cd32 "are_witnesses" = true) (k32 : PySem.W.keepIn K (.ref f32) = true)
    (a33 : PySem.W.nsIn K mainGlobals "solution_holds" = some (some (.ref f33))) (l33 : K.lookup f33 = some ⟨oc33, od33, .func (PySem.W.fnOf "solution_holds" "solution_holds" (defArgs s_solution_holds) (defBody s_solution_holds) (defScope s_solution_holds) .none kV33 dc33 pm33 an33 cd33 ct33), sl33⟩) (c33 : PySem.W.codeIn K cd33 "solution_holds" = true) (k33 : PySem.W.keepIn K (.ref f33) = true)
    (a34 : PySem.W.nsIn K mainGlobals "helps" = some (some (.ref f34))) (l34 : K.lookup f34 = some ⟨oc34, od34, .func (PySem.W.fnOf "helps" "helps" (defArgs s_helps) (defBody s_helps) (defScope s_helps) .none kV34 dc34 pm34 an34 cd34 ct34), sl34⟩) (c34 : PySem.W.codeIn K cd34 "helps" = true) (k34 : PySem.W.keepIn K (.ref f34) = true)
    (a35 : PySem.W.nsIn K mainGlobals "helpful_interval" = some (some (.ref f35))) (l35 : K.lookup f35 = some ⟨oc35, od35, .func (PySem.W.fnOf "helpful_interval" "helpful_interval" (defArgs s_helpful_interval) (defBody s_helpful_interval) (defScope s_helpful_interval) .none kV35 dc35 pm35 an35 cd35 ct35), sl35⟩) (c35 : PySem.W.codeIn K cd35 "helpful_interval" = true) (k35 : PySem.W.keepIn K (.ref f35) = true)
    (a36 : PySem.W.nsIn K mainGlobals "has_open_demand" = some (some (.ref f36))) (l36 : K.lookup f36 = some ⟨oc36, od36, .func (PySem.W.fnOf "has_open_demand" "has_open_demand" (defArgs s_has_open_demand) (defBody s_has_open_demand) (defScope s_has_open_demand) .none kV36 dc36 pm36 an36 cd36 ct36), sl36⟩) (c36 : PySem.W.codeIn K cd36 "has_open_demand" = true) (k36 : PySem.W.keepIn K (.ref f36) = true)
    (a37 : PySem.W.nsIn K mainGlobals "widen" = some (some (.ref f37))) (l37 : K.lookup f37 = some ⟨oc37, od37, .func (PySem.W.fnOf "widen" "widen" (defArgs s_widen) (defBody s_widen) (defScope s_widen) .none kV37 dc37 pm37 an37 cd37 ct37), sl37⟩) (c37 : PySem.W.codeIn K cd37 "widen" = true) (k37 : PySem.W.keepIn K (.ref f37) = true)
    (a38 : PySem.W.nsIn K mainGlobals "essential_targets" = some (some (.ref f38))) (l38 : K.lookup f38 = some ⟨oc38, od38, .func (PySem.W.fnOf "essential_targets" "essential_targets" (defArgs s_essential_targets) (defBody s_essential_targets) (defScope s_essential_targets) .none kV38 dc38 pm38 an38 cd38 ct38), sl38⟩) (c38 : PySem.W.codeIn K cd38 "essential_targets" = true) (k38 : PySem.W.keepIn K (.ref f38) = true)
    (a39 : PySem.W.nsIn K mainGlobals "core_targets" = some (some (.ref f39))) (l39 : K.lookup f39 = some ⟨oc39, od39, .func (PySem.W.fnOf "core_targets" "core_targets" (defArgs s_core_targets) (defBody s_core_targets) (defScope s_core_targets) .none kV39 dc39 pm39 an39 cd39 ct39), sl39⟩) (c39 : PySem.W.codeIn K cd39 "core_targets" = true) (k39 : PySem.W.keepIn K (.ref f39) = true)
    (a40 : PySem.W.nsIn K mainGlobals "is_free" = some (some (.ref f40))) (l40 : K.lookup f40 = some ⟨oc40, od40, .func (PySem.W.fnOf "is_free" "is_free" (defArgs s_is_free) (defBody s_is_free) (defScope s_is_free) .none kV40 dc40 pm40 an40 cd40 ct40), sl40⟩) (c40 : PySem.W.codeIn K cd40 "is_free" = true) (k40 : PySem.W.keepIn K (.ref f40) = true)
    (a41 : PySem.W.nsIn K mainGlobals "growth_counts" = some (some (.ref f41))) (l41 : K.lookup f41 = some ⟨oc41, od41, .func (PySem.W.fnOf "growth_counts" "growth_counts" (defArgs s_growth_counts) (defBody s_growth_counts) (defScope s_growth_counts) .none kV41 dc41 pm41 an41 cd41 ct41), sl41⟩) (c41 : PySem.W.codeIn K cd41 "growth_counts" = true) (k41 : PySem.W.keepIn K (.ref f41) = true)
    (a42 : PySem.W.nsIn K mainGlobals "_law_draws" = some (some (.ref f42))) (l42 : K.lookup f42 = some ⟨oc42, od42, .func (PySem.W.fnOf "_law_draws" "_law_draws" (defArgs s_law_draws) (defBody s_law_draws) (defScope s_law_draws) .none kV42 dc42 pm42 an42 cd42 ct42), sl42⟩) (c42 : PySem.W.codeIn K cd42 "_law_draws" = true) (k42 : PySem.W.keepIn K (.ref f42) = true)
    (a43 : PySem.W.nsIn K mainGlobals "_law_next" = some (some (.ref f43))) (l43 : K.lookup f43 = some ⟨oc43, od43, .func (PySem.W.fnOf "_law_next" "_law_next" (defArgs s_law_next) (defBody s_law_next) (defScope s_law_next) .none kV43 dc43 pm43 an43 cd43 ct43), sl43⟩) (c43 : PySem.W.codeIn K cd43 "_law_next" = true) (k43 : PySem.W.keepIn K (.ref f43) = true)
    (a44 : PySem.W.nsIn K mainGlobals "_law_blocks" = some (some (.ref f44))) (l44 : K.lookup f44 = some ⟨oc44, od44, .func (PySem.W.fnOf "_law_blocks" "_law_blocks" (defArgs s_law_blocks) (defBody s_law_blocks) (defScope s_law_blocks) .none kV44 dc44 pm44 an44 cd44 ct44), sl44⟩) (c44 : PySem.W.codeIn K cd44 "_law_blocks" = true) (k44 : PySem.W.keepIn K (.ref f44) = true)
    (a45 : PySem.W.nsIn K mainGlobals "_law_wide" = some (some (.ref f45))) (l45 : K.lookup f45 = some ⟨oc45, od45, .func (PySem.W.fnOf "_law_wide" "_law_wide" (defArgs s_law_wide) (defBody s_law_wide) (defScope s_law_wide) .none kV45 dc45 pm45 an45 cd45 ct45), sl45⟩) (c45 : PySem.W.codeIn K cd45 "_law_wide" = true) (k45 : PySem.W.keepIn K (.ref f45) = true)
    (a46 : PySem.W.nsIn K mainGlobals "_law_call" = some (some (.ref f46))) (l46 : K.lookup f46 = some ⟨oc46, od46, .func (PySem.W.fnOf "_law_call" "_law_call" (defArgs s_law_call) (defBody s_law_call) (defScope s_law_call) .none kV46 dc46 pm46 an46 cd46 ct46), sl46⟩) (c46 : PySem.W.codeIn K cd46 "_law_call" = true) (k46 : PySem.W.keepIn K (.ref f46) = true)
    (a47 : PySem.W.nsIn K mainGlobals "_law_raised" = some (some (.ref f47))) (l47 : K.lookup f47 = some ⟨oc47, od47, .func (PySem.W.fnOf "_law_raised" "_law_raised" (defArgs s_law_raised) (defBody s_law_raised) (defScope s_law_raised) .none kV47 dc47 pm47 an47 cd47 ct47), sl47⟩) (c47 : PySem.W.codeIn K cd47 "_law_raised" = true) (k47 : PySem.W.keepIn K (.ref f47) = true)
    (a48 : PySem.W.nsIn K mainGlobals "_law_judged" = some (some (.ref f48))) (l48 : K.lookup f48 = some ⟨oc48, od48, .func (PySem.W.fnOf "_law_judged" "_law_judged" (defArgs s_law_judged) (defBody s_law_judged) (defScope s_law_judged) .none kV48 dc48 pm48 an48 cd48 ct48), sl48⟩) (c48 : PySem.W.codeIn K cd48 "_law_judged" = true) (k48 : PySem.W.keepIn K (.ref f48) = true)
    (a49 : PySem.W.nsIn K mainGlobals "law" = some (some (.ref f49))) (l49 : K.lookup f49 = some ⟨oc49, od49, .func (PySem.W.fnOf "law" "law" (defArgs s_law) (defBody s_law) (defScope s_law) .none kV49 dc49 pm49 an49 cd49 ct49), sl49⟩) (c49 : PySem.W.codeIn K cd49 "law" = true) (k49 : PySem.W.keepIn K (.ref f49) = true)
    (a50 : PySem.W.findIn K (.ref X_TooWide) "__init__" = some (some (.ref f50))) (i50 : PySem.W.isFn K (.ref f50) = true) (l50 : K.lookup f50 = some ⟨oc50, od50, .func (PySem.W.fnOf "__init__" "TooWide.__init__" (defArgs s_TooWide_init) (defBody s_TooWide_init) (defScope s_TooWide_init) .none kV50 dc50 pm50 an50 cd50 ct50), sl50⟩) (c50 : PySem.W.codeIn K cd50 "TooWide.__init__" = true) (k50 : PySem.W.keepIn K (.ref f50) = true)
    {nm_TooWide qn_TooWide : Str} {N_TooWide : Addr} {bs_TooWide bm_TooWide sb_TooWide : List Value} {sn_TooWide : List Str} {ab_TooWide : Bool} {co_TooWide : Option Bool} {dd_TooWide : Option Addr} {m0_TooWide m1_TooWide m2_TooWide m3_TooWide m5_TooWide : Option Value}
    (aX_TooWide : PySem.W.nsIn K mainGlobals "TooWide" = some (some (.ref X_TooWide))) (iX_TooWide : PySem.W.isClsIn K X_TooWide = true) (tX_TooWide : PySem.W.typeIn K (.ref X_TooWide) = some (.type "type")) (bX_TooWide : PySem.W.subIn K (.ref X_TooWide) (.type "BaseException") = some true) (xL_TooWide : K.lookup X_TooWide = some (excClassObj nm_TooWide qn_TooWide X_TooWide N_TooWide bs_TooWide bm_TooWide true sn_TooWide sb_TooWide ab_TooWide co_TooWide dd_TooWide m0_TooWide m1_TooWide m2_TooWide m3_TooWide m5_TooWide "ValueError.__new__")) (rL_TooWide : PySem.HandSPX.refsVE bm_TooWide = true) (sX_TooWide : PySem.W.findIn K (.ref X_TooWide) "__setattr__" = some (some (.builtin "object.__setattr__"))) (kX_TooWide : PySem.W.keepIn K (.ref X_TooWide) = true) (nX_TooWide : PySem.W.findIn K (.ref X_TooWide) "bound" = some none) (fX_TooWide : PySem.W.typeIn K (.ref f50) = some (.type "function")) (gX_TooWide : PySem.W.findIn K (.ref X_TooWide) "__getattribute__" = some (some (.builtin "BaseException.__getattribute__"))) (hX_TooWide : PySem.W.findIn K (.ref X_TooWide) "__getattr__" = some none) (dX_TooWide : PySem.W.hasDictIn K X_TooWide = true) (cX_TooWide : PySem.W.findIn K (.ref X_TooWide) "__class__" = some (some (.builtin "object.__class__"))) (eX_TooWide : PySem.W.specialIn K (.builtin "object.__class__") "__get__" = some (some (.builtin "getset_descriptor.__get__"))) (uX_TooWide : PySem.W.takesIn K (.builtin "object.__class__") = some true) (mX_TooWide : PySem.W.mroIn K X_TooWide (.type "object") = some true) (vX_TooWide : PySem.W.subIn K (.ref X_TooWide) (.type "ValueError") = some true) (wX_TooWide : PySem.W.subIn K (.ref X_TooWide) (.type "LookupError") = some false)
    (aX_NotGenerated : PySem.W.nsIn K mainGlobals "NotGenerated" = some (some (.ref X_NotGenerated))) (iX_NotGenerated : PySem.W.isClsIn K X_NotGenerated = true) (tX_NotGenerated : PySem.W.typeIn K (.ref X_NotGenerated) = some (.type "type")) (bX_NotGenerated : PySem.W.subIn K (.ref X_NotGenerated) (.type "BaseException") = some true)
    (aX_OutOfRange : PySem.W.nsIn K mainGlobals "OutOfRange" = some (some (.ref X_OutOfRange))) (iX_OutOfRange : PySem.W.isClsIn K X_OutOfRange = true) (tX_OutOfRange : PySem.W.typeIn K (.ref X_OutOfRange) = some (.type "type")) (bX_OutOfRange : PySem.W.subIn K (.ref X_OutOfRange) (.type "BaseException") = some true)
    (aX_TooMany : PySem.W.nsIn K mainGlobals "TooMany" = some (some (.ref X_TooMany))) (iX_TooMany : PySem.W.isClsIn K X_TooMany = true) (tX_TooMany : PySem.W.typeIn K (.ref X_TooMany) = some (.type "type")) (bX_TooMany : PySem.W.subIn K (.ref X_TooMany) (.type "BaseException") = some true)
    (aX_SpanError : PySem.W.nsIn K mainGlobals "SpanError" = some (some (.ref X_SpanError))) (iX_SpanError : PySem.W.isClsIn K X_SpanError = true) (tX_SpanError : PySem.W.typeIn K (.ref X_SpanError) = some (.type "type")) (bX_SpanError : PySem.W.subIn K (.ref X_SpanError) (.type "BaseException") = some true)
    (sX_TooWide_NotGenerated : PySem.W.subIn K (.ref X_TooWide) (.ref X_NotGenerated) = some false)
    (sX_TooWide_OutOfRange : PySem.W.subIn K (.ref X_TooWide) (.ref X_OutOfRange) = some false)
    (sX_TooWide_TooMany : PySem.W.subIn K (.ref X_TooWide) (.ref X_TooMany) = some false)
    (sX_TooWide_SpanError : PySem.W.subIn K (.ref X_TooWide) (.ref X_SpanError) = some true)
    (sX_TooWide_TooWide : PySem.W.subIn K (.ref X_TooWide) (.ref X_TooWide) = some true)
    (y0 : PySem.W.nsIn K mainGlobals "LAST_POSITION" = some (some (.int 1000000000000 tk0))) (y1 : PySem.W.nsIn K mainGlobals "MAX_BLOCKS" = some (some (.int 8 tk1))) (z0 : PySem.W.nsIn K mainGlobals "ValueError" = some none) (z1 : PySem.W.nsIn K mainGlobals "abs" = some none) (z2 : PySem.W.nsIn K mainGlobals "all" = some none) (z3 : PySem.W.nsIn K mainGlobals "any" = some none) (z4 : PySem.W.nsIn K mainGlobals "bool" = some none) (z5 : PySem.W.nsIn K mainGlobals "enumerate" = some none) (z6 : PySem.W.nsIn K mainGlobals "int" = some none) (z7 : PySem.W.nsIn K mainGlobals "isinstance" = some none) (z8 : PySem.W.nsIn K mainGlobals "len" = some none) (z9 : PySem.W.nsIn K mainGlobals "max" = some none) (z10 : PySem.W.nsIn K mainGlobals "min" = some none) (z11 : PySem.W.nsIn K mainGlobals "piece" = some none) (z12 : PySem.W.nsIn K mainGlobals "range" = some none) (z13 : PySem.W.nsIn K mainGlobals "repr" = some none) (z14 : PySem.W.nsIn K mainGlobals "set" = some none) (z15 : PySem.W.nsIn K mainGlobals "sorted" = some none) (z16 : PySem.W.nsIn K mainGlobals "tuple" = some none) (z17 : PySem.W.nsIn K mainGlobals "zip" = some none) (hcc : cd28 = .ref cc) :
    ∃ fd : FuncData, (∀ (s : Shared) (v : Value), BindsTo s fd ⟨[v], []⟩ [("_law_script", v)]) ∧ ∀ base : Heap, K.In base → base.Ns mainGlobals mg → (∃ mm, base.Ns sysModules mm) → LamX.TabB base mg cc PP → FnG l.prog w K mg base 110 fa fd ["_law_script"] (sp_law K PP) := by
  have e := hfa.symm.trans (PySem.W.mg_of X G a49)
  cases e
  have F1 := fun_mk (st := s_depth_changes) l1 c1 k1
  have b1 := F1.binds (ps := ["intervals"]) fun _ _ _ _ _ _ us hl => match us, hl with | [_], _ => rfl
  have F2 := fun_mk (st := s_find_blocks) l2 c2 k2
  have b2 := F2.binds (ps := ["intervals"]) fun _ _ _ _ _ _ us hl => match us, hl with | [_], _ => rfl
  have F3 := fun_mk (st := s_is_number) l3 c3 k3
  have b3 := F3.binds (ps := ["value"]) fun _ _ _ _ _ _ us hl => match us, hl with | [_], _ => rfl
  have F4 := fun_mk (st := s_is_position) l4 c4 k4
  have b4 := F4.binds (ps := ["value"]) fun _ _ _ _ _ _ us hl => match us, hl with | [_], _ => rfl
  have F5 := fun_mk (st := s_is_tuple_of) l5 c5 k5
  have b5 := F5.binds (ps := ["value", "length"]) fun _ _ _ _ _ _ us hl => match us, hl with | [_, _], _ => rfl
  have F6 := fun_mk (st := s_is_interval) l6 c6 k6
  have b6 := F6.binds (ps := ["value"]) fun _ _ _ _ _ _ us hl => match us, hl with | [_], _ => rfl
  have F7 := fun_mk (st := s_is_ascending) l7 c7 k7
  have b7 := F7.binds (ps := ["value", "is_item"]) fun _ _ _ _ _ _ us hl => match us, hl with | [_, _], _ => rfl
  have F8 := fun_mk (st := s_has_position) l8 c8 k8
  have b8 := F8.binds (ps := ["interval", "position"]) fun _ _ _ _ _ _ us hl => match us, hl with | [_, _], _ => rfl
  have F9 := fun_mk (st := s_contains) l9 c9 k9
  have b9 := F9.binds (ps := ["outer", "inner"]) fun _ _ _ _ _ _ us hl => match us, hl with | [_, _], _ => rfl
  have F10 := fun_mk (st := s_intersect) l10 c10 k10
  have b10 := F10.binds (ps := ["first", "second"]) fun _ _ _ _ _ _ us hl => match us, hl with | [_, _], _ => rfl
  have F11 := fun_mk (st := s_is_demand) l11 c11 k11
  have b11 := F11.binds (ps := ["value"]) fun _ _ _ _ _ _ us hl => match us, hl with | [_], _ => rfl
  have F12 := fun_mk (st := s_serves) l12 c12 k12
  have b12 := F12.binds (ps := ["piece", "demand"]) fun _ _ _ _ _ _ us hl => match us, hl with | [_, _], _ => rfl
  have F13 := fun_mk (st := s_conflict) l13 c13 k13
  have b13 := F13.binds (ps := ["first", "second"]) fun _ _ _ _ _ _ us hl => match us, hl with | [_, _], _ => rfl
  have F14 := fun_mk (st := s_is_independent) l14 c14 k14
  have b14 := F14.binds (ps := ["value"]) fun _ _ _ _ _ _ us hl => match us, hl with | [_], _ => rfl
  have F15 := fun_mk (st := s_demands_at_blocks) l15 c15 k15
  have b15 := F15.binds (ps := ["targets", "blocks"]) fun _ _ _ _ _ _ us hl => match us, hl with | [_, _], _ => rfl
  have F16 := fun_mk (st := s_is_open) l16 c16 k16
  have b16 := F16.binds (ps := ["pieces", "demand"]) fun _ _ _ _ _ _ us hl => match us, hl with | [_, _], _ => rfl
  have F17 := fun_mk (st := s_open_demands) l17 c17 k17
  have b17 := F17.binds (ps := ["targets", "pieces"]) fun _ _ _ _ _ _ us hl => match us, hl with | [_, _], _ => rfl
  have F18 := fun_mk (st := s_shadow_target) l18 c18 k18
  have b18 := F18.binds (ps := ["targets", "demand"]) fun _ _ _ _ _ _ us hl => match us, hl with | [_, _], _ => rfl
  have F19 := fun_mk (st := s_pieces_inside) l19 c19 k19
  have b19 := F19.binds (ps := ["pieces", "target"]) fun _ _ _ _ _ _ us hl => match us, hl with | [_, _], _ => rfl
  have F20 := fun_mk (st := s_first_gap) l20 c20 k20
  have b20 := F20.binds (ps := ["pieces", "target"]) fun _ _ _ _ _ _ us hl => match us, hl with | [_, _], _ => rfl
  have F21 := fun_mk (st := s_generates) l21 c21 k21
  have b21 := F21.binds (ps := ["pieces", "target"]) fun _ _ _ _ _ _ us hl => match us, hl with | [_, _], _ => rfl
  have F22 := fun_mk (st := s_find_missing) l22 c22 k22
  have b22 := F22.binds (ps := ["targets", "pieces"]) fun _ _ _ _ _ _ us hl => match us, hl with | [_, _], _ => rfl
  have F23 := fun_mk (st := s_without_item) l23 c23 k23
  have b23 := F23.binds (ps := ["items", "item"]) fun _ _ _ _ _ _ us hl => match us, hl with | [_, _], _ => rfl
  have F24 := fun_mk (st := s_require_few_blocks) l24 c24 k24
  have b24 := F24.binds (ps := ["intervals"]) fun _ _ _ _ _ _ us hl => match us, hl with | [_], _ => rfl
  have F25 := fun_mk (st := s_decisive_demands) l25 c25 k25
  have b25 := F25.binds (ps := ["targets", "pieces"]) fun _ _ _ _ _ _ us hl => match us, hl with | [_, _], _ => rfl
  have F26 := fun_mk (st := s_largest_independent) l26 c26 k26
  have b26 := F26.binds (ps := ["demands"]) fun _ _ _ _ _ _ us hl => match us, hl with | [_], _ => rfl
  have F27 := fun_mk (st := s_unserved_demands) l27 c27 k27
  have b27 := F27.binds (ps := ["demands", "piece"]) fun _ _ _ _ _ _ us hl => match us, hl with | [_, _], _ => rfl
  have F28 := fun_mk (st := s_helpful_piece) l28 c28 k28
  have b28 := F28.binds (ps := ["demands", "blocks"]) fun _ _ _ _ _ _ us hl => match us, hl with | [_, _], _ => rfl
  have F29 := fun_mk (st := s_smallest_solution) l29 c29 k29
  have b29 := F29.binds (ps := ["targets", "pieces"]) fun _ _ _ _ _ _ us hl => match us, hl with | [_, _], _ => rfl
  have F30 := fun_mk (st := s_count_needed) l30 c30 k30
  have b30 := F30.binds (ps := ["targets", "pieces"]) fun _ _ _ _ _ _ us hl => match us, hl with | [_, _], _ => rfl
  have F31 := fun_mk (st := s_solve) l31 c31 k31
  have b31 := F31.binds (ps := ["targets", "pieces"]) fun _ _ _ _ _ _ us hl => match us, hl with | [_, _], _ => rfl
  have F32 := fun_mk (st := s_are_witnesses) l32 c32 k32
  have b32 := F32.binds (ps := ["targets", "pieces", "value"]) fun _ _ _ _ _ _ us hl => match us, hl with | [_, _, _], _ => rfl
  have F33 := fun_mk (st := s_solution_holds) l33 c33 k33
  have b33 := F33.binds (ps := ["targets", "pieces", "value"]) fun _ _ _ _ _ _ us hl => match us, hl with | [_, _, _], _ => rfl
  have F34 := fun_mk (st := s_helps) l34 c34 k34
  have b34 := F34.binds (ps := ["targets", "pieces", "interval"]) fun _ _ _ _ _ _ us hl => match us, hl with | [_, _, _], _ => rfl
  have F35 := fun_mk (st := s_helpful_interval) l35 c35 k35
  have b35 := F35.binds (ps := ["targets", "pieces"]) fun _ _ _ _ _ _ us hl => match us, hl with | [_, _], _ => rfl
  have F36 := fun_mk (st := s_has_open_demand) l36 c36 k36
  have b36 := F36.binds (ps := ["target", "pieces", "interval"]) fun _ _ _ _ _ _ us hl => match us, hl with | [_, _, _], _ => rfl
  have F37 := fun_mk (st := s_widen) l37 c37 k37
  have b37 := F37.binds (ps := ["targets", "pieces", "interval"]) fun _ _ _ _ _ _ us hl => match us, hl with | [_, _, _], _ => rfl
  have F38 := fun_mk (st := s_essential_targets) l38 c38 k38
  have b38 := F38.binds (ps := ["targets"]) fun _ _ _ _ _ _ us hl => match us, hl with | [_], _ => rfl
  have F39 := fun_mk (st := s_core_targets) l39 c39 k39
  have b39 := F39.binds (ps := ["targets"]) fun _ _ _ _ _ _ us hl => match us, hl with | [_], _ => rfl
  have F40 := fun_mk (st := s_is_free) l40 c40 k40
  have b40 := F40.binds (ps := ["targets", "interval"]) fun _ _ _ _ _ _ us hl => match us, hl with | [_, _], _ => rfl
  have F41 := fun_mk (st := s_growth_counts) l41 c41 k41
  have b41 := F41.binds (ps := ["targets"]) fun _ _ _ _ _ _ us hl => match us, hl with | [_], _ => rfl
  have F42 := fun_mk (st := s_law_draws) l42 c42 k42
  have b42 := F42.binds (ps := ["_law_script"]) fun _ _ _ _ _ _ us hl => match us, hl with | [_], _ => rfl
  have F43 := fun_mk (st := s_law_next) l43 c43 k43
  have b43 := F43.binds (ps := ["_law_state", "_law_many"]) fun _ _ _ _ _ _ us hl => match us, hl with | [_, _], _ => rfl
  have F44 := fun_mk (st := s_law_blocks) l44 c44 k44
  have b44 := F44.binds (ps := ["_law_intervals"]) fun _ _ _ _ _ _ us hl => match us, hl with | [_], _ => rfl
  have F45 := fun_mk (st := s_law_wide) l45 c45 k45
  have b45 := F45.binds (ps := ["_law_state"]) fun _ _ _ _ _ _ us hl => match us, hl with | [_], _ => rfl
  have F46 := fun_mk (st := s_law_call) l46 c46 k46
  have b46 := F46.binds (ps := ["_law_index", "_law_targets_here", "_law_pieces", "_law_interval"]) fun _ _ _ _ _ _ us hl => match us, hl with | [_, _, _, _], _ => rfl
  have F47 := fun_mk (st := s_law_raised) l47 c47 k47
  have b47 := F47.binds (ps := ["_law_index", "_law_targets_here", "_law_pieces", "_law_interval"]) fun _ _ _ _ _ _ us hl => match us, hl with | [_, _, _, _], _ => rfl
  have F48 := fun_mk (st := s_law_judged) l48 c48 k48
  have b48 := F48.binds (ps := ["_law_state"]) fun _ _ _ _ _ _ us hl => match us, hl with | [_], _ => rfl
  have F49 := fun_mk (st := s_law) l49 c49 k49
  have b49 := F49.binds (ps := ["_law_script"]) fun _ _ _ _ _ _ us hl => match us, hl with | [_], _ => rfl
  have F50 := fun_mk (st := s_TooWide_init) l50 c50 k50
  have b50 := F50.binds (ps := ["self", "bound"]) fun _ _ _ _ _ _ us hl => match us, hl with | [_, _], _ => rfl
  have T : Tx K mg _ _ _ _ _ _ _ _ _ _ _ _ _ _ _ _ _ _ _ _ _ _ _ _ _ _ _ _ _ _ _ _ _ _ _ _ _ _ _ _ _ _ _ _ _ _ _ _ _ _ _ _ _ _ _ _ _ _ _ _ _ _ _ _ _ _ _ _ _ _ _ _ _ _ _ _ _ _ _ _ _ _ _ _ _ _ _ _ _ _ _ _ _ _ _ _ _ _ _ _ _ _ _ _ _ tk0 tk1 := ⟨F1, b1, PySem.W.mg_of X G a1, F2, b2, PySem.W.mg_of X G a2, F3, b3, PySem.W.mg_of X G a3, F4, b4, PySem.W.mg_of X G a4, F5, b5, PySem.W.mg_of X G a5, F6, b6, PySem.W.mg_of X G a6, F7, b7, PySem.W.mg_of X G a7, F8, b8, PySem.W.mg_of X G a8, F9, b9, PySem.W.mg_of X G a9, F10, b10, PySem.W.mg_of X G a10, F11, b11, PySem.W.mg_of X G a11, F12, b12, PySem.W.mg_of X G a12, F13, b13, PySem.W.mg_of X G a13, F14, b14, PySem.W.mg_of X G a14, F15, b15, PySem.W.mg_of X G a15, F16, b16, PySem.W.mg_of X G a16, F17, b17, PySem.W.mg_of X G a17, F18, b18, PySem.W.mg_of X G a18, F19, b19, PySem.W.mg_of X G a19, F20, b20, PySem.W.mg_of X G a20, F21, b21, PySem.W.mg_of X G a21, F22, b22, PySem.W.mg_of X G a22, F23, b23, PySem.W.mg_of X G a23, F24, b24, PySem.W.mg_of X G a24, F25, b25, PySem.W.mg_of X G a25, F26, b26, PySem.W.mg_of X G a26, F27, b27, PySem.W.mg_of X G a27, F28, b28, PySem.W.mg_of X G a28, F29, b29, PySem.W.mg_of X G a29, F30, b30, PySem.W.mg_of X G a30, F31, b31, PySem.W.mg_of X G a31, F32, b32, PySem.W.mg_of X G a32, F33, b33, PySem.W.mg_of X G a33, F34, b34, PySem.W.mg_of X G a34, F35, b35, PySem.W.mg_of X G a35, F36, b36, PySem.W.mg_of X G a36, F37, b37, PySem.W.mg_of X G a37, F38, b38, PySem.W.mg_of X G a38, F39, b39, PySem.W.mg_of X G a39, F40, b40, PySem.W.mg_of X G a40, F41, b41, PySem.W.mg_of X G a41, F42, b42, PySem.W.mg_of X G a42, F43, b43, PySem.W.mg_of X G a43, F44, b44, PySem.W.mg_of X G a44, F45, b45, PySem.W.mg_of X G a45, F46, b46, PySem.W.mg_of X G a46, F47, b47, PySem.W.mg_of X G a47, F48, b48, PySem.W.mg_of X G a48, F49, b49, PySem.W.mg_of X G a49, F50, b50, PySem.W.mg_of X G y0, PySem.W.mg_of X G y1, PySem.W.mg_none_of X G z0, PySem.W.mg_none_of X G z1, PySem.W.mg_none_of X G z2, PySem.W.mg_none_of X G z3, PySem.W.mg_none_of X G z4, PySem.W.mg_none_of X G z5, PySem.W.mg_none_of X G z6, PySem.W.mg_none_of X G z7, PySem.W.mg_none_of X G z8, PySem.W.mg_none_of X G z9, PySem.W.mg_none_of X G z10, PySem.W.mg_none_of X G z11, PySem.W.mg_none_of X G z12, PySem.W.mg_none_of X G z13, PySem.W.mg_none_of X G z14, PySem.W.mg_none_of X G z15, PySem.W.mg_none_of X G z16, PySem.W.mg_none_of X G z17, ⟨PySem.W.mg_of X G aX_TooWide, iX_TooWide, tX_TooWide, bX_TooWide⟩, ⟨PySem.W.mg_of X G aX_NotGenerated, iX_NotGenerated, tX_NotGenerated, bX_NotGenerated⟩, ⟨PySem.W.mg_of X G aX_OutOfRange, iX_OutOfRange, tX_OutOfRange, bX_OutOfRange⟩, ⟨PySem.W.mg_of X G aX_TooMany, iX_TooMany, tX_TooMany, bX_TooMany⟩, ⟨PySem.W.mg_of X G aX_SpanError, iX_SpanError, tX_SpanError, bX_SpanError⟩, ⟨⟨⟨nm_TooWide, qn_TooWide, N_TooWide, bs_TooWide, bm_TooWide, sn_TooWide, sb_TooWide, ab_TooWide, co_TooWide, dd_TooWide, m0_TooWide, m1_TooWide, m2_TooWide, m3_TooWide, m5_TooWide, xL_TooWide, rL_TooWide⟩, sX_TooWide, bX_TooWide, tX_TooWide, kX_TooWide⟩, a50, fX_TooWide, nX_TooWide, ⟨gX_TooWide, hX_TooWide, bX_TooWide, dX_TooWide, cX_TooWide, eX_TooWide, uX_TooWide, mX_TooWide⟩⟩, vX_TooWide, wX_TooWide, sX_TooWide_NotGenerated, sX_TooWide_OutOfRange, sX_TooWide_TooMany, sX_TooWide_SpanError, sX_TooWide_TooWide⟩
  exact ⟨_, fun s v => .of_eq rfl, fun base _ _ hM hB => ok_law T ⟨cc, hB, hcc⟩⟩
end L9
open PySem PySem.W PyProof.Rows
set_option maxHeartbeats 0 in
theorem PySem.Challenge.cw_fewspans_k29_too_wide_holds : PySem.Challenge.rw_fewspans_k29_too_wide.Holds := by
  w_on; o_law; k_head; (case hw => w_witness2)
  k_fill
  refine L9.quiet_walkT (l := PySem.Challenge.rw_fewspans_k29_too_wide) (n := 63) (k := 110) (x := "_law_script") (by decide +kernel) rfl (by decide) rfl ⟨rfl, by decide, by decide⟩ (fun w h Y => PySem.W.km_in_of Y) ?F
  case F =>
    intro w mg fa h KX G hmg tabOf
    refine' L9.endT tabOf (y := "helpful_piece") ?ta ?tl ?te ?tc ?tv (by decide +kernel) ?noT (L9.all_mk KX G hmg ?a1 ?l1 ?c1 ?k1 ?a2 ?l2 ?c2 ?k2 ?a3 ?l3 ?c3 ?k3 ?a4 ?l4 ?c4 ?k4 ?a5 ?l5 ?c5 ?k5 ?a6 ?l6 ?c6 ?k6 ?a7 ?l7 ?c7 ?k7 ?a8 ?l8 ?c8 ?k8 ?a9 ?l9 ?c9 ?k9 ?a10 ?l10 ?c10 ?k10 ?a11 ?l11 ?c11 ?k11 ?a12 ?l12 ?c12 ?k12 ?a13 ?l13 ?c13 ?k13 ?a14 ?l14 ?c14 ?k14 ?a15 ?l15 ?c15 ?k15 ?a16 ?l16 ?c16 ?k16 ?a17 ?l17 ?c17 ?k17 ?a18 ?l18 ?c18 ?k18 ?a19 ?l19 ?c19 ?k19 ?a20 ?l20 ?c20 ?k20 ?a21 ?l21 ?c21 ?k21 ?a22 ?l22 ?c22 ?k22 ?a23 ?l23 ?c23 ?k23 ?a24 ?l24 ?c24 ?k24 ?a25 ?l25 ?c25 ?k25 ?a26 ?l26 ?c26 ?k26 ?a27 ?l27 ?c27 ?k27 ?a28 ?l28 ?c28 ?k28 ?a29 ?l29 ?c29 ?k29 ?a30 ?l30 ?c30 ?k30 ?a31 ?l31 ?c31 ?k31 ?a32 ?l32 ?c32 ?k32 ?a33 ?l33 ?c33 ?k33 ?a34 ?l34 ?c34 ?k34 ?a35 ?l35 ?c35 ?k35 ?a36 ?l36 ?c36 ?k36 ?a37 ?l37 ?c37 ?k37 ?a38 ?l38 ?c38 ?k38 ?a39 ?l39 ?c39 ?k39 ?a40 ?l40 ?c40 ?k40 ?a41 ?l41 ?c41 ?k41 ?a42 ?l42 ?c42 ?k42 ?a43 ?l43 ?c43 ?k43 ?a44 ?l44 ?c44 ?k44 ?a45 ?l45 ?c45 ?k45 ?a46 ?l46 ?c46 ?k46 ?a47 ?l47 ?c47 ?k47 ?a48 ?l48 ?c48 ?k48 ?a49 ?l49 ?c49 ?k49 ?a50 ?i50 ?l50 ?c50 ?k50 ?aX_TooWide ?iX_TooWide ?tX_TooWide ?bX_TooWide ?xL_TooWide ?rL_TooWide ?sX_TooWide ?kX_TooWide ?nX_TooWide ?fX_TooWide ?gX_TooWide ?hX_TooWide ?dX_TooWide ?cX_TooWide ?eX_TooWide ?uX_TooWide ?mX_TooWide ?vX_TooWide ?wX_TooWide ?aX_NotGenerated ?iX_NotGenerated ?tX_NotGenerated ?bX_NotGenerated ?aX_OutOfRange ?iX_OutOfRange ?tX_OutOfRange ?bX_OutOfRange ?aX_TooMany ?iX_TooMany ?tX_TooMany ?bX_TooMany ?aX_SpanError ?iX_SpanError ?tX_SpanError ?bX_SpanError ?sX_TooWide_NotGenerated ?sX_TooWide_OutOfRange ?sX_TooWide_TooMany ?sX_TooWide_SpanError ?sX_TooWide_TooWide ?y0 ?y1 ?z0 ?z1 ?z2 ?z3 ?z4 ?z5 ?z6 ?z7 ?z8 ?z9 ?z10 ?z11 ?z12 ?z13 ?z14 ?z15 ?z16 ?z17 ?hcc) (fun H a ns hl h0 hS => ⟨a, ns, rfl, hS, hl, h0, fun _ => rfl⟩)
    (case ta => k_is)
    (case tl => k_is)
    (case te => rfl)
    (case tc => k_is)
    (case tv => rfl)
    (case noT => kernel_rfl)
    (case aX_TooWide => k_is)
    (case aX_NotGenerated => k_is)
    (case aX_OutOfRange => k_is)
    (case aX_TooMany => k_is)
    (case aX_SpanError => k_is)
    (case a1 => k_is)
    (case l1 => k_is)
    (case c1 => k_is)
    (case k1 => k_is)
    (case a2 => k_is)
    (case l2 => k_is)
    (case c2 => k_is)
    (case k2 => k_is)
    (case a3 => k_is)
    (case l3 => k_is)
    (case c3 => k_is)
    (case k3 => k_is)
    (case a4 => k_is)
    (case l4 => k_is)
    (case c4 => k_is)
    (case k4 => k_is)
    (case a5 => k_is)
    (case l5 => k_is)
    (case c5 => k_is)
    (case k5 => k_is)
    (case a6 => k_is)
    (case l6 => k_is)
    (case c6 => k_is)
    (case k6 => k_is)
    (case a7 => k_is)
    (case l7 => k_is)
    (case c7 => k_is)
    (case k7 => k_is)
    (case a8 => k_is)
    (case l8 => k_is)
    (case c8 => k_is)
    (case k8 => k_is)
    (case a9 => k_is)
    (case l9 => k_is)
    (case c9 => k_is)
    (case k9 => k_is)
    (case a10 => k_is)
    (case l10 => k_is)
    (case c10 => k_is)
    (case k10 => k_is)
    (case a11 => k_is)
    (case l11 => k_is)
    (case c11 => k_is)
    (case k11 => k_is)
    (case a12 => k_is)
    (case l12 => k_is)
    (case c12 => k_is)
    (case k12 => k_is)
    (case a13 => k_is)
    (case l13 => k_is)
    (case c13 => k_is)
    (case k13 => k_is)
    (case a14 => k_is)
    (case l14 => k_is)
    (case c14 => k_is)
    (case k14 => k_is)
    (case a15 => k_is)
    (case l15 => k_is)
    (case c15 => k_is)
    (case k15 => k_is)
    (case a16 => k_is)
    (case l16 => k_is)
    (case c16 => k_is)
    (case k16 => k_is)
    (case a17 => k_is)
    (case l17 => k_is)
    (case c17 => k_is)
    (case k17 => k_is)
    (case a18 => k_is)
    (case l18 => k_is)
    (case c18 => k_is)
    (case k18 => k_is)
    (case a19 => k_is)
    (case l19 => k_is)
    (case c19 => k_is)
    (case k19 => k_is)
    (case a20 => k_is)
    (case l20 => k_is)
    (case c20 => k_is)
    (case k20 => k_is)
    (case a21 => k_is)
    (case l21 => k_is)
    (case c21 => k_is)
    (case k21 => k_is)
    (case a22 => k_is)
    (case l22 => k_is)
    (case c22 => k_is)
    (case k22 => k_is)
    (case a23 => k_is)
    (case l23 => k_is)
    (case c23 => k_is)
    (case k23 => k_is)
    (case a24 => k_is)
    (case l24 => k_is)
    (case c24 => k_is)
    (case k24 => k_is)
    (case a25 => k_is)
    (case l25 => k_is)
    (case c25 => k_is)
    (case k25 => k_is)
    (case a26 => k_is)
    (case l26 => k_is)
    (case c26 => k_is)
    (case k26 => k_is)
    (case a27 => k_is)
    (case l27 => k_is)
    (case c27 => k_is)
    (case k27 => k_is)
    (case a28 => k_is)
    (case l28 => k_is)
    (case c28 => k_is)
    (case k28 => k_is)
    (case a29 => k_is)
    (case l29 => k_is)
    (case c29 => k_is)
    (case k29 => k_is)
    (case a30 => k_is)
    (case l30 => k_is)
    (case c30 => k_is)
    (case k30 => k_is)
    (case a31 => k_is)
    (case l31 => k_is)
    (case c31 => k_is)
    (case k31 => k_is)
    (case a32 => k_is)
    (case l32 => k_is)
    (case c32 => k_is)
    (case k32 => k_is)
    (case a33 => k_is)
    (case l33 => k_is)
    (case c33 => k_is)
    (case k33 => k_is)
    (case a34 => k_is)
    (case l34 => k_is)
    (case c34 => k_is)
    (case k34 => k_is)
    (case a35 => k_is)
    (case l35 => k_is)
    (case c35 => k_is)
    (case k35 => k_is)
    (case a36 => k_is)
    (case l36 => k_is)
    (case c36 => k_is)
    (case k36 => k_is)
    (case a37 => k_is)
    (case l37 => k_is)
    (case c37 => k_is)
    (case k37 => k_is)
    (case a38 => k_is)
    (case l38 => k_is)
    (case c38 => k_is)
    (case k38 => k_is)
    (case a39 => k_is)
    (case l39 => k_is)
    (case c39 => k_is)
    (case k39 => k_is)
    (case a40 => k_is)
    (case l40 => k_is)
    (case c40 => k_is)
    (case k40 => k_is)
    (case a41 => k_is)
    (case l41 => k_is)
    (case c41 => k_is)
    (case k41 => k_is)
    (case a42 => k_is)
    (case l42 => k_is)
    (case c42 => k_is)
    (case k42 => k_is)
    (case a43 => k_is)
    (case l43 => k_is)
    (case c43 => k_is)
    (case k43 => k_is)
    (case a44 => k_is)
    (case l44 => k_is)
    (case c44 => k_is)
    (case k44 => k_is)
    (case a45 => k_is)
    (case l45 => k_is)
    (case c45 => k_is)
    (case k45 => k_is)
    (case a46 => k_is)
    (case l46 => k_is)
    (case c46 => k_is)
    (case k46 => k_is)
    (case a47 => k_is)
    (case l47 => k_is)
    (case c47 => k_is)
    (case k47 => k_is)
    (case a48 => k_is)
    (case l48 => k_is)
    (case c48 => k_is)
    (case k48 => k_is)
    (case a49 => k_is)
    (case l49 => k_is)
    (case c49 => k_is)
    (case k49 => k_is)
    (case a50 => k_is)
    (case i50 => k_is)
    (case l50 => k_is)
    (case c50 => k_is)
    (case k50 => k_is)
    (case iX_TooWide => k_is)
    (case tX_TooWide => k_is)
    (case bX_TooWide => k_is)
    (case xL_TooWide => k_is)
    (case rL_TooWide => rfl)
    (case sX_TooWide => k_is)
    (case kX_TooWide => k_is)
    (case nX_TooWide => k_is)
    (case fX_TooWide => k_is)
    (case gX_TooWide => k_is)
    (case hX_TooWide => k_is)
    (case dX_TooWide => k_is)
    (case cX_TooWide => k_is)
    (case eX_TooWide => k_is)
    (case uX_TooWide => k_is)
    (case mX_TooWide => k_is)
    (case vX_TooWide => k_is)
    (case wX_TooWide => k_is)
    (case iX_NotGenerated => k_is)
    (case tX_NotGenerated => k_is)
    (case bX_NotGenerated => k_is)
    (case iX_OutOfRange => k_is)
    (case tX_OutOfRange => k_is)
    (case bX_OutOfRange => k_is)
    (case iX_TooMany => k_is)
    (case tX_TooMany => k_is)
    (case bX_TooMany => k_is)
    (case iX_SpanError => k_is)
    (case tX_SpanError => k_is)
    (case bX_SpanError => k_is)
    (case sX_TooWide_NotGenerated => k_is)
    (case sX_TooWide_OutOfRange => k_is)
    (case sX_TooWide_TooMany => k_is)
    (case sX_TooWide_SpanError => k_is)
    (case sX_TooWide_TooWide => k_is)
    (case y0 => k_is)
    (case y1 => k_is)
    (case z0 => k_is)
    (case z1 => k_is)
    (case z2 => k_is)
    (case z3 => k_is)
    (case z4 => k_is)
    (case z5 => k_is)
    (case z6 => k_is)
    (case z7 => k_is)
    (case z8 => k_is)
    (case z9 => k_is)
    (case z10 => k_is)
    (case z11 => k_is)
    (case z12 => k_is)
    (case z13 => k_is)
    (case z14 => k_is)
    (case z15 => k_is)
    (case z16 => k_is)
    (case z17 => k_is)
    (case hcc => rfl)
