import PyProof.Rows.All
import Wide.All
import OpenK.AllK
import Wide.FinOn
import PySem.Challenge.RW_fewspans_k15_chains_of_pieces
import HandS.ForMost
import HandS.Wide
import HandS.IsInst
import HandS.Conv
import HandS.TupLe
import HandS.Strs
import HandS.SetFor
import HandS.Style
import HandS.TupSets
import HandS.Keys
import HandS.Sort
import HandS.SortOrd
import HandS.SortRule
import HandS.SortKw
import HandS.SetBool
import HandS.TupAny
import HandS.Zip
import HandS.NoneIn
import HandS.Deep
import KE.GoesEnum
import KE.GoesMore
import HandS.Lambda
import HandS.CallLocal
import KE.DataCmp
import HandS.EndTab
import KE.KMinBuiltin
import HandS.TupMul
import PyProof.NeKinds
import HandS.Defaults
import HandS.MakeKwOnly
import HandS.OwnEq
import HandS.FStr
import KE.KCallOwn
import HandS.ExcIs
import HandS.ExcOwn
import HandS.CallSlots
import HandS.WordsExc
import HandS.TryMany
import HandS.Codes
import HandS.ExcInit
import KE.KExcIs
import KE.KExcInit
import KE.KExcLine
import HandS.ExcField
set_option Elab.async false
set_option linter.all false
set_option maxRecDepth 100000
set_option maxHeartbeats 4000000
namespace L9
open PySem PySem.Spec PyProof.Rows L2

/-! ### set(xs), xs a list of ints: the library has it of tuples; the walk is a list's here -/
section
variable {P : Program} {w : World} {A : Around} {E : Value → Shared → Prop} {s : Shared}
abbrev noSet (w : World) : Obj := { cls := .type "set", dict := none, data := .set #[] 0 (.fresh 0 0 (!w.params.followText "set-order")) }
theorem setL_ints {l : Addr} {its : Array Value} (ns : List Int) {Q : Value → Shared → Prop} (quiet : A.handled = none) (isL : s.heap.IsList l its) (allI : IntsAre its.toList ns) (few : ns.length + 1 < scanBound)
    (fin : ∀ (h2 : Heap) (tk n : Nat), SetR w h2 s.heap.objs.size (fun j => decide (j ∈ ns)) n → n ≤ ns.length → (∀ b o, s.heap.get? b = some o → h2.get? b = some o) → Q (.ref s.heap.objs.size) { s with heap := h2, toks := tk }) :
    wpAny (model P w) A (call (.type "set") [.ref l]) Q E s := by
  have size : its.size = ns.length := by
    rw [← Array.length_toList]
    exact allI.length
  obtain ⟨cA, tA, mA⟩ := F.called_set.mro
  have f1 := F.called_set.made
  have f2 := F.called_set.sub
  refine wpAny_call (codeAny_of_tree (?_ : wpAny _ _ (callAny (.type "set") _) _ _ _))
  refine wpAny_pure (And.intro (Code.quiet_builtin _ (by decide +kernel)) (codeAny_builtin F.entry_type_call ?_))
  rw [Around.under_plain (weight_type_call_type "set" [Value.ref l] []) rfl]
  have f3 := F.called_set.notType
  have f4 := F.called_set.canCreate
  have f5 := F.typeCall_set_1 (Value.ref l)
  repeat any_goals first | assumption | wp_step
  refine codeAny_mono (code_set_led1 (.ref l) (E := E) (Q₁ := fun v s1 => v = .ref s.heap.objs.size ∧ s1 = { s with heap := s.heap.push (noSet w) }) (And.intro rfl rfl)) fun r s1 h1 => ?_
  match r, h1 with
  | .error e, h1 => exact h1
  | .ok (.ret v), h1 =>
    obtain ⟨rfl, rfl⟩ := h1
    have at0 : (s.heap.push (noSet w)).get? s.heap.objs.size = some (noSet w) := Heap.get?_push_size _ rfl
    have ty0 : Shared.TypeIs { s with heap := s.heap.push (noSet w) } (.ref s.heap.objs.size) "set" := Exists.intro _ (And.intro at0 rfl)
    have f6 := F.called_set.init.lookup
    have f7 := F.called_set.init.bind (Value.ref s.heap.objs.size)
    repeat any_goals first | assumption | wp_step
    let Z : Value → Shared → Prop := fun v s2 => v = .none ∧ ∃ h2 tk n, s2 = { s with heap := h2, toks := tk } ∧ SetR w h2 s.heap.objs.size (fun j => decide (j ∈ ns)) n ∧ n ≤ ns.length ∧ ∀ b o, s.heap.get? b = some o → h2.get? b = some o
    refine codeAny_mono (codeAny_call_builtin (R := wants Z E) F.called_set.init.plain F.entry_set_init (check_set_init_1 ty0 ?_)) fun r2 s2 h2 => ?_
    · obtain ⟨o, eo, ec, k, ed⟩ := isL
      obtain ⟨oc, od, oD, oS⟩ := o
      simp only at ec ed
      subst ec ed
      have lt : l < s.heap.objs.size := Heap.lt_size eo
      have eo1 : (s.heap.push (noSet w)).get? l = some { cls := .type "list", dict := od, data := .seq its k, slots := oS } := Heap.get?_push_of_some _ eo
      have g1 := F.sub_list_set
      have g2 := F.sub_list_frozenset
      have g3 : (Value.type "list" == Value.type "dict") = false := by decide
      have isL1 : (s.heap.push (noSet w)).IsList l its := Exists.intro _ (And.intro eo1 (And.intro rfl (Exists.intro k rfl)))
      unfold Builtin.«set.__init__» Builtin.Frozenset.updateFrom noKeywords
      generalize keep : pyIter = itr
      wp_walk
      subst keep
      refine wpAny_pyIter_list isL1 (wpAny_bind (wpAny_runValue ?_))
      have quiet3 : A.in1.in1.in1.handled = none := by simp [quiet]
      have sz : (s.heap.push (noSet w)).objs.size = s.heap.objs.size + 1 := Heap.size_push ..
      have lI : l ≠ (s.heap.push (noSet w)).objs.size := by
        rw [sz]
        exact Nat.ne_of_lt (Nat.lt_succ_of_lt lt)
      have out : s.heap.objs.size ∉ [(s.heap.push (noSet w)).objs.size, l] := by
        rw [sz]
        intro z
        rcases List.mem_cons.mp z with z | z
        · exact absurd z (Nat.ne_of_lt (Nat.lt_succ_self _))
        · exact absurd (List.mem_singleton.mp z) (Nat.ne_of_gt lt)
      have vals : ∀ (i : Nat) (v : Value), its[i]? = some v → ∃ j t, ns[i]? = some j ∧ v = .int j t := fun i v hv => by
        have lti : i < ns.length := by
          rw [← size]
          exact (Array.getElem?_eq_some_iff.mp hv).1
        obtain ⟨t, e⟩ := allI.int_at i v (by rw [Array.getElem?_toList]; exact hv)
        have en := List.getElem?_eq_getElem lti
        refine ⟨_, t, en, e.trans ?_⟩
        rw [List.getD_eq_getElem?_getD, en]
        rfl
      refine set_update_ints (Walks.list quiet3 _ l lI its).toS s.heap.objs.size out ns size few vals (its.size - 0) 0 _ rfl (Nat.zero_le _) (And.intro (Exists.intro _ (And.intro (Heap.get?_push_size _ rfl) (And.intro rfl rfl))) (isL1.push _)) ?start ?last
      case start =>
        exact ⟨0, Nat.le_refl _, setR_new_at (Heap.get?_push_of_some _ at0)⟩
      case last =>
        intro s3 n mv le R
        obtain ⟨h3, g3', d3, tk3, o3⟩ := s3
        have m1 : g3' = s.gens := mv.gens
        have m2 : d3 = s.drawn := mv.drawn
        have m3 : o3 = s.os := mv.os
        subst m1 m2 m3
        refine wpAny_pure (?_ : wpAny _ _ (ret Value.none) _ _ _)
        rw [size] at le
        refine wpAny_pure (And.intro rfl ⟨h3, tk3, n, rfl, R, le, fun b o e => ?_⟩)
        have lb := Heap.lt_size e
        refine mv.heap b o (fun z => ?_) (Heap.get?_push_of_some _ (Heap.get?_push_of_some _ e))
        rcases List.mem_cons.mp z with z | z
        · exact absurd z (Nat.ne_of_lt lb)
        · have z1 := List.mem_singleton.mp z
          rw [sz] at z1
          exact absurd z1 (Nat.ne_of_lt (Nat.lt_succ_of_lt lb))
    · match r2, h2 with
      | .error e, h2 => exact h2
      | .ok (.ret v), h2 =>
        obtain ⟨rfl, h', tk, n, rfl, R, le, kp⟩ := h2
        repeat any_goals first | assumption | wp_step
        exact fin h' tk n R le kp
      | .ok .next, h2 => exact h2
      | .ok .brk, h2 => exact h2
      | .ok .cont, h2 => exact h2
  | .ok .next, h1 => exact h1
  | .ok .brk, h1 => exact h1
  | .ok .cont, h1 => exact h1
end
section
variable {X : Cx}
def rSetOfI (K : PySem.W.Frag) (w : World) : List V → Hp → VK → Prop := fun xs H Q => ∃ (l : Addr) (ns : List Int), xs = [V.ref l] ∧ SqL K H l (ns.map V.int) ∧ ns.length < 60 ∧
  ∀ (H' : Hp) a n, Same H H' → H a = none → H' a = some (SetO w a (fun j => decide (j ∈ ns)) n) → n ≤ ns.length → Q (.ref a) H'
theorem cr_setOfI (calm : X.calm = true) : CallR X (.type "set") (rSetOfI X.K X.w) := by
  intro pins s σ H xs us Q I r h
  obtain ⟨l, ns, rfl, hl, few, q⟩ := h
  rw [Vals.ref1 r]
  obtain ⟨its, rv, pl, _⟩ := I.list hl
  refine setL_ints (P := X.prog) (w := X.w) ns (I.ok.hd calm) pl.isList (ints_of_vals rv) (by unfold scanBound; omega) fun h2 tk n R le kp => ?_
  exact ⟨.ref s.heap.objs.size, _, I.laid (t' := tk) kp (Nat.le_refl _) (setO_new R), rfl, q _ _ n (fun b x e => by rw [upd_ne (ne_of_none e (I.hok.fresh (Nat.le_refl _)))]; exact e) (I.hok.fresh (Nat.le_refl _)) upd_same le⟩
end

/-! ### set(t), t a tuple of tuples of ints: the library has it of lists; the walk is a tuple's here -/
section
variable {P : Program} {w : World} {A : Around} {E : Value → Shared → Prop} {s : Shared}
abbrev noSetT (w : World) : Obj := { cls := .type "set", dict := none, data := .set #[] 0 (.fresh 0 0 (!w.params.followText "set-order")) }
theorem setT_tups {l : Addr} {its : Array Value} (ks : List (Addr × List Int)) {Q : Value → Shared → Prop} (quiet : A.handled = none) (isT : s.heap.IsTuple l its) (refs : its.toList = ks.map fun p => Value.ref p.1)
    (tk : ∀ p ∈ ks, IsT P w s.heap p.2 p.1) (few : ks.length < 64) (un : A.units + 3 < cLine)
    (fin : ∀ (h2 : Heap) (tk : Nat) L es ep t, SetTR P w h2 s.heap.objs.size L es ep t → Got ks ks.length L → (∀ b o, s.heap.get? b = some o → h2.get? b = some o) → Q (.ref s.heap.objs.size) { s with heap := h2, toks := tk }) :
    wpAny (model P w) A (call (.type "set") [.ref l]) Q E s := by
  have size : its.size = ks.length := by
    rw [← Array.length_toList, refs, List.length_map]
  obtain ⟨cA, tA, mA⟩ := F.called_set.mro
  have f1 := F.called_set.made
  have f2 := F.called_set.sub
  refine wpAny_call (codeAny_of_tree (?_ : wpAny _ _ (callAny (.type "set") _) _ _ _))
  refine wpAny_pure (And.intro (Code.quiet_builtin _ (by decide +kernel)) (codeAny_builtin F.entry_type_call ?_))
  rw [Around.under_plain (weight_type_call_type "set" [Value.ref l] []) rfl]
  have f3 := F.called_set.notType
  have f4 := F.called_set.canCreate
  have f5 := F.typeCall_set_1 (Value.ref l)
  repeat any_goals first | assumption | wp_step
  refine codeAny_mono (code_set_led1 (.ref l) (E := E) (Q₁ := fun v s1 => v = .ref s.heap.objs.size ∧ s1 = { s with heap := s.heap.push (noSetT w) }) (And.intro rfl rfl)) fun r s1 h1 => ?_
  match r, h1 with
  | .error e, h1 => exact h1
  | .ok (.ret v), h1 =>
    obtain ⟨rfl, rfl⟩ := h1
    have at0 : (s.heap.push (noSetT w)).get? s.heap.objs.size = some (noSetT w) := Heap.get?_push_size _ rfl
    have ty0 : Shared.TypeIs { s with heap := s.heap.push (noSetT w) } (.ref s.heap.objs.size) "set" := Exists.intro _ (And.intro at0 rfl)
    have f6 := F.called_set.init.lookup
    have f7 := F.called_set.init.bind (Value.ref s.heap.objs.size)
    repeat any_goals first | assumption | wp_step
    let Z : Value → Shared → Prop := fun v s2 => v = .none ∧ ∃ h2 tk L es ep t, s2 = { s with heap := h2, toks := tk } ∧ SetTR P w h2 s.heap.objs.size L es ep t ∧ Got ks ks.length L ∧ ∀ b o, s.heap.get? b = some o → h2.get? b = some o
    refine codeAny_mono (codeAny_call_builtin (R := wants Z E) F.called_set.init.plain F.entry_set_init (check_set_init_1 ty0 ?_)) fun r2 s2 h2 => ?_
    · obtain ⟨o, eo, ec, k, ed⟩ := isT
      obtain ⟨oc, od, oD, oS⟩ := o
      simp only at ec ed
      subst ec ed
      have lt : l < s.heap.objs.size := Heap.lt_size eo
      have eo1 : (s.heap.push (noSetT w)).get? l = some { cls := .type "tuple", dict := od, data := .seq its k, slots := oS } := Heap.get?_push_of_some _ eo
      have g1 := F.sub_tuple_set
      have g2 := F.sub_tuple_frozenset
      have g3 : (Value.type "tuple" == Value.type "dict") = false := by decide
      have isT1 : (s.heap.push (noSetT w)).IsTuple l its := Exists.intro _ (And.intro eo1 (And.intro rfl (Exists.intro k rfl)))
      unfold Builtin.«set.__init__» Builtin.Frozenset.updateFrom noKeywords
      generalize keep : pyIter = itr
      wp_walk
      subst keep
      refine wpAny_pyIter_tuple isT1 (wpAny_bind (wpAny_runValue ?_))
      have quiet3 : A.in1.in1.in1.handled = none := by simp [quiet]
      have sz : (s.heap.push (noSetT w)).objs.size = s.heap.objs.size + 1 := Heap.size_push ..
      have lI : l ≠ (s.heap.push (noSetT w)).objs.size := by
        rw [sz]
        exact Nat.ne_of_lt (Nat.lt_succ_of_lt lt)
      have out : s.heap.objs.size ∉ [(s.heap.push (noSetT w)).objs.size, l] := by
        rw [sz]
        intro z
        rcases List.mem_cons.mp z with z | z
        · exact absurd z (Nat.ne_of_lt (Nat.lt_succ_self _))
        · exact absurd (List.mem_singleton.mp z) (Nat.ne_of_gt lt)
      have vals : ∀ (i : Nat) (v : Value), its[i]? = some v → ∃ p, ks[i]? = some p ∧ v = .ref p.1 := fun i v hv => by
        have z : its.toList[i]? = some v := by
          rw [Array.getElem?_toList]
          exact hv
        rw [refs, List.getElem?_map] at z
        obtain ⟨p, e1, e2⟩ := Option.map_eq_some_iff.mp z
        exact Exists.intro p (And.intro e1 e2.symm)
      have beyond : ∀ b, s.heap.objs.size ≤ b → s.heap.get? b = none := fun b hb => by
        cases z : s.heap.get? b with
        | none => rfl
        | some o => exact (Nat.lt_irrefl _ (Nat.lt_of_lt_of_le (Heap.lt_size z) hb)).elim
      refine set_update_tups (Walks.tuple quiet3 _ l lI its).toS s.heap.objs.size out ks size few vals s.heap tk (beyond _ (Nat.le_refl _)) (fun b hb => beyond b ?_) un (its.size - 0) 0 _ rfl (Nat.zero_le _) (And.intro (Exists.intro _ (And.intro (Heap.get?_push_size _ rfl) (And.intro rfl rfl))) (isT1.push _)) (fun b o e => Heap.get?_push_of_some _ (Heap.get?_push_of_some _ e)) ?start ?last
      · rw [List.mem_singleton.mp hb, sz]
        exact Nat.le_succ _
      case start =>
        exact ⟨[], #[], 0, _, setTR_fresh (Heap.get?_push_of_some _ at0), Got.zero ks⟩
      case last =>
        intro s3 L es ep t mv R got kp
        obtain ⟨h3, g3', d3, tk3, o3⟩ := s3
        have m1 : g3' = s.gens := mv.gens
        have m2 : d3 = s.drawn := mv.drawn
        have m3 : o3 = s.os := mv.os
        subst m1 m2 m3
        refine wpAny_pure (?_ : wpAny _ _ (ret Value.none) _ _ _)
        rw [size] at got
        exact wpAny_pure (And.intro rfl ⟨h3, tk3, L, es, ep, t, rfl, R, got, kp⟩)
    · match r2, h2 with
      | .error e, h2 => exact h2
      | .ok (.ret v), h2 =>
        obtain ⟨rfl, h', tk, L, es, ep, t, rfl, R, got, kp⟩ := h2
        repeat any_goals first | assumption | wp_step
        exact fin h' tk L es ep t R got kp
      | .ok .next, h2 => exact h2
      | .ok .brk, h2 => exact h2
      | .ok .cont, h2 => exact h2
  | .ok .next, h1 => exact h1
  | .ok .brk, h1 => exact h1
  | .ok .cont, h1 => exact h1
end
section
variable {X : Cx}
def rSetOfTT (K : PySem.W.Frag) (P : Program) (w : World) : List V → Hp → VK → Prop := fun xs H Q => ∃ (l : Addr) (ks : List (Addr × List Int)), xs = [V.ref l] ∧ SqT K H l (ks.map fun p => V.ref p.1) ∧ (∀ p ∈ ks, SqT K H p.1 (p.2.map V.int)) ∧ ks.length < 64 ∧
  ∀ a L, H a = none → (∀ p ∈ L, p ∈ ks) → (∀ p ∈ ks, p.2 ∈ L.map (·.2)) → Q (.ref a) (upd H a (SetTO P w a L))
theorem cr_setOfTT (calm : X.calm = true) (units : X.A.units + 64 < cLine) : CallR X (.type "set") (rSetOfTT X.K X.prog X.w) := by
  intro pins s σ H xs us Q I r h
  obtain ⟨l, ks, rfl, hl, hk, few, q⟩ := h
  rw [Vals.ref1 r]
  obtain ⟨its, rv, pl, _⟩ := I.tuple hl
  have nn : H s.heap.objs.size = none := I.hok.fresh (Nat.le_refl _)
  refine setT_tups (P := X.prog) (w := X.w) (its := its.toArray) ks (I.ok.hd calm) pl (by simpa using refs_of_vals rv) (fun p hp => I.isT (hk p hp)) few (by omega) fun h2 tk L es ep t R got kp => ?_
  exact ⟨.ref s.heap.objs.size, _, I.laid (t' := tk) kp (Nat.le_refl _) (setTO_new R.t0), rfl, q _ L nn (fun p hp => List.mem_of_mem_take (got.sub p hp)) (fun p hp => got.all p (by rw [List.take_length]; exact hp))⟩
end

/-! ### defs that are run where no text-making of the machine is under way (repr, str of nested data ask for it) -/
abbrev Quiet (A : Around) : Prop := A.guards = some []
structure FnG (P : Program) (w : World) (K : PySem.W.Frag) (mg : Str → Option Value) (base : Heap) (k : Nat) (f : Addr) (fd : FuncData) (ps : List Str) (sp : Sp) : Prop where
  size : ∀ {vs H Q}, sp vs H Q E0 → vs.length = ps.length
  go : ∀ {A outer s H us vs Q}, Room k A → Quiet A → Env0 P w K mg base A outer s H → BindsTo s fd ⟨us, []⟩ (ps.zip us) → Vals vs us → sp vs H Q E0 →
    codeAny (model P w) A (.call (.ref f) ⟨us, []⟩) (CR CX0 outer P w H s Q E0) s
section
variable {P : Program} {w : World} {K : PySem.W.Frag} {mg : Str → Option Value} {base : Heap}
theorem FnG.of {x qual : Str} {st : Stmt} {f : Addr} {fd : FuncData} {N ps : List Str} {k : Nat} {sp : Sp} (F : Fun K x qual st f fd) (S : FnScope N ps (defScope st))
    (size : ∀ {vs H Q}, sp vs H Q E0 → vs.length = ps.length)
    (body : ∀ cdv A outer s H vs Q, Room k (A.deeper (envOfC qual (defScope st) s.heap.objs.size f cdv)) → Quiet (A.deeper (envOfC qual (defScope st) s.heap.objs.size f cdv)) → sp vs H Q E0 →
      ∃ t, PSs (cxOf CX0 P w K mg base N qual (defScope st) f cdv A outer s H E0).nox (defBody st) t ∧ t { nx := fun _ H' => Q .non H', rt := Q } (start N vs) H) :
    FnG P w K mg base (k + 1) f fd ps sp := by
  obtain ⟨oc, od, kV, doc, pm, an, cdv, ct, osl, rfl, look, code⟩ := F.ex
  constructor
  · exact size
  intro A outer s H us vs Q room quiet e0 bind rel want
  have inH : K.In s.heap := e0.mod.kin.keeps fun b o q => (e0.bs b o q).1
  have lim := e0.mod.nolimit.keeps (fun b o q => (e0.bs b o q).1)
  have kinds : ∀ y ∈ ps.zip us, (defScope st).names.lookup y.1 = some .local ∨ ((defScope st).names.lookup y.1 = some .cell ∧ ((cellsFrom (s.heap.objs.size + 1) (defScope st).names []).lookup y.1).isSome = true) := by
    rintro ⟨n, v⟩ hy
    have hn := (List.of_mem_zip hy).1
    cases S.par n hn with
    | inl q => exact Or.inl q
    | inr q => exact Or.inr ⟨q, PySem.W.cellsFrom_some _ _ _ (Or.inl q)⟩
  apply codeAny_call_function room.depth (inH _ _ look) rfl S.co S.gen rfl (PySem.W.codeRec_of inH code)
  apply bind
  apply wpAny_newFunctionEnv_cells S.kind kinds
  intro env he s1 x
  subst he
  refine And.intro (lim.keeps x.toInCall.keep) (codeAny_func ?_)
  obtain ⟨t, ht, hq⟩ := body cdv A outer s H vs Q (room.deeper _) quiet want
  have I := inv_start (CX := CX0) (E := E0) S room.hd e0 (size want) rel x
  apply wpAny_mono (ht.nox.run [] s1 (start N vs) H _ I hq)
  · intro fl s' hs
    cases fl with
    | ret u =>
      obtain ⟨v, σ', H', J, rv, q⟩ := hs
      exact Exists.intro v ⟨H', J.os, J.bare, J.base, J.hok, rv, q⟩
    | next =>
      obtain ⟨σ', H', J, q⟩ := hs
      exact Exists.intro V.non ⟨H', J.os, J.bare, J.base, J.hok, rfl, q⟩
    | brk => exact hs.elim fun _ h => h.elim fun _ h => h.2.elim
    | cont => exact hs.elim fun _ h => h.elim fun _ h => h.2.elim
  · intro e s' hs
    exact hs
end
section
variable {X : Cx} {k : Nat} {f : Addr} {fd : FuncData} {ps : List Str} {sp : Sp} {x : Str} {p pos : Pos} {e : Expr} {es : List Expr} {t : TA}
theorem pe_callG (F : FnG X.prog X.w X.K X.mg X.base k f fd ps sp) (room : Room k X.A) (quiet : Quiet X.A) (hg : Gl X x) (hm : X.mg x = some (.ref f)) (keep : PySem.W.keepIn X.K (.ref f) = true) (bind : Binds X.K fd ps [])
    (args : PA X (e :: es) t) (hdb : (x == ("__debug__" : Str)) = false := by decide) (star : starEach (e :: es) X.env = (false, eval e X.env) :: starEach es X.env := by rfl) (plain : (backTo pos (starEach es X.env)).any (·.1) = false := by rfl) :
    PE X (.Call (.Name x p) (e :: es) [] pos) (tCall sp [] E0 t) := by
  constructor
  intro pins s σ H Q I h
  apply wpAny_Call_Name_kw
  apply ld_glob I hg hm _ hdb
  apply PySem.W.callWith_K (h₀ := X.base) I.ok.mod.kin keep _ star plain
  apply thn (args.run pos pins s σ H _ I h)
  rintro us s1 ⟨vs, H1, I1, rel, q⟩
  refine And.intro I1.kIn ?_
  have q' : sp vs H1 Q E0 := by
    have z := q
    rw [List.append_nil] at z
    exact z
  have same : us.length = ps.length := rel.length.symm.trans (F.size q')
  have b := bind s1 us I1.kIn (by rw [List.append_nil]; exact same)
  rw [List.append_nil] at b
  apply wpAny_call
  apply codeAny_mono (F.go room quiet I1.env0 b rel q')
  intro r s' hr
  match r, hr with
  | .error _, hr => exact hr.elim
  | .ok (.ret u), hr => exact I1.after hr
  | .ok .next, hr => exact False.elim hr
  | .ok .brk, hr => exact False.elim hr
  | .ok .cont, hr => exact False.elim hr
end
/-! ### repr of data at any depth -/
structure Sm (n dp : Nat) (d : PyData) : Prop where
  shows : d.showable = true
  short : d.leavesShort 40 = true
  small : d.weight ≤ n
  flat : d.depth ≤ dp
theorem Sm.mono {n m dp dq : Nat} {d : PyData} (h : Sm n dp d) (h1 : n ≤ m) (h2 : dp ≤ dq) : Sm m dq d := ⟨h.shows, h.short, Nat.le_trans h.small h1, Nat.le_trans h.flat h2⟩
theorem Sm.none : Sm 0 0 .none := ⟨rfl, rfl, Nat.le_refl _, Nat.le_refl _⟩
theorem Sm.bool (b : Bool) : Sm 0 0 (.bool b) := ⟨rfl, rfl, Nat.le_refl _, Nat.le_refl _⟩
theorem log2_small {i : Int} (h : i.natAbs < 10 ^ 30) : i.natAbs.log2 < 100 := PySem.Flt.log2_lt_of (by decide) (Nat.lt_trans h (by decide))
theorem Sm.int {i : Int} (h : i.natAbs < 10 ^ 30) : Sm 100 0 (.int i) := by
  have l := log2_small h
  refine ⟨decide_eq_true (Nat.lt_trans l (by decide)), decide_eq_true ?_, ?_, Nat.le_refl _⟩
  · have q := int_text_length_le10 (a := i) (k := 30) (by decide) h
    show (Str.ofString (toString i)).length ≤ 40
    rw [PySem.ofString_length]
    exact Nat.le_trans q (by decide)
  · show (if i == 0 then 0 else i.natAbs.log2 + 1) ≤ 100
    split <;> omega
theorem smAll {n dp : Nat} : ∀ {ds : List PyData}, (∀ d ∈ ds, Sm n dp d) → PyData.showableAll ds = true ∧ PyData.leavesShortAll 40 ds = true ∧ PyData.weightAll ds ≤ ds.length * (n + 1) ∧ PyData.depthAll ds ≤ dp
  | [], _ => ⟨rfl, rfl, Nat.zero_le _, Nat.zero_le _⟩
  | d :: ds, h => by
    obtain ⟨a, b, c, e⟩ := smAll (ds := ds) fun x hx => h x (List.mem_cons_of_mem _ hx)
    have z := h d List.mem_cons_self
    refine ⟨?_, ?_, ?_, ?_⟩
    · show (d.showable && PyData.showableAll ds) = true
      rw [z.shows, a]
      rfl
    · show (d.leavesShort 40 && PyData.leavesShortAll 40 ds) = true
      rw [z.short, b]
      rfl
    · show d.weight + 1 + PyData.weightAll ds ≤ (ds.length + 1) * (n + 1)
      have := z.small
      rw [Nat.add_mul]
      omega
    · show max d.depth (PyData.depthAll ds) ≤ dp
      exact Nat.max_le.mpr ⟨z.flat, e⟩
theorem Sm.tup {n dp : Nat} {ds : List PyData} (h : ∀ d ∈ ds, Sm n dp d) : Sm (ds.length * (n + 1)) (dp + 1) (.tuple ds) :=
  let ⟨a, b, c, e⟩ := smAll h
  ⟨a, b, c, Nat.succ_le_succ e⟩
theorem Sm.lst {n dp : Nat} {ds : List PyData} (h : ∀ d ∈ ds, Sm n dp d) : Sm (ds.length * (n + 1)) (dp + 1) (.list ds) :=
  let ⟨a, b, c, e⟩ := smAll h
  ⟨a, b, c, Nat.succ_le_succ e⟩
theorem Sm.fits {n dp : Nat} {d : PyData} (h : Sm n dp d) (hn : n ≤ 300000) : d.shown.length ≤ sizeLine := by
  have q := PyData.shown_le 40 (by decide) d h.short
  have := h.small
  have e : sizeLine = 16777216 := by decide
  rw [e]
  omega
/-- data with dicts in it; its lists stand in the heap by themselves -/
def keyD : Key → PyData
  | .inl i => .int i
  | .inr x => .str x
mutual
inductive Dv (K : PySem.W.Frag) (H : Hp) : V → PyData → Prop
  | non : Dv K H .non .none
  | bl (b : Bool) : Dv K H (.bl b) (.bool b)
  | int (i : Int) : Dv K H (.int i) (.int i)
  | str (x : Str) : Dv K H (.str x) (.str x)
  | lst {a : Addr} {xs : List V} {ds : List PyData} : H a = some (.lst xs) → DvAll K H xs ds → Dv K H (.ref a) (.list ds)
  | tup {a : Addr} {xs : List V} {ds : List PyData} : H a = some (.tup xs) → DvAll K H xs ds → Dv K H (.ref a) (.tuple ds)
  | dic {a : Addr} {kvs : List (Key × V)} {ds : List PyData} : H a = some (.dK kvs) → DvAll K H (kvs.map (·.2)) ds → Dv K H (.ref a) (.dict ((kvs.map fun p => keyD p.1).zip ds))
inductive DvAll (K : PySem.W.Frag) (H : Hp) : List V → List PyData → Prop
  | nil : DvAll K H [] []
  | cons {v : V} {vs : List V} {d : PyData} {ds : List PyData} : Dv K H v d → DvAll K H vs ds → DvAll K H (v :: vs) (d :: ds)
end
theorem DvAll.length {K : PySem.W.Frag} {H : Hp} : ∀ {vs : List V} {ds : List PyData}, DvAll K H vs ds → vs.length = ds.length
  | _, _, .nil => rfl
  | _, _, .cons _ h => by rw [List.length_cons, List.length_cons, h.length]
theorem keys_read {P : Program} {w : World} {h : Heap} : ∀ {es : List DictEntry} {vs : List (Key × Value)}, Pairs (mixKind P w) es vs → ReadsAll h (es.map (·.key)) (vs.map fun p => keyD p.1) []
  | _, _, .nil => .nil
  | _, _, .cons (e := e) (kv := kv) hk _ r => by
    have one : Reads h e.key (keyD kv.1) [] := by
      rcases keyIs_shape hk with ⟨i, t, e1, e2⟩ | ⟨x, t, e1, e2⟩
      · rw [e1, e2]
        exact .int i t
      · rw [e1, e2]
        exact .str x t
    exact ReadsAll.cons one (keys_read r)
theorem vals_read {P : Program} {w : World} : ∀ {es : List DictEntry} {vs : List (Key × Value)}, Pairs (mixKind P w) es vs → es.map (·.val) = vs.map (·.2)
  | _, _, .nil => rfl
  | _, _, .cons _ hv r => by rw [List.map_cons, List.map_cons, hv, vals_read r]
theorem kv_vals : ∀ {kvs : List (Key × V)} {vs : List (Key × Value)}, KV kvs vs → Vals (kvs.map (·.2)) (vs.map (·.2)) ∧ (vs.map fun p => keyD p.1) = kvs.map fun p => keyD p.1
  | _, _, .nil => ⟨.nil, rfl⟩
  | _, _, .cons h r => by
    obtain ⟨a, b⟩ := kv_vals r
    refine ⟨.cons h.2 a, ?_⟩
    rw [List.map_cons, List.map_cons, b, h.1]
section
variable {X : Cx} {pins : List (Addr × Obj)} {σ : L2.St} {H : Hp} {s : Shared}
theorem Dv.reads (I : Inv X pins σ H s) (mods : ∃ mm, X.base.Ns sysModules mm) {v : V} {d : PyData} (h : Dv X.K H v d) : ∀ u : Value, RelV v u → ∃ as, Reads s.heap u d as ∧ sysModules ∉ as := by
  have free : H sysModules = none := by
    obtain ⟨mm, o, es, ep, e, _⟩ := mods
    exact (I.bs _ o e).2
  refine Dv.rec (K := X.K) (H := H) (motive_1 := fun v d _ => ∀ u : Value, RelV v u → ∃ as, Reads s.heap u d as ∧ sysModules ∉ as) (motive_2 := fun vs ds _ => ∀ us : List Value, Vals vs us → ∃ as, ReadsAll s.heap us ds as ∧ sysModules ∉ as) ?_ ?_ ?_ ?_ ?_ ?_ ?_ ?_ ?_ h
  · intro u r
    cases r
    exact ⟨_, .none, fun z => nomatch z⟩
  · intro b u r
    cases r
    exact ⟨_, .bool b, fun z => nomatch z⟩
  · intro i u r
    obtain ⟨t, rfl⟩ := r
    exact ⟨_, .int i t, fun z => nomatch z⟩
  · intro x u r
    obtain ⟨t, rfl⟩ := r
    exact ⟨_, .str x t, fun z => nomatch z⟩
  · intro a xs ds e _ ih u r
    cases r
    obtain ⟨_, its, n, rv, q⟩ := I.hok a _ e
    obtain ⟨as, ra, na⟩ := ih _ rv
    refine ⟨a :: as, .list q rfl rfl (by simpa using ra), fun z => ?_⟩
    rcases List.mem_cons.mp z with z | z
    · rw [← z, free] at e
      cases e
    · exact na z
  · intro a xs ds e _ ih u r
    cases r
    obtain ⟨_, its, rv, o, ho, hc, n, hd⟩ := I.hok a _ e
    obtain ⟨as, ra, na⟩ := ih _ rv
    exact ⟨as, .tuple ho hc hd (by simpa using ra), na⟩
  · intro a kvs ds e hall ih u r
    cases r
    obtain ⟨_, hne, vs, kv, o, es, ep, ho, ex, hd, _, prs, _⟩ := I.hok a _ e
    obtain ⟨rv, ek⟩ := kv_vals kv
    obtain ⟨as, ra, na⟩ := ih _ rv
    have len : (kvs.map fun p => keyD p.1).length = ds.length := by
      have z := hall.length
      rw [List.length_map] at z
      rw [List.length_map, z]
    refine ⟨_, .dict ho ex.1 hd (as := []) (bs := as) ?_ ?_, fun z => ?_⟩
    · rw [List.map_fst_zip (by omega), ← ek]
      exact keys_read prs
    · rw [List.map_snd_zip (by omega), vals_read prs]
      exact ra
    · rcases List.mem_cons.mp z with z | z
      · rw [← z] at hne
        exact absurd hne (by decide)
      · exact na z
  · intro us r
    cases r
    exact ⟨_, .nil, fun z => nomatch z⟩
  · intro v vs d ds _ _ ih1 ih2 us r
    cases r with
    | cons r1 r2 =>
      obtain ⟨as, ra, na⟩ := ih1 _ r1
      obtain ⟨bs, rb, nb⟩ := ih2 _ r2
      refine ⟨_, .cons ra rb, fun z => ?_⟩
      rcases List.mem_append.mp z with z | z
      · exact na z
      · exact nb z
theorem call_reprV (mods : ∃ mm, X.base.Ns sysModules mm) (quiet : Quiet X.A) (units : X.A.units + 64 < cLine) : CallR X (.builtin "repr")
    (fun xs H Q => ∃ v d n dp, xs = [v] ∧ Dv X.K H v d ∧ Sm n dp d ∧ n ≤ 300000 ∧ dp ≤ 60 ∧ Q (.str d.shown) H) := by
  intro pins s σ H xs us Q I r h
  obtain ⟨v, d, n, dp, rfl, hd, sm, hn, hdp, q⟩ := h
  obtain ⟨u, rfl, ru⟩ := vals1 r
  have fits := sm.fits hn
  have flat := sm.flat
  obtain ⟨as, rd, off⟩ := Dv.reads I mods hd _ ru
  cases hd with
  | non =>
    cases ru
    exact PySem.P.repr_of_none ⟨.str _, H, I.tok _, ⟨_, rfl⟩, q⟩
  | bl b =>
    cases ru
    exact PySem.P.repr_of_bool ⟨.str _, H, I.tok _, ⟨_, rfl⟩, q⟩
  | int i =>
    obtain ⟨t, rfl⟩ := ru
    exact PySem.P.repr_of_int (of_decide_eq_true sm.shows) ⟨.str _, H, I.tok _, ⟨_, rfl⟩, q⟩
  | str x =>
    obtain ⟨t, rfl⟩ := ru
    exact PySem.P.repr_of_str ⟨.str _, H, I.tok _, ⟨_, rfl⟩, q⟩ fits
  | _ =>
    cases ru
    exact repr_of_reads' rd sm.shows (fun _ => off) quiet (by omega) (fun _ _ e => e) (fun h' t tk more => ⟨.str _, H, I.kept more, ⟨_, rfl⟩, q⟩) fits
end
theorem Dp.noDict {K : PySem.W.Frag} {H : Hp} {v : V} {d : PyData} (h : Dp K H v d) : d.hasDict = false := by
  refine Dp.rec (K := K) (H := H) (motive_1 := fun v d _ => d.hasDict = false) (motive_2 := fun vs ds _ => PyData.hasDictAll ds = false) ?_ ?_ ?_ ?_ ?_ ?_ ?_ ?_ h
  all_goals intros
  all_goals simp_all [PyData.hasDict, PyData.hasDictAll]
section
variable {X : Cx}
theorem call_reprD (quiet : Quiet X.A) (units : X.A.units + 64 < cLine) : CallR X (.builtin "repr")
    (fun xs H Q => ∃ v d n dp, xs = [v] ∧ Dp X.K H v d ∧ Sm n dp d ∧ n ≤ 300000 ∧ dp ≤ 60 ∧ Q (.str d.shown) H) := by
  intro pins s σ H xs us Q I r h
  obtain ⟨v, d, n, dp, rfl, hd, sm, hn, hdp, q⟩ := h
  obtain ⟨u, rfl, ru⟩ := vals1 r
  have fits := sm.fits hn
  have flat := sm.flat
  obtain ⟨as, rd⟩ := Dp.reads I d v u hd ru
  cases hd with
  | non =>
    cases ru
    exact PySem.P.repr_of_none ⟨.str _, H, I.tok _, ⟨_, rfl⟩, q⟩
  | bl b =>
    cases ru
    exact PySem.P.repr_of_bool ⟨.str _, H, I.tok _, ⟨_, rfl⟩, q⟩
  | int i =>
    obtain ⟨t, rfl⟩ := ru
    exact PySem.P.repr_of_int (of_decide_eq_true sm.shows) ⟨.str _, H, I.tok _, ⟨_, rfl⟩, q⟩
  | str x =>
    obtain ⟨t, rfl⟩ := ru
    exact PySem.P.repr_of_str ⟨.str _, H, I.tok _, ⟨_, rfl⟩, q⟩ fits
  | lst h1 h2 =>
    cases ru
    exact repr_of_reads' rd sm.shows (PyData.noDict_hsm (Dp.noDict (Dp.lst h1 h2))) quiet (by omega) (fun _ _ e => e) (fun h' t tk more => ⟨.str _, H, I.kept more, ⟨_, rfl⟩, q⟩) fits
  | tup h1 h2 =>
    cases ru
    exact repr_of_reads' rd sm.shows (PyData.noDict_hsm (Dp.noDict (Dp.tup h1 h2))) quiet (by omega) (fun _ _ e => e) (fun h' t tk more => ⟨.str _, H, I.kept more, ⟨_, rfl⟩, q⟩) fits
end
/-! ### the end of a law row whose def is of the quiet kind -/
theorem quiet_law {P : Program} {w : World} {K : PySem.W.Frag} {mg mb : Str → Option Value} {k : Nat} {fa a : Addr} {fd : FuncData} {x : Str} {sp : Sp} {s₁ : Shared} {vs : List Value} {ns : List Int}
    (inK : K.In s₁.heap) (glob : s₁.heap.Ns mainGlobals mg) (blt : s₁.heap.Ns builtinsNs mb) (bltIs : ∀ y : Str, y ≠ "__name__" → mb y = bootBuiltins y) (lim : s₁.heap.NoLimit) (gens : s₁.gens = #[]) (mods : ∃ mm, s₁.heap.Ns sysModules mm)
    (here : s₁.heap.get? a = some { cls := .type "list", data := .seq vs.toArray }) (whole : IntsAre vs ns) (few : ns.length ≤ sizeLine) (room : Room k callerA)
    (F : ∀ base : Heap, K.In base → base.Ns mainGlobals mg → (∃ mm, base.Ns sysModules mm) → FnG P w K mg base k fa fd [x] sp) (bind : ∀ (s : Shared) (u : Value), BindsTo s fd ⟨[u], []⟩ [(x, u)])
    (want : ∀ H : Hp, Only H → SqL K H a (ns.map V.int) → sp [.ref a] H (fun v _ => v = .bl true) E0) :
    codeAny (model P w) callerA (.call (.ref fa) ⟨[.ref a], []⟩) (fun r s' => r = .ok (.ret (.bool true)) ∧ OldK s₁.heap s'.heap ∧ s'.os = s₁.os ∧ AllBare s'.gens) s₁ := by
  have rel := vals_ints whole
  -- H: the script alone, or nothing
  have main : ∀ H : Hp, Only H → SqL K H a (ns.map V.int) → HOk P w H s₁.heap → (∀ b u, H b = some u → b = a ∧ K.lookup b = none) →
      codeAny (model P w) callerA (.call (.ref fa) ⟨[.ref a], []⟩) (fun r s' => r = .ok (.ret (.bool true)) ∧ OldK s₁.heap s'.heap ∧ s'.os = s₁.os ∧ AllBare s'.gens) s₁ := by
    intro H only sq ok apart
    have untold : ∀ {b o}, s₁.heap.get? b = some o → (b = a → False) → H b = none := by
      intro b o e ne
      cases q : H b with
      | none => rfl
      | some u => exact (ne (apart b u q).1).elim
    have ns1 : ∀ {b m}, s₁.heap.Ns b m → (hidT s₁.heap H).Ns b m := by
      rintro b m ⟨o, es, ep, e, d, r⟩
      refine ⟨o, es, ep, hidT_get e (untold e fun z => ?_), d, r⟩
      subst z
      rw [here] at e
      cases e
      cases d
    have kIn : K.In (hidT s₁.heap H) := by
      intro b o e
      apply hidT_get (inK b o e)
      cases q : H b with
      | none => rfl
      | some u =>
        have z := (apart b u q).2
        rw [e] at z
        cases z
    have lim1 : (hidT s₁.heap H).NoLimit := by
      obtain ⟨mc, h1, h2⟩ := lim
      exact ⟨mc, ns1 h1, h2⟩
    have e0 : Env0 P w K mg (hidT s₁.heap H) callerA [] s₁ H := {
      frames := rfl, mod := ⟨kIn, ns1 glob, ⟨mb, ns1 blt, bltIs⟩, lim1⟩, bs := fun _ _ e => of_hidT e, bsz := Nat.le_of_eq (hidT_size _ _), funs := True.intro, frf := (fun _ hb => nomatch hb), hok := ok, bare := .of_eq gens }
    apply codeAny_mono ((F _ kIn (ns1 glob) (mods.elim fun mm h => ⟨mm, ns1 h⟩)).go (us := [.ref a]) (vs := [.ref a]) room rfl e0 (bind s₁ _) (.cons rfl .nil) (want H only sq))
    intro r s' hr
    match r, hr with
    | .error _, hr => exact hr.elim
    | .ok .next, hr => exact False.elim hr
    | .ok .brk, hr => exact False.elim hr
    | .ok .cont, hr => exact False.elim hr
    | .ok (.ret u), hr =>
      obtain ⟨v, H', os, bare, un, ok', rv, q⟩ := hr
      cases (show v = V.bl true from q)
      cases (show u = Value.bool true from rv)
      refine ⟨rfl, OldK.of_keep ?_, os, bare⟩
      intro b o e
      cases only b with
      | inl n => exact un.keep b o e n (fun z => nomatch z) (fun z => nomatch z)
      | inr n =>
        obtain ⟨ob, xs, z⟩ := n
        have e1 := (ok b _ z).1
        have e2 := (ok' b _ (un.frzs b ob _ z)).1
        rw [e] at e1
        cases e1
        exact e2
  have small : (ns.map V.int).length ≤ sizeLine := by rw [List.length_map]; exact few
  cases known : K.lookup a with
  | some o =>
    have e := inK a o known
    rw [here] at e
    cases e
    have sz : vs.length ≤ sizeLine := by rw [← rel.length]; exact small
    exact main (fun _ => none) (fun _ => .inl rfl) (.inr ⟨_, vs.toArray, _, known, rfl, rfl, rfl, by simpa using sz, by simpa using rel⟩) (fun _ _ z => nomatch z) (fun _ _ z => nomatch z)
  | none =>
    have at1 : ∀ {b u}, (if b = a then some (HO.frz { cls := .type "list", data := .seq vs.toArray } (.lst (ns.map V.int))) else none) = some u → b = a := by
      intro b u z
      by_cases hb : b = a
      · exact hb
      · rw [if_neg hb] at z
        cases z
    refine main (fun b => if b = a then some (.frz { cls := .type "list", data := .seq vs.toArray } (.lst (ns.map V.int))) else none) (fun b => ?_) (.inl (.inr ⟨{ cls := .type "list", data := .seq vs.toArray }, if_pos rfl⟩)) (fun b u z => ?_) (fun b u z => ?_)
    · by_cases hb : b = a
      · exact .inr ⟨_, _, if_pos hb⟩
      · exact .inl (if_neg hb)
    · have hb := at1 z
      subst hb
      have z2 := (if_pos rfl).symm.trans z
      cases z2
      exact ⟨here, small, vs, _, rel, here⟩
    · have hb := at1 z
      subst hb
      exact ⟨rfl, known⟩
theorem quiet_walk {l : PySem.W.OpenLaw} {n k : Nat} {q : Program} {loose : List Str} {XP : (Str → Option Value) → Heap → Prop} {YP : World → Heap → Prop} {d : DefRec} {K : Params → PySem.W.Frag} {sp : World → Sp} {x : Str}
    (noImport : importsNone q = true) (most : l.most = some n) (n2 : n ≤ sizeLine) (defaults : d.params.defaults = []) (room : Room k callerA) (hY : ∀ (w : World) (h : Heap), YP w h → (K w.params).In h)
    (F : ∀ (w : World) (mg : Str → Option Value) (fa : Addr) (h : Heap), (K w.params).In h → h.Ns mainGlobals mg → mg d.name = some (.ref fa) →
      ∃ fd : FuncData, (∀ (s : Shared) (u : Value), BindsTo s fd ⟨[u], []⟩ [(x, u)]) ∧ ∀ base : Heap, (K w.params).In base → base.Ns mainGlobals mg → (∃ mm, base.Ns sysModules mm) → FnG l.prog w (K w.params) mg base k fa fd [x] (sp w))
    (want : ∀ (w : World) (H : Hp) (a : Addr) (ns : List Int), ns.length ≤ n → Only H → SqL (K w.params) H a (ns.map V.int) → sp w [.ref a] H (fun v _ => v = .bl true) E0) :
    PySem.W.WalkO q loose XP YP l.row.toRowW d [] (fun f vs => PySem.call f vs) := by
  apply Att.attach_call most defaults
  intro w s₀ s₁ mg mb fa o pm cd doc a vs ns G Y ho hd hcd hmg hobj hints hlen hg
  obtain ⟨fd, hb, hF⟩ := F w mg fa _ (hY w _ Y) G.T.g hmg
  exact quiet_law (hY w _ Y) G.T.g G.T.b G.T.builtins G.T.nolimit hg ((G.T.seer noImport).mods.elim fun mm h => ⟨mm, h.1⟩) hobj hints (Nat.le_trans hlen n2) room hF hb fun H o1 s1 => want w H a ns hlen o1 s1

/-! ### a op1 b op2 c op3 .. : chains of any length -/
section
variable {X : Cx}
structure PCh (X : Cx) (ops : List CmpOp) (es : List Expr) (t : V → TE) : Prop where
  run : ∀ (pos : Pos) (pins : List (Addr × Obj)) (s : Shared) (σ : L2.St) (H : Hp) (Q : VK) (x : V) (v : Value), Inv X pins σ H s → RelV x v → t x σ H Q → wpAny (model X.prog X.w) X.A (compareChain pos v ops (evalEach es X.env)) (EP X pins σ Q) X.xe s
structure PChT (X : Cx) (ops : List CmpOp) (es : List Expr) (t : V → TE) : Prop where
  run : ∀ (pos : Pos) (pins : List (Addr × Obj)) (s : Shared) (σ : L2.St) (H : Hp) (Q : Bool → Hp → Prop) (x : V) (v : Value), Inv X pins σ H s → RelV x v → (t x σ H fun y H' => ∃ k, y = .bl k ∧ Q k H') → wpAny (model X.prog X.w) X.A (testChain pos v ops (evalEach es X.env)) (TP X pins σ Q) X.xe s
def tLast (r : R2) (tb : TE) : V → TE := fun x σ H Q => tb σ H fun y H2 => r x y H2 Q
def tLink (r : R2) (tb : TE) (rest : V → TE) : V → TE := fun x σ H Q => tb σ H fun y H2 => r x y H2 fun z H3 => ∃ k, z = .bl k ∧ (if k = true then rest y σ H3 Q else Q (.bl false) H3)
def tCh (ta : TE) (rest : V → TE) : TE := fun σ H Q => ta σ H fun x H1 => rest x σ H1 Q
theorem pch_last {op : CmpOp} {r : R2} {b : Expr} {tb : TE} (ho : OpR X (compareOp op) r) (hb : PE X b tb) : PCh X [op] [b] (tLast r tb) :=
  ⟨fun pos pins s σ H Q x v I rx h => chain_last (thn (hb.run pins s σ H _ I h) fun u s2 ⟨y, H2, I2, r2, q2⟩ => ho pins s2 σ H2 x y v u Q I2 rx r2 q2)⟩
theorem pch_link {op op' : CmpOp} {ops : List CmpOp} {r : R2} {b b' : Expr} {bs : List Expr} {tb : TE} {rest : V → TE} (ho : OpR X (compareOp op) r) (hb : PE X b tb) (hr : PCh X (op' :: ops) (b' :: bs) rest) : PCh X (op :: op' :: ops) (b :: b' :: bs) (tLink r tb rest) := by
  refine ⟨fun pos pins s σ H Q x v I rx h => ?_⟩
  refine chain_link (thn (hb.run pins s σ H _ I h) fun u s2 ⟨y, H2, I2, r2, q2⟩ => thn (ho pins s2 σ H2 x y v u _ I2 rx r2 q2) fun d s3 ⟨z, H3, I3, r3, k, e, q3⟩ => ?_)
  subst e
  cases r3
  refine wpAny_truthy_bool ?_
  cases k with
  | false => exact ite_ff ⟨.bl false, H3, I3, rfl, q3⟩
  | true => exact ite_tt (hr.run pos pins s3 σ H3 Q y u I3 r2 q3)
theorem pe_chN {op op' : CmpOp} {ops : List CmpOp} {a b b' : Expr} {bs : List Expr} {pos : Pos} {ta : TE} {rest : V → TE} (ha : PE X a ta) (hr : PCh X (op :: op' :: ops) (b :: b' :: bs) rest)
    (hm : lastMarks (op :: op' :: ops) (b :: b' :: bs) = false := by with_unfolding_all rfl) : PE X (.Compare a (op :: op' :: ops) (b :: b' :: bs) pos) (tCh ta rest) :=
  ⟨fun pins s σ H Q I h => Compare_chain (thn (ha.run pins s σ H _ I h) fun v s1 ⟨x, H1, I1, r1, q1⟩ => hr.run pos pins s1 σ H1 Q x v I1 r1 q1) hm⟩
theorem pchT_last {op : CmpOp} {r : R2} {b : Expr} {tb : TE} (ho : OpR X (compareOp op) r) (hb : PE X b tb) : PChT X [op] [b] (tLast r tb) := by
  refine ⟨fun pos pins s σ H Q x v I rx h => ?_⟩
  refine test_last (thn (hb.run pins s σ H _ I h) fun u s2 ⟨y, H2, I2, r2, q2⟩ => thn (ho pins s2 σ H2 x y v u _ I2 rx r2 q2) fun d s3 ⟨z, H3, I3, r3, k, e, q3⟩ => ?_)
  subst e
  cases r3
  exact wpAny_truthy_bool ⟨H3, I3, q3⟩
theorem pchT_link {op op' : CmpOp} {ops : List CmpOp} {r : R2} {b b' : Expr} {bs : List Expr} {tb : TE} {rest : V → TE} (ho : OpR X (compareOp op) r) (hb : PE X b tb) (hr : PChT X (op' :: ops) (b' :: bs) rest) : PChT X (op :: op' :: ops) (b :: b' :: bs) (tLink r tb rest) := by
  refine ⟨fun pos pins s σ H Q x v I rx h => ?_⟩
  refine test_link (thn (hb.run pins s σ H _ I h) fun u s2 ⟨y, H2, I2, r2, q2⟩ => thn (ho pins s2 σ H2 x y v u _ I2 rx r2 q2) fun d s3 ⟨z, H3, I3, r3, k, e, q3⟩ => ?_)
  subst e
  cases r3
  refine wpAny_truthy_bool ?_
  cases k with
  | false =>
    obtain ⟨k', e', q'⟩ := q3
    cases e'
    exact ite_ff ⟨H3, I3, q'⟩
  | true => exact ite_tt (hr.run pos pins s3 σ H3 Q y u I3 r2 q3)
theorem pt_chN {op op' : CmpOp} {ops : List CmpOp} {a b b' : Expr} {bs : List Expr} {pos : Pos} {ta : TE} {rest : V → TE} (ha : PE X a ta) (hr : PChT X (op :: op' :: ops) (b :: b' :: bs) rest)
    (hm : lastMarks (op :: op' :: ops) (b :: b' :: bs) = false := by with_unfolding_all rfl) : PT X (.Compare a (op :: op' :: ops) (b :: b' :: bs) pos) (tTest (tCh ta rest)) :=
  ⟨fun pins s σ H Q I h => isTrue_chain (thn (ha.run pins s σ H _ I h) fun v s1 ⟨x, H1, I1, r1, q1⟩ => hr.run pos pins s1 σ H1 Q x v I1 r1 q1) hm⟩
end

theorem pi_listK {X : Cx} {K : PySem.W.Frag} {tg l : Expr} {tl : TE} (hK : X.K = K) (hl : PE X l tl) : PI X tg l (iList K tl) := hK ▸ pi_list hl
theorem pi_tupK {X : Cx} {K : PySem.W.Frag} {tg l : Expr} {tl : TE} (hK : X.K = K) (hl : PE X l tl) : PI X tg l (iTup K tl) := hK ▸ pi_tup hl

/-! ### t[::-1] of a tuple; xs == [], xs != [] of a list that may hold anything -/
section
open HT
variable {prog : Program} {w : World} {A : Around} {E : Value → Shared → Prop} {s : Shared}
theorem adjust_rev (n : Nat) : Builtin.Slice.sliceAdjust none none (-1) (n : Int) = ((n : Int) - 1, -1) := by
  unfold Builtin.Slice.sliceAdjust
  have h1 : (-1 : Int) < 0 := by decide
  simp only [h1, if_true]
theorem places_rev (n : Nat) : Builtin.Slice.slicePlaces ((n : Int) - 1) (-1) (-1) = n := by
  unfold Builtin.Slice.slicePlaces
  have h1 : ¬ ((-1 : Int) > 0) := by decide
  simp only [h1, if_false]
  have h2 : (-(-1) : Int) = 1 := by decide
  rw [h2, Int.ediv_one]
  split <;> omega
theorem sliceApplied_rev {sl : Addr} {vl vu vs : Value} {n : Nat} {Q : Int × Int × Nat → Shared → Prop} (hs : s.heap.IsSliceOf sl vl vu vs) (pl : IsPart vl none) (pu : IsPart vu none) (pt : IsPart vs (some (-1)))
    (h : Q ((n : Int) - 1, -1, n) s) : wpAny (model prog w) A (Builtin.Slice.sliceApplied (.ref sl) (pure (n : Int))) Q E s := by
  obtain ⟨os, hos, hcs, hds⟩ := id hs
  unfold Builtin.Slice.sliceApplied Builtin.Slice.sliceFields
  refine wpAny_bind (wpAny_bind (wpAny_field hos hds (x := vl) rfl (wpAny_bind (wpAny_field hos hds (x := vu) rfl (wpAny_bind (wpAny_field hos hds (x := vs) rfl (wpAny_pure ?_)))))))
  refine wpAny_bind (slicePart_ pt ?_)
  show wpAny _ _ (if ((-1 : Int) == 0) = true then _ else _) _ _ s
  rw [if_neg (by decide)]
  refine wpAny_bind (slicePart_ pl (wpAny_bind (slicePart_ pu (wpAny_bind (wpAny_pure ?_)))))
  show wpAny _ _ (match Builtin.Slice.sliceAdjust none none (-1) (n : Int) with | (lo, hi) => pure (lo, (-1 : Int), Builtin.Slice.slicePlaces lo hi (-1))) _ _ s
  rw [adjust_rev]
  show wpAny _ _ (pure ((n : Int) - 1, (-1 : Int), Builtin.Slice.slicePlaces ((n : Int) - 1) (-1) (-1))) _ _ s
  rw [places_rev]
  exact wpAny_pure h
theorem pick_rev (xs : Array Value) : ((List.range xs.size).filterMap fun (k : Nat) => xs[((xs.size : Int) - 1 + (k : Int) * (-1)).toNat]?) = xs.toList.reverse := by
  have e : ∀ m : Nat, m ≤ xs.size → ((List.range m).filterMap fun (k : Nat) => xs[((xs.size : Int) - 1 + (k : Int) * (-1)).toNat]?) = xs.toList.reverse.take m := by
    intro m
    induction m with
    | zero => intro _; rfl
    | succ m ih =>
      intro hm
      rw [List.range_succ, List.filterMap_append, ih (by omega), List.take_add_one]
      congr 1
      have e1 : ((xs.size : Int) - 1 + (m : Int) * (-1)).toNat = xs.size - 1 - m := by omega
      have e2 : xs.toList.reverse[m]? = xs[xs.size - 1 - m]? := by
        rw [List.getElem?_reverse (by rw [Array.length_toList]; omega), Array.length_toList, Array.getElem?_toList]
      rw [e2]
      have lt : xs.size - 1 - m < xs.size := by omega
      simp only [List.filterMap_cons, List.filterMap_nil, e1]
      rw [Array.getElem?_eq_getElem lt]
      rfl
  rw [e _ (Nat.le_refl _), List.take_of_length_le (by rw [List.length_reverse, Array.length_toList]; exact Nat.le_refl _)]
theorem getItem_tuple_rev {t sl : Addr} {items : Array Value} {vl vu vs : Value} {Q : Value → Shared → Prop} (ht : IsTup s.heap t items) (hs : s.heap.IsSliceOf sl vl vu vs) (pl : IsPart vl none) (pu : IsPart vu none) (pt : IsPart vs (some (-1)))
    (h : Q (.ref s.heap.objs.size) { s with heap := s.heap.push { cls := .type "tuple", data := .seq items.toList.reverse.toArray } })
    (hsz : items.size ≤ sizeLine) : wpAny (model prog w) A (getItem (.ref t) (.ref sl)) Q E s := by
  have htake : sizeOk (.seq items.toList.reverse.toArray) := by
    show items.toList.reverse.toArray.size ≤ sizeLine
    rw [List.size_toArray, List.length_reverse, Array.length_toList]
    omega
  obtain ⟨os, hos, hcs, hds⟩ := id hs
  have hTs : s.TypeIs (.ref sl) "slice" := ⟨os, hos, hcs⟩
  unfold getItem
  try with_reducible refine wpAny_holding ?_
  first | refine wpAny_bind (wpAny_pure ?_) | skip
  refine wpAny_bind (wpAny_sequenceKey ht.typeIs (by decide) ?_)
  refine wpAny_bind (wpAny_callSpecial?_slot (name := Str.ofString "__getitem__") ht.typeIs PyProof.Rows.slot_tuple_getitem
    (wpAny_call_entry PyProof.Rows.slot_tuple_getitem ht.typeIs entry_tuple_getitem ?_ (args_tuple_getitem _ _)))
  show wpAny _ _ (Builtin.Tuple.tupleItemsOf (.ref t) >>= _) _ _ s
  refine wpAny_bind (tupleItemsOf_ ht ?_)
  refine wpAny_bind (wpAny_typeOf hTs ?_)
  rw [if_pos (by decide)]
  refine wpAny_bind (sliceApplied_rev hs pl pu pt ?_)
  have hno : ¬ ((((items.size : Int) - 1) == 0 && (-1 : Int) == 1 && items.size == items.size) = true) := by
    intro q
    rw [Bool.and_eq_true, Bool.and_eq_true] at q
    exact absurd q.1.2 (by decide)
  show wpAny _ _ (if (((items.size : Int) - 1) == 0 && (-1 : Int) == 1 && items.size == items.size) = true then _ else _) _ _ s
  rw [if_neg hno, pick_rev]
  first
    | exact wpAny_bind (m := Builtin.Tuple.tupleExact _) (wpAny_newObj_type (wpAny_pure ⟨_, rfl, wpAny_pure h⟩) htake)
    | exact wpAny_bind (m := Builtin.Tuple.tupleExact _) (wpAny_newObj_type (wpAny_bind (wpAny_pure (wpAny_pure ⟨_, rfl, wpAny_pure h⟩))) htake)
    | exact wpAny_bind (wpAny_bind (m := Builtin.Tuple.tupleExact _) (wpAny_newObj_type (wpAny_pure (wpAny_pure ⟨_, rfl, wpAny_pure h⟩)) htake))
    | exact wpAny_bind (wpAny_bind (m := Builtin.Tuple.tupleExact _) (wpAny_newObj_type (wpAny_pure ⟨_, rfl, wpAny_pure h⟩) htake))
end
section
variable {X : Cx}
def tRevT (K : PySem.W.Frag) (te : TE) : TE := fun σ H Q => te σ H fun x H1 => ∃ a xs, x = .ref a ∧ SqT K H1 a xs ∧ ∀ p, H1 p = none → Q (.ref p) (upd H1 p (.tup xs.reverse))
theorem pe_revT {e : Expr} {te : TE} {k : Nat} {p1 p2 p3 pos : Pos} (he : PE X e te) : PE X (.Subscript e (.Slice none none (some (.UnaryOp .USub (.Constant (.int 1) k p1) p2)) p3) pos) (tRevT X.K te) := by
  refine ⟨fun pins s σ H Q I h => ?_⟩
  refine Subscript_ (thn (he.run pins s σ H _ I h) fun v s1 ⟨x, H1, I1, r1, q1⟩ => ?_)
  obtain ⟨a, xs, ex, hx, q⟩ := q1
  subst ex
  cases r1
  have hst : PO X (some (.UnaryOp .USub (.Constant (.int 1) k p1) p2)) (tPart (tUn (rU fun i => .int (-i)) (tC (.int 1)))) := po_some (pe_un un_neg pe_int)
  refine wpAny_Slice (thn (po_none.run pins s1 σ H1 (fun o H2 => o = none ∧ H2 = H1) I1 ⟨rfl, rfl⟩) fun vl s2 ⟨l, H2, I2, pl, el, e2⟩ => ?_)
  subst el e2
  refine thn (po_none.run pins s2 σ H2 (fun o H3 => o = none ∧ H3 = H2) I2 ⟨rfl, rfl⟩) fun vu s3 ⟨u, H3, I3, pu, eu, e3⟩ => ?_
  subst eu e3
  refine thn (hst.run pins s3 σ H3 (fun o H4 => o = some (-1) ∧ H4 = H3) I3 ⟨1, rfl, -1, rfl, rfl, rfl⟩) fun vs s4 ⟨o, H4, I4, ps, eo, e4⟩ => ?_
  subst eo e4
  have I5 : Inv X pins σ H4 { s4 with heap := s4.heap.push { cls := .type "slice", data := .fields #[vl, vu, vs] } } := I4.kept (t' := s4.toks) fun b ob q => Heap.get?_push_of_some _ q
  obtain ⟨its, r, ht, hz⟩ := I5.tuple hx
  have hlen := r.length
  show wpAny (model X.prog X.w) X.A (subscriptTail e (.Slice none none (some (.UnaryOp .USub (.Constant (.int 1) k p1) p2)) p3) (.ref a) (.ref s4.heap.objs.size)) (EP X pins σ Q) X.xe { s4 with heap := s4.heap.push { cls := .type "slice", data := .fields #[vl, vu, vs] } }
  refine tail_any (ops := [.ref a, .ref s4.heap.objs.size]) ht.typeIs (PyProof.Rows.slot_tuple_getitem.lookup) ?_ (by with_unfolding_all rfl)
  refine getItem_tuple_rev ht (Heap.IsSliceOf.new _ vl vu vs) pl pu ps ?_ (by rw [List.size_toArray]; omega)
  refine ⟨.ref _, _, I5.laid (t' := s4.toks) (o := .tup xs.reverse) (fun b ob q => Heap.get?_push_of_some _ q) (Nat.le_refl _) ?_, rfl, q _ (I5.hok.fresh (Nat.le_refl _))⟩
  exact ⟨by rw [List.length_reverse]; exact hz, _, r.reverse, IsTup.new _ _⟩
def rEqL (K : PySem.W.Frag) : R2 := fun x y H Q => ∃ (a b : Addr) (xs : List V), x = .ref a ∧ y = .ref b ∧ SqL K H a xs ∧ SqL K H b [] ∧ Q (.bl xs.isEmpty) H
def rNeL (K : PySem.W.Frag) : R2 := fun x y H Q => ∃ (a b : Addr) (xs : List V), x = .ref a ∧ y = .ref b ∧ SqL K H a xs ∧ SqL K H b [] ∧ Q (.bl (!xs.isEmpty)) H
theorem op_eqL (units : X.A.units < cLine) : OpR X (compareOp .Eq) (rEqL X.K) := by
  intro pins s σ H x y v u Q I rx ry h
  obtain ⟨a, b, xs, rfl, rfl, ha, hb, q⟩ := h
  cases rx
  cases ry
  obtain ⟨its, r1, p1, _⟩ := I.list ha
  obtain ⟨its2, r2, p2, _⟩ := I.list hb
  cases r2
  cases r1 with
  | nil =>
    exact SeqAt.eq_listAt (e := fun _ => true) p1.isList p2.isList rfl units (fun j h1 h2 => absurd h2 (Nat.not_lt_zero j)) ⟨.bl true, H, I, rfl, q⟩
  | cons r t =>
    exact SeqAt.eq_list_lengthsAt p1.isList p2.isList (by simp) units ⟨.bl false, H, I, rfl, q⟩
theorem op_neL (units : X.A.units < cLine) : OpR X (compareOp .NotEq) (rNeL X.K) := by
  intro pins s σ H x y v u Q I rx ry h
  obtain ⟨a, b, xs, rfl, rfl, ha, hb, q⟩ := h
  cases rx
  cases ry
  obtain ⟨its, r1, p1, _⟩ := I.list ha
  obtain ⟨its2, r2, p2, _⟩ := I.list hb
  cases r2
  cases r1 with
  | nil =>
    exact SeqAt.RcNeAt.lists (e := fun _ => true) p1.isList p2.isList rfl units (fun j h1 h2 => absurd h2 (Nat.not_lt_zero j)) X.prog X.w X.xe (EP X pins σ Q) ⟨.bl false, H, I, rfl, q⟩
  | cons r t =>
    exact SeqAt.RcNeAt.lists_lengths p1.isList p2.isList (by simp) units X.prog X.w X.xe (EP X pins σ Q) ⟨.bl true, H, I, rfl, q⟩
end

/-! ### x in t, x not in t, for a tuple of data -/
theorem units65 {k : Nat} {A : Around} (r : Room k A) : A.units + 65 < cLine := by
  have := r.un
  omega
section
variable {X : Cx}
def rInT (K : PySem.W.Frag) : R2 := fun x y H Q => ∃ d ds, Dp K H x d ∧ Dp K H y (.tuple ds) ∧ SeqAt.shaped d = true ∧ SeqAt.shaped (.tuple ds) = true ∧ Q (.bl (ds.any fun z => PyData.eqv z d)) H
def rNotInT (K : PySem.W.Frag) : R2 := fun x y H Q => ∃ d ds, Dp K H x d ∧ Dp K H y (.tuple ds) ∧ SeqAt.shaped d = true ∧ SeqAt.shaped (.tuple ds) = true ∧ Q (.bl (!ds.any fun z => PyData.eqv z d)) H
theorem op_inT (units : X.A.units + 65 < cLine) : OpR X (compareOp .In) (rInT X.K) := by
  intro pins s σ H x y v u Q I rx ry ⟨d, ds, dx, dy, sx, sy, q⟩
  obtain ⟨_, r1⟩ := Dp.reads I d x v dx rx
  obtain ⟨_, r2⟩ := Dp.reads I (.tuple ds) y u dy ry
  have l2 : PyData.canLayAll0 ds = true := SeqAt.canLay_of_shaped sy
  exact SeqAt.in_tuple_reads r2 r1 l2 (SeqAt.canLay_of_shaped sx) (room_in_shaped sx units) (Exists.intro (V.bl _) ⟨H, I, rfl, q⟩)
theorem op_notInT (units : X.A.units + 65 < cLine) : OpR X (compareOp .NotIn) (rNotInT X.K) := by
  intro pins s σ H x y v u Q I rx ry ⟨d, ds, dx, dy, sx, sy, q⟩
  obtain ⟨_, r1⟩ := Dp.reads I d x v dx rx
  obtain ⟨_, r2⟩ := Dp.reads I (.tuple ds) y u dy ry
  have l2 : PyData.canLayAll0 ds = true := SeqAt.canLay_of_shaped sy
  exact SeqAt.notIn_tuple_reads r2 r1 l2 (SeqAt.canLay_of_shaped sx) (room_in_shaped sx units) (Exists.intro (V.bl _) ⟨H, I, rfl, q⟩)
end
theorem for_zipU {K : PySem.W.Frag} {a b : Addr} {xs ys : List V} {g : TG} {tb : TS} {D : Ends} {σ : L2.St} {H : Hp} (Pv : Nat → L2.St → Hp → Prop) (h0 : Pv 0 σ H) (hq : ∀ i σ H, Pv i σ H → SqT K H a xs ∧ SqT K H b ys)
    (hs : ∀ (i : Nat) (x y : V) (T : Addr) (σ : L2.St) (H : Hp), xs[i]? = some x → ys[i]? = some y → Pv i σ H → H T = none → g (.ref T) σ (upd H T (.tup [x, y])) fun σ2 H2 => tb { D with nx := Pv (i + 1), ct := Pv (i + 1), bk := D.nx } σ2 H2) (hd : ∀ i σ H, i ≤ xs.length → Pv i σ H → D.nx σ H) :
    ∃ W : Nat → Nat → L2.St → Hp → Prop, (∃ m, W 0 m σ H) ∧ ∀ i m σ H, W i m σ H →
      ((RZ.ItzT K a b).stop i H ∧ D.nx σ H) ∨ ((RZ.ItzT K a b).go i H ∧ ∃ N : L2.St → Hp → Prop, (∀ σ' H', N σ' H' → ∃ m', m' < m ∧ W (i + 1) m' σ' H') ∧ ∀ v H', (RZ.ItzT K a b).yld i H v H' → g v σ H' fun σ2 H2 => tb { D with nx := N, ct := N, bk := D.nx } σ2 H2) := by
  refine ⟨fun i m σ H => m = xs.length - i ∧ i ≤ xs.length ∧ Pv i σ H, ⟨_, rfl, Nat.zero_le _, h0⟩, ?_⟩
  rintro i m σ H ⟨rfl, hi, p⟩
  obtain ⟨q1, q2⟩ := hq i σ H p
  by_cases c : i < xs.length ∧ i < ys.length
  · refine .inr ⟨⟨xs, ys, xs[i]'c.1, ys[i]'c.2, q1, q2, List.getElem?_eq_getElem c.1, List.getElem?_eq_getElem c.2⟩, Pv (i + 1), fun σ' H' p' => ⟨xs.length - (i + 1), by omega, rfl, by omega, p'⟩, fun v H' hy => ?_⟩
    obtain ⟨T, x, y, rfl, nT, rfl, f1, f2⟩ := hy
    exact hs i x y T σ H (f1 xs q1) (f2 ys q2) p nT
  · exact .inl ⟨⟨xs, ys, q1, q2, by omega⟩, hd i σ H hi p⟩

/-- a statement that is never come to -/
theorem ps_never {X : Cx} {st : Stmt} : PS X st (fun _ _ _ => False) := ⟨fun _ _ _ _ _ _ h => h.elim⟩

/-! ### max(xs, key=f), f a built-in that makes an int of an item and changes nothing -/
section
variable {prog : Program} {w : World} {A : Around} {E : Value → Shared → Prop} {s : Shared} {l : Addr} {kid : String} {vs : List Value} {Q : Value → Shared → Prop}
/-- all objects stay -/
abbrev Stay (h h' : Heap) : Prop := ∀ b o, h.get? b = some o → h'.get? b = some o
theorem isL_stay {h h' : Heap} {a : Addr} {xs : Array Value} (k : Stay h h') (x : h.IsList a xs) : h'.IsList a xs := let ⟨o, e, r⟩ := x; ⟨o, k _ _ e, r⟩
theorem isT_stay {h h' : Heap} {a : Addr} {xs : Array Value} (k : Stay h h') (x : IsTup h a xs) : IsTup h' a xs := let ⟨o, e, r⟩ := x; ⟨o, k _ _ e, r⟩
def KeyAt (prog : Program) (w : World) (A : Around) (s : Shared) (f : Value) (vs : List Value) (kf : Nat → Int) : Prop :=
  ∀ (i : Nat) (v : Value), vs[i]? = some v → ∀ (h : Heap) (tk : Nat), Stay s.heap h →
    wpAny (model prog w) A (call f [v]) (fun x s' => ∃ h' tk' t, s' = { s with heap := h', toks := tk' } ∧ x = .int (kf i) t ∧ Stay h h') (fun _ _ => False) { s with heap := h, toks := tk }
/-- the first of the greatest keys -/
def Topmost (kf : Nat → Int) (n i : Nat) : Prop := ∀ j, j < n → kf j ≤ kf i ∧ (j < i → kf j < kf i)
theorem maxKey_loop {I S : Addr} {R : Result → Shared → Prop} (kf : Nat → Int) (hh : A.handled = none) (isL : s.heap.IsList l vs.toArray) (lI : l ≠ I) (SI : S ≠ I) (nI : s.heap.get? I = none) (nS : s.heap.get? S = none) (key : KeyAt prog w A.in1 s (.builtin kid) vs kf)
    (fin : ∀ i v h' tk', vs[i]? = some v → Topmost kf vs.length i → Stay s.heap h' → R (.ok (.ret v)) { s with heap := h', toks := tk' }) :
    ∀ (r j i : Nat) (h : Heap) (tk : Nat) (vb : Value) (tb : Tok) (c : Nat), vs.length - (j + 1) = r → j + 1 ≤ vs.length → Stay s.heap h →
      h.get? S = some (seqObj "list" #[vb, .int (kf i) tb] c) → h.IsListIter I l (j + 1) → vs[i]? = some vb → i ≤ j → Topmost kf (j + 1) i →
      codeAny (model prog w) A (.builtin "max.loop" ⟨[.ref I, .builtin kid, .ref S], []⟩) R { s with heap := h, toks := tk } := by
  have nm : (toString "max" ++ toString ".loop" : String) = "max.loop" := by decide
  have wk := Walks.list (prog := prog) (w := w) (A := A.in1) hh I l lI vs.toArray
  have sz : vs.toArray.size = vs.length := List.size_toArray ..
  have off : ∀ {h h' : Heap} {x : Addr}, s.heap.get? x = none → Stay s.heap h → (∀ b o, b ≠ x → h.get? b = some o → h'.get? b = some o) → Stay s.heap h' := fun nx st k b o e => k b o (fun z => by rw [z, nx] at e; cases e) (st b o e)
  intro r
  induction r with
  | zero =>
    intro j i h tk vb tb c er jl st gS it ev ij top
    have last : j + 1 = vs.length := by omega
    refine codeAny_builtin (b := _) PySem.F.entry_max_loop ?_
    rw [Around.under_plainId (PySem.F.plain_max_loop) _]
    show wpAny _ A.in1 (seqItems? (Value.ref S) >>= _) _ _ _
    refine wpAny_bind (wpAny_seqItems (gS) rfl ?_)
    show wpAny _ A.in1 (tryCatch (pyNext (Value.ref I)) _ >>= _) _ _ _
    refine wpAny_bind (wpAny_tryCatch (wk.done _ _ _ ⟨by rw [sz, ← last]; exact it, isL_stay st isL⟩ fun h1 tk1 k1 => ?_))
    have st1 := off nI st (fun b o nb e => k1 b o (fun z => nb (List.mem_singleton.mp z)) e)
    have gS1 := k1 S _ (fun z => SI (List.mem_singleton.mp z)) gS
    have u1 := Heap.SameBut.update h1 S (Obj.mapSeq (fun _ => (#[] : Array Value)))
    show wpAny _ A.in1 (updateSeq S (fun _ => #[]) >>= fun _ => _) _ _ _
    refine wpAny_bind (wpAny_updateSeq gS1 rfl (wpAny_bind (wpAny_letGo (wpAny_pure ?_))))
    exact fin i vb _ _ ev (by rw [← last]; exact top) (off nS st1 fun b o nb e => (u1.2 b nb).trans e)
  | succ r ih =>
    intro j i h tk vb tb c er jl st gS it ev ij top
    have more : j + 1 < vs.length := by omega
    refine codeAny_builtin (b := _) PySem.F.entry_max_loop ?_
    rw [Around.under_plainId (PySem.F.plain_max_loop) _]
    show wpAny _ A.in1 (seqItems? (Value.ref S) >>= _) _ _ _
    refine wpAny_bind (wpAny_seqItems (gS) rfl ?_)
    show wpAny _ A.in1 (tryCatch (pyNext (Value.ref I)) _ >>= _) _ _ _
    refine wpAny_bind (wpAny_tryCatch (wk.item (j + 1) _ _ _ (by rw [sz]; exact more) ⟨it, isL_stay st isL⟩ fun v h1 tk1 pv it1 k1 => ?_))
    have ev1 : vs[j + 1]? = some v := by simpa using pv
    obtain ⟨oI, gI, cI, dI⟩ := it1.1
    have st1 := off nI st (fun b o nb e => k1 b o (fun z => nb (List.mem_singleton.mp z)) e)
    have gS1 := k1 S _ (fun z => SI (List.mem_singleton.mp z)) gS
    show wpAny _ A.in1 (tryCatch (holding [v] (call (Value.builtin kid) [v])) _ >>= _) _ _ _
    refine wpAny_bind (wpAny_tryCatch (wpAny_holding (wpAny_mono (key (j + 1) v ev1 h1 tk1 st1) (fun x s2 hx => ?_) (fun _ _ no => no.elim))))
    obtain ⟨h2, tk2, t2, rfl, rfl, k2⟩ := hx
    have st2 : Stay s.heap h2 := fun b o e => k2 b o (st1 b o e)
    have gS2 := k2 _ _ gS1
    have gI2 := k2 _ _ gI
    show wpAny _ A.in1 (tryCatch (holding [v, Value.int (kf (j + 1)) t2] (richCompare .Gt (.int (kf (j + 1)) t2) (.int (kf i) tb) >>= _)) _ >>= _) _ _ _
    refine wpAny_bind (wpAny_tryCatch (wpAny_holding (wpAny_bind (CmpOf.ints_gt (prog := prog) (w := w) (A := A.in1) (P := fun n u => ∃ t, u = .int (kf n) t) kf (fun n u z => z) (j + 1) i _ _ _ _ _ ⟨t2, rfl⟩ ⟨tb, rfl⟩ ?_))))
    refine wpAny_bind (wpAny_holding (wpAny_truthy_bool (wpAny_bind (wpAny_letGo (wpAny_pure ?_)))))
    by_cases up : kf (j + 1) > kf i
    · have u1 := Heap.SameBut.update h2 S (Obj.mapSeq (fun _ => #[v, .int (kf (j + 1)) t2]))
      obtain ⟨c2, gS3⟩ : ∃ c2, (h2.update S (Obj.mapSeq fun _ => #[v, .int (kf (j + 1)) t2])).get? S = some (seqObj "list" #[v, .int (kf (j + 1)) t2] c2) := ⟨_, get?_update_seq gS2 fun _ => _⟩
      simp only [up, decide_true, if_true]
      refine wpAny_bind (wpAny_updateSeq gS2 rfl (wpAny_bind (wpAny_letGo ?_)))
      rw [nm]
      refine wpAny_pure ⟨plainId_quiet (PySem.F.plain_max_loop) _, ih (j + 1) (j + 1) _ _ v t2 c2 (by omega) more (off nS st2 fun b o nb e => (u1.2 b nb).trans e) gS3 ⟨oI, (u1.2 I SI.symm).trans gI2, cI, dI⟩ ev1 (Nat.le_refl _) fun n hn => ?_⟩
      by_cases e : n = j + 1
      · subst e
        exact ⟨Int.le_refl _, fun z => absurd z (Nat.lt_irrefl _)⟩
      · have := (top n (by omega)).1
        exact ⟨by omega, fun _ => by omega⟩
    · simp only [up, decide_false, Bool.false_eq_true, if_false]
      refine wpAny_bind (wpAny_letGo ?_)
      rw [nm]
      refine wpAny_pure ⟨plainId_quiet (PySem.F.plain_max_loop) _, ih (j + 1) i _ _ vb tb c (by omega) more st2 gS2 ⟨oI, gI2, cI, dI⟩ ev (by omega) fun n hn => ?_⟩
      by_cases e : n = j + 1
      · subst e
        exact ⟨by omega, fun z => absurd z (by omega)⟩
      · exact top n (by omega)
theorem maxKey (kf : Nat → Int) (hh : A.handled = none) (isL : s.heap.IsList l vs.toArray) (some1 : 0 < vs.length) (key : KeyAt prog w A.in1 s (.builtin kid) vs kf)
    (fin : ∀ i v h' tk', vs[i]? = some v → Topmost kf vs.length i → Stay s.heap h' → Q v { s with heap := h', toks := tk' }) :
    wpAny (model prog w) A (call (.builtin "max") [.ref l] [(Str.ofString "key", .builtin kid)]) Q E s := by
  have nm : (toString "max" ++ toString ".loop" : String) = "max.loop" := by decide
  have isL0 := isL
  obtain ⟨ol, gl, _⟩ := isL0
  have ll : l < s.heap.objs.size := Heap.lt_size gl
  refine kmb_tree PySem.F.kind_max PySem.F.plain_max PySem.F.entry_max (kmb_max_key _ _) ?_
  show wpAny _ A.in1 (Builtin.Builtins.bindParams "max" ["key", "default"] 0 ⟨[], [(Str.ofString "key", Value.builtin kid)]⟩ >>= _) _ _ s
  refine wpAny_bind (wpAny_of_eq (show Builtin.Builtins.bindParams "max" ["key", "default"] 0 ⟨[], [(Str.ofString "key", Value.builtin kid)]⟩ = pure [some (.builtin kid), none] from rfl) ?_)
  refine wpAny_bind (wpAny_pure (wpAny_bind (wpAny_pyIter_list isL (wpAny_bind (wpAny_newList ?_ (Nat.zero_le _))))))
  rw [nm]
  have it0 := Heap.get?_push_size s.heap (o := { cls := .type "list_iterator", data := .fields #[.ref l, .int 0 0] }) rfl
  have z1 : (s.heap.push { cls := .type "list_iterator", data := .fields #[.ref l, .int 0 0] }).objs.size = s.heap.objs.size + 1 := Heap.size_push ..
  have k1 : Stay s.heap (s.heap.push { cls := .type "list_iterator", data := .fields #[.ref l, .int 0 0] }) := fun b o e => Heap.get?_push_of_some _ e
  generalize s.heap.push { cls := .type "list_iterator", data := .fields #[.ref l, .int 0 0] } = g1 at *
  have gS := Heap.get?_push_size g1 (o := seqObj "list" #[] 0) rfl
  have k2 : Stay g1 (g1.push (seqObj "list" #[] 0)) := fun b o e => Heap.get?_push_of_some _ e
  have gI := k2 _ _ it0
  generalize g1.push (seqObj "list" #[] 0) = g2 at *
  rw [z1] at gS ⊢
  have st2 : Stay s.heap g2 := fun b o e => k2 b o (k1 b o e)
  have nI : s.heap.get? s.heap.objs.size = none := Heap.get?_none_of_le (Nat.le_refl _)
  have nS : s.heap.get? (s.heap.objs.size + 1) = none := Heap.get?_none_of_le (Nat.le_succ _)
  have SI : s.heap.objs.size + 1 ≠ s.heap.objs.size := Nat.succ_ne_self _
  have lI : l ≠ s.heap.objs.size := Nat.ne_of_lt ll
  have wk := Walks.list (prog := prog) (w := w) (A := A.in1) hh s.heap.objs.size l lI vs.toArray
  have sz : vs.toArray.size = vs.length := List.size_toArray ..
  have off : ∀ {h h' : Heap} {x : Addr}, s.heap.get? x = none → Stay s.heap h → (∀ b o, b ≠ x → h.get? b = some o → h'.get? b = some o) → Stay s.heap h' := fun nx st k b o e => k b o (fun z => by rw [z, nx] at e; cases e) (st b o e)
  refine wpAny_pure ⟨plainId_quiet (PySem.F.plain_max_loop) _, codeAny_builtin (b := _) PySem.F.entry_max_loop ?_⟩
  rw [Around.under_plainId (PySem.F.plain_max_loop) _]
  show wpAny _ A.in1 (seqItems? (Value.ref _) >>= _) _ _ _
  refine wpAny_bind (wpAny_seqItems (gS) rfl ?_)
  show wpAny _ A.in1 (tryCatch (pyNext (Value.ref s.heap.objs.size)) _ >>= _) _ _ _
  refine wpAny_bind (wpAny_tryCatch (wk.item 0 _ _ _ (by rw [sz]; exact some1) ⟨⟨_, gI, rfl, rfl⟩, isL_stay st2 isL⟩ fun v h1 tk1 pv it1 kk => ?_))
  have ev1 : vs[0]? = some v := by simpa using pv
  obtain ⟨oI, gI1, cI, dI⟩ := it1.1
  have st1 := off nI st2 (fun b o nb e => kk b o (fun z => nb (List.mem_singleton.mp z)) e)
  have gS1 := kk _ _ (fun z => SI (List.mem_singleton.mp z)) gS
  show wpAny _ A.in1 (tryCatch (holding [v] (call (Value.builtin kid) [v])) _ >>= _) _ _ _
  refine wpAny_bind (wpAny_tryCatch (wpAny_holding (wpAny_mono (key 0 v ev1 h1 tk1 st1) (fun x s2 hx => ?_) (fun _ _ no => no.elim))))
  obtain ⟨h2, tk2, t2, rfl, rfl, k3⟩ := hx
  have gS2 := k3 _ _ gS1
  have u1 := Heap.SameBut.update h2 (s.heap.objs.size + 1) (Obj.mapSeq (fun _ => #[v, .int (kf 0) t2]))
  obtain ⟨c2, gS3⟩ : ∃ c2, (h2.update (s.heap.objs.size + 1) (Obj.mapSeq fun _ => #[v, .int (kf 0) t2])).get? (s.heap.objs.size + 1) = some (seqObj "list" #[v, .int (kf 0) t2] c2) := ⟨_, get?_update_seq gS2 fun _ => _⟩
  show wpAny _ A.in1 (updateSeq (s.heap.objs.size + 1) (fun _ => #[v, .int (kf 0) t2]) >>= _) _ _ _
  refine wpAny_bind (wpAny_updateSeq gS2 rfl ?_)
  rw [nm]
  refine wpAny_pure ⟨plainId_quiet (PySem.F.plain_max_loop) _, maxKey_loop kf hh isL lI SI nI nS key fin _ 0 0 _ _ v t2 c2 rfl some1 (off nS (fun b o e => k3 b o (st1 b o e)) fun b o nb e => (u1.2 b nb).trans e) gS3 ⟨oI, (u1.2 _ SI.symm).trans (k3 _ _ gI1), cI, dI⟩ ev1 (Nat.le_refl _) fun n hn => ?_⟩
  have e : n = 0 := by omega
  subst e
  exact ⟨Int.le_refl _, fun z => absurd z (Nat.lt_irrefl _)⟩
end
/-- max([x, y], key=len), x and y tuples -/
def rMaxLen (K : PySem.W.Frag) : List V → Hp → VK → Prop := fun vs H Q => ∃ (a b c : Addr) (xs ys : List V), vs = [.ref a] ∧ SqL K H a [.ref b, .ref c] ∧ SqT K H b xs ∧ SqT K H c ys ∧ Q (.ref (if xs.length < ys.length then c else b)) H
theorem pe_maxLen {X : Cx} {e : Expr} {p q kp pos : Pos} {t : TA} (hc : X.calm = true) (hg : Gl X "max") (hm : X.mg "max" = none) (hg2 : Gl X "len") (hm2 : X.mg "len" = none) (ha : PA X [e] t)
    (he : backTo pos (starEach [e] X.env) = (false, eval e X.env) :: backTo pos (starEach [] X.env) := by rfl) (hpl : (backTo pos (starEach [e] X.env)).any (·.1) = false := by rfl) :
    PE X (.Call (.Name "max" p) [e] [⟨some "key", .Name "len" q, kp⟩] pos) (tCB (rMaxLen X.K) t) := by
  refine ⟨fun pins s σ H Q I h => ?_⟩
  refine wpAny_Call_Name_kw (ld_blt (u := .builtin "max") I hg hm (by decide +kernel) ?_)
  refine PyProof.Rows.callWith_kw (thn (ha.run pos pins s σ H _ I h) fun us s1 ⟨vs, H1, I1, r1, q1⟩ => ?_) he hpl (by rfl) (by rfl)
  show wpAny _ _ (evalAll [(do let v ← eval (.Name "len" q) X.env; standAt pos; pure v)]) _ _ s1
  refine wpAny_evalAll_cons (wpAny_bind (ld_blt (u := .builtin "len") I1 hg2 hm2 (by decide +kernel) (wpAny_bind (wpAny_standAt (wpAny_pure (wpAny_evalAll_nil ?_))))))
  obtain ⟨a, b, c, xs, ys, rfl, hl, hb, hc2, qq⟩ := q1
  rw [Vals.ref1 r1]
  obtain ⟨its, rv, isL, _⟩ := I1.list hl
  obtain ⟨u, u', rfl, ru, ru'⟩ := vals2 rv
  obtain rfl : u = Value.ref b := ru
  obtain rfl : u' = Value.ref c := ru'
  obtain ⟨i1, v1, t1, z1⟩ := I1.tuple hb
  obtain ⟨i2, v2, t2, z2⟩ := I1.tuple hc2
  have l1 := v1.length
  have l2 := v2.length
  have fit : ∀ {n : Nat}, n ≤ sizeLine → ((n : Nat) : Int) < 2 ^ 63 := fun {n} z => by
    rw [show sizeLine = 16777216 by decide] at z
    omega
  refine maxKey (vs := [Value.ref b, Value.ref c]) (fun i => if i = 0 then (i1.length : Int) else i2.length) (I1.ok.hd hc) isL.isList (Nat.zero_lt_succ _) (fun i v hv h' tk st => ?_) (fun i v h' tk' hv top st => ?_)
  · match i, hv with
    | 0, hv =>
      cases hv
      refine PyProof.Rows.len_tuple (isT_stay st t1) (fit (by rw [List.size_toArray, ← l1]; exact z1)) ⟨_, _, _, rfl, by rw [List.size_toArray]; rfl, fun _ _ e => e⟩
    | 1, hv =>
      cases hv
      refine PyProof.Rows.len_tuple (isT_stay st t2) (fit (by rw [List.size_toArray, ← l2]; exact z2)) ⟨_, _, _, rfl, by rw [List.size_toArray]; rfl, fun _ _ e => e⟩
  · match i, hv with
    | 0, hv =>
      cases hv
      have := (top 1 (Nat.lt_succ_self 1)).1
      replace this : (i2.length : Int) ≤ i1.length := this
      rw [if_neg (by omega)] at qq
      exact ⟨V.ref _, H1, I1.kept st, rfl, qq⟩
    | 1, hv =>
      cases hv
      have := (top 0 (Nat.zero_lt_succ _)).2 (by decide)
      replace this : (i1.length : Int) < i2.length := this
      rw [if_pos (by omega)] at qq
      exact ⟨V.ref _, H1, I1.kept st, rfl, qq⟩

/-! ### a lambda of one parameter p with one captured name c, made in a def and called by a built-in -/
structure Lam1 (sc scope : Scope) (cap par : Str) : Prop where
  kind : scope.kind = .function
  co : scope.isCoroutine = false
  gen : scope.isGenerator = false
  parL : scope.names.lookup par = some .local
  cells : ∀ y ∈ scope.names, y.2 ≠ .cell
  locs : ∀ y, scope.names.lookup y = some .local → y = par
  free : ∀ y ∈ scope.names, y.2 = .free → sc.names.lookup y.1 = some .cell ∨ sc.names.lookup y.1 = some .free
  ne : cap ≠ par
def lam1B (sc scope : Scope) (cap par : Str) : Bool :=
  decide (scope.kind = .function) && !scope.isCoroutine && !scope.isGenerator && decide (scope.names.lookup par = some .local) && (scope.names.all fun y => !decide (y.2 = .cell)) && (scope.names.all fun y => !decide (y.2 = .local) || decide (y.1 = par))
    && (scope.names.all fun y => !decide (y.2 = .free) || decide (sc.names.lookup y.1 = some .cell) || decide (sc.names.lookup y.1 = some .free)) && !decide (cap = par)
theorem lam1_by {sc scope : Scope} {cap par : Str} (h : lam1B sc scope cap par = true) : Lam1 sc scope cap par := by
  unfold lam1B at h
  simp only [Bool.and_eq_true, Bool.or_eq_true, Bool.not_eq_true', decide_eq_true_eq, decide_eq_false_iff_not, List.all_eq_true] at h
  obtain ⟨⟨⟨⟨⟨⟨⟨h1, h2⟩, h3⟩, h4⟩, h5⟩, h6⟩, h7⟩, h8⟩ := h
  refine ⟨h1, h2, h3, h4, h5, fun y e => ?_, fun y hy e => ?_, h8⟩
  · rcases h6 _ (PySem.mem_of_lookup e) with z | z
    · exact absurd rfl z
    · exact z
  · rcases h7 y hy with (z | z) | z
    · exact absurd e z
    · exact .inl z
    · exact .inr z
theorem Lam1.has {X : Cx} {scope : Scope} {cap par : Str} (L : Lam1 X.env.scope scope cap par) (ok : X.Ok) : ∀ y ∈ scope.names, y.2 = .free → ∃ c, X.env.cells.lookup y.1 = some c := fun y hy e => by
  rcases L.free y hy e with k | k
  · exact ok.has _ (.inl k)
  · exact ok.has _ (.inr k)
/-- the context of the lambda's body -/
def lamCx1 (X : Cx) (A : Around) (s : Shared) (H : Hp) (scope : Scope) (cap par : Str) (f c' : Addr) : Cx where
  prog := X.prog
  w := X.w
  K := X.K
  mg := X.mg
  base := X.base
  A := A.deeper (LamX.lamEnv X scope s.heap.objs.size f c')
  N := [cap, par]
  s_0 := s
  H_0 := H
  env := LamX.lamEnv X scope s.heap.objs.size f c'
  outer := X.stack
  stack := LamX.lamEnv X scope s.heap.objs.size f c' :: X.stack
  ex := []
  fn := fun _ => false
  calm := true
  pn := []
  xe := fun _ _ => False
section
variable {X : Cx} {pins : List (Addr × Obj)} {σ : L2.St} {HZ : Hp} {s1 : Shared}
theorem lam_start1 {A : Around} {scope : Scope} {cap par : Str} {f c' : Addr} {h₁ : Heap} {tk i : Nat} {cv pv : V} {u : Value} (I : Inv X pins σ HZ s1) (L : Lam1 X.env.scope scope cap par) (hi : X.N[i]? = some cap) (hσ : σ[i]? = some (some cv))
    (hA : A.frames = some X.stack) (hd : A.handled = none) (hns : h₁.Ns s1.heap.objs.size fun y => ([(par, u)] : List (Str × Value)).reverse.lookup y) (rv : RelV pv u) (keep1 : ∀ b o, s1.heap.get? b = some o → h₁.get? b = some o) :
    Inv (lamCx1 X A s1 HZ scope cap par f c') [] [some cv, some pv] HZ { s1 with heap := h₁, toks := tk } := by
  have e0 := I.env0
  have caps := L.has I.ok
  have ofClo : ∀ {y c}, (cloFrom X.env.cells scope.names []).lookup y = some c → X.env.cells.lookup y = some c := fun {y c} e => by
    rcases cloFrom_mem (PySem.mem_of_lookup e) with zz | ⟨q1, q2⟩
    · cases zz
    · obtain ⟨cc, hc⟩ := caps _ q1 rfl
      have hc : X.env.cells.lookup y = some cc := hc
      have e2 : c = cc := by
        rw [q2, hc] <;> rfl
      rw [e2]
      exact hc
  have hasC : ∀ {y}, scope.names.lookup y = some .free → ∃ c, (cloFrom X.env.cells scope.names []).lookup y = some c := fun {y} hl => by
    have hy : (y, NameKind.free) ∈ scope.names := PySem.mem_of_lookup hl
    exact mem_lookup (cloFrom_has (cells := X.env.cells) (acc := []) hy)
  have cellK : ∀ {c : Addr} {v : Option Value}, s1.heap.IsCell c v → h₁.IsCell c v := fun {c v} ⟨o, ho, hd⟩ => ⟨o, keep1 _ _ ho, hd⟩
  have noEx : ∀ b : Addr, b ∉ (lamCx1 X A s1 HZ scope cap par f c').ex := fun b z => absurd (show b ∈ ([] : List Addr) from z) (by simp)
  refine ⟨⟨e0.mod, L.kind, rfl, rfl, Nat.le_refl _, fun y z c e1 e2 => I.ok.inj y z c (ofClo e1) (ofClo e2), fun y hy => ?_, fun y c z _ => ?_, fun _ => hd, Around.frames_deeper hA, .inr ⟨rfl, rfl⟩, fun b z => absurd z (noEx b), e0.bs, e0.bsz, fun b _ _ => noEx b,
      fun b z => absurd z (noEx b), e0.funs, e0.frf⟩,
    rfl, e0.bare, Un.kept keep1, ⟨_, hns, fun j y v e1 e2 e3 => ?_⟩, fun y c e => ?_, e0.hok.fresh (Nat.le_refl _), fun y c e => ?_, fun q hq => absurd (show q ∈ ([] : List (Addr × Obj)) ++ [] from hq) (by simp), e0.hok.kept keep1, rfl⟩
  · have hy : scope.names.lookup y = some .cell ∨ scope.names.lookup y = some .free := hy
    rcases hy with hy | hy
    · exact absurd rfl (L.cells _ (PySem.mem_of_lookup hy))
    · exact hasC hy
  · have z : false = true := z
    cases z
  · have e3 : Vis scope y := e3
    match j, e1, e2 with
    | 0, e1, e2 =>
      cases e1
      cases e2
      rcases e3 with k | k | k
      · exact absurd (L.locs _ k) L.ne
      · exact absurd rfl (L.cells _ (PySem.mem_of_lookup k))
      · obtain ⟨m, hn, hl⟩ := I.loc
        have hvis : Vis X.env.scope cap := (L.free _ (PySem.mem_of_lookup k) rfl).elim (fun k => .inr (.inl k)) (fun k => .inr (.inr k))
        obtain ⟨w', r, q⟩ := hl i cap cv hi hσ hvis
        obtain ⟨c2, h2⟩ := hasC k
        refine ⟨w', r, .inr ⟨.inr k, c2, h2, ?_⟩⟩
        have c1 := ofClo h2
        rcases q with ⟨k', _⟩ | ⟨_, c3, e', z⟩
        · have k' : X.env.scope.names.lookup cap = some .local := k'
          rcases L.free _ (PySem.mem_of_lookup k) rfl with k2 | k2 <;> rw [show X.env.scope.names.lookup cap = _ from k2] at k' <;> cases k'
        · rw [c1] at e'
          cases e'
          exact cellK z
    | 1, e1, e2 =>
      cases e1
      cases e2
      refine ⟨u, rv, .inl ⟨L.parL, ?_⟩⟩
      simp [List.lookup]
    | n + 2, e1, e2 => cases e1
  · obtain ⟨w', z⟩ := I.cell y c (ofClo e)
    exact ⟨w', cellK z⟩
  · exact I.freeC y c (ofClo e)
/-- the lambda called with u -/
theorem lam_call1 {A : Around} {scope : Scope} {cap par : Str} {f c' : Addr} {pm ctv : Value} {params : Arguments} {body : Expr} {k i : Nat} {cv pv : V} {u : Value} {tb : TE} {Q : VK} (I : Inv X pins σ HZ s1) (L : Lam1 X.env.scope scope cap par) (hi : X.N[i]? = some cap) (hσ : σ[i]? = some (some cv))
    (hA : A.frames = some X.stack) (hr : Room (k + 1) A)
    (hf : s1.heap.get? f = some (PySem.W.kla_obj "<lambda>" (X.env.qual ++ "<lambda>") params body scope (cloFrom X.env.cells scope.names []) pm c' ctv)) (hc : HZ c' = some (LamX.CodeO c' (X.env.qual ++ "<lambda>")))
    (hbind : bindArgs (PySem.W.kla_fn "<lambda>" (X.env.qual ++ "<lambda>") params body scope (cloFrom X.env.cells scope.names []) pm (.ref c') ctv) ⟨[u], []⟩ = pure [(par, u)])
    (hbody : Room k (A.deeper (LamX.lamEnv X scope s1.heap.objs.size f c')) → PE (lamCx1 X A s1 HZ scope cap par f c') body tb) (rv : RelV pv u) (ht : tb [some cv, some pv] HZ Q) :
    wpAny (model X.prog X.w) A (call (.ref f) [u]) (fun x s' => ∃ v H', Inv X pins σ H' s' ∧ RelV v x ∧ Q v H' ∧ Un (frs X.stack) [] HZ H' s1.heap s'.heap) (fun _ _ => False) s1 := by
  obtain ⟨⟨oc, vs, t, hoc, hdc, hvc⟩, _, _⟩ := I.hok c' _ hc
  have rc : codeAny (model X.prog X.w) A (.call (.ref f) ⟨[u], []⟩) (CR CX0 X.stack X.prog X.w HZ s1 Q E0) s1 := by
    refine PySem.W.kla_callFunE hr.depth hf rfl L.co L.gen rfl ⟨c', oc, vs, t, rfl, hoc, hdc, hvc⟩ ?_
    rw [hbind]
    refine wpAny_pure (wpAny_newFunctionEnv L.cells (fun y hy => by rw [List.mem_singleton.mp hy]; exact L.parL) (fun h₁ hns hsb => ⟨I.nolimit.fresh _ hsb, ?_⟩) L.kind)
    show codeAny _ _ (.expr body (LamX.lamEnv X scope s1.heap.objs.size f c')) _ _
    have keep1 : ∀ b o, s1.heap.get? b = some o → h₁.get? b = some o := fun b o e => hsb.extBut b o (Nat.ne_of_lt (Heap.lt_size e)) (Heap.get?_push_of_some _ e)
    have J := lam_start1 (A := A) (f := f) (c' := c') (tk := s1.toks + ([(par, u)] : List (Str × Value)).length) I L hi hσ hA hr.hd hns rv keep1
    refine PySem.W.kla_codeExpr (wpAny_mono ((hbody (hr.deeper _)).run [] _ _ HZ Q J ht) (fun v s' hq => ?_) fun e s' hq => hq.elim)
    obtain ⟨w', H', J', rv', q⟩ := hq
    exact ⟨w', H', J'.os, J'.bare, J'.base, J'.hok, rv', q⟩
  refine wpAny_call (codeAny_mono rc fun r s' hq => ?_)
  cases r with
  | error e => exact (show False from hq).elim
  | ok fl =>
    cases fl with
    | ret x =>
      obtain ⟨v, H', os, bare, un, hok, r, q⟩ := hq
      exact ⟨v, H', I.call' os un hok bare (fun b z => absurd z (by simp)), r, q, un⟩
    | next => exact False.elim hq
    | brk => exact False.elim hq
    | cont => exact False.elim hq
end

/-! ### min(xs, key=f), f a function of the program's own -/
/-- the first of the least keys -/
def Lowest (kf : Nat → Int) (n i : Nat) : Prop := ∀ j, j < n → kf i ≤ kf j ∧ (j < i → kf i < kf j)
structure RawA (X : Cx) (pins : List (Addr × Obj)) (b : Addr) : Prop where
  sz : X.s_0.heap.objs.size ≤ b
  loc : b ≠ X.env.locals
  cell : ∀ x c, X.env.cells.lookup x = some c → c ≠ b
  pin : ∀ p ∈ X.pn ++ pins, p.1 ≠ b
  fr : b ∉ frs X.stack
theorem RawA.of {X : Cx} {pins : List (Addr × Obj)} {σ : L2.St} {H : Hp} {s : Shared} (I : Inv X pins σ H s) {b : Addr} (h : s.heap.objs.size ≤ b) : RawA X pins b where
  sz := Nat.le_trans I.sz h
  loc := (Nat.ne_of_lt (Nat.lt_of_lt_of_le I.lt h)).symm
  cell := fun x c e => by
    obtain ⟨v, o, ho, _⟩ := I.cell x c e
    exact Nat.ne_of_lt (Nat.lt_of_lt_of_le (Heap.lt_size ho) h)
  pin := fun p hp => Nat.ne_of_lt (Nat.lt_of_lt_of_le (Heap.lt_size (I.pin p hp).1) h)
  fr := fun z => by
    rcases List.mem_cons.mp (I.stkSub _ z) with e | e
    · have h1 := I.lt
      rw [← e] at h1
      exact Nat.lt_irrefl _ (Nat.lt_of_lt_of_le h1 h)
    · exact I.nofs h e
structure InLp (X : Cx) (pins : List (Addr × Obj)) (σ : L2.St) (Φ : Hp → Prop) (I S f : Addr) (fo : Obj) (s : Shared) : Prop where
  ex : ∃ H, Inv X pins σ H s ∧ Φ H ∧ H I = none ∧ H S = none ∧ H f = none
  fn : s.heap.get? f = some fo
section
variable {X : Cx} {pins : List (Addr × Obj)} {σ : L2.St} {Φ : Hp → Prop} {l I S f : Addr} {fo : Obj} {as : List Addr} {R : Result → Shared → Prop}
theorem InLp.turn {s : Shared} (L : InLp X pins σ Φ I S f fo s) {it : Addr} {h' : Heap} {t' : Nat} (hit : it = I ∨ it = S) (r : RawA X pins it) (ne : it ≠ f) (k : ∀ b o, b ≠ it → s.heap.get? b = some o → h'.get? b = some o) : InLp X pins σ Φ I S f fo { s with heap := h', toks := t' } := by
  obtain ⟨H, inv, φ, n1, n2, n3⟩ := L.ex
  refine ⟨⟨H, inv.turned (it := it) k ?_ r.loc (.inr r.sz) r.cell r.pin, φ, n1, n2, n3⟩, k _ _ ne.symm L.fn⟩
  rcases hit with rfl | rfl
  · exact n1
  · exact n2
def KeyI (X : Cx) (pins : List (Addr × Obj)) (σ : L2.St) (Φ : Hp → Prop) (f : Addr) (fo : Obj) (as : List Addr) (kf : Nat → Int) : Prop :=
  ∀ (i : Nat) (a : Addr), as[i]? = some a → ∀ (s : Shared) (H : Hp), Inv X pins σ H s → Φ H → H f = none → s.heap.get? f = some fo →
    wpAny (model X.prog X.w) X.A.in1 (call (.ref f) [.ref a]) (fun x s' => (∃ t, x = .int (kf i) t) ∧ ∃ H', Inv X pins σ H' s' ∧ Φ H' ∧ Un (frs X.stack) [] H H' s.heap s'.heap) (fun _ _ => False) s
theorem minL_loop (kf : Nat → Int) (hh : X.A.handled = none) (isL : ∀ s H, Inv X pins σ H s → Φ H → s.heap.IsList l (as.map Value.ref).toArray) (lI : l ≠ I) (SI : S ≠ I) (If : I ≠ f) (Sf : S ≠ f) (rI : RawA X pins I) (rS : RawA X pins S) (nf : f ∉ frs X.stack) (key : KeyI X pins σ Φ f fo as kf)
    (fin : ∀ i a s, as[i]? = some a → Lowest kf as.length i → InLp X pins σ Φ I S f fo s → R (.ok (.ret (.ref a))) s) :
    ∀ (r j i : Nat) (s : Shared) (ab : Addr) (tb : Tok) (c : Nat), as.length - (j + 1) = r → j + 1 ≤ as.length → InLp X pins σ Φ I S f fo s →
      s.heap.get? S = some (seqObj "list" #[.ref ab, .int (kf i) tb] c) → s.heap.IsListIter I l (j + 1) → as[i]? = some ab → i ≤ j → Lowest kf (j + 1) i →
      codeAny (model X.prog X.w) X.A (.builtin "min.loop" ⟨[.ref I, .ref f, .ref S], []⟩) R s := by
  have nm : (toString "min" ++ toString ".loop" : String) = "min.loop" := by decide
  have wk := Walks.list (prog := X.prog) (w := X.w) (A := X.A.in1) hh I l lI (as.map Value.ref).toArray
  have sz : (as.map Value.ref).toArray.size = as.length := by simp
  intro r
  induction r with
  | zero =>
    intro j i s ab tb c er jl L gS it ev ij top
    have last : j + 1 = as.length := by omega
    refine codeAny_builtin PySem.F.entry_min_loop ?_
    rw [Around.under_plainId PySem.F.plain_min_loop _]
    show wpAny _ X.A.in1 (seqItems? (Value.ref S) >>= _) _ _ _
    refine wpAny_bind (wpAny_seqItems gS rfl ?_)
    show wpAny _ X.A.in1 (tryCatch (pyNext (Value.ref I)) _ >>= _) _ _ _
    refine wpAny_bind (wpAny_tryCatch (wk.done _ _ _ ⟨by rw [sz, ← last]; exact it, by
      obtain ⟨H, inv, φ, _⟩ := L.ex
      exact isL _ _ inv φ⟩ fun h1 tk1 k1 => ?_))
    have k1' : ∀ b o, b ≠ I → s.heap.get? b = some o → h1.get? b = some o := fun b o nb e => k1 b o (fun z => nb (List.mem_singleton.mp z)) e
    have L1 := L.turn (t' := tk1) (.inl rfl) rI If k1'
    have gS1 := k1' S _ SI gS
    have u1 := Heap.SameBut.update h1 S (Obj.mapSeq (fun _ => (#[] : Array Value)))
    show wpAny _ X.A.in1 (updateSeq S (fun _ => #[]) >>= fun _ => _) _ _ _
    refine wpAny_bind (wpAny_updateSeq gS1 rfl (wpAny_bind (wpAny_letGo (wpAny_pure ?_))))
    exact fin i ab _ ev (by rw [← last]; exact top) (L1.turn (.inr rfl) rS Sf fun b o nb e => (u1.2 b nb).trans e)
  | succ r ih =>
    intro j i s ab tb c er jl L gS it ev ij top
    have more : j + 1 < as.length := by omega
    refine codeAny_builtin PySem.F.entry_min_loop ?_
    rw [Around.under_plainId PySem.F.plain_min_loop _]
    show wpAny _ X.A.in1 (seqItems? (Value.ref S) >>= _) _ _ _
    refine wpAny_bind (wpAny_seqItems gS rfl ?_)
    show wpAny _ X.A.in1 (tryCatch (pyNext (Value.ref I)) _ >>= _) _ _ _
    refine wpAny_bind (wpAny_tryCatch (wk.item (j + 1) _ _ _ (by rw [sz]; exact more) ⟨it, by
      obtain ⟨H, inv, φ, _⟩ := L.ex
      exact isL _ _ inv φ⟩ fun v h1 tk1 pv it1 k1 => ?_))
    obtain ⟨a1, ev1, rfl⟩ : ∃ a1, as[j + 1]? = some a1 ∧ v = Value.ref a1 := by
      have z : (as.map Value.ref)[j + 1]? = some v := by simpa using pv
      rw [List.getElem?_map] at z
      obtain ⟨a1, e1, e2⟩ := Option.map_eq_some_iff.mp z
      exact ⟨a1, e1, e2.symm⟩
    have k1' : ∀ b o, b ≠ I → s.heap.get? b = some o → h1.get? b = some o := fun b o nb e => k1 b o (fun z => nb (List.mem_singleton.mp z)) e
    have L1 := L.turn (t' := tk1) (.inl rfl) rI If k1'
    have gS1 := k1' S _ SI gS
    obtain ⟨oI, gI, cI, dI⟩ := it1.1
    obtain ⟨H1, inv1, φ1, nI1, nS1, nf1⟩ := L1.ex
    show wpAny _ X.A.in1 (tryCatch (holding [.ref a1] (call (Value.ref f) [.ref a1])) _ >>= _) _ _ _
    refine wpAny_bind (wpAny_tryCatch (wpAny_holding (wpAny_mono (key (j + 1) a1 ev1 _ H1 inv1 φ1 nf1 L1.fn) (fun x s2 hx => ?_) (fun _ _ no => no.elim))))
    obtain ⟨⟨t2, rfl⟩, H2, inv2, φ2, un⟩ := hx
    have gS2 : s2.heap.get? S = _ := un.keep S _ gS1 nS1 rS.fr (by simp)
    have gI2 : s2.heap.get? I = _ := un.keep I _ gI nI1 rI.fr (by simp)
    have gf2 : s2.heap.get? f = _ := un.keep f _ L1.fn nf1 nf (by simp)
    have L2' : InLp X pins σ Φ I S f fo s2 := ⟨⟨H2, inv2, φ2, un.free I _ gI nI1 (by simp), un.free S _ gS1 nS1 (by simp), un.free f _ L1.fn nf1 (by simp)⟩, gf2⟩
    show wpAny _ X.A.in1 (tryCatch (holding [.ref a1, Value.int (kf (j + 1)) t2] (richCompare .Lt (.int (kf (j + 1)) t2) (.int (kf i) tb) >>= _)) _ >>= _) _ _ _
    refine wpAny_bind (wpAny_tryCatch (wpAny_holding (wpAny_bind (CmpOf.ints_lt (prog := X.prog) (w := X.w) (A := X.A.in1) (P := fun n u => ∃ t, u = .int (kf n) t) kf (fun n u z => z) (j + 1) i _ _ _ _ _ ⟨t2, rfl⟩ ⟨tb, rfl⟩ ?_))))
    refine wpAny_bind (wpAny_holding (wpAny_truthy_bool (wpAny_bind (wpAny_letGo (wpAny_pure ?_)))))
    by_cases up : kf (j + 1) < kf i
    · have u1 := Heap.SameBut.update s2.heap S (Obj.mapSeq (fun _ => #[.ref a1, .int (kf (j + 1)) t2]))
      obtain ⟨c2, gS3⟩ : ∃ c2, (s2.heap.update S (Obj.mapSeq fun _ => #[.ref a1, .int (kf (j + 1)) t2])).get? S = some (seqObj "list" #[.ref a1, .int (kf (j + 1)) t2] c2) := ⟨_, get?_update_seq gS2 fun _ => _⟩
      simp only [up, decide_true, if_true]
      refine wpAny_bind (wpAny_updateSeq gS2 rfl (wpAny_bind (wpAny_letGo ?_)))
      rw [nm]
      refine wpAny_pure ⟨plainId_quiet PySem.F.plain_min_loop _, ih (j + 1) (j + 1) _ a1 t2 c2 (by omega) more (L2'.turn (.inr rfl) rS Sf fun b o nb e => (u1.2 b nb).trans e) gS3 ⟨oI, (u1.2 I SI.symm).trans gI2, cI, dI⟩ ev1 (Nat.le_refl _) fun n hn => ?_⟩
      by_cases e : n = j + 1
      · subst e
        exact ⟨Int.le_refl _, fun z => absurd z (Nat.lt_irrefl _)⟩
      · have := (top n (by omega)).1
        exact ⟨by omega, fun _ => by omega⟩
    · simp only [up, decide_false, Bool.false_eq_true, if_false]
      refine wpAny_bind (wpAny_letGo ?_)
      rw [nm]
      refine wpAny_pure ⟨plainId_quiet PySem.F.plain_min_loop _, ih (j + 1) i _ ab tb c (by omega) more (L2'.turn (.inr rfl) rS Sf fun b o nb e => e) gS2 ⟨oI, gI2, cI, dI⟩ ev (by omega) fun n hn => ?_⟩
      by_cases e : n = j + 1
      · subst e
        exact ⟨by omega, fun z => absurd z (by omega)⟩
      · exact top n (by omega)
theorem minL {s : Shared} {Q : Value → Shared → Prop} {E : Value → Shared → Prop} {H : Hp} (kf : Nat → Int) (inv : Inv X pins σ H s) (φ : Φ H) (hh : X.A.handled = none) (isL : ∀ s H, Inv X pins σ H s → Φ H → s.heap.IsList l (as.map Value.ref).toArray) (some1 : 0 < as.length) (hf : s.heap.get? f = some fo) (hn : H f = none) (nf : f ∉ frs X.stack) (key : KeyI X pins σ Φ f fo as kf)
    (fin : ∀ i a s H, as[i]? = some a → Lowest kf as.length i → Inv X pins σ H s → Φ H → Q (.ref a) s) :
    wpAny (model X.prog X.w) X.A (call (.builtin "min") [.ref l] [(Str.ofString "key", .ref f)]) Q E s := by
  have nm : (toString "min" ++ toString ".loop" : String) = "min.loop" := by decide
  have isL0 := isL s H inv φ
  have isL1 := isL0
  obtain ⟨ol, gl, _⟩ := isL1
  have ll : l < s.heap.objs.size := Heap.lt_size gl
  have lf : f < s.heap.objs.size := Heap.lt_size hf
  refine kmb_tree PySem.F.kind_min PySem.F.plain_min PySem.F.entry_min (kmb_min_key _ _) ?_
  show wpAny _ X.A.in1 (Builtin.Builtins.bindParams "min" ["key", "default"] 0 ⟨[], [(Str.ofString "key", Value.ref f)]⟩ >>= _) _ _ s
  refine wpAny_bind (wpAny_of_eq (show Builtin.Builtins.bindParams "min" ["key", "default"] 0 ⟨[], [(Str.ofString "key", Value.ref f)]⟩ = pure [some (.ref f), none] from rfl) ?_)
  refine wpAny_bind (wpAny_pure (wpAny_bind (wpAny_pyIter_list isL0 (wpAny_bind (wpAny_newList ?_ (Nat.zero_le _))))))
  rw [nm]
  have it0 := Heap.get?_push_size s.heap (o := { cls := .type "list_iterator", data := .fields #[.ref l, .int 0 0] }) rfl
  have z1 : (s.heap.push { cls := .type "list_iterator", data := .fields #[.ref l, .int 0 0] }).objs.size = s.heap.objs.size + 1 := Heap.size_push ..
  have k1 : Stay s.heap (s.heap.push { cls := .type "list_iterator", data := .fields #[.ref l, .int 0 0] }) := fun b o e => Heap.get?_push_of_some _ e
  generalize s.heap.push { cls := .type "list_iterator", data := .fields #[.ref l, .int 0 0] } = g1 at *
  have gS := Heap.get?_push_size g1 (o := seqObj "list" #[] 0) rfl
  have k2 : Stay g1 (g1.push (seqObj "list" #[] 0)) := fun b o e => Heap.get?_push_of_some _ e
  have gI := k2 _ _ it0
  generalize g1.push (seqObj "list" #[] 0) = g2 at *
  rw [z1] at gS ⊢
  have st2 : Stay s.heap g2 := fun b o e => k2 b o (k1 b o e)
  have SI : s.heap.objs.size + 1 ≠ s.heap.objs.size := Nat.succ_ne_self _
  have lI : l ≠ s.heap.objs.size := Nat.ne_of_lt ll
  have If : s.heap.objs.size ≠ f := (Nat.ne_of_lt lf).symm
  have Sf : s.heap.objs.size + 1 ≠ f := (Nat.ne_of_lt (Nat.lt_succ_of_lt lf)).symm
  have rI : RawA X pins s.heap.objs.size := RawA.of inv (Nat.le_refl _)
  have rS : RawA X pins (s.heap.objs.size + 1) := RawA.of inv (Nat.le_succ _)
  have L0 : InLp X pins σ Φ s.heap.objs.size (s.heap.objs.size + 1) f fo { s with heap := g2 } := ⟨⟨H, inv.kept st2, φ, inv.hok.fresh (Nat.le_refl _), inv.hok.fresh (Nat.le_succ _), hn⟩, st2 _ _ hf⟩
  have wk := Walks.list (prog := X.prog) (w := X.w) (A := X.A.in1) hh s.heap.objs.size l lI (as.map Value.ref).toArray
  have sz : (as.map Value.ref).toArray.size = as.length := by simp
  refine wpAny_pure ⟨plainId_quiet PySem.F.plain_min_loop _, codeAny_builtin PySem.F.entry_min_loop ?_⟩
  rw [Around.under_plainId PySem.F.plain_min_loop _]
  show wpAny _ X.A.in1 (seqItems? (Value.ref _) >>= _) _ _ _
  refine wpAny_bind (wpAny_seqItems gS rfl ?_)
  show wpAny _ X.A.in1 (tryCatch (pyNext (Value.ref s.heap.objs.size)) _ >>= _) _ _ _
  refine wpAny_bind (wpAny_tryCatch (wk.item 0 _ _ _ (by rw [sz]; exact some1) ⟨⟨_, gI, rfl, rfl⟩, isL_stay st2 isL0⟩ fun v h1 tk1 pv it1 kk => ?_))
  obtain ⟨a1, ev1, rfl⟩ : ∃ a1, as[0]? = some a1 ∧ v = Value.ref a1 := by
    have z : (as.map Value.ref)[0]? = some v := by simpa using pv
    rw [List.getElem?_map] at z
    obtain ⟨a1, e1, e2⟩ := Option.map_eq_some_iff.mp z
    exact ⟨a1, e1, e2.symm⟩
  have kk' : ∀ b o, b ≠ s.heap.objs.size → g2.get? b = some o → h1.get? b = some o := fun b o nb e => kk b o (fun z => nb (List.mem_singleton.mp z)) e
  have L1 := L0.turn (t' := tk1) (.inl rfl) rI If kk'
  have gS1 := kk' _ _ SI gS
  obtain ⟨oI, gI1, cI, dI⟩ := it1.1
  obtain ⟨H1, inv1, φ1, nI1, nS1, nf1⟩ := L1.ex
  show wpAny _ X.A.in1 (tryCatch (holding [.ref a1] (call (Value.ref f) [.ref a1])) _ >>= _) _ _ _
  refine wpAny_bind (wpAny_tryCatch (wpAny_holding (wpAny_mono (key 0 a1 ev1 _ H1 inv1 φ1 nf1 L1.fn) (fun x s2 hx => ?_) (fun _ _ no => no.elim))))
  obtain ⟨⟨t2, rfl⟩, H2, inv2, φ2, un⟩ := hx
  have gS2 := un.keep _ _ gS1 nS1 rS.fr (by simp)
  have gI2 := un.keep _ _ gI1 nI1 rI.fr (by simp)
  have gf2 := un.keep f _ L1.fn nf1 nf (by simp)
  have L2' : InLp X pins σ Φ s.heap.objs.size (s.heap.objs.size + 1) f fo s2 := ⟨⟨H2, inv2, φ2, un.free _ _ gI1 nI1 (by simp), un.free _ _ gS1 nS1 (by simp), un.free f _ L1.fn nf1 (by simp)⟩, gf2⟩
  have u1 := Heap.SameBut.update s2.heap (s.heap.objs.size + 1) (Obj.mapSeq (fun _ => #[.ref a1, .int (kf 0) t2]))
  obtain ⟨c2, gS3⟩ : ∃ c2, (s2.heap.update (s.heap.objs.size + 1) (Obj.mapSeq fun _ => #[.ref a1, .int (kf 0) t2])).get? (s.heap.objs.size + 1) = some (seqObj "list" #[.ref a1, .int (kf 0) t2] c2) := ⟨_, get?_update_seq gS2 fun _ => _⟩
  show wpAny _ X.A.in1 (updateSeq (s.heap.objs.size + 1) (fun _ => #[.ref a1, .int (kf 0) t2]) >>= _) _ _ _
  refine wpAny_bind (wpAny_updateSeq gS2 rfl ?_)
  rw [nm]
  refine wpAny_pure ⟨plainId_quiet PySem.F.plain_min_loop _, minL_loop kf hh isL lI SI If Sf rI rS nf key (fun i a s' e low L => ?_) _ 0 0 _ a1 t2 c2 rfl some1 (L2'.turn (.inr rfl) rS Sf fun b o nb e => (u1.2 b nb).trans e) gS3 ⟨oI, (u1.2 _ SI.symm).trans gI2, cI, dI⟩ ev1 (Nat.le_refl _) fun n hn => ?_⟩
  · obtain ⟨H', inv', φ', _⟩ := L.ex
    exact fin i a s' H' e low inv' φ'
  · have e : n = 0 := by omega
    subst e
    exact ⟨Int.le_refl _, fun z => absurd z (Nat.lt_irrefl _)⟩
end

/-- all but what stands at P stays -/
abbrev ButAt (P : Addr) (H H' : Hp) : Prop := ∀ b o, b ≠ P → H b = some o → H' b = some o
/-- the lambda is made: nothing but its maker's table changes -/
theorem lam_make3 {X : Cx} {pins : List (Addr × Obj)} {σ : L2.St} {H : Hp} {s : Shared} {c P : Addr} {params : Arguments} {body : Expr} {scope : Scope} {pos : Pos} {E : Value → Shared → Prop} {Q : Value → Shared → Prop} (I : Inv X pins σ H s) (TB : LamX.TabB X.base X.mg c P) (hcode : X.env.code = .ref c)
    (tab : LamX.TabS H P (X.env.qual ++ "<lambda>")) (hdef : defaultsOf params X.env = ([], [])) (caps : ∀ y ∈ scope.names, y.2 = .free → ∃ c, X.env.cells.lookup y.1 = some c)
    (fin : ∀ (f c' : Addr) (pm ctv : Value) (H1 : Hp) (s' : Shared), Inv X pins σ H1 s' → ButAt P H H1 → LamX.TabS H1 P (X.env.qual ++ "<lambda>") →
      s'.heap.get? f = some (PySem.W.kla_obj "<lambda>" (X.env.qual ++ "<lambda>") params body scope (cloFrom X.env.cells scope.names []) pm c' ctv) → H1 f = none → f ∉ frs X.stack → H1 c' = some (LamX.CodeO c' (X.env.qual ++ "<lambda>")) → Q (.ref f) s') :
    wpAny (model X.prog X.w) X.A (eval (.Lambda params body scope pos) X.env) Q E s := by
  obtain ⟨ps, hP, tri, known⟩ := tab
  have raw : s.heap.get? P = some { cls := .none, data := .fields ps } := I.hok P _ hP
  have glob := I.mod.glob.keeps I.bk
  have code := TB.code.keeps I.bk
  have bm := TB.bm.keeps I.bk
  apply PySem.W.kla_eval hdef
  cases found : codeAmong pos ps.toList with
  | some cv =>
    obtain ⟨c', rfl, co⟩ := known pos cv found
    apply PySem.W.kla_makeFunctionHit (closure_ok caps) I.ok.glob glob hcode code raw tri found bm
    intro ctv h' tk keep size
    exact fin _ c' _ ctv H _ (I.kept fun b o e => Heap.get?_push_of_some _ (keep b o e)) (fun _ _ _ e => e) ⟨ps, hP, tri, known⟩ (Heap.get?_push_size _ rfl) (I.hok.fresh size) (RawA.of I size).fr co
  | none =>
    apply PySem.W.kla_makeFunction (closure_ok caps) I.ok.glob glob hcode code raw tri found TB.gP bm
    intro c' ctv h' tk ext old lt rec grown
    obtain ⟨_, oc, vs, t, e2, hoc, hd, hv⟩ := rec
    cases e2
    have size : s.heap.objs.size ≤ h'.objs.size := Nat.le_trans old (Nat.le_of_lt lt)
    have nC : H c' = none := I.hok.fresh old
    have PC : P ≠ c' := ne_of_none hP nC
    have J := LamX.inv_table (t' := tk) (more := #[rawInt pos.line, rawInt pos.col, .ref c']) (h' := h'.push (PySem.W.kla_obj "<lambda>" (X.env.qual ++ "<lambda>") params body scope (cloFrom X.env.cells scope.names []) ((X.mg "__name__").getD .none) c' ctv)) I hP
      (fun b o nb e => Heap.get?_push_of_some _ (ext b o nb e)) (Heap.get?_push_of_some _ grown) old ⟨oc, vs, t, Heap.get?_push_of_some _ hoc, hd, hv⟩
    have but : ButAt P H (upd (upd H P (.tbl (ps ++ #[rawInt pos.line, rawInt pos.col, .ref c']))) c' (LamX.CodeO c' (X.env.qual ++ "<lambda>"))) := fun b o nb e => by
      rw [upd_ne (ne_of_none e nC), upd_ne nb]
      exact e
    have asList : (ps ++ #[rawInt pos.line, rawInt pos.col, .ref c']).toList = ps.toList ++ [rawInt pos.line, rawInt pos.col, .ref c'] := by simp
    refine fin h'.objs.size c' _ ctv _ _ J but ⟨_, (upd_ne PC).trans upd_same, ?_, fun pos' cv hc => ?_⟩ (Heap.get?_push_size _ rfl) ?_ (RawA.of I size).fr upd_same
    · rw [asList]
      exact PySem.TriplesOk_snoc _ _ _ _ tri
    · rw [asList] at hc
      rcases LamX.among_app _ tri hc with z | z
      · obtain ⟨c0, q1, q2⟩ := known pos' cv z
        refine ⟨c0, q1, but _ _ (fun w => ?_) q2⟩
        rw [w, hP] at q2
        exact LamX.codeO_ne ps (Option.some.inj q2).symm
      · exact ⟨c', z, upd_same⟩
    · rw [upd_ne (Nat.ne_of_gt lt), upd_ne (Nat.ne_of_gt (Nat.lt_of_lt_of_le (Heap.lt_size raw) size))]
      exact I.hok.fresh size
/-- min(xs, key=lambda par: body), xs a list of objects; body makes ints and changes nothing that stands -/
def tMinLam (P : Addr) (q : Str) (i : Nat) (ta : TA) (tb : TE) : TE := fun σ H Q => ta σ H fun vs H1 => ∃ (a : Addr) (as : List Addr) (kf : Nat → Int) (cv : V), vs = [.ref a] ∧ H1 a = some (.lst (as.map V.ref)) ∧ 0 < as.length ∧ LamX.TabS H1 P q ∧ σ[i]? = some (some cv) ∧
  ∀ H2, ButAt P H1 H2 → LamX.TabS H2 P q → (∀ (j : Nat) (b : Addr) (H' : Hp), as[j]? = some b → Same H2 H' → tb [some cv, some (.ref b)] H' fun v H'' => v = .int (kf j) ∧ Same H' H'') ∧
    ∀ (j : Nat) (b : Addr) (H' : Hp), as[j]? = some b → Lowest kf as.length j → Same H2 H' → Q (.ref b) H'
theorem vals_refs : ∀ {as : List Addr} {us : List Value}, Vals (as.map V.ref) us → us = as.map Value.ref
  | [], _, .nil => rfl
  | a :: as, _, .cons r t => by
    cases r
    rw [vals_refs t] <;> rfl
theorem pe_minLam {X : Cx} {c P : Addr} {k : Nat} {e : Expr} {params : Arguments} {body : Expr} {scope : Scope} {cap par : Str} {p kp lpos pos : Pos} {ta : TA} {tb : TE} (i : Nat) (hc : X.calm = true) (hg : Gl X "min") (hm : X.mg "min" = none) (hr : Room (k + 2) X.A) (TB : LamX.TabB X.base X.mg c P) (hcode : X.env.code = .ref c)
    (L : Lam1 X.env.scope scope cap par) (hi : X.N[i]? = some cap) (hdef : defaultsOf params X.env = ([], []))
    (hbind : ∀ (q : Str) (cl : List (Str × Addr)) (pm cv ctv u : Value), bindArgs (PySem.W.kla_fn "<lambda>" q params body scope cl pm cv ctv) ⟨[u], []⟩ = pure [(par, u)]) (ha : PA X [e] ta)
    (hbody : ∀ (A : Around) (s : Shared) (H : Hp) (f c' : Addr), Room k (A.deeper (LamX.lamEnv X scope s.heap.objs.size f c')) → PE (lamCx1 X A s H scope cap par f c') body tb)
    (he : backTo pos (starEach [e] X.env) = (false, eval e X.env) :: backTo pos (starEach [] X.env) := by rfl) (hpl : (backTo pos (starEach [e] X.env)).any (·.1) = false := by rfl) :
    PE X (.Call (.Name "min" p) [e] [⟨some "key", .Lambda params body scope lpos, kp⟩] pos) (tMinLam P (X.env.qual ++ "<lambda>") i ta tb) := by
  refine ⟨fun pins s σ H Q I h => ?_⟩
  refine wpAny_Call_Name_kw (ld_blt (u := .builtin "min") I hg hm (by decide +kernel) ?_)
  refine PyProof.Rows.callWith_kw (thn (ha.run pos pins s σ H _ I h) fun us s1 ⟨vs, H1, I1, r1, q1⟩ => ?_) he hpl (by rfl) (by rfl)
  show wpAny _ _ (evalAll [(do let v ← eval (.Lambda params body scope lpos) X.env; standAt pos; pure v)]) _ _ s1
  obtain ⟨a, as, kf, cv, rfl, hl, pos1, tab, hσ, hq⟩ := q1
  rw [Vals.ref1 r1]
  refine wpAny_evalAll_cons (wpAny_bind (lam_make3 I1 TB hcode tab hdef (L.has I1.ok) fun f c' pm ctv H2 s2 I2 eN T2 hf hfn hfr hco => ?_))
  refine wpAny_bind (wpAny_standAt (wpAny_pure (wpAny_evalAll_nil ?_)))
  obtain ⟨k1, k2⟩ := hq H2 eN T2
  have hl2 : H2 a = some (.lst (as.map V.ref)) := eN _ _ (fun z => by
    obtain ⟨ps, h4, _⟩ := tab
    rw [z, h4] at hl
    cases hl) hl
  refine minL (Φ := fun H' => Same H2 H') (as := as) (f := f) (H := H2) kf I2 (Same.refl _) (I2.ok.hd hc) (fun s H inv φ => ?_) pos1 hf hfn hfr (fun j b eb s H inv φ hn hg => ?_) fun j b s H eb low inv φ => ⟨.ref b, H, inv, rfl, k2 j b H eb low φ⟩
  · obtain ⟨its, rv, isL, _⟩ := inv.list (SqL.of (φ _ _ hl2))
    rw [vals_refs rv] at isL
    exact isL.isList
  · refine wpAny_mono (lam_call1 (A := X.A.in1) (pv := .ref b) (u := .ref b) inv L hi hσ inv.ok.frames hr.in1 hg (φ _ _ hco) (hbind _ _ _ _ _ _) (fun hr' => hbody _ _ _ _ _ hr') rfl (k1 j b H eb φ)) (fun x s' hx => ?_) fun _ _ no => no
    obtain ⟨v, H', inv', rv, ⟨rfl, sm⟩, un⟩ := hx
    exact ⟨rv, H', inv', φ.trans sm, un⟩

/-! ### the end of a law row of the quiet kind whose program makes a lambda: its maker's table of code objects stands empty at the start -/
abbrev emptyTab : Obj := { cls := .none, data := .fields #[] }
/-- H tells the script and the table, nothing else -/
structure Start (P : Program) (w : World) (K : PySem.W.Frag) (h : Heap) (a T : Addr) (H : Hp) : Prop where
  tab : H T = some (.tbl #[])
  ok : HOk P w H h
  only : ∀ b u, H b = some u → (b = T ∧ u = .tbl #[]) ∨ (b = a ∧ K.lookup b = none ∧ ∃ o xs, u = .frz o (.lst xs))
theorem Start.untold {P : Program} {w : World} {K : PySem.W.Frag} {h : Heap} {a T : Addr} {H : Hp} (S : Start P w K h a T H) {b : Addr} (h1 : b ≠ T) (h2 : b ≠ a) : H b = none := by
  cases q : H b with
  | none => rfl
  | some u =>
    rcases S.only b u q with z | z
    · exact absurd z.1 h1
    · exact absurd z.1 h2
theorem quiet_lawT {P : Program} {w : World} {K : PySem.W.Frag} {mg mb : Str → Option Value} {k : Nat} {fa a c T : Addr} {fd : FuncData} {x : Str} {sp : Sp} {s₁ : Shared} {vs : List Value} {ns : List Int}
    (inK : K.In s₁.heap) (glob : s₁.heap.Ns mainGlobals mg) (blt : s₁.heap.Ns builtinsNs mb) (bltIs : ∀ y : Str, y ≠ "__name__" → mb y = bootBuiltins y) (lim : s₁.heap.NoLimit) (gens : s₁.gens = #[]) (mods : ∃ mm, s₁.heap.Ns sysModules mm)
    (tab : s₁.heap.get? T = some emptyTab) (noT : K.lookup T = none) (code : PySem.W.CodeHd s₁.heap c T)
    (bmain : ∃ (bm : Addr) (ob : Obj), mg "__builtins__" = some (.ref bm) ∧ bm ≠ builtinsNs ∧ s₁.heap.get? bm = some ob ∧ ob.cls = .type "module" ∧ ob.dict = some builtinsNs ∧ ob.data = .plain)
    (here : s₁.heap.get? a = some { cls := .type "list", data := .seq vs.toArray }) (whole : IntsAre vs ns) (few : ns.length ≤ sizeLine) (room : Room k callerA)
    (F : ∀ base : Heap, K.In base → base.Ns mainGlobals mg → (∃ mm, base.Ns sysModules mm) → LamX.TabB base mg c T → FnG P w K mg base k fa fd [x] sp) (bind : ∀ (s : Shared) (u : Value), BindsTo s fd ⟨[u], []⟩ [(x, u)])
    (want : ∀ H : Hp, H T = some (.tbl #[]) → SqL K H a (ns.map V.int) → sp [.ref a] H (fun v _ => v = .bl true) E0) :
    codeAny (model P w) callerA (.call (.ref fa) ⟨[.ref a], []⟩) (fun r s' => r = .ok (.ret (.bool true)) ∧ OldK s₁.heap s'.heap ∧ s'.os = s₁.os ∧ AllBare s'.gens) s₁ := by
  have rel := vals_ints whole
  have aT : a ≠ T := fun z => by
    have q := tab
    rw [← z, here] at q
    injection q with q
    exact nomatch congrArg Obj.data q
  have main : ∀ H : Hp, Start P w K s₁.heap a T H → SqL K H a (ns.map V.int) →
      codeAny (model P w) callerA (.call (.ref fa) ⟨[.ref a], []⟩) (fun r s' => r = .ok (.ret (.bool true)) ∧ OldK s₁.heap s'.heap ∧ s'.os = s₁.os ∧ AllBare s'.gens) s₁ := by
    intro H S sq
    -- what is neither a list nor a table's empty fields is not told
    have plainO : ∀ {b o}, s₁.heap.get? b = some o → (∀ ys n, o.data ≠ .seq ys n) → o.data ≠ .fields #[] → (hidT s₁.heap H).get? b = some o := fun {b o} e h1 h2 => hidT_get e (S.untold (fun z => by
        rw [z, tab] at e
        cases e
        exact h2 rfl) fun z => by
        rw [z, here] at e
        cases e
        exact h1 _ _ rfl)
    have ns1 : ∀ {b m}, s₁.heap.Ns b m → (hidT s₁.heap H).Ns b m := by
      rintro b m ⟨o, es, ep, e, d, r⟩
      refine ⟨o, es, ep, plainO e (fun ys n z => ?_) (fun z => ?_), d, r⟩
      · rw [d] at z
        cases z
      · rw [d] at z
        cases z
    have kIn : K.In (hidT s₁.heap H) := by
      intro b o e
      refine hidT_get (inK b o e) ?_
      cases q : H b with
      | none => rfl
      | some u =>
        rcases S.only b u q with z | z
        · rw [z.1, noT] at e
          cases e
        · rw [z.2.1] at e
          cases e
    have lim1 : (hidT s₁.heap H).NoLimit := by
      obtain ⟨mc, h1, h2⟩ := lim
      exact ⟨mc, ns1 h1, h2⟩
    have code1 : PySem.W.CodeHd (hidT s₁.heap H) c T := by
      obtain ⟨o, us, file, tf, flags, tg, inF, text, tt, e1, r1, r2, r3, rr⟩ := code
      refine ⟨o, us, file, tf, flags, tg, inF, text, tt, plainO e1 (fun ys n z => ?_) (fun z => ?_), r1, r2, r3, rr⟩
      · rw [r2] at z
        cases z
      · rw [r2] at z
        cases z
        cases r3
    have table : LamX.TabB (hidT s₁.heap H) mg c T := by
      refine ⟨code1, ?_, fun z => ?_⟩
      · obtain ⟨bm, ob, b1, b2, b3, b4, b5, b6⟩ := bmain
        refine ⟨bm, ob, b1, b2, fun z => ?_, fun z => ?_, plainO b3 (fun ys n z => ?_) (fun z => ?_), b4, b5, b6⟩
        · obtain ⟨o, es, ep, e, d, _⟩ := glob
          rw [z, e] at b3
          cases b3
          rw [d] at b6
          cases b6
        · rw [z, tab] at b3
          cases b3
          cases b6
        · rw [b6] at z
          cases z
        · rw [b6] at z
          cases z
      · obtain ⟨o, es, ep, e, d, _⟩ := glob
        rw [z, tab] at e
        cases e
        cases d
    have e0 : Env0 P w K mg (hidT s₁.heap H) callerA [] s₁ H := {
      frames := rfl, mod := ⟨kIn, ns1 glob, ⟨mb, ns1 blt, bltIs⟩, lim1⟩, bs := fun _ _ e => of_hidT e, bsz := Nat.le_of_eq (hidT_size _ _), funs := True.intro, frf := (fun _ hb => nomatch hb), hok := S.ok, bare := .of_eq gens }
    apply codeAny_mono ((F _ kIn (ns1 glob) (mods.elim fun mm h => ⟨mm, ns1 h⟩) table).go (us := [.ref a]) (vs := [.ref a]) room rfl e0 (bind s₁ _) (.cons rfl .nil) (want H S.tab sq))
    intro r s' hr
    match r, hr with
    | .error _, hr => exact hr.elim
    | .ok .next, hr => exact False.elim hr
    | .ok .brk, hr => exact False.elim hr
    | .ok .cont, hr => exact False.elim hr
    | .ok (.ret u), hr =>
      obtain ⟨v, H', os, bare, un, ok', rv, q⟩ := hr
      cases (show v = V.bl true from q)
      cases (show u = Value.bool true from rv)
      obtain ⟨more, grown⟩ := un.tbls T #[] S.tab
      have gT := ok' T _ grown
      have rest : ∀ b o, b ≠ T → s₁.heap.get? b = some o → s'.heap.get? b = some o := by
        intro b o nb e
        cases q : H b with
        | none => exact un.keep b o e q (fun z => nomatch z) (fun z => nomatch z)
        | some u =>
          rcases S.only b u q with z | ⟨_, _, ob, xs, rfl⟩
          · exact absurd z.1 nb
          · have e1 := (S.ok b _ q).1
            have e2 := (ok' b _ (un.frzs b ob _ q)).1
            rw [e] at e1
            cases e1
            exact e2
      refine ⟨rfl, ⟨fun b o e => ?_, fun b o e => ?_⟩, os, bare⟩
      · by_cases hb : b = T
        · subst hb
          rw [tab] at e
          cases e
          exact .inr (.inl ⟨(code.tab tab).isCodeTable, rfl, #[], more, rfl, gT⟩)
        · exact .inl (rest b o hb e)
      · by_cases hb : b = T
        · subst hb
          exact ⟨_, gT⟩
        · exact ⟨o, rest b o hb e⟩
  have small : (ns.map V.int).length ≤ sizeLine := by rw [List.length_map]; exact few
  cases known : K.lookup a with
  | some o =>
    have e := inK a o known
    rw [here] at e
    cases e
    have sz : vs.length ≤ sizeLine := by rw [← rel.length]; exact small
    have H0 : ∀ {b u}, (if b = T then some (HO.tbl #[]) else none) = some u → b = T ∧ u = .tbl #[] := by
      intro b u z
      by_cases hb : b = T
      · rw [if_pos hb] at z
        cases z
        exact ⟨hb, rfl⟩
      · rw [if_neg hb] at z
        cases z
    refine main (fun b => if b = T then some (.tbl #[]) else none) ⟨if_pos rfl, fun b u z => ?_, fun b u z => .inl (H0 z)⟩ (.inr ⟨_, vs.toArray, _, known, rfl, rfl, rfl, by simpa using sz, by simpa using rel⟩)
    obtain ⟨rfl, rfl⟩ := H0 z
    exact tab
  | none =>
    have H1 : ∀ {b u}, (if b = T then some (HO.tbl #[]) else if b = a then some (HO.frz { cls := .type "list", data := .seq vs.toArray } (.lst (ns.map V.int))) else none) = some u → (b = T ∧ u = .tbl #[]) ∨ (b = a ∧ u = HO.frz { cls := .type "list", data := .seq vs.toArray } (.lst (ns.map V.int))) := by
      intro b u z
      by_cases hb : b = T
      · rw [if_pos hb] at z
        cases z
        exact .inl ⟨hb, rfl⟩
      · rw [if_neg hb] at z
        by_cases hc : b = a
        · rw [if_pos hc] at z
          cases z
          exact .inr ⟨hc, rfl⟩
        · rw [if_neg hc] at z
          cases z
    refine main (fun b => if b = T then some (.tbl #[]) else if b = a then some (.frz { cls := .type "list", data := .seq vs.toArray } (.lst (ns.map V.int))) else none) ⟨if_pos rfl, fun b u z => ?_, fun b u z => ?_⟩ (.inl (.inr ⟨{ cls := .type "list", data := .seq vs.toArray }, (if_neg aT).trans (if_pos rfl)⟩))
    · rcases H1 z with ⟨rfl, rfl⟩ | ⟨rfl, rfl⟩
      · exact tab
      · exact ⟨here, small, vs, _, rel, here⟩
    · rcases H1 z with z | ⟨rfl, rfl⟩
      · exact .inl z
      · exact .inr ⟨rfl, known, _, _, rfl⟩
theorem quiet_walkT {l : PySem.W.OpenLaw} {n k : Nat} {q : Program} {loose : List Str} {XP : (Str → Option Value) → Heap → Prop} {YP : World → Heap → Prop} {d : DefRec} {K : Params → PySem.W.Frag} {x : Str}
    (noImport : importsNone q = true) (most : l.most = some n) (n2 : n ≤ sizeLine) (defaults : d.params.defaults = []) (room : Room k callerA) (hY : ∀ (w : World) (h : Heap), YP w h → (K w.params).In h)
    (F : ∀ (w : World) (mg : Str → Option Value) (fa : Addr) (h : Heap), (K w.params).In h → h.Ns mainGlobals mg → mg d.name = some (.ref fa) → (∀ (d' : DefRec) (y : Str) (c P : Addr), (recsOf q).find? (fun e => e.name == y) = some d' → PySem.W.tabIn (K w.params) y = some (c, P) → PySem.W.CodeHd h c P ∧ h.get? P = some emptyTab) →
      ∃ (fd : FuncData) (c T : Addr) (sp : Sp), PySem.W.CodeHd h c T ∧ h.get? T = some emptyTab ∧ (K w.params).lookup T = none ∧ (∀ (s : Shared) (u : Value), BindsTo s fd ⟨[u], []⟩ [(x, u)]) ∧
        (∀ (H : Hp) (a : Addr) (ns : List Int), ns.length ≤ n → H T = some (.tbl #[]) → SqL (K w.params) H a (ns.map V.int) → sp [.ref a] H (fun v _ => v = .bl true) E0) ∧
        ∀ base : Heap, (K w.params).In base → base.Ns mainGlobals mg → (∃ mm, base.Ns sysModules mm) → LamX.TabB base mg c T → FnG l.prog w (K w.params) mg base k fa fd [x] sp) :
    PySem.W.WalkO q loose XP YP l.row.toRowW d [] (fun f vs => PySem.call f vs) := by
  apply Att.attach_call most defaults
  intro w s₀ s₁ mg mb fa o pm cd doc a vs ns G Y ho hd hcd hmg hobj hints hlen hg
  obtain ⟨fd, c, T, sp, code, tab, noT, hb, want, hF⟩ := F w mg fa _ (hY w _ Y) G.T.g hmg fun d' y c P h1 h2 => PySem.W.tab_of G.T (hY w _ Y) h1 h2
  exact quiet_lawT (hY w _ Y) G.T.g G.T.b G.T.builtins G.T.nolimit hg ((G.T.seer noImport).mods.elim fun mm h => ⟨mm, h.1⟩) tab noT code G.T.bmain hobj hints (Nat.le_trans hlen n2) room hF hb fun H o1 s1 => want H a ns hlen o1 s1
theorem tabIn_of {K : PySem.W.Frag} {y : Str} {f cc T : Addr} {o1 p1 : Value} {o2 p2 : Option Addr} {fd : FuncData} {vs : Array Value} {o3 p3 : Array (Option Value)} (a : PySem.W.nsIn K mainGlobals y = some (some (.ref f))) (l : K.lookup f = some ⟨o1, o2, .func fd, o3⟩) (e : fd.code = .ref cc)
    (c : K.lookup cc = some ⟨p1, p2, .fields vs, p3⟩) (v : (vs[11]? : Option Value) = some (.ref T)) : PySem.W.tabIn K y = some (cc, T) := by
  unfold PySem.W.tabIn
  rw [a]
  simp only [l, e, c, v]
theorem endT {l : PySem.W.OpenLaw} {w : World} {K : PySem.W.Frag} {mg : Str → Option Value} {h : Heap} {q : Program} {k n : Nat} {fa : Addr} {x y : Str} {sp : Sp} {f cc T : Addr} {o1 p1 : Value} {o2 p2 : Option Addr} {fdm : FuncData} {vs : Array Value} {o3 p3 : Array (Option Value)}
    (tabOf : ∀ (d' : DefRec) (y : Str) (c P : Addr), (recsOf q).find? (fun e => e.name == y) = some d' → PySem.W.tabIn K y = some (c, P) → PySem.W.CodeHd h c P ∧ h.get? P = some emptyTab)
    (a : PySem.W.nsIn K mainGlobals y = some (some (.ref f))) (lk : K.lookup f = some ⟨o1, o2, .func fdm, o3⟩) (e : fdm.code = .ref cc) (c : K.lookup cc = some ⟨p1, p2, .fields vs, p3⟩) (v : (vs[11]? : Option Value) = some (.ref T))
    (there : ((recsOf q).find? fun e => e.name == y).isSome = true) (noT : (K.lookup T).isNone = true)
    (all : ∃ fd : FuncData, (∀ (s : Shared) (v : Value), BindsTo s fd ⟨[v], []⟩ [(x, v)]) ∧ ∀ base : Heap, K.In base → base.Ns mainGlobals mg → (∃ mm, base.Ns sysModules mm) → LamX.TabB base mg cc T → FnG l.prog w K mg base k fa fd [x] sp)
    (want : ∀ (H : Hp) (a : Addr) (ns : List Int), ns.length ≤ n → H T = some (.tbl #[]) → SqL K H a (ns.map V.int) → sp [.ref a] H (fun v _ => v = .bl true) E0) :
    ∃ (fd : FuncData) (c T : Addr) (sp : Sp), PySem.W.CodeHd h c T ∧ h.get? T = some emptyTab ∧ K.lookup T = none ∧ (∀ (s : Shared) (u : Value), BindsTo s fd ⟨[u], []⟩ [(x, u)]) ∧
        (∀ (H : Hp) (a : Addr) (ns : List Int), ns.length ≤ n → H T = some (.tbl #[]) → SqL K H a (ns.map V.int) → sp [.ref a] H (fun v _ => v = .bl true) E0) ∧
        ∀ base : Heap, K.In base → base.Ns mainGlobals mg → (∃ mm, base.Ns sysModules mm) → LamX.TabB base mg c T → FnG l.prog w K mg base k fa fd [x] sp := by
  obtain ⟨fd, b, F⟩ := all
  obtain ⟨d', hd⟩ := Option.isSome_iff_exists.mp there
  obtain ⟨code, tab⟩ := tabOf d' y cc T hd (tabIn_of a lk e c v)
  exact ⟨fd, cc, T, sp, code, tab, Option.isNone_iff_eq_none.mp noT, b, want, F⟩

/-! ### the def that makes a lambda: its code object, the table at P -/
abbrev TabH (base : Heap) (mg : Str → Option Value) (fd : FuncData) (P : Addr) : Prop := ∃ c, LamX.TabB base mg c P ∧ fd.code = .ref c
theorem okC {P : Program} {w : World} {K : PySem.W.Frag} {mg : Str → Option Value} {base : Heap} {x qual : Str} {st : Stmt} {f : Addr} {fd : FuncData} {N ps : List Str} {k : Nat} {sp : Sp} (F : Fun K x qual st f fd) (S : FnScope N ps (defScope st)) (len : ∀ vs H Q E, sp vs H Q E → vs.length = ps.length)
    (body : ∀ (cdv : Value), fd.code = cdv → ∀ (A : Around) (outer : List Env) (s : Shared) (H : Hp) (vs : List V) (Q : VK) (E : XK), Room k (A.deeper (envOfC qual (defScope st) s.heap.objs.size f cdv)) → sp vs H Q E →
      ∃ t, PSs (cxOf CX0 P w K mg base N qual (defScope st) f cdv A outer s H E).nox (defBody st) t ∧ t { nx := fun _ H' => Q .non H', rt := Q } (start N vs) H) : FnOk P w K mg base CX0 (k + 1) f fd ps sp := by
  obtain ⟨oc, od, kV, doc, pm, an, cdv, ct, osl, e, look, code⟩ := F.ex
  subst e
  refine fn_of look code S len fun A outer s H vs Q E room want => ?_
  obtain ⟨t, ht, hq⟩ := body cdv rfl A outer s H vs Q E room want
  exact ⟨t, ht.nox, hq⟩

/-! ### max(xs, key=f, default=None), f makes a pair of ints of an item -/
def gtQ (p q : Int × Int) : Bool := decide (q.1 < p.1 ∨ (p.1 = q.1 ∧ q.2 < p.2))
theorem rc_gtP {X : Cx} {pins : List (Addr × Obj)} {σ : L2.St} {H : Hp} {s : Shared} {A : Around} {a b : Addr} {p q : Int × Int} (I : Inv X pins σ H s) (ha : H a = some (.tup [.int p.1, .int p.2])) (hb : H b = some (.tup [.int q.1, .int q.2])) (units : A.units < cLine) : Ob.RcOp .Gt A s (.ref a) (.ref b) (gtQ p q) := by
  obtain ⟨us, r1, p1, _⟩ := I.tuple (SqT.of ha)
  obtain ⟨ws, r2, p2, _⟩ := I.tuple (SqT.of hb)
  obtain ⟨x1, x2, rfl, ⟨t1, rfl⟩, ⟨t2, rfl⟩⟩ := vals2 r1
  obtain ⟨y1, y2, rfl, ⟨u1, rfl⟩, ⟨u2, rfl⟩⟩ := vals2 r2
  have R := Ob.RcOp.tuples_gt (A := A) (s := s) (l := a) (b := b) (e := fun j => if j = 0 then p.1 == q.1 else p.2 == q.2) (r := fun j => if j = 0 then decide (q.1 < p.1) else decide (q.2 < p.2)) p1 p2 units
    (fun j j1 j2 => by
      match j, j1, j2 with
      | 0, _, _ => exact SeqAt.EqAt.int_int _ _ _ _
      | 1, _, _ => exact SeqAt.EqAt.int_int _ _ _ _)
    (fun j j1 j2 _ => by
      match j, j1, j2 with
      | 0, _, _ => exact Ob.RcOp.gt_int _ _ _ _
      | 1, _, _ => exact Ob.RcOp.gt_int _ _ _ _)
  have e : Ob.lexAt (fun j => if j = 0 then p.1 == q.1 else p.2 == q.2) (fun j => if j = 0 then decide (q.1 < p.1) else decide (q.2 < p.2)) (decide ((#[Value.int p.1 t1, Value.int p.2 t2]).size > (#[Value.int q.1 u1, Value.int q.2 u2]).size)) 0 (min (#[Value.int p.1 t1, Value.int p.2 t2]).size (#[Value.int q.1 u1, Value.int q.2 u2]).size) = gtQ p q := by
    show (if (p.1 == q.1) = true then (if (p.2 == q.2) = true then false else decide (q.2 < p.2)) else decide (q.1 < p.1)) = _
    unfold gtQ
    by_cases c : p.1 = q.1
    · rw [if_pos (beq_iff_eq.mpr c)]
      by_cases c2 : p.2 = q.2
      · rw [if_pos (beq_iff_eq.mpr c2)]
        exact (decide_eq_false (by omega)).symm
      · rw [if_neg (fun h => c2 (beq_iff_eq.mp h))]
        exact decide_eq_decide.mpr (by omega)
    · rw [if_neg (fun h => c (beq_iff_eq.mp h))]
      exact decide_eq_decide.mpr (by omega)
  rw [e] at R
  exact R
/-- the first of the greatest keys -/
def TopP (kf : Nat → Int × Int) (n i : Nat) : Prop := ∀ j, j < n → gtQ (kf j) (kf i) = false ∧ (j < i → gtQ (kf i) (kf j) = true)
theorem gtQ_iff {p q : Int × Int} : gtQ p q = true ↔ (q.1 < p.1 ∨ (p.1 = q.1 ∧ q.2 < p.2)) := decide_eq_true_iff
theorem gtQ_no {p q : Int × Int} : gtQ p q = false ↔ ¬ (q.1 < p.1 ∨ (p.1 = q.1 ∧ q.2 < p.2)) := decide_eq_false_iff_not
structure InLq (X : Cx) (pins : List (Addr × Obj)) (σ : L2.St) (Φ : Hp → Prop) (I S f : Addr) (fo : Obj) (kb : Addr) (kp : Int × Int) (s : Shared) : Prop where
  ex : ∃ H, Inv X pins σ H s ∧ Φ H ∧ H I = none ∧ H S = none ∧ H f = none ∧ H kb = some (.tup [.int kp.1, .int kp.2])
  fn : s.heap.get? f = some fo
section
variable {X : Cx} {pins : List (Addr × Obj)} {σ : L2.St} {Φ : Hp → Prop} {l I S f : Addr} {fo : Obj} {as : List Addr} {R : Result → Shared → Prop}
theorem InLq.turn {s : Shared} {kb : Addr} {kp : Int × Int} (L : InLq X pins σ Φ I S f fo kb kp s) {it : Addr} {h' : Heap} {t' : Nat} (hit : it = I ∨ it = S) (r : RawA X pins it) (ne : it ≠ f) (k : ∀ b o, b ≠ it → s.heap.get? b = some o → h'.get? b = some o) : InLq X pins σ Φ I S f fo kb kp { s with heap := h', toks := t' } := by
  obtain ⟨H, inv, φ, n1, n2, n3, n4⟩ := L.ex
  refine ⟨⟨H, inv.turned (it := it) k ?_ r.loc (.inr r.sz) r.cell r.pin, φ, n1, n2, n3, n4⟩, k _ _ ne.symm L.fn⟩
  rcases hit with rfl | rfl
  · exact n1
  · exact n2
def KeyQ (X : Cx) (pins : List (Addr × Obj)) (σ : L2.St) (Φ : Hp → Prop) (f : Addr) (fo : Obj) (as : List Addr) (kf : Nat → Int × Int) : Prop :=
  ∀ (i : Nat) (a : Addr), as[i]? = some a → ∀ (s : Shared) (H : Hp), Inv X pins σ H s → Φ H → H f = none → s.heap.get? f = some fo →
    wpAny (model X.prog X.w) X.A.in1 (call (.ref f) [.ref a]) (fun x s' => ∃ H' kt, Inv X pins σ H' s' ∧ Φ H' ∧ Same H H' ∧ Un (frs X.stack) [] H H' s.heap s'.heap ∧ x = .ref kt ∧ H' kt = some (.tup [.int (kf i).1, .int (kf i).2])) (fun _ _ => False) s
theorem maxQ_loop (kf : Nat → Int × Int) (hh : X.A.handled = none) (units : X.A.in1.units < cLine) (isL : ∀ s H, Inv X pins σ H s → Φ H → s.heap.IsList l (as.map Value.ref).toArray) (lI : l ≠ I) (SI : S ≠ I) (If : I ≠ f) (Sf : S ≠ f) (rI : RawA X pins I) (rS : RawA X pins S) (nf : f ∉ frs X.stack) (key : KeyQ X pins σ Φ f fo as kf)
    (fin : ∀ i a s, as[i]? = some a → TopP kf as.length i → (∃ H, Inv X pins σ H s ∧ Φ H) → R (.ok (.ret (.ref a))) s) :
    ∀ (r j i : Nat) (s : Shared) (ab kb : Addr) (c : Nat), as.length - (j + 1) = r → j + 1 ≤ as.length → InLq X pins σ Φ I S f fo kb (kf i) s →
      s.heap.get? S = some (seqObj "list" #[.ref ab, .ref kb] c) → s.heap.IsListIter I l (j + 1) → as[i]? = some ab → i ≤ j → TopP kf (j + 1) i →
      codeAny (model X.prog X.w) X.A (.builtin "max.loop" ⟨[.ref I, .ref f, .ref S], [(Str.ofString "default", .none)]⟩) R s := by
  have nm : (toString "max" ++ toString ".loop" : String) = "max.loop" := by decide
  have wk := Walks.list (prog := X.prog) (w := X.w) (A := X.A.in1) hh I l lI (as.map Value.ref).toArray
  have sz : (as.map Value.ref).toArray.size = as.length := by simp
  intro r
  induction r with
  | zero =>
    intro j i s ab kb c er jl L gS it ev ij top
    have last : j + 1 = as.length := by omega
    refine codeAny_builtin PySem.F.entry_max_loop ?_
    rw [Around.under_plainId PySem.F.plain_max_loop _]
    show wpAny _ X.A.in1 (seqItems? (Value.ref S) >>= _) _ _ _
    refine wpAny_bind (wpAny_seqItems gS rfl ?_)
    show wpAny _ X.A.in1 (tryCatch (pyNext (Value.ref I)) _ >>= _) _ _ _
    refine wpAny_bind (wpAny_tryCatch (wk.done _ _ _ ⟨by rw [sz, ← last]; exact it, by
      obtain ⟨H, inv, φ, _⟩ := L.ex
      exact isL _ _ inv φ⟩ fun h1 tk1 k1 => ?_))
    have k1' : ∀ b o, b ≠ I → s.heap.get? b = some o → h1.get? b = some o := fun b o nb e => k1 b o (fun z => nb (List.mem_singleton.mp z)) e
    have L1 := L.turn (t' := tk1) (.inl rfl) rI If k1'
    have gS1 := k1' S _ SI gS
    have u1 := Heap.SameBut.update h1 S (Obj.mapSeq (fun _ => (#[] : Array Value)))
    show wpAny _ X.A.in1 (updateSeq S (fun _ => #[]) >>= fun _ => _) _ _ _
    refine wpAny_bind (wpAny_updateSeq gS1 rfl (wpAny_bind (wpAny_letGo (wpAny_pure ?_))))
    obtain ⟨H, inv, φ, _⟩ := (L1.turn (t' := tk1) (.inr rfl) rS Sf fun b o nb e => (u1.2 b nb).trans e).ex
    exact fin i ab _ ev (by rw [← last]; exact top) ⟨H, inv, φ⟩
  | succ r ih =>
    intro j i s ab kb c er jl L gS it ev ij top
    have more : j + 1 < as.length := by omega
    refine codeAny_builtin PySem.F.entry_max_loop ?_
    rw [Around.under_plainId PySem.F.plain_max_loop _]
    show wpAny _ X.A.in1 (seqItems? (Value.ref S) >>= _) _ _ _
    refine wpAny_bind (wpAny_seqItems gS rfl ?_)
    show wpAny _ X.A.in1 (tryCatch (pyNext (Value.ref I)) _ >>= _) _ _ _
    refine wpAny_bind (wpAny_tryCatch (wk.item (j + 1) _ _ _ (by rw [sz]; exact more) ⟨it, by
      obtain ⟨H, inv, φ, _⟩ := L.ex
      exact isL _ _ inv φ⟩ fun v h1 tk1 pv it1 k1 => ?_))
    obtain ⟨a1, ev1, rfl⟩ : ∃ a1, as[j + 1]? = some a1 ∧ v = Value.ref a1 := by
      have z : (as.map Value.ref)[j + 1]? = some v := by simpa using pv
      rw [List.getElem?_map] at z
      obtain ⟨a1, e1, e2⟩ := Option.map_eq_some_iff.mp z
      exact ⟨a1, e1, e2.symm⟩
    have k1' : ∀ b o, b ≠ I → s.heap.get? b = some o → h1.get? b = some o := fun b o nb e => k1 b o (fun z => nb (List.mem_singleton.mp z)) e
    have L1 := L.turn (t' := tk1) (.inl rfl) rI If k1'
    have gS1 := k1' S _ SI gS
    obtain ⟨oI, gI, cI, dI⟩ := it1.1
    obtain ⟨H1, inv1, φ1, nI1, nS1, nf1, kb1⟩ := L1.ex
    show wpAny _ X.A.in1 (tryCatch (holding [.ref a1] (call (Value.ref f) [.ref a1])) _ >>= _) _ _ _
    refine wpAny_bind (wpAny_tryCatch (wpAny_holding (wpAny_mono (key (j + 1) a1 ev1 _ H1 inv1 φ1 nf1 L1.fn) (fun x s2 hx => ?_) (fun _ _ no => no.elim))))
    obtain ⟨H2, kt, inv2, φ2, sm2, un, rfl, ekt⟩ := hx
    have gS2 : s2.heap.get? S = _ := un.keep S _ gS1 nS1 rS.fr (by simp)
    have gI2 : s2.heap.get? I = _ := un.keep I _ gI nI1 rI.fr (by simp)
    have gf2 : s2.heap.get? f = _ := un.keep f _ L1.fn nf1 nf (by simp)
    have nI2 := un.free I _ gI nI1 (by simp)
    have nS2 := un.free S _ gS1 nS1 (by simp)
    have nf2 := un.free f _ L1.fn nf1 (by simp)
    have kb2 := sm2 _ _ kb1
    have Lk : InLq X pins σ Φ I S f fo kb (kf i) s2 := ⟨⟨H2, inv2, φ2, nI2, nS2, nf2, kb2⟩, gf2⟩
    have Ln : InLq X pins σ Φ I S f fo kt (kf (j + 1)) s2 := ⟨⟨H2, inv2, φ2, nI2, nS2, nf2, ekt⟩, gf2⟩
    show wpAny _ X.A.in1 (tryCatch (holding [.ref a1, Value.ref kt] (richCompare .Gt (.ref kt) (.ref kb) >>= _)) _ >>= _) _ _ _
    refine wpAny_bind (wpAny_tryCatch (wpAny_holding (wpAny_bind (rc_gtP inv2 ekt kb2 units X.prog X.w _ _ ?_))))
    refine wpAny_bind (wpAny_holding (wpAny_truthy_bool (wpAny_bind (wpAny_letGo (wpAny_pure ?_)))))
    cases up : gtQ (kf (j + 1)) (kf i) with
    | true =>
      have u1 := Heap.SameBut.update s2.heap S (Obj.mapSeq (fun _ => #[.ref a1, .ref kt]))
      obtain ⟨c2, gS3⟩ : ∃ c2, (s2.heap.update S (Obj.mapSeq fun _ => #[.ref a1, .ref kt])).get? S = some (seqObj "list" #[.ref a1, .ref kt] c2) := ⟨_, get?_update_seq gS2 fun _ => _⟩
      simp only [if_true]
      refine wpAny_bind (wpAny_updateSeq gS2 rfl (wpAny_bind (wpAny_letGo ?_)))
      rw [nm]
      refine wpAny_pure ⟨plainId_quiet PySem.F.plain_max_loop _, ih (j + 1) (j + 1) _ a1 kt c2 (by omega) more (Ln.turn (.inr rfl) rS Sf fun b o nb e => (u1.2 b nb).trans e) gS3 ⟨oI, (u1.2 I SI.symm).trans gI2, cI, dI⟩ ev1 (Nat.le_refl _) fun n hn => ?_⟩
      have up' := gtQ_iff.mp up
      by_cases e : n = j + 1
      · subst e
        exact ⟨gtQ_no.mpr (by omega), fun z => absurd z (Nat.lt_irrefl _)⟩
      · have t := gtQ_no.mp (top n (by omega)).1
        exact ⟨gtQ_no.mpr (by omega), fun _ => gtQ_iff.mpr (by omega)⟩
    | false =>
      simp only [Bool.false_eq_true, if_false]
      refine wpAny_bind (wpAny_letGo ?_)
      rw [nm]
      refine wpAny_pure ⟨plainId_quiet PySem.F.plain_max_loop _, ih (j + 1) i _ ab kb c (by omega) more (Lk.turn (.inr rfl) rS Sf fun b o nb e => e) gS2 ⟨oI, gI2, cI, dI⟩ ev (by omega) fun n hn => ?_⟩
      by_cases e : n = j + 1
      · subst e
        exact ⟨up, fun z => absurd z (by omega)⟩
      · exact top n (by omega)
theorem max_args2 (a v : Value) : argsOk "max" ⟨[a], [(Str.ofString "key", v), (Str.ofString "default", .none)]⟩ := by unfold argsOk; kernel_rfl
theorem maxQ {s : Shared} {Q : Value → Shared → Prop} {E : Value → Shared → Prop} {H : Hp} (kf : Nat → Int × Int) (inv : Inv X pins σ H s) (φ : Φ H) (hh : X.A.handled = none) (units : X.A.in1.units < cLine) (isL : ∀ s H, Inv X pins σ H s → Φ H → s.heap.IsList l (as.map Value.ref).toArray) (hf : s.heap.get? f = some fo) (hn : H f = none) (nf : f ∉ frs X.stack) (key : KeyQ X pins σ Φ f fo as kf)
    (non : as = [] → ∀ s H, Inv X pins σ H s → Φ H → Q .none s)
    (fin : ∀ i a s H, as[i]? = some a → TopP kf as.length i → Inv X pins σ H s → Φ H → Q (.ref a) s) :
    wpAny (model X.prog X.w) X.A (call (.builtin "max") [.ref l] [(Str.ofString "key", .ref f), (Str.ofString "default", .none)]) Q E s := by
  have nm : (toString "max" ++ toString ".loop" : String) = "max.loop" := by decide
  have isL0 := isL s H inv φ
  have isL1 := isL0
  obtain ⟨ol, gl, _⟩ := isL1
  have ll : l < s.heap.objs.size := Heap.lt_size gl
  have lf : f < s.heap.objs.size := Heap.lt_size hf
  refine kmb_tree PySem.F.kind_max PySem.F.plain_max PySem.F.entry_max (max_args2 _ _) ?_
  show wpAny _ X.A.in1 (Builtin.Builtins.bindParams "max" ["key", "default"] 0 ⟨[], [(Str.ofString "key", Value.ref f), (Str.ofString "default", Value.none)]⟩ >>= _) _ _ s
  refine wpAny_bind (wpAny_of_eq (show Builtin.Builtins.bindParams "max" ["key", "default"] 0 ⟨[], [(Str.ofString "key", Value.ref f), (Str.ofString "default", Value.none)]⟩ = pure [some (.ref f), some .none] from rfl) ?_)
  refine wpAny_bind (wpAny_pure (wpAny_bind (wpAny_pyIter_list isL0 (wpAny_bind (wpAny_newList ?_ (Nat.zero_le _))))))
  rw [nm]
  have it0 := Heap.get?_push_size s.heap (o := { cls := .type "list_iterator", data := .fields #[.ref l, .int 0 0] }) rfl
  have z1 : (s.heap.push { cls := .type "list_iterator", data := .fields #[.ref l, .int 0 0] }).objs.size = s.heap.objs.size + 1 := Heap.size_push ..
  have k1 : Stay s.heap (s.heap.push { cls := .type "list_iterator", data := .fields #[.ref l, .int 0 0] }) := fun b o e => Heap.get?_push_of_some _ e
  generalize s.heap.push { cls := .type "list_iterator", data := .fields #[.ref l, .int 0 0] } = g1 at *
  have gS := Heap.get?_push_size g1 (o := seqObj "list" #[] 0) rfl
  have k2 : Stay g1 (g1.push (seqObj "list" #[] 0)) := fun b o e => Heap.get?_push_of_some _ e
  have gI := k2 _ _ it0
  generalize g1.push (seqObj "list" #[] 0) = g2 at *
  rw [z1] at gS ⊢
  have st2 : Stay s.heap g2 := fun b o e => k2 b o (k1 b o e)
  have SI : s.heap.objs.size + 1 ≠ s.heap.objs.size := Nat.succ_ne_self _
  have lI : l ≠ s.heap.objs.size := Nat.ne_of_lt ll
  have If : s.heap.objs.size ≠ f := (Nat.ne_of_lt lf).symm
  have Sf : s.heap.objs.size + 1 ≠ f := (Nat.ne_of_lt (Nat.lt_succ_of_lt lf)).symm
  have rI : RawA X pins s.heap.objs.size := RawA.of inv (Nat.le_refl _)
  have rS : RawA X pins (s.heap.objs.size + 1) := RawA.of inv (Nat.le_succ _)
  have L0 : InLp X pins σ Φ s.heap.objs.size (s.heap.objs.size + 1) f fo { s with heap := g2 } := ⟨⟨H, inv.kept st2, φ, inv.hok.fresh (Nat.le_refl _), inv.hok.fresh (Nat.le_succ _), hn⟩, st2 _ _ hf⟩
  have wk := Walks.list (prog := X.prog) (w := X.w) (A := X.A.in1) hh s.heap.objs.size l lI (as.map Value.ref).toArray
  have sz : (as.map Value.ref).toArray.size = as.length := by simp
  refine wpAny_pure ⟨plainId_quiet PySem.F.plain_max_loop _, codeAny_builtin PySem.F.entry_max_loop ?_⟩
  rw [Around.under_plainId PySem.F.plain_max_loop _]
  show wpAny _ X.A.in1 (seqItems? (Value.ref _) >>= _) _ _ _
  refine wpAny_bind (wpAny_seqItems gS rfl ?_)
  show wpAny _ X.A.in1 (tryCatch (pyNext (Value.ref s.heap.objs.size)) _ >>= _) _ _ _
  by_cases ne : as = []
  · refine wpAny_bind (wpAny_tryCatch (wk.done _ _ _ ⟨by rw [sz, ne]; exact ⟨_, gI, rfl, rfl⟩, isL_stay st2 isL0⟩ fun h1 tk1 kk => ?_))
    have kk' : ∀ b o, b ≠ s.heap.objs.size → g2.get? b = some o → h1.get? b = some o := fun b o nb e => kk b o (fun z => nb (List.mem_singleton.mp z)) e
    obtain ⟨H1, inv1, φ1, _⟩ := (L0.turn (t' := tk1) (.inl rfl) rI If kk').ex
    refine wpAny_bind (wpAny_rule (wpAny_pure ?_))
    exact non ne _ H1 inv1 φ1
  have some1 : 0 < as.length := List.length_pos_iff.mpr ne
  refine wpAny_bind (wpAny_tryCatch (wk.item 0 _ _ _ (by rw [sz]; exact some1) ⟨⟨_, gI, rfl, rfl⟩, isL_stay st2 isL0⟩ fun v h1 tk1 pv it1 kk => ?_))
  obtain ⟨a1, ev1, rfl⟩ : ∃ a1, as[0]? = some a1 ∧ v = Value.ref a1 := by
    have z : (as.map Value.ref)[0]? = some v := by simpa using pv
    rw [List.getElem?_map] at z
    obtain ⟨a1, e1, e2⟩ := Option.map_eq_some_iff.mp z
    exact ⟨a1, e1, e2.symm⟩
  have kk' : ∀ b o, b ≠ s.heap.objs.size → g2.get? b = some o → h1.get? b = some o := fun b o nb e => kk b o (fun z => nb (List.mem_singleton.mp z)) e
  have L1 := L0.turn (t' := tk1) (.inl rfl) rI If kk'
  have gS1 := kk' _ _ SI gS
  obtain ⟨oI, gI1, cI, dI⟩ := it1.1
  obtain ⟨H1, inv1, φ1, nI1, nS1, nf1⟩ := L1.ex
  show wpAny _ X.A.in1 (tryCatch (holding [.ref a1] (call (Value.ref f) [.ref a1])) _ >>= _) _ _ _
  refine wpAny_bind (wpAny_tryCatch (wpAny_holding (wpAny_mono (key 0 a1 ev1 _ H1 inv1 φ1 nf1 L1.fn) (fun x s2 hx => ?_) (fun _ _ no => no.elim))))
  obtain ⟨H2, kt, inv2, φ2, sm2, un, rfl, ekt⟩ := hx
  have gS2 := un.keep _ _ gS1 nS1 rS.fr (by simp)
  have gI2 := un.keep _ _ gI1 nI1 rI.fr (by simp)
  have gf2 := un.keep f _ L1.fn nf1 nf (by simp)
  have L2' : InLq X pins σ Φ s.heap.objs.size (s.heap.objs.size + 1) f fo kt (kf 0) s2 := ⟨⟨H2, inv2, φ2, un.free _ _ gI1 nI1 (by simp), un.free _ _ gS1 nS1 (by simp), un.free f _ L1.fn nf1 (by simp), ekt⟩, gf2⟩
  have u1 := Heap.SameBut.update s2.heap (s.heap.objs.size + 1) (Obj.mapSeq (fun _ => #[.ref a1, .ref kt]))
  obtain ⟨c2, gS3⟩ : ∃ c2, (s2.heap.update (s.heap.objs.size + 1) (Obj.mapSeq fun _ => #[.ref a1, .ref kt])).get? (s.heap.objs.size + 1) = some (seqObj "list" #[.ref a1, .ref kt] c2) := ⟨_, get?_update_seq gS2 fun _ => _⟩
  show wpAny _ X.A.in1 (updateSeq (s.heap.objs.size + 1) (fun _ => #[.ref a1, .ref kt]) >>= _) _ _ _
  refine wpAny_bind (wpAny_updateSeq gS2 rfl ?_)
  rw [nm]
  refine wpAny_pure ⟨plainId_quiet PySem.F.plain_max_loop _, maxQ_loop kf hh units isL lI SI If Sf rI rS nf key (fun i a s' e low L => ?_) _ 0 0 _ a1 kt c2 rfl some1 (L2'.turn (.inr rfl) rS Sf fun b o nb e => (u1.2 b nb).trans e) gS3 ⟨oI, (u1.2 _ SI.symm).trans gI2, cI, dI⟩ ev1 (Nat.le_refl _) fun n hn => ?_⟩
  · obtain ⟨H', inv', φ'⟩ := L
    exact fin i a s' H' e low inv' φ'
  · have e : n = 0 := by omega
    subst e
    exact ⟨gtQ_no.mpr (by omega), fun z => absurd z (Nat.lt_irrefl _)⟩
end

/-- max(xs, key=lambda par: body, default=None), xs a list of objects; body makes pairs of ints and changes nothing that stands -/
def tMaxLamT (P : Addr) (q : Str) (i : Nat) (ta : TA) (tb : TE) : TE := fun σ H Q => ta σ H fun vs H1 => ∃ (a : Addr) (as : List Addr) (kf : Nat → Int × Int) (cv : V), vs = [.ref a] ∧ H1 a = some (.lst (as.map V.ref)) ∧ LamX.TabS H1 P q ∧ σ[i]? = some (some cv) ∧
  ∀ H2, ButAt P H1 H2 → LamX.TabS H2 P q → (∀ (j : Nat) (b : Addr) (H' : Hp), as[j]? = some b → Same H2 H' → tb [some cv, some (.ref b)] H' fun v H'' => ∃ kt, v = .ref kt ∧ H'' kt = some (.tup [.int (kf j).1, .int (kf j).2]) ∧ Same H' H'') ∧
    (∀ H', as = [] → Same H2 H' → Q .non H') ∧ ∀ (j : Nat) (b : Addr) (H' : Hp), as[j]? = some b → TopP kf as.length j → Same H2 H' → Q (.ref b) H'
theorem pe_maxLamT {X : Cx} {c P : Addr} {k jn : Nat} {e : Expr} {params : Arguments} {body : Expr} {scope : Scope} {cap par : Str} {p kp kp2 npos lpos pos : Pos} {ta : TA} {tb : TE} (i : Nat) (hc : X.calm = true) (hg : Gl X "max") (hm : X.mg "max" = none) (hr : Room (k + 2) X.A) (TB : LamX.TabB X.base X.mg c P) (hcode : X.env.code = .ref c)
    (L : Lam1 X.env.scope scope cap par) (hi : X.N[i]? = some cap) (hdef : defaultsOf params X.env = ([], []))
    (hbind : ∀ (q : Str) (cl : List (Str × Addr)) (pm cv ctv u : Value), bindArgs (PySem.W.kla_fn "<lambda>" q params body scope cl pm cv ctv) ⟨[u], []⟩ = pure [(par, u)]) (ha : PA X [e] ta)
    (hbody : ∀ (A : Around) (s : Shared) (H : Hp) (f c' : Addr), Room k (A.deeper (LamX.lamEnv X scope s.heap.objs.size f c')) → PE (lamCx1 X A s H scope cap par f c') body tb)
    (he : backTo pos (starEach [e] X.env) = (false, eval e X.env) :: backTo pos (starEach [] X.env) := by rfl) (hpl : (backTo pos (starEach [e] X.env)).any (·.1) = false := by rfl) :
    PE X (.Call (.Name "max" p) [e] [⟨some "key", .Lambda params body scope lpos, kp⟩, ⟨some "default", .Constant .none jn npos, kp2⟩] pos) (tMaxLamT P (X.env.qual ++ "<lambda>") i ta tb) := by
  refine ⟨fun pins s σ H Q I h => ?_⟩
  refine wpAny_Call_Name_kw (ld_blt (u := .builtin "max") I hg hm (by decide +kernel) ?_)
  refine PyProof.Rows.callWith_kw (thn (ha.run pos pins s σ H _ I h) fun us s1 ⟨vs, H1, I1, r1, q1⟩ => ?_) he hpl (by rfl) (by rfl)
  show wpAny _ _ (evalAll [(do let v ← eval (.Lambda params body scope lpos) X.env; standAt pos; pure v), (do let v ← eval (.Constant .none jn npos) X.env; standAt pos; pure v)]) _ _ s1
  obtain ⟨a, as, kf, cv, rfl, hl, tab, hσ, hq⟩ := q1
  rw [Vals.ref1 r1]
  refine wpAny_evalAll_cons (wpAny_bind (lam_make3 I1 TB hcode tab hdef (L.has I1.ok) fun f c' pm ctv H2 s2 I2 eN T2 hf hfn hfr hco => ?_))
  refine wpAny_bind (wpAny_standAt (wpAny_pure ?_))
  refine wpAny_evalAll_cons (wpAny_bind (wpAny_of_eq (show eval (.Constant .none jn npos) X.env = pure Value.none from rfl) ?_))
  refine wpAny_bind (wpAny_standAt (wpAny_pure (wpAny_evalAll_nil ?_)))
  obtain ⟨k1, k0, k2⟩ := hq H2 eN T2
  have hl2 : H2 a = some (.lst (as.map V.ref)) := eN _ _ (fun z => by
    obtain ⟨ps, h4, _⟩ := tab
    rw [z, h4] at hl
    cases hl) hl
  refine maxQ (Φ := fun H' => Same H2 H') (as := as) (f := f) (H := H2) kf I2 (Same.refl _) (I2.ok.hd hc) hr.in1.units0 (fun s H inv φ => ?_) hf hfn hfr (fun j b eb s H inv φ hn hg => ?_) (fun e s H inv φ => ⟨.non, H, inv, rfl, k0 H e φ⟩) fun j b s H eb low inv φ => ⟨.ref b, H, inv, rfl, k2 j b H eb low φ⟩
  · obtain ⟨its, rv, isL, _⟩ := inv.list (SqL.of (φ _ _ hl2))
    rw [vals_refs rv] at isL
    exact isL.isList
  · refine wpAny_mono (lam_call1 (A := X.A.in1) (pv := .ref b) (u := .ref b) inv L hi hσ inv.ok.frames hr.in1 hg (φ _ _ hco) (hbind _ _ _ _ _ _) (fun hr' => hbody _ _ _ _ _ hr') rfl (k1 j b H eb φ)) (fun x s' hx => ?_) fun _ _ no => no
    obtain ⟨v, H', inv', rv, ⟨kt, rfl, ek, sm⟩, un⟩ := hx
    exact ⟨H', kt, inv', φ.trans sm, sm, un, rv, ek⟩

def topS (i : Nat) : Stmt := PySem.Challenge.pw_fewspans_k15_chains_of_pieces.main.body.getD i (.Pass ⟨0, 0, 0, 0⟩)
abbrev s_has_position : Stmt := topS 1
abbrev N_has_position : List Str := ["interval", "position"]
theorem sc_has_position : FnScope N_has_position ["interval", "position"] (defScope s_has_position) := ⟨rfl, rfl, rfl, by decide +kernel, rfl, by decide +kernel, by decide +kernel⟩
abbrev s_contains : Stmt := topS 2
abbrev N_contains : List Str := ["outer", "inner"]
theorem sc_contains : FnScope N_contains ["outer", "inner"] (defScope s_contains) := ⟨rfl, rfl, rfl, by decide +kernel, rfl, by decide +kernel, by decide +kernel⟩
abbrev s_pieces_inside : Stmt := topS 4
abbrev N_pieces_inside : List Str := ["pieces", "target", "piece"]
theorem sc_pieces_inside : FnScope N_pieces_inside ["pieces", "target"] (defScope s_pieces_inside) := ⟨rfl, rfl, rfl, by decide +kernel, rfl, by decide +kernel, by decide +kernel⟩
abbrev s_farthest_piece : Stmt := topS 5
abbrev N_farthest_piece : List Str := ["pieces", "position", "at_position", "piece"]
theorem sc_farthest_piece : FnScope N_farthest_piece ["pieces", "position"] (defScope s_farthest_piece) := ⟨rfl, rfl, rfl, by decide +kernel, rfl, by decide +kernel, by decide +kernel⟩
abbrev s_cover_chain : Stmt := topS 6
abbrev N_cover_chain : List Str := ["pieces", "target", "inside", "position", "last", "chain", "piece"]
theorem sc_cover_chain : FnScope N_cover_chain ["pieces", "target"] (defScope s_cover_chain) := ⟨rfl, rfl, rfl, by decide +kernel, rfl, by decide +kernel, by decide +kernel⟩
abbrev s_law_deck : Stmt := topS 8
abbrev N_law_deck : List Str := ["_law_script", "_law_cell"]
theorem sc_law_deck : FnScope N_law_deck ["_law_script"] (defScope s_law_deck) := ⟨rfl, rfl, rfl, by decide +kernel, rfl, by decide +kernel, by decide +kernel⟩
abbrev s_law_draw : Stmt := topS 9
abbrev N_law_draw : List Str := ["_law_deck_here", "_law_bound", "_law_place", "_law_cell", "_law_mixed"]
theorem sc_law_draw : FnScope N_law_draw ["_law_deck_here", "_law_bound"] (defScope s_law_draw) := ⟨rfl, rfl, rfl, by decide +kernel, rfl, by decide +kernel, by decide +kernel⟩
abbrev s_law_line : Stmt := topS 10
abbrev N_law_line : List Str := ["_law_deck_here", "_law_count", "_law_line_here", "_law_k"]
theorem sc_law_line : FnScope N_law_line ["_law_deck_here", "_law_count"] (defScope s_law_line) := ⟨rfl, rfl, rfl, by decide +kernel, rfl, by decide +kernel, by decide +kernel⟩
abbrev s_law_interval : Stmt := topS 11
abbrev N_law_interval : List Str := ["_law_deck_here", "_law_line_here", "_law_first", "_law_second"]
theorem sc_law_interval : FnScope N_law_interval ["_law_deck_here", "_law_line_here"] (defScope s_law_interval) := ⟨rfl, rfl, rfl, by decide +kernel, rfl, by decide +kernel, by decide +kernel⟩
abbrev s_law_intervals : Stmt := topS 12
abbrev N_law_intervals : List Str := ["_law_deck_here", "_law_line_here", "_law_most", "_law_items", "_law_k"]
theorem sc_law_intervals : FnScope N_law_intervals ["_law_deck_here", "_law_line_here", "_law_most"] (defScope s_law_intervals) := ⟨rfl, rfl, rfl, by decide +kernel, rfl, by decide +kernel, by decide +kernel⟩
abbrev s_law_gap : Stmt := topS 13
abbrev N_law_gap : List Str := ["_law_pieces", "_law_target", "_law_position", "_law_ends", "_law_start", "_law_end"]
theorem sc_law_gap : FnScope N_law_gap ["_law_pieces", "_law_target"] (defScope s_law_gap) := ⟨rfl, rfl, rfl, by decide +kernel, rfl, by decide +kernel, by decide +kernel⟩
abbrev s_law_chain : Stmt := topS 14
abbrev N_law_chain : List Str := ["_law_pieces", "_law_target", "_law_inside", "_law_piece", "_law_chain_here", "_law_position", "_law_usable", "_law_reach", "_law_start", "_law_end"]
theorem sc_law_chain : FnScope N_law_chain ["_law_pieces", "_law_target"] (defScope s_law_chain) := ⟨rfl, rfl, rfl, by decide +kernel, rfl, by decide +kernel, by decide +kernel⟩
abbrev s_law_shuffled : Stmt := topS 15
abbrev N_law_shuffled : List Str := ["_law_deck_here", "_law_pieces", "_law_left", "_law_k"]
theorem sc_law_shuffled : FnScope N_law_shuffled ["_law_deck_here", "_law_pieces"] (defScope s_law_shuffled) := ⟨rfl, rfl, rfl, by decide +kernel, rfl, by decide +kernel, by decide +kernel⟩
abbrev s_law_fewest : Stmt := topS 16
abbrev N_law_fewest : List Str := ["_law_pieces", "_law_target", "_law_selections", "_law_piece", "_law_selection"]
theorem sc_law_fewest : FnScope N_law_fewest ["_law_pieces", "_law_target"] (defScope s_law_fewest) := ⟨rfl, rfl, rfl, by decide +kernel, rfl, by decide +kernel, by decide +kernel⟩
abbrev s_law_right : Stmt := topS 17
abbrev N_law_right : List Str := ["_law_pieces", "_law_target", "_law_chain_here", "_law_inside", "_law_piece"]
theorem sc_law_right : FnScope N_law_right ["_law_pieces", "_law_target"] (defScope s_law_right) := ⟨rfl, rfl, rfl, by decide +kernel, rfl, by decide +kernel, by decide +kernel⟩
abbrev s_law : Stmt := topS 18
abbrev N_law : List Str := ["_law_script", "_law_deck_here", "_law_turn", "_law_line_here", "_law_pieces", "_law_wide", "_law_steps", "_law_k", "_law_cover", "_law_target", "_law_mixed", "_law_some", "_law_shown"]
theorem sc_law : FnScope N_law ["_law_script"] (defScope s_law) := ⟨rfl, rfl, rfl, by decide +kernel, rfl, by decide +kernel, by decide +kernel⟩
/-! ### the deck and its draws -/
structure Dk1 (H : Hp) (d c : Addr) (n : Int) : Prop where
  top : H d = some (.lst [.ref c, .int n])
  cells : ∃ xs : List Int, H c = some (.lst (xs.map V.int)) ∧ xs.length ≤ 63 ∧ ∀ x ∈ xs, 0 ≤ x
theorem Dk1.ne {H : Hp} {d c : Addr} {n : Int} (h : Dk1 H d c n) : c ≠ d := by
  obtain ⟨xs, e, _⟩ := h.cells
  intro z
  subst z
  have q := e.symm.trans h.top
  cases xs with
  | nil => cases q
  | cons x r => cases q
/-- nothing but the deck has changed -/
def Kp1 (d c : Addr) (H H' : Hp) : Prop := ∀ b o, b ≠ d → b ≠ c → H b = some o → H' b = some o
theorem Kp1.trans {d c : Addr} {H H1 H2 : Hp} (h1 : Kp1 d c H H1) (h2 : Kp1 d c H1 H2) : Kp1 d c H H2 := fun b o n1 n2 e => h2 b o n1 n2 (h1 b o n1 n2 e)
theorem Kp1.same {d c : Addr} {H H1 : Hp} (h : Same H H1) : Kp1 d c H H1 := fun b o _ _ e => h b o e
theorem Kp1.none {d c : Addr} {H H' : Hp} (k : Kp1 d c H H') {n m : Int} (h : Dk1 H d c n) (h' : Dk1 H' d c m) {t : Addr} (e : H' t = none) : H t = none := by
  by_cases e1 : t = d
  · rw [e1, h'.top] at e
    cases e
  · by_cases e2 : t = c
    · obtain ⟨xs, z, _⟩ := h'.cells
      rw [e2, z] at e
      cases e
    · cases q : H t with
      | none => rfl
      | some o =>
        rw [k t o e1 e2 q] at e
        cases e
theorem Dk1.kept {H H' : Hp} {d c : Addr} {n : Int} (h : Dk1 H d c n) (s : Same H H') : Dk1 H' d c n :=
  let ⟨xs, e, a⟩ := h.cells
  ⟨s _ _ h.top, xs, s _ _ e, a⟩
theorem Dk1.eq {H : Hp} {d c : Addr} {n m : Int} (h : Dk1 H d c n) (e : n = m) : Dk1 H d c m := e ▸ h
def sp3_law_deck (K : PySem.W.Frag) : Sp := fun vs H Q _ => ∃ (a : Addr) (ns : List Int), vs = [.ref a] ∧ SqL K H a (ns.map V.int) ∧ ns.length ≤ 63 ∧
  ∀ H' d c, Same H H' → H d = none → H c = none → Dk1 H' d c 0 → Q (.ref d) H'
def sp3_law_draw : Sp := fun vs H Q _ => ∃ (d c : Addr) (n lim : Int), vs = [.ref d, .int lim] ∧ Dk1 H d c n ∧ 0 ≤ n ∧ n < 1000000 ∧ 0 < lim ∧ lim < 2 ^ 63 ∧
  ∀ H' r, Kp1 d c H H' → Dk1 H' d c (n + 1) → 0 ≤ r → r < lim → Q (.int r) H'
theorem same_new {H : Hp} {p : Addr} {o : HO} (h : H p = none) : Same H (upd H p o) := fun b x e => by
  rw [upd_ne (ne_of_none e h)]
  exact e
theorem cutTo (xs : List V) (j : Nat) : cutV xs none (some (j : Int)) = xs.take j := by
  unfold cutV
  rw [HT.sIx_none, show HT.sIx xs.length xs.length (some (j : Int)) = min j xs.length from HT.sIx_nat xs.length xs.length j]
  rw [Nat.sub_zero, List.drop_zero]
  rcases Nat.le_total j xs.length with h | h
  · rw [Nat.min_eq_left h]
  · rw [Nat.min_eq_right h, List.take_length, List.take_of_length_le h]
section
structure Tx (K : PySem.W.Frag) (mg : Str → Option Value) (f_has_position f_contains f_pieces_inside f_farthest_piece f_cover_chain f_law_deck f_law_draw f_law_line f_law_interval f_law_intervals f_law_gap f_law_chain f_law_shuffled f_law_fewest f_law_right f_law : Addr) (d_has_position d_contains d_pieces_inside d_farthest_piece d_cover_chain d_law_deck d_law_draw d_law_line d_law_interval d_law_intervals d_law_gap d_law_chain d_law_shuffled d_law_fewest d_law_right d_law : FuncData) : Prop where
  F_has_position : Fun K "has_position" "has_position" s_has_position f_has_position d_has_position
  b_has_position : Binds K d_has_position ["interval", "position"] []
  g_has_position : mg "has_position" = some (.ref f_has_position)
  F_contains : Fun K "contains" "contains" s_contains f_contains d_contains
  b_contains : Binds K d_contains ["outer", "inner"] []
  g_contains : mg "contains" = some (.ref f_contains)
  F_pieces_inside : Fun K "pieces_inside" "pieces_inside" s_pieces_inside f_pieces_inside d_pieces_inside
  b_pieces_inside : Binds K d_pieces_inside ["pieces", "target"] []
  g_pieces_inside : mg "pieces_inside" = some (.ref f_pieces_inside)
  F_farthest_piece : Fun K "farthest_piece" "farthest_piece" s_farthest_piece f_farthest_piece d_farthest_piece
  b_farthest_piece : Binds K d_farthest_piece ["pieces", "position"] []
  g_farthest_piece : mg "farthest_piece" = some (.ref f_farthest_piece)
  F_cover_chain : Fun K "cover_chain" "cover_chain" s_cover_chain f_cover_chain d_cover_chain
  b_cover_chain : Binds K d_cover_chain ["pieces", "target"] []
  g_cover_chain : mg "cover_chain" = some (.ref f_cover_chain)
  F_law_deck : Fun K "_law_deck" "_law_deck" s_law_deck f_law_deck d_law_deck
  b_law_deck : Binds K d_law_deck ["_law_script"] []
  g_law_deck : mg "_law_deck" = some (.ref f_law_deck)
  F_law_draw : Fun K "_law_draw" "_law_draw" s_law_draw f_law_draw d_law_draw
  b_law_draw : Binds K d_law_draw ["_law_deck_here", "_law_bound"] []
  g_law_draw : mg "_law_draw" = some (.ref f_law_draw)
  F_law_line : Fun K "_law_line" "_law_line" s_law_line f_law_line d_law_line
  b_law_line : Binds K d_law_line ["_law_deck_here", "_law_count"] []
  g_law_line : mg "_law_line" = some (.ref f_law_line)
  F_law_interval : Fun K "_law_interval" "_law_interval" s_law_interval f_law_interval d_law_interval
  b_law_interval : Binds K d_law_interval ["_law_deck_here", "_law_line_here"] []
  g_law_interval : mg "_law_interval" = some (.ref f_law_interval)
  F_law_intervals : Fun K "_law_intervals" "_law_intervals" s_law_intervals f_law_intervals d_law_intervals
  b_law_intervals : Binds K d_law_intervals ["_law_deck_here", "_law_line_here", "_law_most"] []
  g_law_intervals : mg "_law_intervals" = some (.ref f_law_intervals)
  F_law_gap : Fun K "_law_gap" "_law_gap" s_law_gap f_law_gap d_law_gap
  b_law_gap : Binds K d_law_gap ["_law_pieces", "_law_target"] []
  g_law_gap : mg "_law_gap" = some (.ref f_law_gap)
  F_law_chain : Fun K "_law_chain" "_law_chain" s_law_chain f_law_chain d_law_chain
  b_law_chain : Binds K d_law_chain ["_law_pieces", "_law_target"] []
  g_law_chain : mg "_law_chain" = some (.ref f_law_chain)
  F_law_shuffled : Fun K "_law_shuffled" "_law_shuffled" s_law_shuffled f_law_shuffled d_law_shuffled
  b_law_shuffled : Binds K d_law_shuffled ["_law_deck_here", "_law_pieces"] []
  g_law_shuffled : mg "_law_shuffled" = some (.ref f_law_shuffled)
  F_law_fewest : Fun K "_law_fewest" "_law_fewest" s_law_fewest f_law_fewest d_law_fewest
  b_law_fewest : Binds K d_law_fewest ["_law_pieces", "_law_target"] []
  g_law_fewest : mg "_law_fewest" = some (.ref f_law_fewest)
  F_law_right : Fun K "_law_right" "_law_right" s_law_right f_law_right d_law_right
  b_law_right : Binds K d_law_right ["_law_pieces", "_law_target"] []
  g_law_right : mg "_law_right" = some (.ref f_law_right)
  F_law : Fun K "law" "law" s_law f_law d_law
  b_law : Binds K d_law ["_law_script"] []
  g_law : mg "law" = some (.ref f_law)
  z_abs : mg "abs" = none
  z_len : mg "len" = none
  z_list : mg "list" = none
  z_max : mg "max" = none
  z_min : mg "min" = none
  z_range : mg "range" = none
  z_repr : mg "repr" = none
  z_set : mg "set" = none
  z_sorted : mg "sorted" = none
  z_tuple : mg "tuple" = none
variable {P : Program} {w : World} {K : PySem.W.Frag} {mg : Str → Option Value} {base : Heap} {f_has_position f_contains f_pieces_inside f_farthest_piece f_cover_chain f_law_deck f_law_draw f_law_line f_law_interval f_law_intervals f_law_gap f_law_chain f_law_shuffled f_law_fewest f_law_right f_law : Addr} {d_has_position d_contains d_pieces_inside d_farthest_piece d_cover_chain d_law_deck d_law_draw d_law_line d_law_interval d_law_intervals d_law_gap d_law_chain d_law_shuffled d_law_fewest d_law_right d_law : FuncData} {pT : Addr}
abbrev TxA (K : PySem.W.Frag) (mg : Str → Option Value) (f_has_position f_contains f_pieces_inside f_farthest_piece f_cover_chain f_law_deck f_law_draw f_law_line f_law_interval f_law_intervals f_law_gap f_law_chain f_law_shuffled f_law_fewest f_law_right f_law : Addr) (d_has_position d_contains d_pieces_inside d_farthest_piece d_cover_chain d_law_deck d_law_draw d_law_line d_law_interval d_law_intervals d_law_gap d_law_chain d_law_shuffled d_law_fewest d_law_right d_law : FuncData) := Tx K mg f_has_position f_contains f_pieces_inside f_farthest_piece f_cover_chain f_law_deck f_law_draw f_law_line f_law_interval f_law_intervals f_law_gap f_law_chain f_law_shuffled f_law_fewest f_law_right f_law d_has_position d_contains d_pieces_inside d_farthest_piece d_cover_chain d_law_deck d_law_draw d_law_line d_law_interval d_law_intervals d_law_gap d_law_chain d_law_shuffled d_law_fewest d_law_right d_law 
theorem ok3_law_deck (T : Tx K mg f_has_position f_contains f_pieces_inside f_farthest_piece f_cover_chain f_law_deck f_law_draw f_law_line f_law_interval f_law_intervals f_law_gap f_law_chain f_law_shuffled f_law_fewest f_law_right f_law d_has_position d_contains d_pieces_inside d_farthest_piece d_cover_chain d_law_deck d_law_draw d_law_line d_law_interval d_law_intervals d_law_gap d_law_chain d_law_shuffled d_law_fewest d_law_right d_law) : FnOk P w K mg base CX0 1 f_law_deck d_law_deck ["_law_script"] (sp3_law_deck K) := by
  refine T.F_law_deck.ok sc_law_deck (fun vs H Q E h => ?_) (fun cdv A outer s H vs Q E hr h => ?_)
  · obtain ⟨a, ns, rfl, _⟩ := h
    rfl
  · obtain ⟨a, ns0, rfl, hS, hlen, q⟩ := h
    refine ⟨_, (pss_one (ps_ret (pe_lst (pa_cons (pe_lc (own := [("_law_cell", 1)]) (g := (gName 1)) (tt := tYes) (by rfl) sc_law_deck.nd (pi_list (pe_slice sl_list (pv 0) po_none (po_some pe_int))) (blkOk_by (own := [("_law_cell", 1)]) (N := N_law_deck) (sc := defScope s_law_deck) (by decide +kernel)) (fun _ _ _ _ _ => (pg_name (i := 1) sc_law_deck.nd rfl (Or.inl rfl))) (fun _ _ _ _ _ => pts_nil) (fun _ _ _ _ _ => (pe_callB call_abs (by rfl) T.z_abs (by decide +kernel) (pa_cons (pv 1) pa_nil)))) (pa_cons pe_int pa_nil))))), ?_⟩
    refine ⟨.ref a, rfl, 60, rfl, a, ns0.map V.int, rfl, hS, fun p np => ?_⟩
    rw [show cutV (ns0.map V.int) none (some 60) = (ns0.take 60).map V.int by rw [List.map_take]; exact cutTo _ 60]
    have hlen : (ns0.take 60).length ≤ 63 := Nat.le_trans (List.length_take_le' _ _) hlen
    generalize ns0.take 60 = ns at *
    have s1 : Same H (upd H p (.lst (ns.map V.int))) := same_new np
    refine ⟨p, rfl, ⟨_, SqL.of upd_same⟩, fun D nD => ?_⟩
    have nDp : D ≠ p := fun e => by
      rw [e, upd_same] at nD
      cases nD
    have nD0 : H D = none := by
      rw [upd_ne nDp] at nD
      exact nD
    refine lc_list (K := K) (a := p) (xs := ns.map V.int) (fun i H' => Same (upd H p (.lst (ns.map V.int))) H' ∧ H' D = some (.lst (((ns.take i).map fun (x : Int) => if x < 0 then -x else x).map V.int))) ⟨same_new nD, upd_same⟩ (fun i H' _ h => h.1.seq (SqL.of upd_same)) ?_ ?_
    · rintro i x H' hi ⟨sm, eD⟩
      rw [List.getElem?_map] at hi
      obtain ⟨n, en, rfl⟩ := Option.map_eq_some_iff.mp hi
      refine ⟨rfl, .int n, rfl, n, rfl, _, eD, ?_, ?_, ?_⟩
      · have : (List.take i ns).length ≤ ns.length := List.length_take_le' i ns
        simp only [List.length_map]
        exact small1000 (by omega)
      · intro b o e
        have nb : b ≠ D := ne_of_none e nD
        rw [upd_ne nb]
        exact sm b o e
      · rw [upd_same, List.take_add_one, en]
        simp
    · rintro H' ⟨sm, eD⟩
      rw [List.length_map, List.take_length] at eD
      refine ⟨by show 2 ≤ sizeLine; decide, fun d nd => ?_⟩
      have nDd : D ≠ d := ne_of_none eD nd
      have nd0 : H d = none := s1.free (sm.free nd)
      refine q _ d D (s1.trans (sm.trans (same_new nd))) nd0 nD0 ⟨upd_same, _, by rw [upd_ne nDd]; exact eD, by rw [List.length_map]; exact hlen, fun x hx => ?_⟩
      obtain ⟨y, _, rfl⟩ := List.mem_map.mp hx
      split <;> omega
def mxI (i j : Int) : Int := if j > i then j else i
def mnI (i j : Int) : Int := if j < i then j else i
theorem ok3_law_draw (T : Tx K mg f_has_position f_contains f_pieces_inside f_farthest_piece f_cover_chain f_law_deck f_law_draw f_law_line f_law_interval f_law_intervals f_law_gap f_law_chain f_law_shuffled f_law_fewest f_law_right f_law d_has_position d_contains d_pieces_inside d_farthest_piece d_cover_chain d_law_deck d_law_draw d_law_line d_law_interval d_law_intervals d_law_gap d_law_chain d_law_shuffled d_law_fewest d_law_right d_law) : FnOk P w K mg base CX0 1 f_law_draw d_law_draw ["_law_deck_here", "_law_bound"] sp3_law_draw := by
  refine T.F_law_draw.ok sc_law_draw (fun vs H Q E h => ?_) (fun cdv A outer s H vs Q E hr h => ?_)
  · obtain ⟨d, c, n, lim, rfl, _⟩ := h
    rfl
  · obtain ⟨d, c, n, lim, rfl, dk, n0, n1, l0, l1, q⟩ := h
    obtain ⟨xs, ec, xl, xp⟩ := dk.cells
    have ncd := dk.ne
    have ed := dk.top
    have l64 : lim.natAbs < 2 ^ 64 := by omega
    have n64 : (n + 1).natAbs < 2 ^ 64 := by omega
    refine ⟨_, (pss_cons (ps_asg (pe_op op_add (pe_ix ix_list (pv 0) pe_int (fun _ _ => rfl)) pe_int) (pg_sub (pv 0) pe_int set_list))
      (pss_cons (ps_set (i := 2) sc_law_draw.nd rfl (Or.inl rfl) (pe_op op_mod (pe_ix ix_list (pv 0) pe_int (fun _ _ => rfl)) (pe_callB (call_max2 rfl) (by rfl) T.z_max (by decide +kernel) (pa_cons pe_int (pa_cons (pe_callB call_len_seq (by rfl) T.z_len PySem.boot_len (pa_cons (pe_ix ix_list (pv 0) pe_int (fun _ _ => rfl)) pa_nil)) pa_nil)))))
      (pss_cons (ps_set (i := 3) sc_law_draw.nd rfl (Or.inl rfl) (pe_ix ix_list (pe_op op_cat (pe_ix ix_list (pv 0) pe_int (fun _ _ => rfl)) (pe_lst (pa_cons pe_int pa_nil))) (pv 2) (fun _ _ => rfl)))
      (pss_cons (ps_if (pt_cmpR op_ge (pv 3) (pe_op op_pow pe_int pe_int) (nomark _))
      (pss_cons (ps_asg (pe_op op_fdivW (pv 3) (pv 1)) (pg_sub (pe_ix ix_list (pv 0) pe_int (fun _ _ => rfl)) (pv 2) set_list))
      (pss_one (ps_ret (pe_op op_mod (pv 3) (pv 1)))))
      pss_nil)
      (pss_cons (ps_set (i := 4) sc_law_draw.nd rfl (Or.inl rfl) (pe_op op_mod (pe_op op_pow (pe_op op_add (pe_op op_add (pe_op op_mod (pv 3) pe_int) (pe_op op_mulW pe_int (pe_ix ix_list (pv 0) pe_int (fun _ _ => rfl)))) pe_int) pe_int) pe_int))
      (pss_one (ps_ret (pe_op op_mod (pe_op op_add (pe_op op_fdivW (pv 4) pe_int) (pe_op op_mulW pe_int (pe_ix ix_list (pv 0) pe_int (fun _ _ => rfl)))) (pv 1))))))))), ?_⟩
    -- deck[1] = deck[1] + 1
    refine ⟨.ref d, rfl, d, _, 1, .int n, rfl, rfl, SqL.of ed, rfl, n, 1, rfl, rfl, .ref d, rfl, d, _, 1, 1, rfl, rfl, ed, rfl, ?_⟩
    generalize eH : upd H d (.lst ([V.ref c, V.int n].set 1 (.int (n + 1)))) = H1
    have ed1 : H1 d = some (.lst [.ref c, .int (n + 1)]) := by
      rw [← eH, upd_same]
      rfl
    have ec1 : H1 c = some (.lst (xs.map V.int)) := by
      rw [← eH, upd_ne ncd]
      exact ec
    have kp1 : Kp1 d c H H1 := fun b o nb _ e => by
      rw [← eH, upd_ne nb]
      exact e
    -- place
    refine ⟨.ref d, rfl, d, _, 1, .int (n + 1), rfl, rfl, SqL.of ed1, rfl, .ref d, rfl, d, _, 0, .ref c, rfl, rfl, SqL.of ed1, rfl, c, _, rfl, .inl (SqL.of ec1), 1, _, rfl, ?_⟩
    obtain ⟨m, em⟩ : ∃ m : Int, (if ((xs.map V.int).length : Int) > 1 then ((xs.map V.int).length : Int) else 1) = m := ⟨_, rfl⟩
    have hm : (m = xs.length ∧ 0 < xs.length) ∨ (m = 1 ∧ xs.length = 0) := by
      rw [List.length_map] at em
      rw [← em]
      split <;> omega
    rw [em]
    have m0 : 0 < m := by omega
    refine ⟨_, _, rfl, rfl, m0, ?_⟩
    have rem0 : 0 ≤ (n + 1) % m := Int.emod_nonneg _ (by omega)
    have rem1 : (n + 1) % m < m := Int.emod_lt_of_pos _ m0
    obtain ⟨j, ej⟩ : ∃ j : Nat, (n + 1) % m = j := ⟨_, (Int.toNat_of_nonneg rem0).symm⟩
    rw [ej] at rem1
    -- cell
    obtain ⟨cell, gj, c0, cin⟩ : ∃ cell : Int, (xs.map V.int ++ [V.int 0])[j]? = some (.int cell) ∧ 0 ≤ cell ∧ (cell ≠ 0 → ∃ h : j < xs.length, xs[j] = cell) := by
      by_cases hj : j < xs.length
      · refine ⟨xs[j], ?_, xp _ (List.getElem_mem hj), fun _ => ⟨hj, rfl⟩⟩
        rw [List.getElem?_append_left (by rw [List.length_map]; exact hj), List.getElem?_map, List.getElem?_eq_getElem hj]
        rfl
      · refine ⟨0, ?_, by decide, fun h => absurd rfl h⟩
        have : j = xs.length := by omega
        subst this
        rw [List.getElem?_append_right (by rw [List.length_map]; exact Nat.le_refl _), List.length_map, Nat.sub_self]
        rfl
    refine ⟨.ref d, rfl, d, _, 0, .ref c, rfl, rfl, SqL.of ed1, rfl, by show 1 ≤ sizeLine; decide, fun z nz => ?_⟩
    have s2 := same_new (o := .lst [.int 0]) nz
    refine ⟨c, z, _, _, rfl, rfl, s2 _ _ ec1, upd_same, ?_, fun g ng => ?_⟩
    · rw [List.length_map, show sizeLine = 16777216 by decide]
      show xs.length + 1 ≤ _
      omega
    have s3 := same_new (o := .lst (xs.map V.int ++ [.int 0])) ng
    refine ⟨.int _, rfl, g, _, _, .int cell, rfl, rfl, SqL.of upd_same, (by rw [ej]; exact atI_nat gj), ?_⟩
    have s23 := s2.trans s3
    replace ed1 := s23 _ _ ed1
    replace ec1 := s23 _ _ ec1
    replace kp1 := kp1.trans (Kp1.same s23)
    generalize upd (upd H1 z (.lst [.int 0])) g (.lst (xs.map V.int ++ [.int 0])) = H2 at *
    have dk1 : Dk1 H2 d c (n + 1) := ⟨ed1, xs, ec1, xl, xp⟩
    -- if cell >= 10 ** 18
    refine ⟨.int cell, rfl, 10, 18, rfl, rfl, ⟨by decide, by decide, by decide⟩, _, _, rfl, rfl, _, rfl, ite2 (fun e2 => ?_) (fun e2 => ?_)⟩
    · have e3 : (10 : Int) ^ (18 : Int).toNat ≤ cell := of_decide_eq_true e2
      rw [show (10 : Int) ^ (18 : Int).toNat = 1000000000000000000 by decide] at e3
      obtain ⟨hj, ex⟩ := cin (by omega)
      refine ⟨.int cell, rfl, .int lim, rfl, _, _, rfl, rfl, wide_div l0 l64 (by decide) (by decide), .ref d, rfl, d, _, 0, .ref c, rfl, rfl, SqL.of ed1, rfl, .int _, rfl, c, _, _, j, rfl, rfl, ec1, ?_, ?_⟩
      · rw [ej]
        unfold ixN
        rw [if_pos (by omega), if_pos (by rw [List.length_map]; omega)]
        rfl
      · refine ⟨.int cell, rfl, .int lim, rfl, _, _, rfl, rfl, l0, ?_⟩
        refine q _ _ ?_ ⟨?_, xs.set j (cell / lim), ?_, ?_, ?_⟩ (Int.emod_nonneg _ (by omega)) (Int.emod_lt_of_pos _ l0)
        · intro b o nb nc e
          rw [upd_ne nc]
          exact kp1 b o nb nc e
        · rw [upd_ne ncd.symm]
          exact ed1
        · rw [upd_same, List.map_set]
        · rw [List.length_set]
          exact xl
        · intro x hx
          rcases List.mem_or_eq_of_mem_set hx with hm | he
          · exact xp x hm
          · rw [he]
            exact Int.ediv_nonneg c0 (by omega)
    · refine ⟨.int cell, rfl, _, _, rfl, rfl, (by show (0 : Int) < 2147483563; decide), .ref d, rfl, d, _, 1, .int (n + 1), rfl, rfl, SqL.of ed1, rfl, _, _, rfl, rfl, wide_mul (a := 17) (b := 64) (by decide) n64 (by decide) (by decide) (by decide), _, _, rfl, rfl, _, _, rfl, rfl, _, _, rfl, rfl, ⟨by decide, by decide, ?_⟩, _, _, rfl, rfl, (by show (0 : Int) < 2147483629; decide), ?_⟩
      · have a0 := Int.emod_nonneg cell (show (2147483563 : Int) ≠ 0 by decide)
        have a1 := Int.emod_lt_of_pos cell (show (0 : Int) < 2147483563 by decide)
        omega
      · refine ⟨_, rfl, _, _, rfl, rfl, wide_div (b := 4) (by decide) (by decide) (by decide) (by decide), .ref d, rfl, d, _, 1, .int (n + 1), rfl, rfl, SqL.of ed1, rfl, _, _, rfl, rfl, wide_mul (a := 5) (b := 64) (by decide) n64 (by decide) (by decide) (by decide), _, _, rfl, rfl, .int lim, rfl, _, _, rfl, rfl, l0, ?_⟩
        exact q _ _ kp1 dk1 (Int.emod_nonneg _ (by omega)) (Int.emod_lt_of_pos _ l0)
theorem Kp1.keep {d c : Addr} {H H' : Hp} (k : Kp1 d c H H') {a : Addr} {o : HO} (n1 : a ≠ d ∧ a ≠ c) (h : H a = some o) : H' a = some o := k a o n1.1 n1.2 h
theorem Kp1.tup {d c : Addr} {n : Int} {H H' : Hp} (k : Kp1 d c H H') (dk : Dk1 H d c n) {a : Addr} {xs : List V} (h : H a = some (.tup xs)) : H' a = some (.tup xs) := by
  obtain ⟨ys, e, _⟩ := dk.cells
  exact k a _ (ne_of h dk.top (fun z => by cases z)) (ne_of h e (fun z => by cases z)) h
theorem Dk1.off {H : Hp} {d c : Addr} {n : Int} (h : Dk1 H d c n) {p : Addr} (e : H p = none) : p ≠ d ∧ p ≠ c := by
  obtain ⟨ys, z, _⟩ := h.cells
  exact ⟨(ne_of_none h.top e).symm, (ne_of_none z e).symm⟩
theorem Dk1.upd {H : Hp} {d c : Addr} {n : Int} (h : Dk1 H d c n) {p : Addr} {o : HO} (off : p ≠ d ∧ p ≠ c) : Dk1 (upd H p o) d c n := by
  obtain ⟨ys, z, w⟩ := h.cells
  exact ⟨by rw [upd_ne off.1.symm]; exact h.top, ys, by rw [upd_ne off.2.symm]; exact z, w⟩
/-! ### the deck, and the table of code objects of the def that makes a lambda: c.1 the cells, c.2 the table -/
def qLam : Str := (envOfC (Str.ofString "farthest_piece") (defScope s_farthest_piece) 0 0 .none).qual ++ "<lambda>"
structure Dk (H : Hp) (d : Addr) (c : Addr × Addr) (n : Int) : Prop where
  deck : Dk1 H d c.1 n
  tab : LamX.TabS H c.2 qLam
def Kp (d : Addr) (c : Addr × Addr) (H H' : Hp) : Prop := ∀ b o, b ≠ d → (b ≠ c.1 ∧ b ≠ c.2) → H b = some o → H' b = some o
theorem Kp.trans {d : Addr} {c : Addr × Addr} {H H1 H2 : Hp} (h1 : Kp d c H H1) (h2 : Kp d c H1 H2) : Kp d c H H2 := fun b o n1 n2 e => h2 b o n1 n2 (h1 b o n1 n2 e)
theorem Kp.same {d : Addr} {c : Addr × Addr} {H H1 : Hp} (h : Same H H1) : Kp d c H H1 := fun b o _ _ e => h b o e
theorem Dk.two {H : Hp} {d : Addr} {c : Addr × Addr} {n : Int} (h : Dk H d c n) : (∃ us, H d = some (.lst us)) ∧ (∃ us, H c.1 = some (.lst us)) ∧ ∃ ps, H c.2 = some (.tbl ps) := by
  obtain ⟨ys, e, _⟩ := h.deck.cells
  obtain ⟨ps, h4, _⟩ := h.tab
  exact ⟨⟨_, h.deck.top⟩, ⟨_, e⟩, ps, h4⟩
theorem Kp.none {d : Addr} {c : Addr × Addr} {H H' : Hp} (k : Kp d c H H') {n m : Int} (h : Dk H d c n) (h' : Dk H' d c m) {t : Addr} (e : H' t = none) : H t = none := by
  obtain ⟨⟨u1, e1⟩, ⟨u2, e2⟩, ps, e4⟩ := h'.two
  by_cases c1 : t = d
  · rw [c1, e1] at e
    cases e
  · by_cases c2 : t = c.1
    · rw [c2, e2] at e
      cases e
    · by_cases c4 : t = c.2
      · rw [c4, e4] at e
        cases e
      · cases q : H t with
        | none => rfl
        | some o =>
          rw [k t o c1 ⟨c2, c4⟩ q] at e
          cases e
theorem Dk.kept {H H' : Hp} {d : Addr} {c : Addr × Addr} {n : Int} (h : Dk H d c n) (s : Same H H') : Dk H' d c n := ⟨h.deck.kept s, h.tab.ext s⟩
theorem Dk.eq {H : Hp} {d : Addr} {c : Addr × Addr} {n m : Int} (h : Dk H d c n) (e : n = m) : Dk H d c m := e ▸ h
theorem Dk.but {H H' : Hp} {d : Addr} {c : Addr × Addr} {n : Int} (h : Dk H d c n) (k : ButAt c.2 H H') (t : LamX.TabS H' c.2 qLam) : Dk H' d c n := by
  obtain ⟨ps, h4, _⟩ := h.tab
  obtain ⟨ys, e, w⟩ := h.deck.cells
  have nt : ∀ {a : Addr} {ls : List V}, H a = some (.lst ls) → a ≠ c.2 := fun {a ls} e z => by
    rw [z, h4] at e
    cases e
  exact ⟨⟨k _ _ (nt h.deck.top) h.deck.top, ys, k _ _ (nt e) e, w⟩, t⟩
/-- p is no part of the deck -/
abbrev Off (d : Addr) (c : Addr × Addr) (p : Addr) : Prop := p ≠ d ∧ p ≠ c.1 ∧ p ≠ c.2
theorem Kp.keep {d : Addr} {c : Addr × Addr} {H H' : Hp} (k : Kp d c H H') {a : Addr} {o : HO} (n1 : Off d c a) (h : H a = some o) : H' a = some o := k a o n1.1 n1.2 h
theorem Kp.tup {d : Addr} {c : Addr × Addr} {n : Int} {H H' : Hp} (k : Kp d c H H') (dk : Dk H d c n) {a : Addr} {xs : List V} (h : H a = some (.tup xs)) : H' a = some (.tup xs) := by
  obtain ⟨⟨u1, e1⟩, ⟨u2, e2⟩, ps, e4⟩ := dk.two
  exact k a _ (ne_of h e1 (fun z => by cases z)) ⟨ne_of h e2 (fun z => by cases z), ne_of h e4 (fun z => by cases z)⟩ h
theorem Dk.off {H : Hp} {d : Addr} {c : Addr × Addr} {n : Int} (h : Dk H d c n) {p : Addr} (e : H p = none) : Off d c p := by
  obtain ⟨⟨u1, e1⟩, ⟨u2, e2⟩, ps, e4⟩ := h.two
  exact ⟨(ne_of_none e1 e).symm, (ne_of_none e2 e).symm, (ne_of_none e4 e).symm⟩
/-- p holds no code object -/
abbrev NoCode (H : Hp) (p : Addr) : Prop := ∀ q, H p ≠ some (LamX.CodeO p q)
theorem noCode_none {H : Hp} {p : Addr} (h : H p = none) : NoCode H p := fun q e => by
  rw [h] at e
  cases e
theorem noCode_lst {H : Hp} {p : Addr} {xs : List V} (h : H p = some (.lst xs)) : NoCode H p := fun q e => by
  rw [h] at e
  unfold LamX.CodeO at e
  cases e
theorem Dk.upd {H : Hp} {d : Addr} {c : Addr × Addr} {n : Int} (h : Dk H d c n) {p : Addr} {o : HO} (off : Off d c p) (nc : NoCode H p := by first | exact noCode_none (by assumption) | exact noCode_lst (by assumption)) : Dk (upd H p o) d c n := by
  refine ⟨h.deck.upd ⟨off.1, off.2.1⟩, ?_⟩
  obtain ⟨ps, h1, h2, h3⟩ := h.tab
  refine ⟨ps, by rw [upd_ne off.2.2.symm]; exact h1, h2, fun pos cv hc => ?_⟩
  obtain ⟨c', e1, e2⟩ := h3 pos cv hc
  refine ⟨c', e1, ?_⟩
  rw [upd_ne (fun z => ?_)]
  · exact e2
  · subst z
    exact nc _ e2
theorem TabS.kp1 {H H' : Hp} {d c : Addr} {n : Int} {P : Addr} {q : Str} (t : LamX.TabS H P q) (dk : Dk1 H d c n) (k : Kp1 d c H H') : LamX.TabS H' P q := by
  have e1 := dk.top
  obtain ⟨ys, e2, _⟩ := dk.cells
  obtain ⟨ps, h1, h2, h3⟩ := t
  refine ⟨ps, k _ _ (ne_of h1 e1 (fun z => by cases z)) (ne_of h1 e2 (fun z => by cases z)) h1, h2, fun pos cv hc => ?_⟩
  obtain ⟨c', z1, z2⟩ := h3 pos cv hc
  exact ⟨c', z1, k _ _ (fun z => noCode_lst (z ▸ e1) _ z2) (fun z => noCode_lst (z ▸ e2) _ z2) z2⟩
def sp_law_deck (K : PySem.W.Frag) (pT : Addr) : Sp := fun vs H Q _ => ∃ (a : Addr) (ns : List Int), vs = [.ref a] ∧ SqL K H a (ns.map V.int) ∧ ns.length ≤ 63 ∧ LamX.TabS H pT qLam ∧
  ∀ H' d c, Same H H' → H d = none → c.2 = pT → Dk H' d c 0 → Q (.ref d) H'
def sp_law_draw : Sp := fun vs H Q _ => ∃ (d : Addr) (c : Addr × Addr) (n lim : Int), vs = [.ref d, .int lim] ∧ Dk H d c n ∧ 0 ≤ n ∧ n < 1000000 ∧ 0 < lim ∧ lim < 2 ^ 63 ∧
  ∀ H' r, Kp d c H H' → Dk H' d c (n + 1) → 0 ≤ r → r < lim → Q (.int r) H'
theorem ok_law_deck (T : Tx K mg f_has_position f_contains f_pieces_inside f_farthest_piece f_cover_chain f_law_deck f_law_draw f_law_line f_law_interval f_law_intervals f_law_gap f_law_chain f_law_shuffled f_law_fewest f_law_right f_law d_has_position d_contains d_pieces_inside d_farthest_piece d_cover_chain d_law_deck d_law_draw d_law_line d_law_interval d_law_intervals d_law_gap d_law_chain d_law_shuffled d_law_fewest d_law_right d_law) : FnOk P w K mg base CX0 1 f_law_deck d_law_deck ["_law_script"] (sp_law_deck K pT) :=
  (ok3_law_deck T).imp fun vs H Q E h => by
    obtain ⟨a, ns, e, h1, h2, tab, q⟩ := h
    exact ⟨a, ns, e, h1, h2, fun H' d c s nd _ dk => q H' d (c, pT) s nd rfl ⟨dk, tab.ext s⟩⟩
theorem ok_law_draw (T : Tx K mg f_has_position f_contains f_pieces_inside f_farthest_piece f_cover_chain f_law_deck f_law_draw f_law_line f_law_interval f_law_intervals f_law_gap f_law_chain f_law_shuffled f_law_fewest f_law_right f_law d_has_position d_contains d_pieces_inside d_farthest_piece d_cover_chain d_law_deck d_law_draw d_law_line d_law_interval d_law_intervals d_law_gap d_law_chain d_law_shuffled d_law_fewest d_law_right d_law) : FnOk P w K mg base CX0 1 f_law_draw d_law_draw ["_law_deck_here", "_law_bound"] sp_law_draw :=
  (ok3_law_draw T).imp fun vs H Q E h => by
    obtain ⟨d, c, n, lim, e, dk, n0, n1, l0, l1, q⟩ := h
    exact ⟨d, c.1, n, lim, e, dk.deck, n0, n1, l0, l1, fun H' r k dk' r0 r1 => q H' r (fun b o n1 n2 e => k b o n1 n2.1 e) ⟨dk', TabS.kp1 dk.tab dk.deck k⟩ r0 r1⟩

/-! ### a line of positions, and intervals of it -/
/-- a line: strictly ascending positions -/
structure Ln (ns : List Int) : Prop where
  asc : ns.Pairwise (· < ·)
  ok : ∀ x ∈ ns, 0 ≤ x ∧ x ≤ 999999999990
def sp_law_line : Sp := fun vs H Q _ => ∃ (d : Addr) (c : Addr × Addr) (n cnt : Int), vs = [.ref d, .int cnt] ∧ Dk H d c n ∧ 0 ≤ n ∧ n < 999000 ∧ 1 ≤ cnt ∧ cnt ≤ 9 ∧
  ∀ H' p ns, Kp d c H H' → Dk H' d c (n + cnt) → H p = none → H' p = some (.lst (ns.map V.int)) → (ns.length : Int) = cnt → Ln ns → Q (.ref p) H'
theorem lim3 {r : Int} (h0 : 0 ≤ r) (h1 : r < 3) : ∃ L : Int, atI [V.int 0, .int 4, .int ((10 : Int) ^ (12 : Int).toNat - 90)] r = some (.int L) ∧ 0 ≤ L ∧ L ≤ 999999999910 := by
  have : r = 0 ∨ r = 1 ∨ r = 2 := by omega
  rcases this with rfl | rfl | rfl
  · exact ⟨0, rfl, by decide, by decide⟩
  · exact ⟨4, rfl, by decide, by decide⟩
  · exact ⟨_, rfl, by decide, by decide⟩
theorem step4 {r : Int} (h0 : 0 ≤ r) (h1 : r < 4) : ∃ L : Int, atI [V.int 1, .int 1, .int 2, .int 9] r = some (.int L) ∧ 1 ≤ L ∧ L ≤ 9 := by
  have : r = 0 ∨ r = 1 ∨ r = 2 ∨ r = 3 := by omega
  rcases this with rfl | rfl | rfl | rfl
  · exact ⟨1, rfl, by decide, by decide⟩
  · exact ⟨1, rfl, by decide, by decide⟩
  · exact ⟨2, rfl, by decide, by decide⟩
  · exact ⟨9, rfl, by decide, by decide⟩
theorem ok_law_line (T : Tx K mg f_has_position f_contains f_pieces_inside f_farthest_piece f_cover_chain f_law_deck f_law_draw f_law_line f_law_interval f_law_intervals f_law_gap f_law_chain f_law_shuffled f_law_fewest f_law_right f_law d_has_position d_contains d_pieces_inside d_farthest_piece d_cover_chain d_law_deck d_law_draw d_law_line d_law_interval d_law_intervals d_law_gap d_law_chain d_law_shuffled d_law_fewest d_law_right d_law) : FnOk P w K mg base CX0 2 f_law_line d_law_line ["_law_deck_here", "_law_count"] sp_law_line := by
  refine T.F_law_line.ok sc_law_line (fun vs H Q E h => ?_) (fun cdv A outer s H vs Q E hr h => ?_)
  · obtain ⟨d, c, n, cnt, rfl, _⟩ := h
    rfl
  · obtain ⟨d, c, n, cnt, rfl, dk, n0, n1, c0, c1, q⟩ := h
    refine ⟨_, (pss_cons (ps_set (i := 2) sc_law_line.nd rfl (Or.inl rfl) (pe_lst (pa_cons (pe_ix ix_list (pe_lst (pa_cons pe_int (pa_cons pe_int (pa_cons (pe_op op_sub (pe_op op_pow pe_int pe_int) pe_int) pa_nil)))) (pe_call (ok_law_draw T) (hr.mono (by decide)) (by rfl) T.g_law_draw T.F_law_draw.kp T.b_law_draw .nil pass0 (pa_cons (pv 0) (pa_cons pe_int pa_nil))) (fun _ _ => rfl)) pa_nil)))
      (pss_cons (ps_for PassesOwn.never rfl (pi_range1 (by rfl) T.z_range (pa_cons (pe_op op_sub (pv 1) pe_int) pa_nil)) (pg_name (i := 3) sc_law_line.nd rfl (Or.inl rfl))
      (pss_one (ps_expr (pe_bm PySem.F.plainAttrs_list PySem.F.slot_list_append PySem.F.type_list_append mt_append (pv 2) (pa_cons (pe_op op_add (pe_ix ix_list (pv 2) (pe_un un_neg pe_int) (fun _ _ => rfl)) (pe_ix ix_list (pe_lst (pa_cons pe_int (pa_cons pe_int (pa_cons pe_int (pa_cons pe_int pa_nil))))) (pe_call (ok_law_draw T) (hr.mono (by decide)) (by rfl) T.g_law_draw T.F_law_draw.kp T.b_law_draw .nil pass0 (pa_cons (pv 0) (pa_cons pe_int pa_nil))) (fun _ _ => rfl))) pa_nil)))))
      (pss_one (ps_ret (pv 2))))), ?_⟩
    refine ⟨10, 12, rfl, rfl, ⟨by decide, by decide, by decide⟩, _, _, rfl, rfl, by show 3 ≤ sizeLine; decide, fun p np => ?_⟩
    have off := dk.off np
    refine ⟨.ref d, rfl, d, c, n, 3, rfl, dk.kept (same_new np), n0, by omega, by decide, by decide, fun H1 r kp1 dk1 r0 r1 => ?_⟩
    obtain ⟨L, eL, L0, L1⟩ := lim3 r0 r1
    refine ⟨p, _, r, _, rfl, rfl, SqL.of (kp1.keep off upd_same), eL, by show 1 ≤ sizeLine; decide, fun l nl => ?_⟩
    have kpA : Kp d c H H1 := (Kp.same (same_new np)).trans kp1
    have offl := dk1.off nl
    have nl0 : H l = none := kpA.none dk dk1 nl
    obtain ⟨m, rfl⟩ : ∃ m : Nat, cnt = m + 1 := ⟨(cnt - 1).toNat, by omega⟩
    refine ⟨.int _, rfl, _, _, rfl, rfl, (m : Int) + 1 - 1, rfl, by omega, by omega, for_range (n := ((m : Int) + 1 - 1).toNat) (fun i σ H' => (Kp d c H H' ∧ Dk H' d c (n + 1 + i)) ∧ (∃ ns : List Int, H' l = some (.lst (ns.map V.int)) ∧ ns.length = i + 1 ∧ ns.Pairwise (· < ·) ∧ (∀ x ∈ ns, 0 ≤ x ∧ x ≤ 999999999910 + 9 * i) ∧ ∃ (ys : List Int) (z : Int), ns = ys ++ [z] ∧ (∀ y ∈ ys, y < z)) ∧ ∃ y3, σ = [some (.ref d), some (.int ((m : Int) + 1)), some (.ref l), y3])
      ⟨⟨kpA.trans (Kp.same (same_new nl)), (dk1.upd offl).eq (by simp)⟩, ⟨[L], upd_same, rfl, List.pairwise_singleton _ _, fun x hx => ?_, [], L, rfl, fun y hy => nomatch hy⟩, _, rfl⟩ ?_ ?_⟩
    · rw [List.mem_singleton.mp hx]
      omega
    · rintro i σ H2 hi ⟨⟨kp2, dk2⟩, ⟨ns, el, nl1, asc, bd, ys, z, rfl, hz⟩, y3, rfl⟩
      refine ⟨.ref l, rfl, .inl ⟨rfl, _, SqL.of el⟩, .ref l, rfl, 1, rfl, l, _, -1, .int z, rfl, rfl, SqL.of el, (by rw [List.map_append]; exact atI_last _ _), by show 4 ≤ sizeLine; decide, fun p2 np2 => ?_⟩
      have off2 := dk2.off np2
      refine ⟨.ref d, rfl, d, c, _, 4, rfl, dk2.kept (same_new np2), by omega, by omega, by decide, by decide, fun H3 r2 kp3 dk3 r20 r21 => ?_⟩
      obtain ⟨L2, eL2, L20, L21⟩ := step4 r20 r21
      have el3 : H3 l = some (.lst ((ys ++ [z]).map V.int)) := kp3.keep offl (same_new np2 _ _ el)
      refine ⟨p2, _, r2, _, rfl, rfl, SqL.of (kp3.keep off2 upd_same), eL2, _, _, rfl, rfl, l, _, _, rfl, rfl, el3, ?_, ?_⟩
      · rw [List.length_map]
        exact small1000 (by omega)
      refine ⟨⟨?_, ?_⟩, ⟨(ys ++ [z]) ++ [z + L2], ?_, ?_, ?_, ?_, ys ++ [z], z + L2, rfl, ?_⟩, _, rfl⟩
      · intro b o n1 n2 e
        rw [upd_ne (ne_of_none e nl0)]
        exact kp3 b o n1 n2 (same_new np2 _ _ (kp2 b o n1 n2 e))
      · exact (dk3.upd offl).eq (by omega)
      · rw [upd_same, List.map_append (l₁ := ys ++ [z])]
        rfl
      · rw [List.length_append, nl1]
        rfl
      · refine List.pairwise_append.mpr ⟨asc, List.pairwise_singleton _ _, fun a ha b hb => ?_⟩
        rw [List.mem_singleton.mp hb]
        rcases List.mem_append.mp ha with h | h
        · have := hz a h
          omega
        · rw [List.mem_singleton.mp h]
          omega
      · intro x hx
        have bz := bd z (List.mem_append_right _ (List.mem_singleton.mpr rfl))
        rcases List.mem_append.mp hx with h | h
        · have := bd x h
          omega
        · rw [List.mem_singleton.mp h]
          omega
      · intro y hy
        rcases List.mem_append.mp hy with h | h
        · have := hz y h
          omega
        · rw [List.mem_singleton.mp h]
          omega
    · rintro σ H2 ⟨⟨kp2, dk2⟩, ⟨ns, el, nl1, asc, bd, _⟩, y3, rfl⟩
      refine ⟨.ref l, rfl, q H2 l ns kp2 (dk2.eq (by omega)) nl0 el (by omega) ⟨asc, fun x hx => ?_⟩⟩
      have := bd x hx
      omega
def sp_law_interval : Sp := fun vs H Q _ => ∃ (d : Addr) (c : Addr × Addr) (l : Addr) (n : Int) (ns : List Int), vs = [.ref d, .ref l] ∧ Dk H d c n ∧ 0 ≤ n ∧ n < 999990 ∧ Off d c l ∧ H l = some (.lst (ns.map V.int)) ∧ 0 < ns.length ∧ ns.length ≤ 100 ∧
  ∀ H' lo hi t, Kp d c H H' → Dk H' d c (n + 2) → lo ∈ ns → hi ∈ ns → lo ≤ hi → H t = none → H' t = some (.tup [.int lo, .int hi]) → Q (.ref t) H'
theorem nth_of {ns : List Int} {r : Int} (h0 : 0 ≤ r) (h1 : r < ((ns.map V.int).length : Nat)) : ∃ x, x ∈ ns ∧ atI (ns.map V.int) r = some (.int x) := by
  obtain ⟨j, rfl⟩ : ∃ j : Nat, r = j := ⟨r.toNat, by omega⟩
  have hj : j < ns.length := by
    rw [List.length_map] at h1
    omega
  refine ⟨ns[j], List.getElem_mem hj, atI_nat ?_⟩
  rw [List.getElem?_map, List.getElem?_eq_getElem hj]
  rfl
theorem ok_law_interval (T : Tx K mg f_has_position f_contains f_pieces_inside f_farthest_piece f_cover_chain f_law_deck f_law_draw f_law_line f_law_interval f_law_intervals f_law_gap f_law_chain f_law_shuffled f_law_fewest f_law_right f_law d_has_position d_contains d_pieces_inside d_farthest_piece d_cover_chain d_law_deck d_law_draw d_law_line d_law_interval d_law_intervals d_law_gap d_law_chain d_law_shuffled d_law_fewest d_law_right d_law) : FnOk P w K mg base CX0 2 f_law_interval d_law_interval ["_law_deck_here", "_law_line_here"] sp_law_interval := by
  refine T.F_law_interval.ok sc_law_interval (fun vs H Q E h => ?_) (fun cdv A outer s H vs Q E hr h => ?_)
  · obtain ⟨d, c, l, n, ns, rfl, _⟩ := h
    rfl
  · obtain ⟨d, c, l, n, ns, rfl, dk, n0, n1, off, el, ln0, ln1, q⟩ := h
    have lp : (0 : Int) < ((ns.map V.int).length : Nat) := by rw [List.length_map]; omega
    have lp2 : (((ns.map V.int).length : Nat) : Int) < 2 ^ 63 := by rw [List.length_map]; omega
    refine ⟨_, (pss_cons (ps_par (by rfl) sc_law_interval.nd (i := 2) (j := 3) rfl rfl (by decide) rfl rfl (pa_cons (pe_ix ix_list (pv 1) (pe_call (ok_law_draw T) (hr.mono (by decide)) (by rfl) T.g_law_draw T.F_law_draw.kp T.b_law_draw .nil pass0 (pa_cons (pv 0) (pa_cons (pe_callB call_len_seq (by rfl) T.z_len PySem.boot_len (pa_cons (pv 1) pa_nil)) pa_nil))) (fun _ _ => rfl)) (pa_cons (pe_ix ix_list (pv 1) (pe_call (ok_law_draw T) (hr.mono (by decide)) (by rfl) T.g_law_draw T.F_law_draw.kp T.b_law_draw .nil pass0 (pa_cons (pv 0) (pa_cons (pe_callB call_len_seq (by rfl) T.z_len PySem.boot_len (pa_cons (pv 1) pa_nil)) pa_nil))) (fun _ _ => rfl)) pa_nil)) (by rfl))
      (pss_one (ps_ret (pe_tup (pa_cons (pe_callB (call_min2 rfl) (by rfl) T.z_min (by decide +kernel) (pa_cons (pv 2) (pa_cons (pv 3) pa_nil))) (pa_cons (pe_callB (call_max2 rfl) (by rfl) T.z_max (by decide +kernel) (pa_cons (pv 2) (pa_cons (pv 3) pa_nil))) pa_nil)))))), ?_⟩
    refine ⟨.ref l, rfl, .ref d, rfl, .ref l, rfl, l, _, rfl, .inl (SqL.of el), d, c, n, _, rfl, dk, n0, by omega, lp, lp2, fun H1 r kp1 dk1 r0 r1 => ?_⟩
    have el1 := kp1.keep off el
    obtain ⟨x, mx, ex⟩ := nth_of r0 r1
    refine ⟨l, _, r, _, rfl, rfl, SqL.of el1, ex, .ref l, rfl, .ref d, rfl, .ref l, rfl, l, _, rfl, .inl (SqL.of el1), d, c, n + 1, _, rfl, dk1, by omega, by omega, lp, lp2, fun H2 r2 kp2 dk2 r20 r21 => ?_⟩
    have el2 := kp2.keep off el1
    obtain ⟨y, my, ey⟩ := nth_of r20 r21
    refine ⟨l, _, r2, _, rfl, rfl, SqL.of el2, ey, _, _, rfl, ?_⟩
    refine ⟨_, rfl, _, rfl, _, _, rfl, _, rfl, _, rfl, _, _, rfl, by show 2 ≤ sizeLine; decide, fun t nt => ?_⟩
    have s := same_new (o := .tup [.int (mnI x y), .int (mxI x y)]) nt
    have kp := kp1.trans kp2
    refine q _ (mnI x y) (mxI x y) t (kp.trans (Kp.same s)) ((dk2.kept s).eq (by omega)) ?_ ?_ ?_ (kp.none dk dk2 nt) upd_same
    · unfold mnI
      split <;> assumption
    · unfold mxI
      split <;> assumption
    · unfold mnI mxI
      split <;> split <;> omega

/-! ### what stays when the heap grows, or the deck is drawn from -/
theorem rd_same {H H' : Hp} (s : Same H H') {a : Addr} {u : HO} (h : Rd H a u) : Rd H' a u := by
  rcases h with h | ⟨o, h⟩
  · exact .inl (s _ _ h)
  · exact .inr ⟨o, s _ _ h⟩
theorem sqT_same {K : PySem.W.Frag} {H H' : Hp} (s : Same H H') {a : Addr} {xs : List V} (h : SqT K H a xs) : SqT K H' a xs := by
  rcases h with h | h
  · exact .inl (rd_same s h)
  · exact .inr h
theorem dp_same {K : PySem.W.Frag} {H H' : Hp} (s : Same H H') {v : V} {d : PyData} (h : Dp K H v d) : Dp K H' v d := by
  refine Dp.rec (K := K) (H := H) (motive_1 := fun v d _ => Dp K H' v d) (motive_2 := fun vs ds _ => DpAll K H' vs ds) .non (fun b => .bl b) (fun i => .int i) (fun x => .str x) (fun hs _ q => .lst (s.seq hs) q) (fun hs _ q => .tup (sqT_same s hs) q) .nil (fun _ _ a b => .cons a b) h
theorem dp2 {K : PySem.W.Frag} {H : Hp} {t : Addr} {x y : Int} (h : H t = some (.tup [.int x, .int y])) : Dp K H (.ref t) (.tuple [.int x, .int y]) := .tup (SqT.of h) (.cons (.int x) (.cons (.int y) .nil))
theorem sm2 {x y : Int} (h1 : x.natAbs < 10 ^ 30) (h2 : y.natAbs < 10 ^ 30) : Sm 202 1 (.tuple [.int x, .int y]) := by
  have h := Sm.tup (n := 100) (dp := 0) (ds := [.int x, .int y]) (fun d hd => by
    rcases List.mem_cons.mp hd with rfl | hd
    · exact Sm.int h1
    · rcases List.mem_cons.mp hd with rfl | hd
      · exact Sm.int h2
      · cases hd)
  exact h
/-- an interval, or None -/
def optD : Option (Int × Int) → PyData
  | none => .none
  | some (x, y) => .tuple [.int x, .int y]
def OV (H : Hp) (v : V) : Option (Int × Int) → Prop
  | none => v = .non
  | some (x, y) => ∃ t, v = .ref t ∧ H t = some (.tup [.int x, .int y])
theorem OV.same {H H' : Hp} (s : Same H H') {v : V} {o : Option (Int × Int)} (h : OV H v o) : OV H' v o := by
  match o, h with
  | none, h => exact h
  | some (x, y), h =>
    obtain ⟨t, e, z⟩ := h
    exact ⟨t, e, s _ _ z⟩
theorem OV.kp {d : Addr} {c : Addr × Addr} {n : Int} {H H' : Hp} (k : Kp d c H H') (dk : Dk H d c n) {v : V} {o : Option (Int × Int)} (h : OV H v o) : OV H' v o := by
  match o, h with
  | none, h => exact h
  | some (x, y), h =>
    obtain ⟨t, e, z⟩ := h
    exact ⟨t, e, k.tup dk z⟩
theorem OV.dp {K : PySem.W.Frag} {H : Hp} {v : V} {o : Option (Int × Int)} (h : OV H v o) : Dp K H v (optD o) := by
  match o, h with
  | none, h =>
    cases h
    exact .non
  | some (x, y), h =>
    obtain ⟨t, e, z⟩ := h
    subst e
    exact dp2 z

/-! ### rows of intervals -/
inductive Ivs (H : Hp) : List V → List (Int × Int) → Prop
  | nil : Ivs H [] []
  | cons {a : Addr} {x y : Int} {vs : List V} {ps : List (Int × Int)} : H a = some (.tup [.int x, .int y]) → Ivs H vs ps → Ivs H (.ref a :: vs) ((x, y) :: ps)
theorem Ivs.length {H : Hp} {vs : List V} {ps : List (Int × Int)} (h : Ivs H vs ps) : vs.length = ps.length := by
  induction h with
  | nil => rfl
  | cons _ _ ih => rw [List.length_cons, List.length_cons, ih]
theorem Ivs.same {H H' : Hp} (s : Same H H') {vs : List V} {ps : List (Int × Int)} (h : Ivs H vs ps) : Ivs H' vs ps := by
  induction h with
  | nil => exact .nil
  | cons e _ ih => exact .cons (s _ _ e) ih
theorem Ivs.kp {d : Addr} {c : Addr × Addr} {n : Int} {H H' : Hp} (k : Kp d c H H') (dk : Dk H d c n) {vs : List V} {ps : List (Int × Int)} (h : Ivs H vs ps) : Ivs H' vs ps := by
  induction h with
  | nil => exact .nil
  | cons e _ ih => exact .cons (k.tup dk e) ih
theorem Ivs.get {H : Hp} {vs : List V} {ps : List (Int × Int)} (h : Ivs H vs ps) : ∀ {i : Nat} {v : V}, vs[i]? = some v → ∃ a x y, v = .ref a ∧ ps[i]? = some (x, y) ∧ H a = some (.tup [.int x, .int y]) := by
  induction h with
  | nil =>
    intro i v e
    simp at e
  | cons e _ ih =>
    intro i v q
    cases i with
    | zero =>
      cases q
      exact ⟨_, _, _, rfl, rfl, e⟩
    | succ i => exact ih q
theorem Ivs.snoc {H : Hp} {vs : List V} {ps : List (Int × Int)} {a : Addr} {x y : Int} (h : Ivs H vs ps) (e : H a = some (.tup [.int x, .int y])) : Ivs H (vs ++ [.ref a]) (ps ++ [(x, y)]) := by
  induction h with
  | nil => exact .cons e .nil
  | cons z _ ih => exact .cons z ih
def pairD (p : Int × Int) : PyData := .tuple [.int p.1, .int p.2]
theorem Ivs.dp {K : PySem.W.Frag} {H : Hp} {vs : List V} {ps : List (Int × Int)} (h : Ivs H vs ps) : DpAll K H vs (ps.map pairD) := by
  induction h with
  | nil => exact .nil
  | cons e _ ih => exact .cons (dp2 e) ih

/-! ### comprehensions that change nothing but make new objects -/
/-- the tuples stay -/
def Tps (H H' : Hp) : Prop := ∀ b xs, H b = some (.tup xs) → H' b = some (.tup xs)
theorem Tps.refl (H : Hp) : Tps H H := fun _ _ e => e
theorem Tps.trans {H H1 H2 : Hp} (h : Tps H H1) (h2 : Tps H1 H2) : Tps H H2 := fun b xs e => h2 b xs (h b xs e)
theorem Tps.same {H H1 : Hp} (h : Same H H1) : Tps H H1 := fun b xs e => h b _ e
theorem Kp.tps {d : Addr} {c : Addr × Addr} {n : Int} {H H' : Hp} (k : Kp d c H H') (dk : Dk H d c n) : Tps H H' := fun _ _ e => k.tup dk e
theorem Tps.lst {H : Hp} {D : Addr} {ws vs : List V} (e : H D = some (.lst ws)) : Tps H (upd H D (.lst vs)) := fun b xs h => by
  rw [upd_ne (ne_of h e (fun z => by cases z))]
  exact h
theorem same_off {H0 H : Hp} {D : Addr} {o : HO} (n : H0 D = none) (s : Same H0 H) : Same H0 (upd H D o) := fun b u e => by
  rw [upd_ne (ne_of_none e n)]
  exact s b u e
theorem few_line {n : Nat} (h : n < 1000) : n < sizeLine := by
  rw [show sizeLine = 16777216 by decide]
  omega
theorem lcL {K : PySem.W.Frag} {a : Addr} {xs : List V} {g : TG} {tt : TT} {te : TE} {vs : List Nat} {σ : L2.St} {H1 : Hp} {D : Addr} {Qd : Hp → Prop} (R : Nat → Hp → List V → Prop) (nD : H1 D = none) (hl : ∀ H', Same H1 H' → SqL K H' a xs) (few : xs.length < 1000)
    (mono : ∀ i H' H'' ws, Tps H' H'' → R i H' ws → R i H'' ws) (len : ∀ i H' ws, R i H' ws → ws.length ≤ i) (r0 : ∀ H', R 0 H' [])
    (hs : ∀ i x H' (N : Hp → Prop) acc, xs[i]? = some x → Same H1 H' → H' D = some (.lst acc) → acc.length < sizeLine → R i H' acc → (∀ H'', Same H' H'' → R (i + 1) H'' acc → N H'') → (∀ H'' y, Same H' H'' → R (i + 1) H'' (acc ++ [y]) → ∃ acc', H'' D = some (.lst acc') ∧ acc'.length < sizeLine ∧ N (upd H'' D (.lst (acc' ++ [y])))) →
      g x (wipe σ vs) H' fun σ2 H2 => wipe σ2 vs = wipe σ vs ∧ tt σ2 H2 fun b H3 => if b = true then te σ2 H3 fun y H4 => ∃ acc, H4 D = some (.lst acc) ∧ acc.length < sizeLine ∧ N (upd H4 D (.lst (acc ++ [y]))) else N H3)
    (hd : ∀ H' ws, Same H1 H' → H' D = some (.lst ws) → R xs.length H' ws → Qd H') :
    ∃ W : Nat → Nat → Hp → Prop, (∃ m, W 0 m (upd H1 D (.lst []))) ∧ ∀ i m H, W i m H →
      ((Itl K a).stop i H ∧ Qd H) ∨ ((Itl K a).go i H ∧ ∃ Nx : Hp → Prop, (∀ H', Nx H' → ∃ m', m' < m ∧ W (i + 1) m' H') ∧ ∀ x H', (Itl K a).yld i H x H' → g x (wipe σ vs) H' fun σ2 H2 => wipe σ2 vs = wipe σ vs ∧ tt σ2 H2 fun b H3 =>
        if b = true then te σ2 H3 fun y H4 => ∃ acc, H4 D = some (.lst acc) ∧ acc.length < sizeLine ∧ Nx (upd H4 D (.lst (acc ++ [y]))) else Nx H3) := by
  refine lc_list (K := K) (a := a) (xs := xs) (fun i H' => Same H1 H' ∧ ∃ ws, H' D = some (.lst ws) ∧ R i H' ws) ⟨same_new nD, [], upd_same, r0 _⟩ (fun i H' _ h => hl H' h.1) ?_ ?_
  · rintro i x H' hi ⟨sm, ws, eD, r⟩
    have lt := (List.getElem?_eq_some_iff.mp hi).1
    have lw := len i H' ws r
    have sz : ws.length < sizeLine := few_line (by omega)
    refine hs i x H' _ ws hi sm eD sz r (fun H'' s r2 => ⟨sm.trans s, ws, s _ _ eD, r2⟩) (fun H'' y s r2 => ?_)
    exact ⟨ws, s _ _ eD, sz, same_off nD (sm.trans s), _, upd_same, mono _ _ _ _ (Tps.lst (s _ _ eD)) r2⟩
  · rintro H' ⟨sm, ws, eD, r⟩
    exact hd H' ws sm eD r
theorem lcT {K : PySem.W.Frag} {a : Addr} {xs : List V} {g : TG} {tt : TT} {te : TE} {vs : List Nat} {σ : L2.St} {H1 : Hp} {D : Addr} {Qd : Hp → Prop} (R : Nat → Hp → List V → Prop) (nD : H1 D = none) (hl : ∀ H', Same H1 H' → SqT K H' a xs) (few : xs.length < 1000)
    (mono : ∀ i H' H'' ws, Tps H' H'' → R i H' ws → R i H'' ws) (len : ∀ i H' ws, R i H' ws → ws.length ≤ i) (r0 : ∀ H', R 0 H' [])
    (hs : ∀ i x H' (N : Hp → Prop) acc, xs[i]? = some x → Same H1 H' → H' D = some (.lst acc) → acc.length < sizeLine → R i H' acc → (∀ H'', Same H' H'' → R (i + 1) H'' acc → N H'') → (∀ H'' y, Same H' H'' → R (i + 1) H'' (acc ++ [y]) → ∃ acc', H'' D = some (.lst acc') ∧ acc'.length < sizeLine ∧ N (upd H'' D (.lst (acc' ++ [y])))) →
      g x (wipe σ vs) H' fun σ2 H2 => wipe σ2 vs = wipe σ vs ∧ tt σ2 H2 fun b H3 => if b = true then te σ2 H3 fun y H4 => ∃ acc, H4 D = some (.lst acc) ∧ acc.length < sizeLine ∧ N (upd H4 D (.lst (acc ++ [y]))) else N H3)
    (hd : ∀ H' ws, Same H1 H' → H' D = some (.lst ws) → R xs.length H' ws → Qd H') :
    ∃ W : Nat → Nat → Hp → Prop, (∃ m, W 0 m (upd H1 D (.lst []))) ∧ ∀ i m H, W i m H →
      ((Itt K a).stop i H ∧ Qd H) ∨ ((Itt K a).go i H ∧ ∃ Nx : Hp → Prop, (∀ H', Nx H' → ∃ m', m' < m ∧ W (i + 1) m' H') ∧ ∀ x H', (Itt K a).yld i H x H' → g x (wipe σ vs) H' fun σ2 H2 => wipe σ2 vs = wipe σ vs ∧ tt σ2 H2 fun b H3 =>
        if b = true then te σ2 H3 fun y H4 => ∃ acc, H4 D = some (.lst acc) ∧ acc.length < sizeLine ∧ Nx (upd H4 D (.lst (acc ++ [y]))) else Nx H3) := by
  refine lc_tup (K := K) (a := a) (xs := xs) (fun i H' => Same H1 H' ∧ ∃ ws, H' D = some (.lst ws) ∧ R i H' ws) ⟨same_new nD, [], upd_same, r0 _⟩ (fun i H' _ h => hl H' h.1) ?_ ?_
  · rintro i x H' hi ⟨sm, ws, eD, r⟩
    have lt := (List.getElem?_eq_some_iff.mp hi).1
    have lw := len i H' ws r
    have sz : ws.length < sizeLine := few_line (by omega)
    refine hs i x H' _ ws hi sm eD sz r (fun H'' s r2 => ⟨sm.trans s, ws, s _ _ eD, r2⟩) (fun H'' y s r2 => ?_)
    exact ⟨ws, s _ _ eD, sz, same_off nD (sm.trans s), _, upd_same, mono _ _ _ _ (Tps.lst (s _ _ eD)) r2⟩
  · rintro H' ⟨sm, ws, eD, r⟩
    exact hd H' ws sm eD r
theorem map_filter_len {α : Type} {ns : List α} {p : α → Bool} {f : α → V} (i : Nat) : (((ns.take i).filter p).map f).length ≤ i := by
  rw [List.length_map]
  exact Nat.le_trans (List.length_filter_le _ _) (List.length_take_le _ _)
theorem take_filter {α : Type} {ns : List α} {i : Nat} {n : α} {p : α → Bool} (h : ns[i]? = some n) : (ns.take (i + 1)).filter p = (ns.take i).filter p ++ (if p n = true then [n] else []) := by
  rw [List.take_add_one, h, List.filter_append]
  congr 1
  show List.filter p [n] = _
  rw [List.filter_cons]
  split <;> rfl
theorem nodup_le {α : Type} [DecidableEq α] : ∀ {l m : List α}, l.Nodup → (∀ x ∈ l, x ∈ m) → l.length ≤ m.length
  | [], _, _, _ => Nat.zero_le _
  | a :: l, m, h, hs => by
    have hm := hs a List.mem_cons_self
    have h' := List.nodup_cons.mp h
    have ih := nodup_le (l := l) (m := m.erase a) h'.2 (fun x hx => (List.mem_erase_of_ne (fun e => h'.1 (by rw [← e]; exact hx))).mpr (hs x (List.mem_cons_of_mem _ hx)))
    rw [List.length_erase_of_mem hm] at ih
    have := List.length_pos_of_mem hm
    rw [List.length_cons]
    omega

/-! ### demands, and rows of them -/
structure Dm (H : Hp) (v : V) (p lo hi : Int) : Prop where
  ex : ∃ u t, v = .ref u ∧ H u = some (.tup [.int p, .ref t]) ∧ H t = some (.tup [.int lo, .int hi])
  low : lo ≤ p
  high : p ≤ hi
theorem Dm.tps {H H' : Hp} (s : Tps H H') {v : V} {p lo hi : Int} (h : Dm H v p lo hi) : Dm H' v p lo hi := by
  obtain ⟨u, t, rfl, e1, e2⟩ := h.ex
  exact ⟨⟨u, t, rfl, s _ _ e1, s _ _ e2⟩, h.low, h.high⟩
theorem Dm.same {H H' : Hp} (s : Same H H') {v : V} {p lo hi : Int} (h : Dm H v p lo hi) : Dm H' v p lo hi := h.tps (Tps.same s)
inductive Dms (H : Hp) : List V → List (Int × Int × Int) → Prop
  | nil : Dms H [] []
  | cons {v : V} {p lo hi : Int} {vs : List V} {ds : List (Int × Int × Int)} : Dm H v p lo hi → Dms H vs ds → Dms H (v :: vs) ((p, lo, hi) :: ds)
theorem Dms.length {H : Hp} {vs : List V} {ds : List (Int × Int × Int)} (h : Dms H vs ds) : vs.length = ds.length := by
  induction h with
  | nil => rfl
  | cons _ _ ih => rw [List.length_cons, List.length_cons, ih]
theorem Dms.tps {H H' : Hp} (s : Tps H H') {vs : List V} {ds : List (Int × Int × Int)} (h : Dms H vs ds) : Dms H' vs ds := by
  induction h with
  | nil => exact .nil
  | cons e _ ih => exact .cons (e.tps s) ih
theorem Dms.same {H H' : Hp} (s : Same H H') {vs : List V} {ds : List (Int × Int × Int)} (h : Dms H vs ds) : Dms H' vs ds := h.tps (Tps.same s)
theorem Dms.get {H : Hp} {vs : List V} {ds : List (Int × Int × Int)} (h : Dms H vs ds) : ∀ {i : Nat} {v : V}, vs[i]? = some v → ∃ p lo hi, ds[i]? = some (p, lo, hi) ∧ Dm H v p lo hi := by
  induction h with
  | nil =>
    intro i v e
    simp at e
  | cons e _ ih =>
    intro i v q
    cases i with
    | zero =>
      cases q
      exact ⟨_, _, _, rfl, e⟩
    | succ i => exact ih q
theorem Dms.append {H : Hp} {vs us : List V} {ds es : List (Int × Int × Int)} (h : Dms H vs ds) (h2 : Dms H us es) : Dms H (vs ++ us) (ds ++ es) := by
  induction h with
  | nil => exact h2
  | cons e _ ih => exact .cons e ih
theorem Dms.snoc {H : Hp} {vs : List V} {ds : List (Int × Int × Int)} {v : V} {p lo hi : Int} (h : Dms H vs ds) (e : Dm H v p lo hi) : Dms H (vs ++ [v]) (ds ++ [(p, lo, hi)]) := h.append (.cons e .nil)
theorem Dms.take {H : Hp} {vs : List V} {ds : List (Int × Int × Int)} (h : Dms H vs ds) : ∀ n : Nat, Dms H (vs.take n) (ds.take n) := by
  induction h with
  | nil =>
    intro n
    rw [List.take_nil, List.take_nil]
    exact .nil
  | cons e _ ih =>
    intro n
    cases n with
    | zero => exact .nil
    | succ n => exact .cons e (ih n)
theorem Dms.reverse {H : Hp} {vs : List V} {ds : List (Int × Int × Int)} (h : Dms H vs ds) : Dms H vs.reverse ds.reverse := by
  induction h with
  | nil => exact .nil
  | cons e _ ih =>
    rw [List.reverse_cons, List.reverse_cons]
    exact ih.snoc e
theorem Dms.isEmpty {H : Hp} {vs : List V} {ds : List (Int × Int × Int)} (h : Dms H vs ds) : vs.isEmpty = ds.isEmpty := by
  cases h <;> rfl
theorem Dms.ok {H : Hp} {vs : List V} {ds : List (Int × Int × Int)} (h : Dms H vs ds) : ∀ q ∈ ds, q.2.1 ≤ q.1 ∧ q.1 ≤ q.2.2 := by
  induction h with
  | nil =>
    intro q hq
    cases hq
  | cons e _ ih =>
    intro q hq
    rcases List.mem_cons.mp hq with rfl | hq
    · exact ⟨e.low, e.high⟩
    · exact ih q hq
/-! ### comprehensions over a range that draw -/
theorem lcK {d : Addr} {c : Addr × Addr} {n0 per : Int} {lo : Int} {n : Nat} {g : TG} {tt : TT} {te : TE} {vs : List Nat} {σ : L2.St} {H1 : Hp} {D : Addr} {Qd : Hp → Prop} (R : Nat → Hp → List V → Prop) (nD : H1 D = none) (dk : Dk H1 d c n0) (few : n < 1000)
    (mono : ∀ i H' H'' ws, Tps H' H'' → R i H' ws → R i H'' ws) (len : ∀ i H' ws, R i H' ws → ws.length ≤ i) (r0 : ∀ H', R 0 H' [])
    (hs : ∀ i H' (N : Hp → Prop) acc, i < n → Kp d c H1 H' → Dk H' d c (n0 + per * i) → H' D = some (.lst acc) → R i H' acc → (∀ H'' y, Kp d c H' H'' → Dk H'' d c (n0 + per * i + per) → R (i + 1) H'' (acc ++ [y]) → ∃ acc', H'' D = some (.lst acc') ∧ acc'.length < sizeLine ∧ N (upd H'' D (.lst (acc' ++ [y])))) →
      g (.int (lo + i)) (wipe σ vs) H' fun σ2 H2 => wipe σ2 vs = wipe σ vs ∧ tt σ2 H2 fun b H3 => if b = true then te σ2 H3 fun y H4 => ∃ acc, H4 D = some (.lst acc) ∧ acc.length < sizeLine ∧ N (upd H4 D (.lst (acc ++ [y]))) else N H3)
    (hd : ∀ H' ws, Kp d c H1 H' → Dk H' d c (n0 + per * n) → H' D = some (.lst ws) → R n H' ws → Qd H') :
    ∃ W : Nat → Nat → Hp → Prop, (∃ m, W 0 m (upd H1 D (.lst []))) ∧ ∀ i m H, W i m H →
      ((Itr lo n).stop i H ∧ Qd H) ∨ ((Itr lo n).go i H ∧ ∃ Nx : Hp → Prop, (∀ H', Nx H' → ∃ m', m' < m ∧ W (i + 1) m' H') ∧ ∀ x H', (Itr lo n).yld i H x H' → g x (wipe σ vs) H' fun σ2 H2 => wipe σ2 vs = wipe σ vs ∧ tt σ2 H2 fun b H3 =>
        if b = true then te σ2 H3 fun y H4 => ∃ acc, H4 D = some (.lst acc) ∧ acc.length < sizeLine ∧ Nx (upd H4 D (.lst (acc ++ [y]))) else Nx H3) := by
  have off := dk.off nD
  refine lc_range (lo := lo) (n := n) (fun i H' => Kp d c H1 H' ∧ Dk H' d c (n0 + per * i) ∧ ∃ ws, H' D = some (.lst ws) ∧ R i H' ws) ⟨Kp.same (same_new nD), (dk.upd off).eq (by simp), [], upd_same, r0 _⟩ ?_ ?_
  · rintro i H' hi ⟨kp, dk', ws, eD, r⟩
    have lw := len i H' ws r
    have sz : ws.length < sizeLine := few_line (by omega)
    refine hs i H' _ ws hi kp dk' eD r (fun H'' y kp2 dk2 r2 => ?_)
    have eD2 := kp2.keep off eD
    refine ⟨ws, eD2, sz, fun b o n1 n2 e => ?_, (dk2.upd off).eq ?_, _, upd_same, mono _ _ _ _ (Tps.lst eD2) r2⟩
    · rw [upd_ne (ne_of_none e nD)]
      exact kp2 b o n1 n2 (kp b o n1 n2 e)
    · rw [Int.natCast_succ, Int.mul_add, Int.mul_one]
      omega
  · rintro H' ⟨kp, dk', ws, eD, r⟩
    exact hd H' ws kp dk' eD r

theorem Ivs.tps {H H' : Hp} (s : Tps H H') {vs : List V} {ps : List (Int × Int)} (h : Ivs H vs ps) : Ivs H' vs ps := by
  induction h with
  | nil => exact .nil
  | cons e _ ih => exact .cons (s _ _ e) ih
theorem Ivs.append {H : Hp} {vs us : List V} {ps qs : List (Int × Int)} (h : Ivs H vs ps) (h2 : Ivs H us qs) : Ivs H (vs ++ us) (ps ++ qs) := by
  induction h with
  | nil => exact h2
  | cons e _ ih => exact .cons e ih
theorem Ivs.isEmpty {H : Hp} {vs : List V} {ps : List (Int × Int)} (h : Ivs H vs ps) : vs.isEmpty = ps.isEmpty := by
  cases h <;> rfl

/-! ### sorted(set(pairs)) -/
def ltP (a b : Int × Int) : Prop := a.1 < b.1 ∨ (a.1 = b.1 ∧ a.2 < b.2)
def prL (q : Int × Int) : List Int := [q.1, q.2]
theorem prL_inj {a b : Int × Int} (h : prL a = prL b) : a = b := by
  unfold prL at h
  cases a
  cases b
  simp at h
  rw [h.1, h.2]
theorem mem_prL {q : Int × Int} {ps : List (Int × Int)} : prL q ∈ ps.map prL ↔ q ∈ ps := by
  rw [List.mem_map]
  exact ⟨fun ⟨a, ha, e⟩ => prL_inj e ▸ ha, fun h => ⟨q, h, rfl⟩⟩
theorem Ivs.keys {H : Hp} {us : List V} {ps : List (Int × Int)} (h : Ivs H us ps) : ∃ ks : List (Addr × List Int), us = ks.map (fun p => V.ref p.1) ∧ ks.map (·.2) = ps.map prL ∧ ∀ p ∈ ks, ∃ x y : Int, p.2 = [x, y] ∧ H p.1 = some (.tup [.int x, .int y]) := by
  induction h with
  | nil => exact ⟨[], rfl, rfl, fun p hp => nomatch hp⟩
  | cons e _ ih =>
    obtain ⟨ks, e1, e2, e3⟩ := ih
    refine ⟨(_, [_, _]) :: ks, by rw [List.map_cons, e1], by rw [List.map_cons, List.map_cons, e2]; rfl, fun p hp => ?_⟩
    rcases List.mem_cons.mp hp with rfl | hp
    · exact ⟨_, _, rfl, e⟩
    · exact e3 p hp
theorem Ivs.ofKeys {H : Hp} : ∀ {L : List (Addr × List Int)}, (∀ p ∈ L, ∃ x y : Int, p.2 = [x, y] ∧ H p.1 = some (.tup [.int x, .int y])) → ∃ ps, Ivs H (L.map fun p => V.ref p.1) ps ∧ L.map (·.2) = ps.map prL
  | [], _ => ⟨[], .nil, rfl⟩
  | p :: L, h => by
    obtain ⟨x, y, e, e1⟩ := h p List.mem_cons_self
    obtain ⟨ps, i, e2⟩ := Ivs.ofKeys (L := L) fun q hq => h q (List.mem_cons_of_mem _ hq)
    exact ⟨(x, y) :: ps, .cons e1 i, by rw [List.map_cons, List.map_cons, e2, e]; rfl⟩
theorem Ivs.tpsMem {H : Hp} {us : List V} {ps : List (Int × Int)} (h : Ivs H us ps) {q : Int × Int} (hq : q ∈ ps) : ∃ a, V.ref a ∈ us ∧ H a = some (.tup [.int q.1, .int q.2]) := by
  induction h with
  | nil => cases hq
  | cons e _ ih =>
    rcases List.mem_cons.mp hq with rfl | hq
    · exact ⟨_, List.mem_cons_self, e⟩
    · obtain ⟨a, h1, h2⟩ := ih hq
      exact ⟨a, List.mem_cons_of_mem _ h1, h2⟩
theorem sorted_keys {K : PySem.W.Frag} {P : Program} {w : World} {H : Hp} {ps : List (Int × Int)} {Q : VK} {ks L : List (Addr × List Int)} {a : Addr} (e2 : ks.map (·.2) = ps.map prL) (e3 : ∀ p ∈ ks, ∃ x y : Int, p.2 = [x, y] ∧ H p.1 = some (.tup [.int x, .int y])) (na : H a = none) (h1 : ∀ p ∈ L, p ∈ ks) (h2 : ∀ p ∈ ks, p.2 ∈ L.map (·.2)) (bd : ∀ q ∈ ps, (0 ≤ q.1 ∧ q.1 < 10 ^ 13) ∧ 0 ≤ q.2 ∧ q.2 < 10 ^ 13)
    (fin : ∀ H' p us' ps', Same H H' → H p = none → H' p = some (.lst us') → Ivs H' us' ps' → ps'.Pairwise ltP → (∀ q, q ∈ ps' ↔ q ∈ ps) → Q (.ref p) H') :
    rSortedT K P w [.ref a] (upd H a (SetTO P w a L)) Q := by
  have s1 : Same H (upd H a (SetTO P w a L)) := same_new na
  refine ⟨a, L, 2, 10 ^ 13, rfl, upd_same, fun p hp => ?_, by decide, fun p hp => ?_, fun L' p pm nd fw pw np => ?_⟩
  · obtain ⟨x, y, e, e1⟩ := e3 p (h1 p hp)
    rw [e]
    exact SqT.of (s1 _ _ e1)
  · have m : p.2 ∈ ks.map (·.2) := List.mem_map.mpr ⟨p, h1 p hp, rfl⟩
    rw [e2] at m
    obtain ⟨q, hq, e⟩ := List.mem_map.mp m
    have b := bd q hq
    rw [← e]
    refine ⟨rfl, fun m hm => ?_⟩
    unfold prL at hm
    rcases List.mem_cons.mp hm with rfl | hm
    · exact b.1
    · rw [List.mem_singleton.mp hm]
      exact b.2
  · have s2 : Same (upd H a (SetTO P w a L)) (upd (upd H a (SetTO P w a L)) p (.lst (L'.map fun q => V.ref q.1))) := same_new np
    obtain ⟨ps', i, e4⟩ := Ivs.ofKeys (H := H) (L := L') fun q hq => e3 q (h1 q (pm.mem_iff.mp hq))
    have mem : ∀ q, q ∈ ps' ↔ q ∈ ps := fun q => by
      rw [← mem_prL, ← e4, ← mem_prL (ps := ps), ← e2, (pm.map (·.2)).mem_iff]
      constructor
      · intro h
        obtain ⟨p, hp, e⟩ := List.mem_map.mp h
        exact List.mem_map.mpr ⟨p, h1 p hp, e⟩
      · intro h
        obtain ⟨p, hp, e⟩ := List.mem_map.mp h
        rw [← e]
        exact h2 p hp
    refine fin _ p _ ps' (s1.trans s2) (s1.free np) upd_same (i.same (s1.trans s2)) ?_ mem
    have pw2 : (L'.map (·.2)).Pairwise (fun q r => TS.code (10 ^ 13) q ≤ TS.code (10 ^ 13) r) := List.pairwise_map.mpr pw
    have both := pw2.and nd
    rw [e4] at both
    refine (List.pairwise_map.mp both).imp_of_mem fun {x y} hx hy h => ?_
    have bx := bd x ((mem x).mp hx)
    have bY := bd y ((mem y).mp hy)
    have tb : ∀ {z : Int × Int}, ((0 ≤ z.1 ∧ z.1 < 10 ^ 13) ∧ 0 ≤ z.2 ∧ z.2 < 10 ^ 13) → TS.Bd (10 ^ 13) [z.1, z.2] := fun b m hm => by
      rcases List.mem_cons.mp hm with rfl | hm
      · exact b.1
      · rw [List.mem_singleton.mp hm]
        exact b.2
    rcases code_lex (tb bx) (tb bY) h.1 with c | ⟨c1, c2⟩
    · exact .inl c
    · refine .inr ⟨c1, ?_⟩
      rcases Int.lt_or_eq_of_le c2 with z | z
      · exact z
      · exact absurd (show prL x = prL y by unfold prL; rw [c1, z]) h.2
theorem sorted_set_pairs {K : PySem.W.Frag} {P : Program} {w : World} {H : Hp} {l : Addr} {us : List V} {ps : List (Int × Int)} {Q : VK} (hl : SqL K H l us) (iv : Ivs H us ps) (few : ps.length < 64) (bd : ∀ q ∈ ps, (0 ≤ q.1 ∧ q.1 < 10 ^ 13) ∧ 0 ≤ q.2 ∧ q.2 < 10 ^ 13)
    (fin : ∀ H' p us' ps', Same H H' → H p = none → H' p = some (.lst us') → Ivs H' us' ps' → ps'.Pairwise ltP → (∀ q, q ∈ ps' ↔ q ∈ ps) → Q (.ref p) H') :
    rSetOfT K P w [.ref l] H (fun x H1 => rSortedT K P w [x] H1 Q) := by
  obtain ⟨ks, rfl, e2, e3⟩ := iv.keys
  have lk : ks.length = ps.length := by
    have z := congrArg List.length e2
    rw [List.length_map, List.length_map] at z
    exact z
  refine ⟨l, ks, rfl, hl, fun p hp => ?_, by omega, fun a L na h1 h2 => ?_⟩
  · obtain ⟨x, y, e, e1⟩ := e3 p hp
    rw [e]
    exact SqT.of e1
  exact sorted_keys e2 e3 na h1 h2 bd fin
/-- drawn intervals: ascending, of the line -/
structure Row (ls : List Int) (ps : List (Int × Int)) : Prop where
  asc : ps.Pairwise ltP
  ok : ∀ q ∈ ps, (q.1 ∈ ls ∧ q.2 ∈ ls) ∧ q.1 ≤ q.2
def sp_law_intervals : Sp := fun vs H Q _ => ∃ (d : Addr) (c : Addr × Addr) (l : Addr) (n most : Int) (ls : List Int), vs = [.ref d, .ref l, .int most] ∧ Dk H d c n ∧ 0 ≤ n ∧ n < 999000 ∧ Off d c l ∧ H l = some (.lst (ls.map V.int)) ∧ 0 < ls.length ∧ ls.length ≤ 100 ∧ Ln ls ∧ 0 ≤ most ∧ most ≤ 30 ∧
  ∀ H' t us ps m, Kp d c H H' → Dk H' d c m → n ≤ m → m ≤ n + 1 + 2 * most → H' t = some (.tup us) → Ivs H' us ps → Row ls ps → (ps.length : Int) ≤ most → Q (.ref t) H'
theorem ok_law_intervals (T : Tx K mg f_has_position f_contains f_pieces_inside f_farthest_piece f_cover_chain f_law_deck f_law_draw f_law_line f_law_interval f_law_intervals f_law_gap f_law_chain f_law_shuffled f_law_fewest f_law_right f_law d_has_position d_contains d_pieces_inside d_farthest_piece d_cover_chain d_law_deck d_law_draw d_law_line d_law_interval d_law_intervals d_law_gap d_law_chain d_law_shuffled d_law_fewest d_law_right d_law) : FnOk P w K mg base CX0 3 f_law_intervals d_law_intervals ["_law_deck_here", "_law_line_here", "_law_most"] sp_law_intervals := by
  refine T.F_law_intervals.ok sc_law_intervals (fun vs H Q E h => ?_) (fun cdv A outer s H vs Q E hr h => ?_)
  · obtain ⟨d, c, l, n, most, ls, rfl, _⟩ := h
    rfl
  · obtain ⟨d, c, l, n, most, ls, rfl, dk, n0, n1, off, el, ln0, ln1, ln, m0, m1, q⟩ := h
    refine ⟨_, (pss_cons (ps_setLc (i := 3) (own := [("_law_k", 4)]) (g := (gName 4)) (tt := tYes) (by rfl) sc_law_intervals.nd rfl rfl (sw_true rfl rfl rfl (by decide +kernel)) (pi_range1 (by rfl) T.z_range (pa_cons (pe_call (ok_law_draw T) (hr.mono (by decide)) (by rfl) T.g_law_draw T.F_law_draw.kp T.b_law_draw .nil pass0 (pa_cons (pv 0) (pa_cons (pe_op op_add (pv 2) pe_int) pa_nil))) pa_nil)) (blkOk_by (own := [("_law_k", 4)]) (N := N_law_intervals) (sc := defScope s_law_intervals) (by decide +kernel)) (fun _ _ _ _ _ => (pg_name (i := 4) sc_law_intervals.nd rfl (Or.inl rfl))) (fun _ _ _ _ _ => pts_nil) (fun _ _ _ _ _ => (pe_call (ok_law_interval T) (hr.mono (by decide)) (by rfl) T.g_law_interval T.F_law_interval.kp T.b_law_interval .nil pass0 (pa_cons (pv 0) (pa_cons (pv 1) pa_nil)))))
      (pss_one (ps_ret (pe_callTy call_tuple_of (by rfl) T.z_tuple (by decide +kernel) (pa_cons (pe_callB (cr_sortedT rfl) (by rfl) T.z_sorted (by decide +kernel) (pa_cons (pe_callTy (cr_setOfT rfl hr.units) (by rfl) T.z_set (by decide +kernel) (pa_cons (pv 3) pa_nil)) pa_nil)) pa_nil))))), ?_⟩
    refine ⟨.ref d, rfl, .int most, rfl, _, _, rfl, rfl, d, c, n, most + 1, rfl, dk, n0, by omega, by omega, by omega, fun H1 r kp1 dk1 r0 r1 => ?_⟩
    have el1 := kp1.keep off el
    refine ⟨r, rfl, by omega, by omega, fun D nD => ?_⟩
    refine lcK (d := d) (c := c) (per := 2) (n0 := n + 1) (lo := 0) (n := r.toNat) (fun j H' ws => ∃ ps, Ivs H' ws ps ∧ ps.length = j ∧ ∀ q ∈ ps, (q.1 ∈ ls ∧ q.2 ∈ ls) ∧ q.1 ≤ q.2) nD dk1 (by omega) (fun _ _ _ _ t ⟨ps, h1, h2⟩ => ⟨ps, h1.tps t, h2⟩) (fun j H' ws ⟨ps, h1, h2, _⟩ => by rw [h1.length, h2]; exact Nat.le_refl _) (fun _ => ⟨[], .nil, rfl, fun q hq => nomatch hq⟩) ?_ ?_
    · rintro j H' N acc hj kp' dk' eD ⟨ps, iv, pl, pin⟩ yes
      refine ⟨rfl, .ref d, rfl, .ref l, rfl, d, c, l, _, ls, rfl, dk', by omega, by omega, off, kp'.keep off el1, by omega, by omega, fun H6 lo hi t kp6 dk6 mlo mhi lh nt et => ?_⟩
      refine yes H6 _ kp6 dk6 ⟨ps ++ [(lo, hi)], (iv.tps (kp6.tps dk')).snoc et, by rw [List.length_append, pl]; rfl, fun q hq => ?_⟩
      rcases List.mem_append.mp hq with hq | hq
      · exact pin q hq
      · rw [List.mem_singleton.mp hq]
        exact ⟨⟨mlo, mhi⟩, lh⟩
    · rintro H6 ws kp6 dk6 eD ⟨ps, iv, pl, pin⟩
      refine ⟨.ref D, rfl, ?_⟩
      dsimp only [tNil]
      refine sorted_set_pairs (SqL.of eD) iv (by omega) (fun q hq => ?_) (fun H7 p us' ps' s7 np ep iv' asc mem => ?_)
      · have h := pin q hq
        have h1 := ln.ok _ h.1.1
        have h2 := ln.ok _ h.1.2
        omega
      · refine ⟨p, us', rfl, .inl ⟨SqL.of ep, fun t nt => ?_⟩⟩
        have s8 := same_new (o := .tup us') nt
        have nd : ps'.length ≤ ps.length := by
          have ndp : ps'.Nodup := asc.imp fun {a b} h e => by
            subst e
            rcases h with h | h <;> omega
          exact nodup_le ndp fun x hx => (mem x).mp hx
        refine q _ t us' ps' _ (kp1.trans (kp6.trans (Kp.same (s7.trans s8)))) (dk6.kept (s7.trans s8)) (by omega) (by omega) upd_same (iv'.same s8) ⟨asc, fun q hq => pin q ((mem q).mp hq)⟩ (by omega)

/-! ### contains -/
def inI (x y u v : Int) : Bool := decide (x ≤ u) && decide (v ≤ y)
def sp_contains : Sp := fun vs H Q _ => ∃ (a b : Addr) (x y u v : Int), vs = [.ref a, .ref b] ∧ H a = some (.tup [.int x, .int y]) ∧ H b = some (.tup [.int u, .int v]) ∧ Q (.bl (inI x y u v)) H
theorem ok_contains (T : Tx K mg f_has_position f_contains f_pieces_inside f_farthest_piece f_cover_chain f_law_deck f_law_draw f_law_line f_law_interval f_law_intervals f_law_gap f_law_chain f_law_shuffled f_law_fewest f_law_right f_law d_has_position d_contains d_pieces_inside d_farthest_piece d_cover_chain d_law_deck d_law_draw d_law_line d_law_interval d_law_intervals d_law_gap d_law_chain d_law_shuffled d_law_fewest d_law_right d_law) : FnOk P w K mg base CX0 1 f_contains d_contains ["outer", "inner"] sp_contains := by
  refine T.F_contains.ok sc_contains (fun vs H Q E h => ?_) (fun cdv A outer s H vs Q E hr h => ?_)
  · obtain ⟨a, b, x, y, u, v, rfl, _⟩ := h
    rfl
  · obtain ⟨a, b, x, y, u, v, rfl, ha, hb, q⟩ := h
    refine ⟨_, (pss_one (ps_ret (pe_and (pe_cmpR op_le (pe_ix ix_tup (pv 0) pe_int (fun _ _ => rfl)) (pe_ix ix_tup (pv 1) pe_int (fun _ _ => rfl)) (nomark _)) (pe_one (pe_cmpR op_le (pe_ix ix_tup (pv 1) pe_int (fun _ _ => rfl)) (pe_ix ix_tup (pv 0) pe_int (fun _ _ => rfl)) (nomark _)))))), ?_⟩
    unfold inI at q
    refine ⟨.ref a, rfl, a, _, 0, .int x, rfl, rfl, SqT.of ha, rfl, .ref b, rfl, b, _, 0, .int u, rfl, rfl, SqT.of hb, rfl, _, _, rfl, rfl, _, rfl, ite2 (fun e => ?_) (fun e => ?_)⟩
    · refine ⟨.ref b, rfl, b, _, 1, .int v, rfl, rfl, SqT.of hb, rfl, .ref a, rfl, a, _, 1, .int y, rfl, rfl, SqT.of ha, rfl, _, _, rfl, rfl, ?_⟩
      rw [e] at q
      exact q
    · rw [Bool.not_eq_true] at e
      rw [e] at q
      exact q

/-! ### tuples joined and cut, whichever object comes out -/
theorem catA_any {K : PySem.W.Frag} {H : Hp} {a b : Addr} {xs ys : List V} {Q : VK} (h1 : H a = some (.tup xs)) (h2 : H b = some (.tup ys)) (sz : xs.length + ys.length ≤ sizeLine) (k : ∀ H' p, Same H H' → H' p = some (.tup (xs ++ ys)) → Q (.ref p) H') : rCatA K (.ref a) (.ref b) H Q := by
  refine ⟨a, b, xs, ys, rfl, rfl, SqT.of h1, SqT.of h2, sz, fun e => k H b (Same.refl _) ?_, fun _ e => k H a (Same.refl _) ?_, fun _ _ p np => k _ p (same_new np) upd_same⟩
  · rw [e]
    exact h2
  · rw [e, List.append_nil]
    exact h1
theorem slA_any {K : PySem.W.Frag} {H : Hp} {a : Addr} {xs : List V} {lo hi : Option Int} {Q : VK} (h1 : H a = some (.tup xs)) (k : ∀ H' p, Same H H' → H' p = some (.tup (cutV xs lo hi)) → Q (.ref p) H') : rSlA K (.ref a) lo hi H Q := by
  refine ⟨a, xs, rfl, SqT.of h1, fun e => k H a (Same.refl _) ?_, fun _ p np => k _ p (same_new np) upd_same⟩
  have e2 : cutV xs lo hi = xs := by
    unfold cutV
    rw [e.1, e.2]
    simp
  rw [e2]
  exact h1
theorem Ivs.take {H : Hp} {vs : List V} {ps : List (Int × Int)} (h : Ivs H vs ps) : ∀ n : Nat, Ivs H (vs.take n) (ps.take n) := by
  induction h with
  | nil =>
    intro n
    rw [List.take_nil, List.take_nil]
    exact .nil
  | cons e _ ih =>
    intro n
    cases n with
    | zero => exact .nil
    | succ n => exact .cons e (ih n)

theorem shaped_pairs (ps : List (Int × Int)) : SeqAt.shaped (.tuple (ps.map pairD)) = true := by
  have h1 : ∀ ps : List (Int × Int), PyData.canLayAll0 (ps.map pairD) = true := by
    intro ps
    induction ps with
    | nil => rfl
    | cons n r ih => exact ih
  have h2 : ∀ ps : List (Int × Int), PyData.depthAll (ps.map pairD) ≤ 1 := by
    intro ps
    induction ps with
    | nil => exact Nat.zero_le _
    | cons n r ih =>
      show max 1 (PyData.depthAll (r.map pairD)) ≤ 1
      omega
  unfold SeqAt.shaped
  rw [show PyData.canLay0 (.tuple (ps.map pairD)) = PyData.canLayAll0 (ps.map pairD) from rfl, h1 ps]
  show decide (PyData.depthAll (ps.map pairD) + 1 ≤ 64) = true
  exact decide_eq_true (by have := h2 ps; omega)
theorem eqv_self (ps : List (Int × Int)) : PyData.eqv (.tuple (ps.map pairD)) (.tuple (ps.map pairD)) = true := by
  show PyData.eqvAll (ps.map pairD) (ps.map pairD) = true
  induction ps with
  | nil => rfl
  | cons q r ih =>
    show (((q.1 == q.1) && ((q.2 == q.2) && true)) && PyData.eqvAll (r.map pairD) (r.map pairD)) = true
    rw [ih, beq_self_eq_true, beq_self_eq_true]
    rfl

/-- rows of intervals -/
inductive Rws (H : Hp) : List V → List (List (Int × Int)) → Prop
  | nil : Rws H [] []
  | cons {a : Addr} {us : List V} {r : List (Int × Int)} {vs : List V} {rs : List (List (Int × Int))} : H a = some (.tup us) → Ivs H us r → Rws H vs rs → Rws H (.ref a :: vs) (r :: rs)
theorem Rws.length {H : Hp} {vs : List V} {rs : List (List (Int × Int))} (h : Rws H vs rs) : vs.length = rs.length := by
  induction h with
  | nil => rfl
  | cons _ _ _ ih => rw [List.length_cons, List.length_cons, ih]
theorem Rws.tps {H H' : Hp} (s : Tps H H') {vs : List V} {rs : List (List (Int × Int))} (h : Rws H vs rs) : Rws H' vs rs := by
  induction h with
  | nil => exact .nil
  | cons e i _ ih => exact .cons (s _ _ e) (i.tps s) ih
theorem Rws.get {H : Hp} {vs : List V} {rs : List (List (Int × Int))} (h : Rws H vs rs) : ∀ {i : Nat} {v : V}, vs[i]? = some v → ∃ a us r, v = .ref a ∧ rs[i]? = some r ∧ H a = some (.tup us) ∧ Ivs H us r := by
  induction h with
  | nil =>
    intro i v e
    simp at e
  | cons e k _ ih =>
    intro i v q
    cases i with
    | zero =>
      cases q
      exact ⟨_, _, _, rfl, rfl, e, k⟩
    | succ i => exact ih q
theorem Rws.append {H : Hp} {vs us : List V} {rs qs : List (List (Int × Int))} (h : Rws H vs rs) (h2 : Rws H us qs) : Rws H (vs ++ us) (rs ++ qs) := by
  induction h with
  | nil => exact h2
  | cons e i _ ih => exact .cons e i ih


/-! ### has_position -/
def atP (x y p : Int) : Bool := decide (x ≤ p) && decide (p ≤ y)
def svI (x y p lo hi : Int) : Bool := inI lo hi x y && atP x y p
def sp_has_position : Sp := fun vs H Q _ => ∃ (a : Addr) (x y p : Int), vs = [.ref a, .int p] ∧ H a = some (.tup [.int x, .int y]) ∧ Q (.bl (atP x y p)) H
theorem ok_has_position (T : Tx K mg f_has_position f_contains f_pieces_inside f_farthest_piece f_cover_chain f_law_deck f_law_draw f_law_line f_law_interval f_law_intervals f_law_gap f_law_chain f_law_shuffled f_law_fewest f_law_right f_law d_has_position d_contains d_pieces_inside d_farthest_piece d_cover_chain d_law_deck d_law_draw d_law_line d_law_interval d_law_intervals d_law_gap d_law_chain d_law_shuffled d_law_fewest d_law_right d_law) : FnOk P w K mg base CX0 1 f_has_position d_has_position ["interval", "position"] sp_has_position := by
  refine T.F_has_position.ok sc_has_position (fun vs H Q E h => ?_) (fun cdv A outer s H vs Q E hr h => ?_)
  · obtain ⟨a, x, y, p, rfl, _⟩ := h
    rfl
  · obtain ⟨a, x, y, p, rfl, ha, q⟩ := h
    refine ⟨_, (pss_one (ps_ret (pe_chain op_le op_le (pe_ix ix_tup (pv 0) pe_int (fun _ _ => rfl)) (pv 1) (pe_ix ix_tup (pv 0) pe_int (fun _ _ => rfl))))), ?_⟩
    unfold atP at q
    refine ⟨.ref a, rfl, a, _, 0, .int x, rfl, rfl, SqT.of ha, rfl, .int p, rfl, _, _, rfl, rfl, _, rfl, ite2 (fun e => ?_) (fun e => ?_)⟩
    · refine ⟨.ref a, rfl, a, _, 1, .int y, rfl, rfl, SqT.of ha, rfl, _, _, rfl, rfl, ?_⟩
      rw [e] at q
      exact q
    · rw [Bool.not_eq_true] at e
      rw [e] at q
      exact q

def sp_pieces_inside : Sp := fun vs H Q _ => ∃ (a t : Addr) (us : List V) (ps : List (Int × Int)) (lo hi : Int), vs = [.ref a, .ref t] ∧ H a = some (.tup us) ∧ Ivs H us ps ∧ ps.length < 1000 ∧ H t = some (.tup [.int lo, .int hi]) ∧
  ∀ H' p ws, Same H H' → H' p = some (.lst ws) → Ivs H' ws (ps.filter fun q => inI lo hi q.1 q.2) → Q (.ref p) H'
theorem ok_pieces_inside (T : Tx K mg f_has_position f_contains f_pieces_inside f_farthest_piece f_cover_chain f_law_deck f_law_draw f_law_line f_law_interval f_law_intervals f_law_gap f_law_chain f_law_shuffled f_law_fewest f_law_right f_law d_has_position d_contains d_pieces_inside d_farthest_piece d_cover_chain d_law_deck d_law_draw d_law_line d_law_interval d_law_intervals d_law_gap d_law_chain d_law_shuffled d_law_fewest d_law_right d_law) : FnOk P w K mg base CX0 2 f_pieces_inside d_pieces_inside ["pieces", "target"] sp_pieces_inside := by
  refine T.F_pieces_inside.ok sc_pieces_inside (fun vs H Q E h => ?_) (fun cdv A outer s H vs Q E hr h => ?_)
  · obtain ⟨a, t, us, ps, lo, hi, rfl, _⟩ := h
    rfl
  · obtain ⟨a, t, us, ps, lo, hi, rfl, ha, iv, few, ht, q⟩ := h
    have lu := iv.length
    refine ⟨_, (pss_one (ps_ret (pe_lc (own := [("piece", 2)]) (g := (gName 2)) (by rfl) sc_pieces_inside.nd (pi_tup (pv 0)) (blkOk_by (own := [("piece", 2)]) (N := N_pieces_inside) (sc := defScope s_pieces_inside) (by decide +kernel)) (fun _ _ _ _ _ => (pg_name (i := 2) sc_pieces_inside.nd rfl (Or.inl rfl))) (fun _ _ _ _ _ => pts_one (pt_val (pe_call (ok_contains T) (hr.mono (by decide)) (by rfl) T.g_contains T.F_contains.kp T.b_contains .nil pass0 (pa_cons (pv 1) (pa_cons (pv 2) pa_nil))))) (fun _ _ _ _ _ => (pv 2))))), ?_⟩
    refine ⟨.ref a, rfl, a, rfl, ⟨_, SqT.of ha⟩, fun D nD => ?_⟩
    refine lcT (K := K) (a := a) (xs := us) (fun j H' ws => Ivs H' ws ((ps.take j).filter fun q => inI lo hi q.1 q.2)) nD (fun H' s => SqT.of (s _ _ ha)) (by omega) (fun _ _ _ _ t r => r.tps t) (fun j H' ws r => ?_) (fun _ => .nil) ?_ ?_
    · rw [r.length]
      exact Nat.le_trans (List.length_filter_le _ _) (List.length_take_le _ _)
    · rintro j z H' N acc hj sj eA sz r no yes
      obtain ⟨b, x, y, rfl, exy, hb⟩ := iv.get hj
      refine ⟨rfl, .ref t, rfl, .ref b, rfl, t, b, lo, hi, x, y, rfl, sj _ _ ht, sj _ _ hb, _, rfl, ite2 (fun c => ?_) (fun c => ?_)⟩
      · refine ⟨.ref b, rfl, yes H' _ (Same.refl _) ?_⟩
        rw [take_filter exy, if_pos c]
        exact r.snoc (sj _ _ hb)
      · refine no H' (Same.refl _) ?_
        rw [take_filter exy, if_neg c, List.append_nil]
        exact r
    · intro H' ws s' eD r
      rw [lu, List.take_length] at r
      exact q H' D ws s' eD r
/-! ### the farthest piece at a position -/
def atB (x : Int) (q : Int × Int) : Bool := atP q.1 q.2 x
theorem ivs_refs {H : Hp} : ∀ {vs : List V} {ps : List (Int × Int)}, Ivs H vs ps → ∃ as : List Addr, vs = as.map V.ref
  | _, _, .nil => ⟨[], rfl⟩
  | _, _, .cons (a := a) _ h => by
    obtain ⟨as, rfl⟩ := ivs_refs h
    exact ⟨a :: as, rfl⟩
theorem tabS_same {H H' : Hp} {P : Addr} {q : Str} (t : LamX.TabS H P q) (s : Same H H') : LamX.TabS H' P q := by
  obtain ⟨ps, a, b, c⟩ := t
  exact ⟨ps, s _ _ a, b, fun pos cv h => by
    obtain ⟨c0, e, k⟩ := c pos cv h
    exact ⟨c0, e, s _ _ k⟩⟩
def FarV (H : Hp) (x : Int) (ps : List (Int × Int)) (v : V) : Prop :=
  ((∀ q ∈ ps, atB x q = false) ∧ v = .non) ∨ ∃ b q, v = .ref b ∧ H b = some (.tup [.int q.1, .int q.2]) ∧ q ∈ ps ∧ atB x q = true ∧ ∀ r ∈ ps, atB x r = true → (r.2 < q.2 ∨ (r.2 = q.2 ∧ q.1 ≤ r.1))
def sp_farthest_piece (pT : Addr) : Sp := fun vs H Q _ => ∃ (a : Addr) (x : Int) (us : List V) (ps : List (Int × Int)), vs = [.ref a, .int x] ∧ H a = some (.lst us) ∧ Ivs H us ps ∧ ps.length < 1000 ∧ LamX.TabS H pT qLam ∧
  ∀ H' v, ButAt pT H H' → LamX.TabS H' pT qLam → FarV H' x ps v → Q v H'
theorem ok_farthest_piece (T : Tx K mg f_has_position f_contains f_pieces_inside f_farthest_piece f_cover_chain f_law_deck f_law_draw f_law_line f_law_interval f_law_intervals f_law_gap f_law_chain f_law_shuffled f_law_fewest f_law_right f_law d_has_position d_contains d_pieces_inside d_farthest_piece d_cover_chain d_law_deck d_law_draw d_law_line d_law_interval d_law_intervals d_law_gap d_law_chain d_law_shuffled d_law_fewest d_law_right d_law) (hT : TabH base mg d_farthest_piece pT) : FnOk P w K mg base CX0 3 f_farthest_piece d_farthest_piece ["pieces", "position"] (sp_farthest_piece pT) := by
  obtain ⟨c0, TB, hc0⟩ := hT
  refine okC T.F_farthest_piece sc_farthest_piece (fun vs H Q E h => ?_) (fun cdv hcd A outer s H vs Q E hr h => ?_)
  · obtain ⟨a, x, us, ps, rfl, _⟩ := h
    rfl
  · obtain ⟨a, x, us, ps, rfl, ha, iv, few, tab, q⟩ := h
    refine ⟨_, (pss_cons (ps_setLc (i := 2) (own := [("piece", 3)]) (g := (gName 3)) (by rfl) sc_farthest_piece.nd rfl rfl (sw_true rfl rfl rfl (by decide +kernel)) (pi_list (pv 0)) (blkOk_by (own := [("piece", 3)]) (N := N_farthest_piece) (sc := defScope s_farthest_piece) (by decide +kernel)) (fun _ _ _ _ _ => (pg_name (i := 3) sc_farthest_piece.nd rfl (Or.inl rfl))) (fun _ _ _ _ _ => pts_one (pt_val (pe_call (ok_has_position T) (hr.mono (by decide)) (by rfl) T.g_has_position T.F_has_position.kp T.b_has_position .nil pass0 (pa_cons (pv 3) (pa_cons (pv 1) pa_nil))))) (fun _ _ _ _ _ => (pv 3)))
      (pss_one (ps_ret (pe_maxLamT (cap := "pieces") (par := "piece") (P := pT) 0 rfl (by rfl) T.z_max hr TB (hcd.symm.trans hc0) (lam1_by (sc := defScope s_farthest_piece) (by decide +kernel)) rfl rfl (fun _ _ _ _ _ _ => rfl) (pa_cons (pv 2) pa_nil) (fun _ _ _ _ _ hr => (pe_tup (pa_cons (pe_ix (show IxR _ (rIxT K) from ix_tup) (pv 1) pe_int (fun _ _ => rfl)) (pa_cons (pe_un un_neg (pe_ix (show IxR _ (rIxT K) from ix_tup) (pv 1) pe_int (fun _ _ => rfl))) pa_nil)))))))), ?_⟩
    have lu := iv.length
    refine ⟨.ref a, rfl, a, rfl, ⟨_, SqL.of ha⟩, fun D nD => ?_⟩
    refine lcL (K := K) (a := a) (xs := us) (fun j H' ws => Ivs H' ws ((ps.take j).filter (atB x))) nD (fun H' s => SqL.of (s _ _ ha)) (by omega) (fun _ _ _ _ t r => r.tps t) (fun j H' ws r => ?_) (fun _ => .nil) ?_ ?_
    · rw [r.length]
      exact Nat.le_trans (List.length_filter_le _ _) (List.length_take_le _ _)
    · rintro j z H' N acc hj sj eA sz r no yes
      obtain ⟨b, lo, hi, rfl, exy, hb⟩ := iv.get hj
      have tk : (ps.take (j + 1)).filter (atB x) = (ps.take j).filter (atB x) ++ [(lo, hi)].filter (atB x) := by
        rw [List.take_add_one, exy, List.filter_append]
        rfl
      refine ⟨rfl, .ref b, rfl, .int x, rfl, b, lo, hi, x, rfl, sj _ _ hb, _, rfl, ite2 (fun c => ?_) (fun c => ?_)⟩
      · refine ⟨.ref b, rfl, yes H' _ (Same.refl _) ?_⟩
        rw [tk, List.filter_cons_of_pos (by exact c)]
        exact r.snoc (sj _ _ hb)
      · refine no H' (Same.refl _) ?_
        rw [tk, List.filter_cons_of_neg (by exact c)]
        show Ivs H' acc (_ ++ [])
        rw [List.append_nil]
        exact r
    intro H1 ws s1 eD r
    rw [lu, List.take_length] at r
    obtain ⟨as, rfl⟩ := ivs_refs r
    obtain ⟨fs, efs⟩ : ∃ fs, fs = ps.filter (atB x) := ⟨_, rfl⟩
    rw [← efs] at r
    have lf := r.length
    rw [List.length_map] at lf
    obtain ⟨kf, ekf⟩ : ∃ kf : Nat → Int × Int, ∀ j q, fs[j]? = some q → kf j = (q.2, -q.1) := ⟨fun j => ((fs.getD j (0, 0)).2, -(fs.getD j (0, 0)).1), fun j q h => by
      show ((fs.getD j (0, 0)).2, -(fs.getD j (0, 0)).1) = _
      rw [List.getD_eq_getElem?_getD, h]
      rfl⟩
    have tab1 : LamX.TabS H1 pT qLam := tabS_same tab s1
    refine ⟨.ref D, rfl, D, as, kf, .ref a, rfl, eD, tab1, rfl, fun H2 but t2 => ⟨fun j b H' eb s2 => ?_, fun H' e s2 => ?_, fun j b H' eb top s2 => ?_⟩⟩
    · obtain ⟨b', lo, hi, e1, ef, hb⟩ := r.get (show (as.map V.ref)[j]? = some (.ref b) by rw [List.getElem?_map, eb]; rfl)
      cases e1
      have hb2 := s2 _ _ (but b _ (fun z => by
        obtain ⟨ps0, h4, _⟩ := tab1
        rw [z, h4] at hb
        cases hb) hb)
      have ek := ekf j _ ef
      refine ⟨.ref b, rfl, b, _, 1, .int hi, rfl, rfl, SqT.of hb2, rfl, .ref b, rfl, b, _, 0, .int lo, rfl, rfl, SqT.of hb2, rfl, lo, rfl, by show 2 ≤ sizeLine; decide, fun kt nkt => ⟨kt, rfl, ?_, same_new nkt⟩⟩
      rw [ek]
      exact upd_same
    · have fe : fs = [] := List.length_eq_zero_iff.mp (by rw [e] at lf; exact lf.symm)
      refine q H' .non (fun b o n h => s2 _ _ (but b o n (s1 _ _ h))) (tabS_same t2 s2) (.inl ⟨fun z hz => ?_, rfl⟩)
      rw [efs, List.filter_eq_nil_iff] at fe
      rw [← Bool.not_eq_true]
      exact fe z hz
    · obtain ⟨b', lo, hi, e1, ef, hb⟩ := r.get (show (as.map V.ref)[j]? = some (.ref b) by rw [List.getElem?_map, eb]; rfl)
      cases e1
      have hb2 := s2 _ _ (but b _ (fun z => by
        obtain ⟨ps0, h4, _⟩ := tab1
        rw [z, h4] at hb
        cases hb) hb)
      have mem := List.mem_of_getElem? ef
      rw [efs] at mem
      obtain ⟨m1, m2⟩ := List.mem_filter.mp mem
      refine q H' (.ref b) (fun b o n h => s2 _ _ (but b o n (s1 _ _ h))) (tabS_same t2 s2) (.inr ⟨b, (lo, hi), rfl, hb2, m1, m2, fun z hz az => ?_⟩)
      have mz : z ∈ fs := by
        rw [efs]
        exact List.mem_filter.mpr ⟨hz, az⟩
      obtain ⟨j2, hj2, ej2⟩ := List.mem_iff_getElem.mp mz
      have t := gtQ_no.mp (top j2 (by omega)).1
      rw [ekf j _ ef, ekf j2 z (by rw [← ej2]; exact List.getElem?_eq_getElem hj2)] at t
      have t' : ¬ (hi < z.2 ∨ (z.2 = hi ∧ -lo < -z.1)) := t
      show z.2 < hi ∨ (z.2 = hi ∧ lo ≤ z.1)
      omega
/-! ### the chain -/
def IsFar (ps : List (Int × Int)) (x : Int) (q : Int × Int) : Prop := q ∈ ps ∧ atB x q = true ∧ ∀ r ∈ ps, atB x r = true → (r.2 < q.2 ∨ (r.2 = q.2 ∧ q.1 ≤ r.1))
theorem IsFar.uniq {ps : List (Int × Int)} {x : Int} {q r : Int × Int} (h : IsFar ps x q) (g : IsFar ps x r) : q = r := by
  have a := h.2.2 r g.1 g.2.1
  have b := g.2.2 q h.1 h.2.1
  exact Prod.ext (by omega) (by omega)
theorem atB_iff {x : Int} {q : Int × Int} : atB x q = true ↔ q.1 ≤ x ∧ x ≤ q.2 := by
  unfold atB atP
  rw [Bool.and_eq_true, decide_eq_true_iff, decide_eq_true_iff]
/-- from x on, up to last: the chain, or none where nothing is at a position -/
inductive Ch (ps : List (Int × Int)) (last : Int) : Int → Option (List (Int × Int)) → Prop
  | done {x : Int} : last < x → Ch ps last x (some [])
  | gap {x : Int} : x ≤ last → (∀ q ∈ ps, atB x q = false) → Ch ps last x none
  | step {x : Int} {q : Int × Int} {o : Option (List (Int × Int))} : x ≤ last → IsFar ps x q → Ch ps last (q.2 + 1) o → Ch ps last x (o.map (q :: ·))
theorem Ch.uniq {ps : List (Int × Int)} {last x : Int} {o o' : Option (List (Int × Int))} (h : Ch ps last x o) (g : Ch ps last x o') : o = o' := by
  induction h generalizing o' with
  | done l =>
    cases g with
    | done _ => rfl
    | gap a _ => omega
    | step a _ _ => omega
  | gap l n =>
    cases g with
    | done a => omega
    | gap _ _ => rfl
    | step _ f _ =>
      have := n _ f.1
      rw [f.2.1] at this
      cases this
  | step l f _ ih =>
    cases g with
    | done a => omega
    | gap _ n =>
      have := n _ f.1
      rw [f.2.1] at this
      cases this
    | step _ f' c =>
      have e := f.uniq f'
      subst e
      rw [ih c]
/-- a chain cut: those that were taken before x -/
def Pre (ps : List (Int × Int)) (last x0 : Int) (acc : List (Int × Int)) (x : Int) : Prop := ∀ o, Ch ps last x o → Ch ps last x0 (o.map (acc ++ ·))
theorem Pre.nil {ps : List (Int × Int)} {last x : Int} : Pre ps last x [] x := fun o h => by
  have e : (o.map (([] : List (Int × Int)) ++ ·)) = o := by cases o <;> rfl
  rw [e]
  exact h
theorem Pre.snoc {ps : List (Int × Int)} {last x0 x : Int} {acc : List (Int × Int)} {q : Int × Int} (h : Pre ps last x0 acc x) (l : x ≤ last) (f : IsFar ps x q) : Pre ps last x0 (acc ++ [q]) (q.2 + 1) := fun o g => by
  have z := h _ (.step l f g)
  have e : ((o.map (q :: ·)).map (acc ++ ·)) = o.map ((acc ++ [q]) ++ ·) := by
    cases o with
    | none => rfl
    | some L =>
      show some (acc ++ q :: L) = some (acc ++ [q] ++ L)
      rw [List.append_assoc]
      rfl
  rw [e] at z
  exact z
theorem nd_snoc {acc ins : List (Int × Int)} {pos : Int} {q : Int × Int} (nd : acc.Nodup) (h : ∀ r ∈ acc, r ∈ ins ∧ r.2 < pos) (m : q ∈ ins) (l : pos ≤ q.2) : (acc ++ [q]).Nodup ∧ ∀ r ∈ acc ++ [q], r ∈ ins ∧ r.2 < q.2 + 1 := by
  refine ⟨List.nodup_append.mpr ⟨nd, List.nodup_cons.mpr ⟨List.not_mem_nil, List.nodup_nil⟩, fun a ha b hb e => ?_⟩, fun r hr => ?_⟩
  · rw [List.mem_singleton.mp hb] at e
    rw [e] at ha
    have := (h q ha).2
    omega
  · rcases List.mem_append.mp hr with hr | hr
    · have := h r hr
      exact ⟨this.1, by omega⟩
    · rw [List.mem_singleton.mp hr]
      exact ⟨m, by omega⟩
def OCh (H : Hp) (v : V) : Option (List (Int × Int)) → Prop
  | none => v = .non
  | some L => ∃ t us, v = .ref t ∧ H t = some (.tup us) ∧ Ivs H us L
def sp_cover_chain (pT : Addr) : Sp := fun vs H Q _ => ∃ (a t : Addr) (us : List V) (ps : List (Int × Int)) (lo hi : Int), vs = [.ref a, .ref t] ∧ H a = some (.tup us) ∧ Ivs H us ps ∧ ps.length < 1000 ∧ H t = some (.tup [.int lo, .int hi]) ∧ (∀ q ∈ ps, q.1 ≤ q.2) ∧ LamX.TabS H pT qLam ∧
  ∀ H' v o, ButAt pT H H' → LamX.TabS H' pT qLam → Ch (ps.filter fun q => inI lo hi q.1 q.2) hi lo o → OCh H' v o → Q v H'
theorem ok_cover_chain (T : Tx K mg f_has_position f_contains f_pieces_inside f_farthest_piece f_cover_chain f_law_deck f_law_draw f_law_line f_law_interval f_law_intervals f_law_gap f_law_chain f_law_shuffled f_law_fewest f_law_right f_law d_has_position d_contains d_pieces_inside d_farthest_piece d_cover_chain d_law_deck d_law_draw d_law_line d_law_interval d_law_intervals d_law_gap d_law_chain d_law_shuffled d_law_fewest d_law_right d_law) (hT : TabH base mg d_farthest_piece pT) : FnOk P w K mg base CX0 5 f_cover_chain d_cover_chain ["pieces", "target"] (sp_cover_chain pT) := by
  refine T.F_cover_chain.ok sc_cover_chain (fun vs H Q E h => ?_) (fun cdv A outer s H vs Q E hr h => ?_)
  · obtain ⟨a, t, us, ps, lo, hi, rfl, _⟩ := h
    rfl
  · obtain ⟨a, t, us, ps, lo, hi, rfl, ha, iv, few, ht, ord, tab, q⟩ := h
    refine ⟨_, (pss_cons (ps_set (i := 2) sc_cover_chain.nd rfl (Or.inl rfl) (pe_call (ok_pieces_inside T) (hr.mono (by decide)) (by rfl) T.g_pieces_inside T.F_pieces_inside.kp T.b_pieces_inside .nil pass0 (pa_cons (pv 0) (pa_cons (pv 1) pa_nil))))
      (pss_cons (ps_asg (pv 1) (pg_tup rfl (pgs_cons (pg_name (i := 3) sc_cover_chain.nd rfl (Or.inl rfl)) (pgs_cons (pg_name (i := 4) sc_cover_chain.nd rfl (Or.inl rfl)) pgs_nil))))
      (pss_cons (ps_set (i := 5) sc_cover_chain.nd rfl (Or.inl rfl) (pe_lst pa_nil))
      (pss_cons (ps_while PassesOwn.never (pt_cmpR op_le (pv 3) (pv 4) (nomark _))
      (pss_cons (ps_set (i := 6) sc_cover_chain.nd rfl (Or.inl rfl) (pe_call (ok_farthest_piece T hT) (hr.mono (by decide)) (by rfl) T.g_farthest_piece T.F_farthest_piece.kp T.b_farthest_piece .nil pass0 (pa_cons (pv 2) (pa_cons (pv 3) pa_nil))))
      (pss_cons (ps_if (pt_cmpR op_isN (pv 6) pe_non (nomark _))
      (pss_one (ps_ret pe_non))
      pss_nil)
      (pss_cons (ps_expr (pe_bm PySem.F.plainAttrs_list PySem.F.slot_list_append PySem.F.type_list_append mt_append (pv 5) (pa_cons (pv 6) pa_nil)))
      (pss_one (ps_set (i := 3) sc_cover_chain.nd rfl (Or.inl rfl) (pe_op op_add (pe_ix ix_tup (pv 6) pe_int (fun _ _ => rfl)) pe_int)))))))
      (pss_one (ps_ret (pe_callTy call_tuple_of (by rfl) T.z_tuple (by decide +kernel) (pa_cons (pv 5) pa_nil)))))))), ?_⟩
    refine ⟨.ref a, rfl, .ref t, rfl, a, t, us, ps, lo, hi, rfl, ha, iv, few, ht, fun H1 p ws s1 ep ivw => ?_⟩
    refine ⟨.ref t, rfl, t, _, rfl, SqT.of (s1 _ _ ht), rfl, .int lo, [.int hi], rfl, .int hi, [], rfl, rfl, ?_⟩
    refine ⟨by show 0 ≤ sizeLine; decide, fun l nl => ?_⟩
    have s2 := same_new (o := .lst ([] : List V)) nl
    have el := upd_same (H := H1) (a := l) (o := .lst ([] : List V))
    generalize upd H1 l (.lst ([] : List V)) = H2 at *
    obtain ⟨ins, eins⟩ : ∃ ins, ins = ps.filter fun q => inI lo hi q.1 q.2 := ⟨_, rfl⟩
    rw [← eins] at ivw
    rw [← eins] at q
    have lins : ins.length < 1000 := Nat.lt_of_le_of_lt (by rw [eins]; exact List.length_filter_le _ _) few
    have bin : ∀ z ∈ ins, (lo ≤ z.1 ∧ z.2 ≤ hi) ∧ z.1 ≤ z.2 := fun z hz => by
      rw [eins] at hz
      obtain ⟨m1, m2⟩ := List.mem_filter.mp hz
      have m2' : (decide (lo ≤ z.1) && decide (z.2 ≤ hi)) = true := m2
      rw [Bool.and_eq_true, decide_eq_true_iff, decide_eq_true_iff] at m2'
      exact ⟨m2', ord z m1⟩
    have s12 := s1.trans s2
    have nlH : H l = none := s1.free nl
    have pl : p ≠ l := fun z => by
      rw [z, nl] at ep
      cases ep
    refine while_by (fun σ H' => (ButAt pT H H' ∧ LamX.TabS H' pT qLam ∧ H' p = some (.lst ws) ∧ Ivs H' ws ins) ∧ ∃ (cs : List V) (acc : List (Int × Int)) (pos : Int) (y6 : Option V), (H' l = some (.lst cs) ∧ Ivs H' cs acc) ∧ ((acc.Nodup ∧ ∀ q ∈ acc, q ∈ ins ∧ q.2 < pos) ∧ (pos ≤ hi + 1 ∨ pos = lo)) ∧ Pre ins hi lo acc pos ∧ σ = [some (.ref a), some (.ref t), some (.ref p), some (.int pos), some (.int hi), some (.ref l), y6]) (fun σ _ => match σ[3]? with
      | some (some (V.int x)) => (hi + 1 - x).toNat
      | _ => 0) ⟨⟨fun b o _ e => s12 _ _ e, tabS_same tab s12, s2 _ _ ep, ivw.same s2⟩, [], [], lo, _, ⟨el, .nil⟩, ⟨⟨.nil, fun q h => (nomatch h)⟩, .inr rfl⟩, Pre.nil, rfl⟩ ?_ ?_
    · rintro σ H3 ⟨⟨b3, t3, p3, iv3⟩, cs, acc, pos, y6, ⟨el3, ivc⟩, ⟨la, lp⟩, pre, rfl⟩
      refine ⟨.int pos, rfl, .int hi, rfl, _, _, rfl, rfl, _, rfl, ite2 (fun c => ?_) (fun c => ?_)⟩
      · have c' : pos ≤ hi := of_decide_eq_true c
        refine ⟨.ref p, rfl, .int pos, rfl, p, pos, ws, ins, rfl, p3, iv3, lins, t3, fun H4 v b4 t4 far => ?_⟩
        obtain ⟨tps, tpe, _⟩ := id t3
        have keep4 : ∀ {b : Addr} {o : HO}, H3 b = some o → (∀ x, o ≠ .tbl x) → H4 b = some o := fun {b o} e n => b4 b o (fun z => by
          rw [z, tpe] at e
          exact n _ (Option.some.inj e).symm) e
        have p4 := keep4 p3 (fun x z => by cases z)
        have el4 := keep4 el3 (fun x z => by cases z)
        have tp4 : Tps H3 H4 := fun b xs e => keep4 e (fun x z => by cases z)
        have but4 : ButAt pT H H4 := fun b o n e => b4 b o n (b3 b o n e)
        rcases far with ⟨no, rfl⟩ | ⟨b, qf, rfl, eb, mem, atq, mx⟩
        · refine ⟨.non, rfl, rfl, _, rfl, iteT ?_⟩
          have ch := pre _ (.gap c' no)
          exact q H4 .non none but4 t4 ch rfl
        · have far' : IsFar ins pos qf := ⟨mem, atq, mx⟩
          have bq := bin qf mem
          have aq := atB_iff.mp atq
          refine ⟨.ref b, rfl, rfl, _, rfl, iteF ?_⟩
          have pTl : pT ≠ l := fun z => by
            rw [z, el3] at tpe
            cases tpe
          refine ⟨.ref l, rfl, .inl ⟨rfl, _, SqL.of el4⟩, .ref b, rfl, l, _, .ref b, rfl, rfl, el4, few_line (by have := nodup_le la.1 (fun q h => (la.2 q h).1); rw [ivc.length]; omega), ?_⟩
          have t5 : LamX.TabS (upd H4 l (.lst (cs ++ [.ref b]))) pT qLam := by
            obtain ⟨ps4, h4, tri, kn⟩ := t4
            refine ⟨ps4, by rw [upd_ne pTl]; exact h4, tri, fun pos' cv hc => ?_⟩
            obtain ⟨c0, e0, k0⟩ := kn pos' cv hc
            exact ⟨c0, e0, by rw [upd_ne (fun z => noCode_lst (z ▸ el4) _ k0)]; exact k0⟩
          have eb5 : upd H4 l (.lst (cs ++ [.ref b])) b = some (.tup [.int qf.1, .int qf.2]) := by
            rw [upd_ne (ne_of eb el4 (fun z => by cases z))]
            exact eb
          refine ⟨.ref b, rfl, b, _, 1, .int qf.2, rfl, rfl, SqT.of eb5, rfl, _, _, rfl, rfl, ?_⟩
          refine ⟨⟨⟨fun b o n e => ?_, t5, by rw [upd_ne pl]; exact p4, (iv3.tps tp4).tps (Tps.lst el4)⟩, cs ++ [.ref b], acc ++ [qf], qf.2 + 1, _, ⟨upd_same, ((ivc.tps tp4).snoc eb).tps (Tps.lst el4)⟩, ⟨nd_snoc la.1 la.2 mem aq.2, .inl (by omega)⟩, pre.snoc c' far', rfl⟩, ?_⟩
          · rw [upd_ne (ne_of_none e nlH)]
            exact but4 b o n e
          · show (hi + 1 - (qf.2 + 1)).toNat < (hi + 1 - pos).toNat
            omega
      · have c' : ¬ pos ≤ hi := fun z => c (decide_eq_true z)
        have ch := pre _ (.done (by omega))
        refine ⟨.ref l, rfl, l, cs, rfl, .inl ⟨SqL.of el3, fun g ng => ?_⟩⟩
        refine q _ _ _ (fun b o n e => same_new ng _ _ (b3 b o n e)) (tabS_same t3 (same_new ng)) ch ?_
        refine ⟨g, cs, rfl, upd_same, ?_⟩
        show Ivs _ cs (acc ++ [])
        rw [List.append_nil]
        exact ivc.same (same_new ng)
    · rintro σ H3 Q1 Q2 hm ⟨v1, e1, v2, e2, i, j, e3, e4, k, e5, z⟩
      exact ⟨v1, e1, v2, e2, i, j, e3, e4, k, e5, hm _ _ z⟩

theorem max_far {us : List (Int × Int)} {x reach lo : Int} {ins : List (Int × Int)} (eu : us = ins.filter (atB x)) (h1 : reach ∈ us.map (fun q : Int × Int => q.2)) (h2 : ∀ y ∈ us.map (fun q : Int × Int => q.2), y ≤ reach) (h3 : lo ∈ (us.filter fun q => decide (q.2 = reach)).map (fun q : Int × Int => q.1)) (h4 : ∀ y ∈ (us.filter fun q => decide (q.2 = reach)).map (fun q : Int × Int => q.1), lo ≤ y) : IsFar ins x (lo, reach) := by
  obtain ⟨q, hq, e⟩ := List.mem_map.mp h3
  obtain ⟨m1, m2⟩ := List.mem_filter.mp hq
  have m2' : q.2 = reach := of_decide_eq_true m2
  have eq : q = (lo, reach) := Prod.ext e m2'
  rw [eq] at m1
  rw [eu] at m1
  obtain ⟨n1, n2⟩ := List.mem_filter.mp m1
  refine ⟨n1, n2, fun r hr ar => ?_⟩
  have mr : r ∈ us := by
    rw [eu]
    exact List.mem_filter.mpr ⟨hr, ar⟩
  have a := h2 r.2 (List.mem_map.mpr ⟨r, mr, rfl⟩)
  show r.2 < reach ∨ (r.2 = reach ∧ lo ≤ r.1)
  by_cases c : r.2 = reach
  · have b := h4 r.1 (List.mem_map.mpr ⟨r, List.mem_filter.mpr ⟨mr, decide_eq_true c⟩, rfl⟩)
    exact .inr ⟨c, b⟩
  · exact .inl (by omega)
def sp_law_chain : Sp := fun vs H Q _ => ∃ (a t : Addr) (us : List V) (ps : List (Int × Int)) (lo hi : Int), vs = [.ref a, .ref t] ∧ H a = some (.tup us) ∧ Ivs H us ps ∧ ps.length < 1000 ∧ H t = some (.tup [.int lo, .int hi]) ∧ (∀ q ∈ ps, q.1 ≤ q.2) ∧
  ∀ H' v o, Same H H' → Ch (ps.filter fun q => inI lo hi q.1 q.2) hi lo o → OCh H' v o → Q v H'
theorem ok_law_chain (T : Tx K mg f_has_position f_contains f_pieces_inside f_farthest_piece f_cover_chain f_law_deck f_law_draw f_law_line f_law_interval f_law_intervals f_law_gap f_law_chain f_law_shuffled f_law_fewest f_law_right f_law d_has_position d_contains d_pieces_inside d_farthest_piece d_cover_chain d_law_deck d_law_draw d_law_line d_law_interval d_law_intervals d_law_gap d_law_chain d_law_shuffled d_law_fewest d_law_right d_law) : FnOk P w K mg base CX0 1 f_law_chain d_law_chain ["_law_pieces", "_law_target"] sp_law_chain := by
  refine T.F_law_chain.ok sc_law_chain (fun vs H Q E h => ?_) (fun cdv A outer s H vs Q E hr h => ?_)
  · obtain ⟨a, t, us, ps, lo, hi, rfl, _⟩ := h
    rfl
  · obtain ⟨a, t, us, ps, lo, hi, rfl, ha, iv, few, ht, ord, q⟩ := h
    refine ⟨_, (pss_cons (ps_setLc (i := 2) (own := [("_law_piece", 3)]) (g := (gName 3)) (by rfl) sc_law_chain.nd rfl rfl (sw_true rfl rfl rfl (by decide +kernel)) (pi_tup (pv 0)) (blkOk_by (own := [("_law_piece", 3)]) (N := N_law_chain) (sc := defScope s_law_chain) (by decide +kernel)) (fun _ _ _ _ _ => (pg_name (i := 3) sc_law_chain.nd rfl (Or.inl rfl))) (fun _ _ _ _ _ => pts_one (PW.pt (pw_and (pt_cmpR op_le (pe_ix (show IxR _ (rIxT K) from ix_tup) (pv 1) pe_int (fun _ _ => rfl)) (pe_ix (show IxR _ (rIxT K) from ix_tup) (pv 3) pe_int (fun _ _ => rfl)) (nomark _)) (pw_and1 (pt_cmpR op_le (pe_ix (show IxR _ (rIxT K) from ix_tup) (pv 3) pe_int (fun _ _ => rfl)) (pe_ix (show IxR _ (rIxT K) from ix_tup) (pv 1) pe_int (fun _ _ => rfl)) (nomark _)))))) (fun _ _ _ _ _ => (pv 3)))
      (pss_cons (ps_set (i := 4) sc_law_chain.nd rfl (Or.inl rfl) (pe_lst pa_nil))
      (pss_cons (ps_set (i := 5) sc_law_chain.nd rfl (Or.inr rfl) (pe_ix ix_tup (pv 1) pe_int (fun _ _ => rfl)))
      (pss_cons (ps_while PassesOwn.never (pt_cmpR op_le (pv 5) (pe_ix ix_tup (pv 1) pe_int (fun _ _ => rfl)) (nomark _))
      (pss_cons (ps_setLc (i := 6) (own := [("_law_piece", 3)]) (g := (gName 3)) (by rfl) sc_law_chain.nd rfl rfl (sw_true rfl rfl rfl (by decide +kernel)) (pi_list (pv 2)) (blkOk_by (own := [("_law_piece", 3)]) (N := N_law_chain) (sc := defScope s_law_chain) (by decide +kernel)) (fun _ _ _ _ _ => (pg_name (i := 3) sc_law_chain.nd rfl (Or.inl rfl))) (fun _ _ _ _ _ => pts_one (pt_chain op_le op_le (pe_ix (show IxR _ (rIxT K) from ix_tup) (pv 3) pe_int (fun _ _ => rfl)) (pv 5) (pe_ix (show IxR _ (rIxT K) from ix_tup) (pv 3) pe_int (fun _ _ => rfl)))) (fun _ _ _ _ _ => (pv 3)))
      (pss_cons (ps_if (pt_cmpR (op_eqL hr.units0) (pv 6) (pe_lst pa_nil) (nomark _))
      (pss_one (ps_ret pe_non))
      pss_nil)
      (pss_cons (ps_set (i := 7) sc_law_chain.nd rfl (Or.inr rfl) (pe_callB (cr_max rfl) (by rfl) T.z_max (by decide +kernel) (pa_cons (pe_lc (own := [("_law_start", 8), ("_law_end", 9)]) (g := (gTup K 2 (gCons (gName 8) (gCons (gName 9) gNil)))) (tt := tYes) (by rfl) sc_law_chain.nd (pi_list (pv 6)) (blkOk_by (own := [("_law_start", 8), ("_law_end", 9)]) (N := N_law_chain) (sc := defScope s_law_chain) (by decide +kernel)) (fun _ _ _ _ _ => (pg_tup rfl (pgs_cons (pg_name (i := 8) sc_law_chain.nd rfl (Or.inl rfl)) (pgs_cons (pg_name (i := 9) sc_law_chain.nd rfl (Or.inl rfl)) pgs_nil)))) (fun _ _ _ _ _ => pts_nil) (fun _ _ _ _ _ => (pv 9))) pa_nil)))
      (pss_cons (ps_expr (pe_bm PySem.F.plainAttrs_list PySem.F.slot_list_append PySem.F.type_list_append mt_append (pv 4) (pa_cons (pe_tup (pa_cons (pe_callB (cr_min rfl) (by rfl) T.z_min (by decide +kernel) (pa_cons (pe_lc (own := [("_law_start", 8), ("_law_end", 9)]) (g := (gTup K 2 (gCons (gName 8) (gCons (gName 9) gNil)))) (by rfl) sc_law_chain.nd (pi_list (pv 6)) (blkOk_by (own := [("_law_start", 8), ("_law_end", 9)]) (N := N_law_chain) (sc := defScope s_law_chain) (by decide +kernel)) (fun _ _ _ _ _ => (pg_tup rfl (pgs_cons (pg_name (i := 8) sc_law_chain.nd rfl (Or.inl rfl)) (pgs_cons (pg_name (i := 9) sc_law_chain.nd rfl (Or.inl rfl)) pgs_nil)))) (fun _ _ _ _ _ => pts_one (pt_cmpR op_eq (pv 9) (pv 7) (nomark _))) (fun _ _ _ _ _ => (pv 8))) pa_nil)) (pa_cons (pv 7) pa_nil))) pa_nil)))
      (pss_one (ps_set (i := 5) sc_law_chain.nd rfl (Or.inr rfl) (pe_op op_add (pv 7) pe_int))))))))
      (pss_one (ps_ret (pe_callTy call_tuple_of (by rfl) T.z_tuple (by decide +kernel) (pa_cons (pv 4) pa_nil)))))))), ?_⟩
    have lu := iv.length
    refine ⟨.ref a, rfl, a, rfl, ⟨_, SqT.of ha⟩, fun p np => ?_⟩
    refine lcT (K := K) (a := a) (xs := us) (fun j H' ws => Ivs H' ws ((ps.take j).filter fun q => inI lo hi q.1 q.2)) np (fun H' s => SqT.of (s _ _ ha)) (by omega) (fun _ _ _ _ t r => r.tps t) (fun j H' ws r => ?_) (fun _ => .nil) ?_ ?_
    · rw [r.length]
      exact Nat.le_trans (List.length_filter_le _ _) (List.length_take_le _ _)
    · rintro j z H' N acc hj sj eA sz r no yes
      obtain ⟨b, x, y, rfl, exy, hb⟩ := iv.get hj
      have hb' := sj _ _ hb
      have ht' := sj _ _ ht
      have out : ¬ (inI lo hi x y = true) → N H' := fun e => by
        refine no H' (Same.refl _) ?_
        rw [take_filter exy, if_neg e, List.append_nil]
        exact r
      have inI_iff : inI lo hi x y = true ↔ lo ≤ x ∧ y ≤ hi := by
        unfold inI
        rw [Bool.and_eq_true, decide_eq_true_iff, decide_eq_true_iff]
      refine ⟨rfl, .ref t, rfl, t, _, 0, .int lo, rfl, rfl, SqT.of ht', rfl, .ref b, rfl, b, _, 0, .int x, rfl, rfl, SqT.of hb', rfl, _, _, rfl, rfl, _, rfl, ite2 (fun c1 => ?_) (fun c1 => ?_)⟩
      · refine ⟨.ref b, rfl, b, _, 1, .int y, rfl, rfl, SqT.of hb', rfl, .ref t, rfl, t, _, 1, .int hi, rfl, rfl, SqT.of ht', rfl, _, _, rfl, rfl, _, rfl, ite2 (fun c2 => ?_) (fun c2 => ?_)⟩
        · refine ⟨.ref b, rfl, yes H' _ (Same.refl _) ?_⟩
          rw [take_filter exy, if_pos (inI_iff.mpr ⟨of_decide_eq_true c1, of_decide_eq_true c2⟩)]
          exact r.snoc hb'
        · exact out fun e => c2 (decide_eq_true (inI_iff.mp e).2)
      · exact out fun e => c1 (decide_eq_true (inI_iff.mp e).1)
    intro H1 ws s1 ep ivw
    rw [lu, List.take_length] at ivw
    have ht1 := s1 _ _ ht
    refine ⟨by show 0 ≤ sizeLine; decide, fun l nl => ?_⟩
    have s2 := same_new (o := .lst ([] : List V)) nl
    have el := upd_same (H := H1) (a := l) (o := .lst ([] : List V))
    generalize upd H1 l (.lst ([] : List V)) = H2 at *
    obtain ⟨ins, eins⟩ : ∃ ins, ins = ps.filter fun q => inI lo hi q.1 q.2 := ⟨_, rfl⟩
    rw [← eins] at ivw
    rw [← eins] at q
    have lins : ins.length < 1000 := Nat.lt_of_le_of_lt (by rw [eins]; exact List.length_filter_le _ _) few
    have lws := ivw.length
    have bin : ∀ z ∈ ins, (lo ≤ z.1 ∧ z.2 ≤ hi) ∧ z.1 ≤ z.2 := fun z hz => by
      rw [eins] at hz
      obtain ⟨m1, m2⟩ := List.mem_filter.mp hz
      have m2' : (decide (lo ≤ z.1) && decide (z.2 ≤ hi)) = true := m2
      rw [Bool.and_eq_true, decide_eq_true_iff, decide_eq_true_iff] at m2'
      exact ⟨m2', ord z m1⟩
    have s12 := s1.trans s2
    have nlH : H l = none := s1.free nl
    have pl : p ≠ l := fun z => by
      rw [z, nl] at ep
      cases ep
    refine ⟨.ref t, rfl, t, _, 0, .int lo, rfl, rfl, SqT.of (s2 _ _ ht1), rfl, ?_⟩
    refine while_by (fun σ H' => (Same H H' ∧ H' p = some (.lst ws) ∧ Ivs H' ws ins) ∧ ∃ (cs : List V) (acc : List (Int × Int)) (pos : Int) (y3 y6 y7 y8 y9 : Option V), (H' l = some (.lst cs) ∧ Ivs H' cs acc) ∧ ((acc.Nodup ∧ ∀ q ∈ acc, q ∈ ins ∧ q.2 < pos) ∧ (pos ≤ hi + 1 ∨ pos = lo)) ∧ Pre ins hi lo acc pos ∧ σ = [some (.ref a), some (.ref t), some (.ref p), y3, some (.ref l), some (.int pos), y6, y7, y8, y9]) (fun σ _ => match σ[5]? with
      | some (some (V.int x)) => (hi + 1 - x).toNat
      | _ => 0) ⟨⟨s12, s2 _ _ ep, ivw.same s2⟩, [], [], lo, _, _, _, _, _, ⟨el, .nil⟩, ⟨⟨.nil, fun q h => (nomatch h)⟩, .inr rfl⟩, Pre.nil, rfl⟩ ?_ ?_
    · rintro σ H3 ⟨⟨s3, p3, iv3⟩, cs, acc, pos, y3, y6, y7, y8, y9, ⟨el3, ivc⟩, ⟨la, lp⟩, pre, rfl⟩
      refine ⟨.int pos, rfl, .ref t, rfl, t, _, 1, .int hi, rfl, rfl, SqT.of (s3 _ _ ht), rfl, _, _, rfl, rfl, _, rfl, ite2 (fun c => ?_) (fun c => ?_)⟩
      · have c' : pos ≤ hi := of_decide_eq_true c
        refine ⟨.ref p, rfl, p, rfl, ⟨_, SqL.of p3⟩, fun D nD => ?_⟩
        refine lcL (K := K) (a := p) (xs := ws) (fun j H' ws => Ivs H' ws ((ins.take j).filter (atB pos))) nD (fun H' s => SqL.of (s _ _ p3)) (by omega) (fun _ _ _ _ t r => r.tps t) (fun j H' ws r => ?_) (fun _ => .nil) ?_ ?_
        · rw [r.length]
          exact Nat.le_trans (List.length_filter_le _ _) (List.length_take_le _ _)
        · rintro j z H' N acc2 hj sj eA sz r no yes
          obtain ⟨b, x, y, rfl, exy, hb⟩ := iv3.get hj
          have hb' := sj _ _ hb
          have tk : (ins.take (j + 1)).filter (atB pos) = (ins.take j).filter (atB pos) ++ [(x, y)].filter (atB pos) := by
            rw [List.take_add_one, exy, List.filter_append]
            rfl
          have out : ¬ (x ≤ pos ∧ pos ≤ y) → N H' := fun e => by
            refine no H' (Same.refl _) ?_
            rw [tk, List.filter_cons_of_neg (fun z => e (atB_iff.mp z))]
            show Ivs H' acc2 (_ ++ [])
            rw [List.append_nil]
            exact r
          refine ⟨rfl, .ref b, rfl, b, _, 0, .int x, rfl, rfl, SqT.of hb', rfl, .int pos, rfl, _, _, rfl, rfl, _, rfl, ite2 (fun c1 => ?_) (fun c1 => ?_)⟩
          · refine ⟨.ref b, rfl, b, _, 1, .int y, rfl, rfl, SqT.of hb', rfl, _, _, rfl, rfl, _, rfl, ite2 (fun c2 => ?_) (fun c2 => ?_)⟩
            · refine ⟨.ref b, rfl, yes H' _ (Same.refl _) ?_⟩
              rw [tk, List.filter_cons_of_pos (atB_iff.mpr ⟨of_decide_eq_true c1, of_decide_eq_true c2⟩)]
              exact r.snoc hb'
            · exact out fun e => c2 (decide_eq_true e.2)
          · exact ⟨_, rfl, iteF (out fun e => c1 (decide_eq_true e.1))⟩
        intro H4 vs4 s4 eD r
        rw [lws, List.take_length] at r
        obtain ⟨fs, efs⟩ : ∃ fs, fs = ins.filter (atB pos) := ⟨_, rfl⟩
        rw [← efs] at r
        have lv4 := r.length
        have lfs : fs.length ≤ ins.length := by rw [efs]; exact List.length_filter_le _ _
        refine ⟨.ref D, rfl, by show 0 ≤ sizeLine; decide, fun z nz => ?_⟩
        have s5 := same_new (o := .lst []) nz
        have ez := upd_same (H := H4) (a := z) (o := .lst [])
        generalize upd H4 z (.lst []) = H5 at *
        have s45 := s4.trans s5
        have eD5 := s5 _ _ eD
        have r5 := r.same s5
        refine ⟨D, z, vs4, rfl, rfl, SqL.of eD5, SqL.of ez, _, rfl, ?_⟩
        by_cases fe : fs = []
        · have ve : vs4 = [] := List.length_eq_zero_iff.mp (by rw [lv4, fe]; rfl)
          subst ve
          refine iteT ?_
          have no : ∀ q ∈ ins, atB pos q = false := fun y hy => by
            rw [efs, List.filter_eq_nil_iff] at fe
            rw [← Bool.not_eq_true]
            exact fe y hy
          exact q H5 .non none (s3.trans s45) (pre _ (.gap c' no)) rfl
        have fpos : 0 < fs.length := List.length_pos_iff.mpr fe
        have ve : vs4.isEmpty = false := by
          cases vs4 with
          | nil =>
            have z0 : ([] : List V).length = 0 := rfl
            omega
          | cons _ _ => rfl
        rw [ve]
        refine iteF ?_
        -- reach
        refine ⟨.ref D, rfl, D, rfl, ⟨_, SqL.of eD5⟩, fun D2 nD2 => ?_⟩
        refine lcL (K := K) (a := D) (xs := vs4) (fun j H' zs => zs = ((fs.take j).map (fun q : Int × Int => q.2)).map V.int) nD2 (fun H' s => SqL.of (s _ _ eD5)) (by omega) (fun _ _ _ _ _ h => h) (fun j H' ws h => by rw [h, List.length_map, List.length_map]; exact List.length_take_le _ _) (fun _ => rfl) ?_ ?_
        · rintro j v H' N acc2 hj sm eA sz rr no yes
          obtain ⟨bb, x, y, rfl, ep', hb⟩ := r5.get hj
          refine ⟨bb, _, rfl, SqT.of (sm _ _ hb), rfl, .int x, [.int y], rfl, .int y, [], rfl, rfl, rfl, .int y, rfl, yes _ _ (Same.refl _) ?_⟩
          rw [List.take_add_one, ep', rr]
          show _ = List.map V.int (List.map _ (_ ++ [(x, y)]))
          rw [List.map_append, List.map_append]
          rfl
        rintro H6 zs s6 eD2 rr
        rw [lv4, List.take_length] at rr
        subst rr
        refine ⟨D2, fs.map (fun q : Int × Int => q.2), rfl, SqL.of eD2, by rw [List.length_map]; exact fpos, fun reach hm top => ?_⟩
        have s46 := s45.trans s6
        have el6 := s46 _ _ el3
        have eD6 := s6 _ _ eD5
        have r6 := r5.same s6
        refine ⟨.ref l, rfl, .inl ⟨rfl, _, SqL.of el6⟩, ?_⟩
        refine ⟨.ref D, rfl, D, rfl, ⟨_, SqL.of eD6⟩, fun D3 nD3 => ?_⟩
        refine lcL (K := K) (a := D) (xs := vs4) (fun j H' zs => zs = (((fs.take j).filter fun q => decide (q.2 = reach)).map (fun q : Int × Int => q.1)).map V.int) nD3 (fun H' s => SqL.of (s _ _ eD6)) (by omega) (fun _ _ _ _ _ h => h) (fun j H' ws h => by rw [h, List.length_map, List.length_map]; exact Nat.le_trans (List.length_filter_le _ _) (List.length_take_le _ _)) (fun _ => rfl) ?_ ?_
        · rintro j v H' N acc2 hj sm eA sz rr no yes
          obtain ⟨bb, x, y, rfl, ep', hb⟩ := r6.get hj
          have tk : (fs.take (j + 1)).filter (fun q => decide (q.2 = reach)) = (fs.take j).filter (fun q => decide (q.2 = reach)) ++ [(x, y)].filter (fun q => decide (q.2 = reach)) := by
            rw [List.take_add_one, ep', List.filter_append]
            rfl
          refine ⟨bb, _, rfl, SqT.of (sm _ _ hb), rfl, .int x, [.int y], rfl, .int y, [], rfl, rfl, rfl, .int y, rfl, .int reach, rfl, rfl, _, rfl, ite2 (fun c2 => ?_) (fun c2 => ?_)⟩
          · have c3 : y = reach := V.int.inj (of_decide_eq_true c2)
            refine ⟨.int x, rfl, yes _ _ (Same.refl _) ?_⟩
            rw [tk, List.filter_cons_of_pos (by exact decide_eq_true c3), List.map_append, List.map_append, rr]
            rfl
          · have c3 : ¬ y = reach := fun z => c2 (decide_eq_true (congrArg V.int z))
            refine no _ (Same.refl _) ?_
            rw [tk, List.filter_cons_of_neg (by exact fun z => c3 (of_decide_eq_true z)), rr]
            show _ = List.map V.int (List.map _ (_ ++ []))
            rw [List.append_nil]
        rintro H7 zs s7 eD3 rr
        rw [lv4, List.take_length] at rr
        subst rr
        have fne : 0 < (fs.filter fun q => decide (q.2 = reach)).length := by
          obtain ⟨q0, m0, e0⟩ := List.mem_map.mp hm
          exact List.length_pos_iff.mpr (List.ne_nil_of_mem (List.mem_filter.mpr ⟨m0, decide_eq_true e0⟩))
        refine ⟨D3, (fs.filter fun q => decide (q.2 = reach)).map (fun q : Int × Int => q.1), rfl, SqL.of eD3, by rw [List.length_map]; exact fne, fun st hst bot => ?_⟩
        have far := max_far efs hm top hst bot
        have bq := bin _ far.1
        have aq := atB_iff.mp far.2.1
        refine ⟨.int reach, rfl, by show 2 ≤ sizeLine; decide, fun b nb => ?_⟩
        have s8 := same_new (o := .tup [V.int st, .int reach]) nb
        have eb := upd_same (H := H7) (a := b) (o := .tup [V.int st, .int reach])
        generalize upd H7 b (.tup [V.int st, .int reach]) = H8 at *
        have s48 := s46.trans (s7.trans s8)
        have el8 := (s7.trans s8) _ _ el6
        refine ⟨l, _, .ref b, rfl, rfl, el8, few_line (by have := nodup_le la.1 (fun q h => (la.2 q h).1); rw [ivc.length]; omega), ?_⟩
        refine ⟨.int reach, rfl, _, _, rfl, rfl, ?_⟩
        refine ⟨⟨⟨same_off nlH (s3.trans s48), by rw [upd_ne pl]; exact s48 _ _ p3, (iv3.same s48).tps (Tps.lst el8)⟩, cs ++ [.ref b], acc ++ [(st, reach)], reach + 1, _, _, _, _, _, ⟨upd_same, ((ivc.same s48).snoc eb).tps (Tps.lst el8)⟩, ⟨nd_snoc la.1 la.2 far.1 aq.2, .inl (by omega)⟩, pre.snoc c' far, rfl⟩, ?_⟩
        show (hi + 1 - (reach + 1)).toNat < (hi + 1 - pos).toNat
        omega
      · have c' : ¬ pos ≤ hi := fun z => c (decide_eq_true z)
        have ch := pre _ (.done (by omega))
        refine ⟨.ref l, rfl, l, cs, rfl, .inl ⟨SqL.of el3, fun g ng => ?_⟩⟩
        refine q _ _ _ (s3.trans (same_new ng)) ch ?_
        refine ⟨g, cs, rfl, upd_same, ?_⟩
        show Ivs _ cs (acc ++ [])
        rw [List.append_nil]
        exact ivc.same (same_new ng)
    · rintro σ H3 Q1 Q2 hm ⟨v1, e1, v2, e2, p', xs, ix, v3, e3, e4, e5, e6, i, j, e7, e8, k, e9, z⟩
      exact ⟨v1, e1, v2, e2, p', xs, ix, v3, e3, e4, e5, e6, i, j, e7, e8, k, e9, hm _ _ z⟩

def rLenS (K : PySem.W.Frag) : List V → Hp → VK → Prop := fun xs H Q => ∃ p ys, xs = [.ref p] ∧ (SqL K H p ys ∨ SqT K H p ys) ∧ Q (.int (ys.length : Nat)) H
theorem call_lenS {X : Cx} : CallR X (.builtin "len") (rLenS X.K) := call_len_seq
theorem pe_bmK {X : Cx} {K : PySem.W.Frag} {e : Expr} {T : String} {r : V → List V → Hp → VK → Prop} {to : TE} {t : TA} (hK : X.K = K) (h : PE X e (tBM X.K T r to t)) : PE X e (tBM K T r to t) := hK ▸ h

/-! ### the first gap of a target -/
def covI (ps : List (Int × Int)) (lo hi p : Int) : Prop := ∃ q ∈ ps, (lo ≤ q.1 ∧ q.2 ≤ hi) ∧ q.1 ≤ p ∧ p ≤ q.2
def IsGap (ps : List (Int × Int)) (lo hi : Int) : Option Int → Prop
  | none => ∀ p, lo ≤ p → p ≤ hi → covI ps lo hi p
  | some g => (lo ≤ g ∧ g ≤ hi) ∧ ¬ covI ps lo hi g ∧ ∀ p, lo ≤ p → p < g → covI ps lo hi p
theorem IsGap.uniq {ps : List (Int × Int)} {lo hi : Int} : ∀ {o o' : Option Int}, IsGap ps lo hi o → IsGap ps lo hi o' → o = o'
  | none, none, _, _ => rfl
  | none, some g, h, h' => absurd (h g h'.1.1 h'.1.2) h'.2.1
  | some g, none, h, h' => absurd (h' g h.1.1 h.1.2) h.2.1
  | some g, some g', h, h' => by
    rcases Int.lt_trichotomy g g' with z | z | z
    · exact absurd (h'.2.2 g h.1.1 z) h.2.1
    · rw [z]
    · exact absurd (h.2.2 g' h'.1.1 z) h'.2.1
noncomputable def gapO (ps : List (Int × Int)) (q : Int × Int) : Option Int := by
  classical
  exact if h : ∃ o, IsGap ps q.1 q.2 o then Classical.choose h else none
theorem gapO_eq {ps : List (Int × Int)} {q : Int × Int} {o : Option Int} (h : IsGap ps q.1 q.2 o) : gapO ps q = o := by
  unfold gapO
  rw [dif_pos ⟨o, h⟩]
  exact IsGap.uniq (Classical.choose_spec ⟨o, h⟩) h
def gv : Option Int → V
  | none => .non
  | some g => .int g
theorem Ivs.perm {H : Hp} {xs ys : List V} (pm : ys.Perm xs) : ∀ {ps : List (Int × Int)}, Ivs H xs ps → ∃ ps', Ivs H ys ps' ∧ ps'.Perm ps := by
  induction pm with
  | nil =>
    intro ps h
    exact ⟨ps, h, .refl _⟩
  | cons x _ ih =>
    intro ps h
    cases h with
    | cons e h =>
      obtain ⟨ps', h', p'⟩ := ih h
      exact ⟨_ :: ps', .cons e h', p'.cons _⟩
  | swap x y l =>
    intro ps h
    cases h with
    | cons e h =>
      cases h with
      | cons e2 h => exact ⟨_, .cons e2 (.cons e h), .swap _ _ _⟩
  | trans _ _ ih1 ih2 =>
    intro ps h
    obtain ⟨p2, h2, q2⟩ := ih2 h
    obtain ⟨p1, h1, q1⟩ := ih1 h2
    exact ⟨p1, h1, q1.trans q2⟩
theorem Ivs.pair {H : Hp} {R : V → V → Prop} {S : Int × Int → Int × Int → Prop} (rs : ∀ a b x y u v, H a = some (.tup [.int x, .int y]) → H b = some (.tup [.int u, .int v]) → R (.ref a) (.ref b) → S (x, y) (u, v)) {vs : List V} {ps : List (Int × Int)} (h : Ivs H vs ps) (pw : vs.Pairwise R) : ps.Pairwise S := by
  induction h with
  | nil => exact .nil
  | cons e h ih =>
    have p := List.pairwise_cons.mp pw
    refine List.pairwise_cons.mpr ⟨fun q hq => ?_, ih p.2⟩
    obtain ⟨b, hb, eb⟩ := h.tpsMem hq
    exact rs _ b _ _ q.1 q.2 e eb (p.1 _ hb)
theorem Ivs.mem {H : Hp} {vs : List V} {ps : List (Int × Int)} (h : Ivs H vs ps) {v : V} (hv : v ∈ vs) : ∃ a q, q ∈ ps ∧ v = .ref a ∧ H a = some (.tup [.int q.1, .int q.2]) := by
  obtain ⟨i, ei⟩ := List.getElem?_of_mem hv
  obtain ⟨a, x, y, e, ep, ea⟩ := h.get ei
  exact ⟨a, (x, y), List.mem_of_getElem? ep, e, ea⟩
/-- pieces: pairs of positions in order -/
def Pc (ps : List (Int × Int)) : Prop := ∀ q ∈ ps, (0 ≤ q.1 ∧ q.1 ≤ q.2) ∧ q.2 < 10 ^ 13
/-! ### the law's own search for the gap -/
def sp_law_gap (K : PySem.W.Frag) : Sp := fun vs H Q _ => ∃ (a t : Addr) (us : List V) (ps : List (Int × Int)) (lo hi : Int), vs = [.ref a, .ref t] ∧ (H a = some (.lst us) ∨ H a = some (.tup us)) ∧ Ivs H us ps ∧ ps.length < 1000 ∧ H t = some (.tup [.int lo, .int hi]) ∧ lo ≤ hi ∧
  ∀ H', Same H H' → Q (gv (gapO ps (lo, hi))) H'
theorem map2_filter_len {α : Type} {ns : List α} {p : α → Bool} {f : α → Int} (i : Nat) : ((((ns.take i).filter p).map f).map V.int).length ≤ i := by
  rw [List.length_map, List.length_map]
  exact Nat.le_trans (List.length_filter_le _ _) (List.length_take_le _ _)
def msG (hi : Int) (σ : L2.St) : Nat := match σ[2]? with
  | some (some (V.int p)) => (hi + 1 - p).toNat
  | _ => 0
theorem ok_law_gap (T : Tx K mg f_has_position f_contains f_pieces_inside f_farthest_piece f_cover_chain f_law_deck f_law_draw f_law_line f_law_interval f_law_intervals f_law_gap f_law_chain f_law_shuffled f_law_fewest f_law_right f_law d_has_position d_contains d_pieces_inside d_farthest_piece d_cover_chain d_law_deck d_law_draw d_law_line d_law_interval d_law_intervals d_law_gap d_law_chain d_law_shuffled d_law_fewest d_law_right d_law) : FnOk P w K mg base CX0 1 f_law_gap d_law_gap ["_law_pieces", "_law_target"] (sp_law_gap K) := by
  refine T.F_law_gap.ok sc_law_gap (fun vs H Q E h => ?_) (fun cdv A outer s H vs Q E hr h => ?_)
  · obtain ⟨a, t, us, ps, lo, hi, rfl, _⟩ := h
    rfl
  · obtain ⟨a, t, us, ps, lo, hi, rfl, hau, iv, few, ht, lh, q⟩ := h
    have lu := iv.length
    -- what a turn needs, whatever the pieces stand in
    have turn : ∀ (pos : Int) (H1 : Hp) (N : Prop), Same H H1 → (lo ≤ pos ∧ pos ≤ hi) → (∀ z, lo ≤ z → z < pos → covI ps lo hi z) → ∀ es, es = (((ps.filter fun q => decide ((lo ≤ q.1 ∧ q.1 ≤ pos) ∧ pos ≤ q.2)).map (·.2)).filter fun e => decide (e ≤ hi)) →
        (es = [] → IsGap ps lo hi (some pos)) ∧ (∀ m, m ∈ es → (∀ y ∈ es, y ≤ m) → (lo ≤ m + 1 ∧ m + 1 ≤ hi + 1) ∧ pos < m + 1 ∧ ∀ z, lo ≤ z → z < m + 1 → covI ps lo hi z) := by
      intro pos H1 N _ b1 cv es ees
      have mes : ∀ e, e ∈ es ↔ ∃ q ∈ ps, ((lo ≤ q.1 ∧ q.1 ≤ pos) ∧ pos ≤ q.2) ∧ q.2 = e ∧ e ≤ hi := fun e => by
        rw [ees, List.mem_filter]
        constructor
        · rintro ⟨h1, h2⟩
          obtain ⟨q, hq, rfl⟩ := List.mem_map.mp h1
          have z := List.mem_filter.mp hq
          exact ⟨q, z.1, of_decide_eq_true z.2, rfl, of_decide_eq_true h2⟩
        · rintro ⟨q, hq, h1, h2, h3⟩
          exact ⟨List.mem_map.mpr ⟨q, List.mem_filter.mpr ⟨hq, decide_eq_true h1⟩, h2⟩, decide_eq_true h3⟩
      refine ⟨fun e => ⟨b1, fun ⟨q, hq, hin, h1, h2⟩ => ?_, cv⟩, fun m hm top => ?_⟩
      · have z : q.2 ∈ es := (mes q.2).mpr ⟨q, hq, ⟨⟨hin.1, h1⟩, h2⟩, rfl, hin.2⟩
        rw [e] at z
        cases z
      · obtain ⟨q, hq, h1, h2, h3⟩ := (mes m).mp hm
        refine ⟨by omega, by omega, fun z z1 z2 => ?_⟩
        rcases Int.lt_or_le z pos with h | h
        · exact cv z z1 h
        · exact ⟨q, hq, ⟨h1.1.1, by omega⟩, by omega, by omega⟩
    have done : ∀ (pos : Int) (H1 : Hp), Same H H1 → hi < pos → (∀ z, lo ≤ z → z < pos → covI ps lo hi z) → Q .non H1 := fun pos H1 s1 h cv => by
      have g : IsGap ps lo hi none := fun p h1 h2 => cv p h1 (by omega)
      have z := q _ s1
      rw [gapO_eq (q := (lo, hi)) g] at z
      exact z
    rcases hau with ha | ha
    · refine ⟨_, (pss_cons (ps_set (i := 2) sc_law_gap.nd rfl (Or.inr rfl) (pe_ix ix_tup (pv 1) pe_int (fun _ _ => rfl)))
      (pss_cons (ps_while PassesOwn.never (pt_cmpR op_le (pv 2) (pe_ix ix_tup (pv 1) pe_int (fun _ _ => rfl)) (nomark _))
      (pss_cons (ps_setLc (i := 3) (own := [("_law_start", 4), ("_law_end", 5)]) (g := (gTup K 2 (gCons (gName 4) (gCons (gName 5) gNil)))) (by rfl) sc_law_gap.nd rfl rfl (sw_true rfl rfl rfl (by decide +kernel)) (pi_list (pv 0)) (blkOk_by (own := [("_law_start", 4), ("_law_end", 5)]) (N := N_law_gap) (sc := defScope s_law_gap) (by decide +kernel)) (fun _ _ _ _ _ => (pg_tup rfl (pgs_cons (pg_name (i := 4) sc_law_gap.nd rfl (Or.inl rfl)) (pgs_cons (pg_name (i := 5) sc_law_gap.nd rfl (Or.inl rfl)) pgs_nil)))) (fun _ _ _ _ _ => pts_one (pt_chN (pe_ix (show IxR _ (rIxT K) from ix_tup) (pv 1) pe_int (fun _ _ => rfl)) (pchT_link op_le (pv 4) (pchT_link op_le (pv 2) (pchT_last op_le (pv 5)))))) (fun _ _ _ _ _ => (pv 5)))
      (pss_cons (ps_setLc (i := 3) (own := [("_law_end", 5)]) (g := (gName 5)) (by rfl) sc_law_gap.nd rfl rfl (sw_true rfl rfl rfl (by decide +kernel)) (pi_list (pv 3)) (blkOk_by (own := [("_law_end", 5)]) (N := N_law_gap) (sc := defScope s_law_gap) (by decide +kernel)) (fun _ _ _ _ _ => (pg_name (i := 5) sc_law_gap.nd rfl (Or.inl rfl))) (fun _ _ _ _ _ => pts_one (pt_cmpR op_le (pv 5) (pe_ix (show IxR _ (rIxT K) from ix_tup) (pv 1) pe_int (fun _ _ => rfl)) (nomark _))) (fun _ _ _ _ _ => (pv 5)))
      (pss_cons (ps_if (pt_cmpR (op_eqL hr.units0) (pv 3) (pe_lst pa_nil) (nomark _))
      (pss_one (ps_ret (pv 2)))
      pss_nil)
      (pss_one (ps_set (i := 2) sc_law_gap.nd rfl (Or.inr rfl) (pe_op op_add (pe_callB (cr_max rfl) (by rfl) T.z_max (by decide +kernel) (pa_cons (pv 3) pa_nil)) pe_int)))))))
      (pss_one (ps_ret pe_non)))), ?_⟩
      refine ⟨.ref t, rfl, t, _, 0, .int lo, rfl, rfl, SqT.of ht, rfl, ?_⟩
      refine while_by (fun σ H' => Same H H' ∧ ∃ (pos : Int) (y3 y4 y5 : Option V), (lo ≤ pos ∧ pos ≤ hi + 1) ∧ (∀ z, lo ≤ z → z < pos → covI ps lo hi z) ∧ σ = [some (.ref a), some (.ref t), some (.int pos), y3, y4, y5]) (fun σ _ => msG hi σ) ⟨Same.refl _, lo, _, _, _, by omega, (fun z h1 h2 => absurd h1 (by omega)), rfl⟩ ?_ ?_
      · rintro σ H1 ⟨s1, pos, y3, y4, y5, b1, cv, rfl⟩
        refine ⟨.int pos, rfl, .ref t, rfl, t, _, 1, .int hi, rfl, rfl, SqT.of (s1 _ _ ht), rfl, _, _, rfl, rfl, _, rfl, ite2 (fun c => ?_) (fun c => ?_)⟩
        · have c := of_decide_eq_true c
          refine ⟨.ref a, rfl, a, rfl, ⟨_, SqL.of (s1 _ _ ha)⟩, fun D nD => ?_⟩
          refine lcL (K := K) (a := a) (xs := us) (fun j H' ws => ws = (((ps.take j).filter fun q => decide ((lo ≤ q.1 ∧ q.1 ≤ pos) ∧ pos ≤ q.2)).map (·.2)).map V.int) nD (fun H' s => SqL.of (s _ _ (s1 _ _ ha))) (by omega) (fun _ _ _ _ _ r => r) (fun j H' ws r => by rw [r]; exact map2_filter_len j) (fun _ => rfl) ?_ ?_
          · rintro j v H' N acc hj sj eA sz r no yes
            obtain ⟨b, x, y, rfl, exy, hb⟩ := iv.get hj
            have sA := s1.trans sj
            have hb' := sA _ _ hb
            have out : ¬ ((lo ≤ x ∧ x ≤ pos) ∧ pos ≤ y) → N H' := fun e => by
              refine no H' (Same.refl _) ?_
              rw [r, take_filter exy, if_neg (fun z => e (of_decide_eq_true z)), List.append_nil]
            refine ⟨b, _, rfl, SqT.of hb', rfl, .int x, [.int y], rfl, .int y, [], rfl, rfl, rfl, .ref t, rfl, t, _, 0, .int lo, rfl, rfl, SqT.of (sA _ _ ht), rfl, .int x, rfl, _, _, rfl, rfl, _, rfl, ite2 (fun c1 => ?_) (fun c1 => ?_)⟩
            · refine ⟨.int pos, rfl, _, _, rfl, rfl, _, rfl, ite2 (fun c2 => ?_) (fun c2 => ?_)⟩
              · refine ⟨.int y, rfl, _, _, rfl, rfl, _, rfl, ite2 (fun c3 => ?_) (fun c3 => ?_)⟩
                · refine ⟨.int y, rfl, yes H' _ (Same.refl _) ?_⟩
                  rw [r, take_filter exy, if_pos (decide_eq_true ⟨⟨of_decide_eq_true c1, of_decide_eq_true c2⟩, of_decide_eq_true c3⟩), List.map_append, List.map_append]
                  rfl
                · exact out fun e => c3 (decide_eq_true e.2)
              · exact ⟨_, rfl, iteF (out fun e => c2 (decide_eq_true e.1.2))⟩
            · exact ⟨_, rfl, iteF (out fun e => c1 (decide_eq_true e.1.1))⟩
          · intro H2 ws s2 eD r
            rw [lu, List.take_length] at r
            subst r
            have s12 := s1.trans s2
            have ll := List.length_filter_le (fun q : Int × Int => decide ((lo ≤ q.1 ∧ q.1 ≤ pos) ∧ pos ≤ q.2)) ps
            obtain ⟨fs, efs⟩ : ∃ fs, fs = ((ps.filter fun q => decide ((lo ≤ q.1 ∧ q.1 ≤ pos) ∧ pos ≤ q.2)).map (·.2)) := ⟨_, rfl⟩
            have lfs : fs.length < 1000 := by rw [efs, List.length_map]; omega
            have tn := turn pos H2 True s12 ⟨b1.1, c⟩ cv
            rw [← efs] at eD tn
            refine ⟨.ref D, rfl, D, rfl, ⟨_, SqL.of eD⟩, fun D2 nD2 => ?_⟩
            refine lcL (K := K) (a := D) (xs := fs.map V.int) (fun j H' ws => ws = ((fs.take j).filter fun e => decide (e ≤ hi)).map V.int) nD2 (fun H' s => SqL.of (s _ _ eD)) (by rw [List.length_map]; exact lfs) (fun _ _ _ _ _ r => r) (fun j H' ws r => by rw [r]; exact map_filter_len j) (fun _ => rfl) ?_ ?_
            · rintro j v H' N acc hj sj eA sz r no yes
              rw [List.getElem?_map] at hj
              obtain ⟨e, ee, rfl⟩ := Option.map_eq_some_iff.mp hj
              refine ⟨rfl, .int e, rfl, .ref t, rfl, t, _, 1, .int hi, rfl, rfl, SqT.of (sj _ _ (s12 _ _ ht)), rfl, _, _, rfl, rfl, _, rfl, ite2 (fun c1 => ?_) (fun c1 => ?_)⟩
              · refine ⟨.int e, rfl, yes H' _ (Same.refl _) ?_⟩
                rw [r, take_filter ee, if_pos c1, List.map_append]
                rfl
              · refine no H' (Same.refl _) ?_
                rw [r, take_filter ee, if_neg c1, List.append_nil]
            · intro H3 ws s3 eD2 r
              rw [List.length_map, List.take_length] at r
              subst r
              obtain ⟨es, ees⟩ : ∃ es, es = fs.filter fun e => decide (e ≤ hi) := ⟨_, rfl⟩
              have tn2 := tn es ees
              rw [← ees] at eD2
              have s13 := s12.trans s3
              refine ⟨.ref D2, rfl, by show 0 ≤ sizeLine; decide, fun z nz => ?_⟩
              have s4 := same_new (o := .lst []) nz
              refine ⟨D2, z, _, rfl, rfl, SqL.of (s4 _ _ eD2), SqL.of upd_same, _, rfl, ite2 (fun c1 => ?_) (fun c1 => ?_)⟩
              · have e0 : es = [] := by
                  rw [List.isEmpty_iff, List.map_eq_nil_iff] at c1
                  exact c1
                have zz := q _ (s13.trans s4)
                rw [gapO_eq (q := (lo, hi)) (tn2.1 e0)] at zz
                exact ⟨.int pos, rfl, zz⟩
              · have ne : 0 < es.length := by
                  cases es with
                  | nil => exact absurd rfl c1
                  | cons x r => exact Nat.succ_pos _
                refine ⟨.ref D2, rfl, D2, es, rfl, SqL.of (s4 _ _ eD2), ne, fun m hm top => ?_⟩
                obtain ⟨w1, w2, w3⟩ := tn2.2 m hm top
                refine ⟨_, _, rfl, rfl, ⟨s13.trans s4, m + 1, _, _, _, w1, w3, rfl⟩, ?_⟩
                show (hi + 1 - (m + 1)).toNat < (hi + 1 - pos).toNat
                omega
        · exact done pos H1 s1 (by have h : ¬ pos ≤ hi := fun z => c (decide_eq_true z); omega) cv
      · rintro σ H1 Q1 Q2 hm ⟨v1, e1, v2, e2, p, xs, ix, v3, e3, e4, e5, e6, i, j, e7, e8, k, e9, z⟩
        exact ⟨v1, e1, v2, e2, p, xs, ix, v3, e3, e4, e5, e6, i, j, e7, e8, k, e9, hm _ _ z⟩
    · refine ⟨_, (pss_cons (ps_set (i := 2) sc_law_gap.nd rfl (Or.inr rfl) (pe_ix ix_tup (pv 1) pe_int (fun _ _ => rfl)))
      (pss_cons (ps_while PassesOwn.never (pt_cmpR op_le (pv 2) (pe_ix ix_tup (pv 1) pe_int (fun _ _ => rfl)) (nomark _))
      (pss_cons (ps_setLc (i := 3) (own := [("_law_start", 4), ("_law_end", 5)]) (g := (gTup K 2 (gCons (gName 4) (gCons (gName 5) gNil)))) (by rfl) sc_law_gap.nd rfl rfl (sw_true rfl rfl rfl (by decide +kernel)) (pi_tup (pv 0)) (blkOk_by (own := [("_law_start", 4), ("_law_end", 5)]) (N := N_law_gap) (sc := defScope s_law_gap) (by decide +kernel)) (fun _ _ _ _ _ => (pg_tup rfl (pgs_cons (pg_name (i := 4) sc_law_gap.nd rfl (Or.inl rfl)) (pgs_cons (pg_name (i := 5) sc_law_gap.nd rfl (Or.inl rfl)) pgs_nil)))) (fun _ _ _ _ _ => pts_one (pt_chN (pe_ix (show IxR _ (rIxT K) from ix_tup) (pv 1) pe_int (fun _ _ => rfl)) (pchT_link op_le (pv 4) (pchT_link op_le (pv 2) (pchT_last op_le (pv 5)))))) (fun _ _ _ _ _ => (pv 5)))
      (pss_cons (ps_setLc (i := 3) (own := [("_law_end", 5)]) (g := (gName 5)) (by rfl) sc_law_gap.nd rfl rfl (sw_true rfl rfl rfl (by decide +kernel)) (pi_list (pv 3)) (blkOk_by (own := [("_law_end", 5)]) (N := N_law_gap) (sc := defScope s_law_gap) (by decide +kernel)) (fun _ _ _ _ _ => (pg_name (i := 5) sc_law_gap.nd rfl (Or.inl rfl))) (fun _ _ _ _ _ => pts_one (pt_cmpR op_le (pv 5) (pe_ix (show IxR _ (rIxT K) from ix_tup) (pv 1) pe_int (fun _ _ => rfl)) (nomark _))) (fun _ _ _ _ _ => (pv 5)))
      (pss_cons (ps_if (pt_cmpR (op_eqL hr.units0) (pv 3) (pe_lst pa_nil) (nomark _))
      (pss_one (ps_ret (pv 2)))
      pss_nil)
      (pss_one (ps_set (i := 2) sc_law_gap.nd rfl (Or.inr rfl) (pe_op op_add (pe_callB (cr_max rfl) (by rfl) T.z_max (by decide +kernel) (pa_cons (pv 3) pa_nil)) pe_int)))))))
      (pss_one (ps_ret pe_non)))), ?_⟩
      refine ⟨.ref t, rfl, t, _, 0, .int lo, rfl, rfl, SqT.of ht, rfl, ?_⟩
      refine while_by (fun σ H' => Same H H' ∧ ∃ (pos : Int) (y3 y4 y5 : Option V), (lo ≤ pos ∧ pos ≤ hi + 1) ∧ (∀ z, lo ≤ z → z < pos → covI ps lo hi z) ∧ σ = [some (.ref a), some (.ref t), some (.int pos), y3, y4, y5]) (fun σ _ => msG hi σ) ⟨Same.refl _, lo, _, _, _, by omega, (fun z h1 h2 => absurd h1 (by omega)), rfl⟩ ?_ ?_
      · rintro σ H1 ⟨s1, pos, y3, y4, y5, b1, cv, rfl⟩
        refine ⟨.int pos, rfl, .ref t, rfl, t, _, 1, .int hi, rfl, rfl, SqT.of (s1 _ _ ht), rfl, _, _, rfl, rfl, _, rfl, ite2 (fun c => ?_) (fun c => ?_)⟩
        · have c := of_decide_eq_true c
          refine ⟨.ref a, rfl, a, rfl, ⟨_, SqT.of (s1 _ _ ha)⟩, fun D nD => ?_⟩
          refine lcT (K := K) (a := a) (xs := us) (fun j H' ws => ws = (((ps.take j).filter fun q => decide ((lo ≤ q.1 ∧ q.1 ≤ pos) ∧ pos ≤ q.2)).map (·.2)).map V.int) nD (fun H' s => SqT.of (s _ _ (s1 _ _ ha))) (by omega) (fun _ _ _ _ _ r => r) (fun j H' ws r => by rw [r]; exact map2_filter_len j) (fun _ => rfl) ?_ ?_
          · rintro j v H' N acc hj sj eA sz r no yes
            obtain ⟨b, x, y, rfl, exy, hb⟩ := iv.get hj
            have sA := s1.trans sj
            have hb' := sA _ _ hb
            have out : ¬ ((lo ≤ x ∧ x ≤ pos) ∧ pos ≤ y) → N H' := fun e => by
              refine no H' (Same.refl _) ?_
              rw [r, take_filter exy, if_neg (fun z => e (of_decide_eq_true z)), List.append_nil]
            refine ⟨b, _, rfl, SqT.of hb', rfl, .int x, [.int y], rfl, .int y, [], rfl, rfl, rfl, .ref t, rfl, t, _, 0, .int lo, rfl, rfl, SqT.of (sA _ _ ht), rfl, .int x, rfl, _, _, rfl, rfl, _, rfl, ite2 (fun c1 => ?_) (fun c1 => ?_)⟩
            · refine ⟨.int pos, rfl, _, _, rfl, rfl, _, rfl, ite2 (fun c2 => ?_) (fun c2 => ?_)⟩
              · refine ⟨.int y, rfl, _, _, rfl, rfl, _, rfl, ite2 (fun c3 => ?_) (fun c3 => ?_)⟩
                · refine ⟨.int y, rfl, yes H' _ (Same.refl _) ?_⟩
                  rw [r, take_filter exy, if_pos (decide_eq_true ⟨⟨of_decide_eq_true c1, of_decide_eq_true c2⟩, of_decide_eq_true c3⟩), List.map_append, List.map_append]
                  rfl
                · exact out fun e => c3 (decide_eq_true e.2)
              · exact ⟨_, rfl, iteF (out fun e => c2 (decide_eq_true e.1.2))⟩
            · exact ⟨_, rfl, iteF (out fun e => c1 (decide_eq_true e.1.1))⟩
          · intro H2 ws s2 eD r
            rw [lu, List.take_length] at r
            subst r
            have s12 := s1.trans s2
            have ll := List.length_filter_le (fun q : Int × Int => decide ((lo ≤ q.1 ∧ q.1 ≤ pos) ∧ pos ≤ q.2)) ps
            obtain ⟨fs, efs⟩ : ∃ fs, fs = ((ps.filter fun q => decide ((lo ≤ q.1 ∧ q.1 ≤ pos) ∧ pos ≤ q.2)).map (·.2)) := ⟨_, rfl⟩
            have lfs : fs.length < 1000 := by rw [efs, List.length_map]; omega
            have tn := turn pos H2 True s12 ⟨b1.1, c⟩ cv
            rw [← efs] at eD tn
            refine ⟨.ref D, rfl, D, rfl, ⟨_, SqL.of eD⟩, fun D2 nD2 => ?_⟩
            refine lcL (K := K) (a := D) (xs := fs.map V.int) (fun j H' ws => ws = ((fs.take j).filter fun e => decide (e ≤ hi)).map V.int) nD2 (fun H' s => SqL.of (s _ _ eD)) (by rw [List.length_map]; exact lfs) (fun _ _ _ _ _ r => r) (fun j H' ws r => by rw [r]; exact map_filter_len j) (fun _ => rfl) ?_ ?_
            · rintro j v H' N acc hj sj eA sz r no yes
              rw [List.getElem?_map] at hj
              obtain ⟨e, ee, rfl⟩ := Option.map_eq_some_iff.mp hj
              refine ⟨rfl, .int e, rfl, .ref t, rfl, t, _, 1, .int hi, rfl, rfl, SqT.of (sj _ _ (s12 _ _ ht)), rfl, _, _, rfl, rfl, _, rfl, ite2 (fun c1 => ?_) (fun c1 => ?_)⟩
              · refine ⟨.int e, rfl, yes H' _ (Same.refl _) ?_⟩
                rw [r, take_filter ee, if_pos c1, List.map_append]
                rfl
              · refine no H' (Same.refl _) ?_
                rw [r, take_filter ee, if_neg c1, List.append_nil]
            · intro H3 ws s3 eD2 r
              rw [List.length_map, List.take_length] at r
              subst r
              obtain ⟨es, ees⟩ : ∃ es, es = fs.filter fun e => decide (e ≤ hi) := ⟨_, rfl⟩
              have tn2 := tn es ees
              rw [← ees] at eD2
              have s13 := s12.trans s3
              refine ⟨.ref D2, rfl, by show 0 ≤ sizeLine; decide, fun z nz => ?_⟩
              have s4 := same_new (o := .lst []) nz
              refine ⟨D2, z, _, rfl, rfl, SqL.of (s4 _ _ eD2), SqL.of upd_same, _, rfl, ite2 (fun c1 => ?_) (fun c1 => ?_)⟩
              · have e0 : es = [] := by
                  rw [List.isEmpty_iff, List.map_eq_nil_iff] at c1
                  exact c1
                have zz := q _ (s13.trans s4)
                rw [gapO_eq (q := (lo, hi)) (tn2.1 e0)] at zz
                exact ⟨.int pos, rfl, zz⟩
              · have ne : 0 < es.length := by
                  cases es with
                  | nil => exact absurd rfl c1
                  | cons x r => exact Nat.succ_pos _
                refine ⟨.ref D2, rfl, D2, es, rfl, SqL.of (s4 _ _ eD2), ne, fun m hm top => ?_⟩
                obtain ⟨w1, w2, w3⟩ := tn2.2 m hm top
                refine ⟨_, _, rfl, rfl, ⟨s13.trans s4, m + 1, _, _, _, w1, w3, rfl⟩, ?_⟩
                show (hi + 1 - (m + 1)).toNat < (hi + 1 - pos).toNat
                omega
        · exact done pos H1 s1 (by have h : ¬ pos ≤ hi := fun z => c (decide_eq_true z); omega) cv
      · rintro σ H1 Q1 Q2 hm ⟨v1, e1, v2, e2, p, xs, ix, v3, e3, e4, e5, e6, i, j, e7, e8, k, e9, z⟩
        exact ⟨v1, e1, v2, e2, p, xs, ix, v3, e3, e4, e5, e6, i, j, e7, e8, k, e9, hm _ _ z⟩

/-! ### the fewest -/
theorem cover_far {ins : List (Int × Int)} {hi : Int} : ∀ {x : Int} {o : Option (List (Int × Int))}, Ch ins hi x o → ∀ L, o = some L → ∀ sel : List (Int × Int), (∀ q ∈ sel, q ∈ ins) → (∀ z, x ≤ z → z ≤ hi → ∃ q ∈ sel, atB z q = true) → L.length ≤ (sel.filter fun q => decide (x ≤ q.2)).length := by
  intro x o h
  induction h with
  | done l =>
    intro L e sel _ _
    cases e
    exact Nat.zero_le _
  | gap l n =>
    intro L e
    cases e
  | @step x q o l f c ih =>
    intro L e sel sub cov
    cases o with
    | none => cases e
    | some L' =>
      cases e
      have ihL := ih L' rfl sel sub (fun z h1 h2 => by
        have aq := atB_iff.mp f.2.1
        exact cov z (by omega) h2)
      obtain ⟨q0, m0, a0⟩ := cov x (Int.le_refl _) l
      have le := f.2.2 q0 (sub q0 m0) a0
      have a0' := atB_iff.mp a0
      have aq := atB_iff.mp f.2.1
      show L'.length + 1 ≤ _
      have key : (sel.filter fun r => decide (q.2 + 1 ≤ r.2)).length + 1 ≤ (sel.filter fun r => decide (x ≤ r.2)).length := by
        have mem0 : q0 ∈ sel.filter fun r => decide (x ≤ r.2) := List.mem_filter.mpr ⟨m0, decide_eq_true a0'.2⟩
        have e1 : (sel.filter fun r => decide (q.2 + 1 ≤ r.2)) = (sel.filter fun r => decide (x ≤ r.2)).filter fun r => decide (q.2 + 1 ≤ r.2) := by
          rw [List.filter_filter]
          refine List.filter_congr fun r _ => ?_
          by_cases c : q.2 + 1 ≤ r.2
          · rw [decide_eq_true c, decide_eq_true (show x ≤ r.2 by omega)]
            rfl
          · rw [decide_eq_false c]
            rfl
        rw [e1]
        refine Nat.succ_le_of_lt ?_
        refine Nat.lt_of_le_of_ne (List.length_filter_le _ _) fun eq => ?_
        have all := List.length_filter_eq_length_iff.mp eq q0 mem0
        have := of_decide_eq_true all
        omega
      omega
theorem chain_sub {ins : List (Int × Int)} {hi : Int} : ∀ {x : Int} {o : Option (List (Int × Int))}, Ch ins hi x o → ∀ L, o = some L → (∀ q ∈ L, q ∈ ins ∧ x ≤ q.2) ∧ L.Nodup ∧ ∀ z, x ≤ z → z ≤ hi → ∃ q ∈ L, atB z q = true := by
  intro x o h
  induction h with
  | done l =>
    intro L e
    cases e
    exact ⟨fun q h => (nomatch h), .nil, fun z h1 h2 => by omega⟩
  | gap l n =>
    intro L e
    cases e
  | @step x q o l f c ih =>
    intro L e
    cases o with
    | none => cases e
    | some L' =>
      cases e
      obtain ⟨i1, i2, i3⟩ := ih L' rfl
      have aq := atB_iff.mp f.2.1
      refine ⟨fun r hr => ?_, List.nodup_cons.mpr ⟨fun hq => by have := (i1 q hq).2; omega, i2⟩, fun z h1 h2 => ?_⟩
      · rcases List.mem_cons.mp hr with rfl | hr
        · exact ⟨f.1, aq.2⟩
        · have := i1 r hr
          exact ⟨this.1, by omega⟩
      · by_cases c : z ≤ q.2
        · exact ⟨q, List.mem_cons_self, atB_iff.mpr ⟨by omega, c⟩⟩
        · obtain ⟨r, hr, ar⟩ := i3 z (by omega) h2
          exact ⟨r, List.mem_cons_of_mem _ hr, ar⟩
theorem sub_of : ∀ (ins L : List (Int × Int)), L.Nodup → (∀ q ∈ L, q ∈ ins) → ∃ sel : List (Int × Int), List.Sublist sel ins ∧ List.Perm sel L
  | [], L, _, sub => by
    have e : L = [] := List.eq_nil_iff_forall_not_mem.mpr fun q hq => nomatch sub q hq
    exact ⟨[], List.Sublist.refl _, by rw [e]⟩
  | a :: r, L, nd, sub => by
    by_cases c : a ∈ L
    · obtain ⟨sel, h1, h2⟩ := sub_of r (L.erase a) (nd.erase a) (fun q hq => by
        have m := List.mem_of_mem_erase hq
        rcases List.mem_cons.mp (sub q m) with e | e
        · rw [e] at hq
          exact absurd hq (nd.not_mem_erase)
        · exact e)
      exact ⟨a :: sel, h1.cons₂ a, (h2.cons a).trans (List.perm_cons_erase c).symm⟩
    · obtain ⟨sel, h1, h2⟩ := sub_of r L nd (fun q hq => by
        rcases List.mem_cons.mp (sub q hq) with e | e
        · rw [e] at hq
          exact absurd hq c
        · exact e)
      exact ⟨sel, h1.cons a, h2⟩
def sublists : List (Int × Int) → List (List (Int × Int)) → List (List (Int × Int))
  | [], acc => acc
  | p :: r, acc => sublists r (acc ++ acc.map (· ++ [p]))
/-- all selections, as the law makes them -/
def selsOf : Nat → List (Int × Int) → List (List (Int × Int))
  | 0, _ => [[]]
  | n + 1, ps => match ps[n]? with
    | some p => selsOf n ps ++ (selsOf n ps).map (· ++ [p])
    | none => selsOf n ps
theorem sels_mem (ps : List (Int × Int)) : ∀ n, n ≤ ps.length → ∀ sel, sel ∈ selsOf n ps ↔ List.Sublist sel (ps.take n)
  | 0, _, sel => by
    show sel ∈ [[]] ↔ _
    rw [List.take_zero, List.mem_singleton, List.sublist_nil]
  | n + 1, h, sel => by
    have e : ps[n]? = some ps[n] := List.getElem?_eq_getElem h
    have ih := sels_mem ps n (by omega)
    show sel ∈ (match ps[n]? with
      | some p => selsOf n ps ++ (selsOf n ps).map (· ++ [p])
      | none => selsOf n ps) ↔ _
    rw [e]
    show sel ∈ selsOf n ps ++ (selsOf n ps).map (· ++ [ps[n]]) ↔ _
    rw [List.take_add_one, e]
    show _ ↔ List.Sublist sel (ps.take n ++ [ps[n]])
    rw [List.mem_append, List.mem_map, List.sublist_append_iff]
    constructor
    · rintro (h | ⟨s0, h0, rfl⟩)
      · exact ⟨sel, [], (List.append_nil _).symm, (ih sel).mp h, List.nil_sublist _⟩
      · exact ⟨s0, [ps[n]], rfl, (ih s0).mp h0, List.Sublist.refl _⟩
    · rintro ⟨l1, l2, rfl, h1, h2⟩
      have h3 : l2 = [] ∨ l2 = [ps[n]] := by
        cases h2 with
        | cons _ h => exact .inl (List.sublist_nil.mp h)
        | cons_cons _ h =>
          rw [List.sublist_nil.mp h]
          exact .inr rfl
      rcases h3 with rfl | rfl
      · rw [List.append_nil]
        exact .inl ((ih l1).mpr h1)
      · exact .inr ⟨l1, (ih l1).mpr h1, rfl⟩
theorem sels_len (ps : List (Int × Int)) : ∀ n, (selsOf n ps).length ≤ 2 ^ n
  | 0 => Nat.le_refl _
  | n + 1 => by
    have ih := sels_len ps n
    show (match ps[n]? with
      | some p => selsOf n ps ++ (selsOf n ps).map (· ++ [p])
      | none => selsOf n ps).length ≤ 2 ^ (n + 1)
    rw [Nat.pow_succ]
    cases ps[n]? with
    | none => show (selsOf n ps).length ≤ _; omega
    | some p =>
      show (selsOf n ps ++ (selsOf n ps).map (· ++ [p])).length ≤ _
      rw [List.length_append, List.length_map]
      omega
theorem gap_ex (ps : List (Int × Int)) (lo hi : Int) : ∃ o, IsGap ps lo hi o := by
  by_cases h : ∀ p, lo ≤ p → p ≤ hi → covI ps lo hi p
  · exact ⟨none, h⟩
  · have key : ∀ (n : Nat) (p : Int), (p - lo).toNat = n → lo ≤ p → p ≤ hi → ¬ covI ps lo hi p → ∃ g, IsGap ps lo hi (some g) := by
      intro n
      induction n using Nat.strongRecOn with
      | _ n ih =>
        intro p hp h1 h2 nc
        by_cases c : ∀ z, lo ≤ z → z < p → covI ps lo hi z
        · exact ⟨p, ⟨h1, h2⟩, nc, c⟩
        · obtain ⟨z, hz⟩ := Classical.not_forall.mp c
          obtain ⟨z1, hz⟩ := Classical.not_forall.mp hz
          obtain ⟨z2, hz⟩ := Classical.not_forall.mp hz
          exact ih (z - lo).toNat (by omega) z rfl z1 (by omega) hz
    obtain ⟨z, hz⟩ := Classical.not_forall.mp h
    obtain ⟨z1, hz⟩ := Classical.not_forall.mp hz
    obtain ⟨z2, hz⟩ := Classical.not_forall.mp hz
    obtain ⟨g, hg⟩ := key _ z rfl z1 z2 hz
    exact ⟨some g, hg⟩
theorem gapO_spec (ps : List (Int × Int)) (q : Int × Int) : IsGap ps q.1 q.2 (gapO ps q) := by
  obtain ⟨o, h⟩ := gap_ex ps q.1 q.2
  rw [gapO_eq h]
  exact h
theorem fewest_eq {ins : List (Int × Int)} {lo hi : Int} {L : List (Int × Int)} (bin : ∀ q ∈ ins, lo ≤ q.1 ∧ q.2 ≤ hi) (h : Ch ins hi lo (some L)) : (∃ sel ∈ selsOf ins.length ins, gapO sel (lo, hi) = none ∧ sel.length = L.length) ∧ ∀ sel ∈ selsOf ins.length ins, gapO sel (lo, hi) = none → L.length ≤ sel.length := by
  have sub : ∀ sel ∈ selsOf ins.length ins, ∀ q ∈ sel, q ∈ ins := fun sel hs q hq => by
    have z := (sels_mem ins ins.length (Nat.le_refl _) sel).mp hs
    rw [List.take_length] at z
    exact z.mem hq
  constructor
  · obtain ⟨c1, c2, c3⟩ := chain_sub h L rfl
    obtain ⟨sel, s1, s2⟩ := sub_of ins L c2 (fun q hq => (c1 q hq).1)
    refine ⟨sel, (sels_mem ins ins.length (Nat.le_refl _) sel).mpr (by rw [List.take_length]; exact s1), ?_, s2.length_eq⟩
    refine gapO_eq (q := (lo, hi)) (o := none) fun z h1 h2 => ?_
    obtain ⟨q, hq, aq⟩ := c3 z h1 h2
    have aq' := atB_iff.mp aq
    have mq := s2.mem_iff.mpr hq
    exact ⟨q, mq, bin q (s1.mem mq), aq'⟩
  · intro sel hs g
    have cov : ∀ z, lo ≤ z → z ≤ hi → ∃ q ∈ sel, atB z q = true := fun z h1 h2 => by
      have G : IsGap sel lo hi none := by
        have sp := gapO_spec sel (lo, hi)
        rw [g] at sp
        exact sp
      obtain ⟨q, hq, _, b⟩ := G z h1 h2
      exact ⟨q, hq, atB_iff.mpr b⟩
    exact Nat.le_trans (cover_far h L rfl sel (sub sel hs) cov) (List.length_filter_le _ _)
theorem Rws.at_ {H : Hp} {vs : List V} {rs : List (List (Int × Int))} (h : Rws H vs rs) : ∀ {i : Nat} {v : V}, vs[i]? = some v → ∃ a us ps, v = .ref a ∧ rs[i]? = some ps ∧ H a = some (.tup us) ∧ Ivs H us ps := by
  induction h with
  | nil =>
    intro i v e
    simp at e
  | cons e iv _ ih =>
    intro i v q
    cases i with
    | zero =>
      cases q
      exact ⟨_, _, _, rfl, rfl, e, iv⟩
    | succ i => exact ih q
theorem Rws.snoc {H : Hp} {vs : List V} {rs : List (List (Int × Int))} {a : Addr} {us : List V} {ps : List (Int × Int)} (h : Rws H vs rs) (e : H a = some (.tup us)) (iv : Ivs H us ps) : Rws H (vs ++ [.ref a]) (rs ++ [ps]) := by
  induction h with
  | nil => exact .cons e iv .nil
  | cons z zi _ ih => exact .cons z zi ih
theorem gv_non {o : Option Int} : decide (gv o = .non) = o.isNone := by
  cases o with
  | none => rfl
  | some g => exact decide_eq_false (fun z => by cases z)
def sp_law_fewest : Sp := fun vs H Q _ => ∃ (a t : Addr) (us : List V) (ps : List (Int × Int)) (lo hi : Int) (L : List (Int × Int)), vs = [.ref a, .ref t] ∧ H a = some (.lst us) ∧ Ivs H us ps ∧ ps.length ≤ 6 ∧ H t = some (.tup [.int lo, .int hi]) ∧ lo ≤ hi ∧ (∀ q ∈ ps, lo ≤ q.1 ∧ q.2 ≤ hi) ∧ Ch ps hi lo (some L) ∧
  ∀ H', Same H H' → Q (.int L.length) H'
theorem ok_law_fewest (T : Tx K mg f_has_position f_contains f_pieces_inside f_farthest_piece f_cover_chain f_law_deck f_law_draw f_law_line f_law_interval f_law_intervals f_law_gap f_law_chain f_law_shuffled f_law_fewest f_law_right f_law d_has_position d_contains d_pieces_inside d_farthest_piece d_cover_chain d_law_deck d_law_draw d_law_line d_law_interval d_law_intervals d_law_gap d_law_chain d_law_shuffled d_law_fewest d_law_right d_law) : FnOk P w K mg base CX0 2 f_law_fewest d_law_fewest ["_law_pieces", "_law_target"] sp_law_fewest := by
  refine T.F_law_fewest.ok sc_law_fewest (fun vs H Q E h => ?_) (fun cdv A outer s H vs Q E hr h => ?_)
  · obtain ⟨a, t, us, ps, lo, hi, L, rfl, _⟩ := h
    rfl
  · obtain ⟨a, t, us, ps, lo, hi, L, rfl, ha, iv, few, ht, le, bin, ch, q⟩ := h
    refine ⟨_, (pss_cons (ps_set (i := 2) sc_law_fewest.nd rfl (Or.inl rfl) (pe_lst (pa_cons (pe_tup pa_nil) pa_nil)))
      (pss_cons (ps_for PassesOwn.never rfl (pi_list (pv 0)) (pg_name (i := 3) sc_law_fewest.nd rfl (Or.inr rfl))
      (pss_one (ps_set (i := 2) sc_law_fewest.nd rfl (Or.inl rfl) (pe_op op_cat (pv 2) (pe_lc (own := [("_law_selection", 4)]) (g := (gName 4)) (tt := tYes) (by rfl) sc_law_fewest.nd (pi_list (pv 2)) (blkOk_by (own := [("_law_selection", 4)]) (N := N_law_fewest) (sc := defScope s_law_fewest) (by decide +kernel)) (fun _ _ _ _ _ => (pg_name (i := 4) sc_law_fewest.nd rfl (Or.inl rfl))) (fun _ _ _ _ _ => pts_nil) (fun _ _ _ _ _ => (pe_op (show OpR _ (binaryOp .Add) (rCatA K) from op_catA) (pv 4) (pe_tup (pa_cons (pv 3) pa_nil)))))))))
      (pss_one (ps_ret (pe_callB (cr_min rfl) (by rfl) T.z_min (by decide +kernel) (pa_cons (pe_lc (own := [("_law_selection", 4)]) (g := (gName 4)) (by rfl) sc_law_fewest.nd (pi_list (pv 2)) (blkOk_by (own := [("_law_selection", 4)]) (N := N_law_fewest) (sc := defScope s_law_fewest) (by decide +kernel)) (fun _ _ _ _ _ => (pg_name (i := 4) sc_law_fewest.nd rfl (Or.inl rfl))) (fun _ _ _ _ _ => pts_one (pt_cmpR op_isN (pe_call (ok_law_gap T) (hr.mono (by decide)) (by rfl) T.g_law_gap T.F_law_gap.kp T.b_law_gap .nil pass0 (pa_cons (pv 4) (pa_cons (pv 1) pa_nil))) pe_non (nomark _))) (fun _ _ _ _ _ => (pe_callB (show CallR _ (.builtin "len") (rLenS K) from call_lenS) (by rfl) T.z_len PySem.boot_len (pa_cons (pv 4) pa_nil)))) pa_nil)))))), ?_⟩
    have lu := iv.length
    have sz : sizeLine = 16777216 := by decide
    refine ⟨by show 0 ≤ sizeLine; decide, fun e0 ne0 => ?_⟩
    have s1 := same_new (o := .tup ([] : List V)) ne0
    have ee0 := upd_same (H := H) (a := e0) (o := .tup ([] : List V))
    generalize upd H e0 (.tup ([] : List V)) = H1 at *
    refine ⟨by show 1 ≤ sizeLine; decide, fun S nS => ?_⟩
    have s2 := same_new (o := .lst [V.ref e0]) nS
    have eS := upd_same (H := H1) (a := S) (o := .lst [V.ref e0])
    generalize upd H1 S (.lst [V.ref e0]) = H2 at *
    have s12 := s1.trans s2
    refine ⟨.ref a, rfl, a, rfl, ⟨_, SqL.of (s12 _ _ ha)⟩, for_list (D := ⟨_, _, fun _ _ => True, fun _ _ => True⟩) (K := K) (a := a) (xs := us) (fun j σ H' => Same H H' ∧ ∃ (S : Addr) (vs : List V) (y3 y4 : Option V), (H' S = some (.lst vs) ∧ Rws H' vs (selsOf j ps)) ∧ σ = [some (.ref a), some (.ref t), some (.ref S), y3, y4])
      ⟨s12, S, _, _, _, ⟨eS, .cons (s2 _ _ ee0) .nil .nil⟩, rfl⟩ (fun j σ H' hj h => SqL.of (h.1 _ _ ha)) ?_ ?_⟩
    · rintro j x σ H3 hx ⟨s3, S, vs, y3, y4, ⟨eS, rw3⟩, rfl⟩
      obtain ⟨b, bx, by', rfl, ep, hb⟩ := iv.get hx
      have hj := (List.getElem?_eq_some_iff.mp hx).1
      have lv := rw3.length
      have sl := sels_len ps j
      have p6 : 2 ^ j ≤ 2 ^ 6 := Nat.pow_le_pow_right (by decide) (by omega)
      refine ⟨.ref S, rfl, .ref S, rfl, S, rfl, ⟨_, SqL.of eS⟩, fun D nD => ?_⟩
      refine lcL (K := K) (a := S) (xs := vs) (fun i H' ws => Rws H' ws (((selsOf j ps).take i).map (· ++ [(bx, by')])) ∧ ws.length ≤ i) nD (fun H' s => SqL.of (s _ _ eS)) (by omega) (fun _ _ _ _ t h => ⟨h.1.tps t, h.2⟩) (fun i H' ws h => h.2) (fun _ => ⟨.nil, Nat.le_refl _⟩) ?_ ?_
      · rintro i v H' N acc hi' sm eA sz2 ⟨r, rl⟩ no yes
        obtain ⟨s, sus, sps, rfl, es, ess, siv⟩ := rw3.at_ hi'
        refine ⟨rfl, .ref s, rfl, .ref b, rfl, by show 1 ≤ sizeLine; decide, fun e ne => ?_⟩
        have u1 := same_new (o := .tup [V.ref b]) ne
        have ee := upd_same (H := H') (a := e) (o := .tup [V.ref b])
        generalize upd H' e (.tup [V.ref b]) = H'' at *
        have ls := siv.length
        have lss : sps.length ≤ 6 := by
          have z := (sels_mem ps j (by omega) sps).mp (List.mem_of_getElem? es)
          have z2 := z.length_le
          rw [List.length_take] at z2
          omega
        refine catA_any ((sm.trans u1) _ _ ess) ee (by show _ + 1 ≤ _; omega) (fun H4 c u2 ec => yes _ _ (u1.trans u2) ⟨?_, by rw [List.length_append]; show acc.length + 1 ≤ _; omega⟩)
        have tk : ((selsOf j ps).take (i + 1)).map (· ++ [(bx, by')]) = ((selsOf j ps).take i).map (· ++ [(bx, by')]) ++ [sps ++ [(bx, by')]] := by
          rw [List.take_add_one, es, List.map_append]
          rfl
        rw [tk]
        refine (r.tps (Tps.same (u1.trans u2))).snoc ec ?_
        exact ((siv.same (sm.trans (u1.trans u2))).append (.cons (((s3.trans sm).trans (u1.trans u2)) _ _ hb) .nil))
      rintro H4 ws s4 eD ⟨r, rl⟩
      rw [lv, List.take_length] at r
      have lr := r.length
      rw [List.length_map] at lr
      refine ⟨S, D, _, _, rfl, rfl, s4 _ _ eS, eD, by omega, fun g ng => ?_⟩
      have u := same_new (o := .lst (vs ++ ws)) ng
      refine ⟨s3.trans (s4.trans u), g, vs ++ ws, _, _, ⟨upd_same, ?_⟩, rfl⟩
      have es : selsOf (j + 1) ps = selsOf j ps ++ (selsOf j ps).map (· ++ [(bx, by')]) := by
        show (match ps[j]? with
          | some p => selsOf j ps ++ (selsOf j ps).map (· ++ [p])
          | none => selsOf j ps) = _
        rw [ep]
      rw [es]
      exact ((rw3.tps (Tps.same s4)).append r).tps (Tps.same u)
    rintro σ H3 ⟨s3, S, vs, y3, y4, ⟨eS, rw3⟩, rfl⟩
    rw [lu] at rw3
    have lv := rw3.length
    have sl := sels_len ps ps.length
    have p6 : 2 ^ ps.length ≤ 2 ^ 6 := Nat.pow_le_pow_right (by decide) few
    obtain ⟨⟨sel0, m0, g0, l0⟩, least⟩ := fewest_eq bin ch
    refine ⟨.ref S, rfl, S, rfl, ⟨_, SqL.of eS⟩, fun D nD => ?_⟩
    refine lcL (K := K) (a := S) (xs := vs) (fun i H' ws => ws = ((((selsOf ps.length ps).take i).filter fun s => (gapO s (lo, hi)).isNone).map fun s => (s.length : Int)).map V.int) nD (fun H' s => SqL.of (s _ _ eS)) (by omega) (fun _ _ _ _ _ h => h) (fun i H' ws h => by rw [h, List.length_map, List.length_map]; exact Nat.le_trans (List.length_filter_le _ _) (List.length_take_le _ _)) (fun _ => rfl) ?_ ?_
    · rintro i v H' N acc hi' sm eA sz2 r no yes
      obtain ⟨s, sus, sps, rfl, es, ess, siv⟩ := rw3.at_ hi'
      have ls := siv.length
      have lss : sps.length ≤ 6 := by
        have z := (sels_mem ps ps.length (Nat.le_refl _) sps).mp (List.mem_of_getElem? es)
        have z2 := z.length_le
        rw [List.length_take] at z2
        omega
      refine ⟨rfl, .ref s, rfl, .ref t, rfl, s, t, sus, sps, lo, hi, rfl, .inr (sm _ _ ess), siv.same sm, by omega, (s3.trans sm) _ _ ht, le, fun H'' u => ⟨rfl, _, rfl, ?_⟩⟩
      rw [gv_non]
      have tk : ((selsOf ps.length ps).take (i + 1)).filter (fun s => (gapO s (lo, hi)).isNone) = ((selsOf ps.length ps).take i).filter (fun s => (gapO s (lo, hi)).isNone) ++ [sps].filter (fun s => (gapO s (lo, hi)).isNone) := by
        rw [List.take_add_one, es, List.filter_append]
        rfl
      cases hg : (gapO sps (lo, hi)).isNone with
      | true =>
        refine iteT ⟨.ref s, rfl, s, sus, rfl, .inr (SqT.of ((sm.trans u) _ _ ess)), yes _ _ u ?_⟩
        rw [tk, List.filter_cons_of_pos (by exact hg), List.map_append, List.map_append, r, ls]
        rfl
      | false =>
        refine iteF (no _ u ?_)
        rw [tk, List.filter_cons_of_neg (by rw [hg]; exact Bool.false_ne_true), r]
        show _ = List.map V.int (List.map _ (_ ++ []))
        rw [List.append_nil]
    rintro H4 ws s4 eD r
    rw [lv, List.take_length] at r
    subst r
    have mem0 : ((sel0.length : Nat) : Int) ∈ (((selsOf ps.length ps).filter fun s => (gapO s (lo, hi)).isNone).map fun s => (s.length : Int)) := List.mem_map.mpr ⟨sel0, List.mem_filter.mpr ⟨m0, by rw [g0]; rfl⟩, rfl⟩
    refine ⟨D, _, rfl, SqL.of eD, List.length_pos_iff.mpr (List.ne_nil_of_mem mem0), fun m hm bot => ?_⟩
    have b1 := bot _ mem0
    obtain ⟨s, hs, e⟩ := List.mem_map.mp hm
    obtain ⟨k1, k2⟩ := List.mem_filter.mp hs
    have k3 : gapO s (lo, hi) = none := Option.isNone_iff_eq_none.mp k2
    have b2 := least s k1 k3
    have e' : ((s.length : Nat) : Int) = m := e
    have em : m = L.length := by omega
    rw [em]
    exact q _ (s3.trans s4)

/-! ### a chain is right -/
theorem nodup_le' {as bs : List (Int × Int)} (nd : as.Nodup) (h : ∀ x ∈ as, x ∈ bs) : as.length ≤ bs.length := by
  obtain ⟨sel, h1, h2⟩ := sub_of bs as nd h
  rw [← h2.length_eq]
  exact h1.length_le
def chD : Option (List (Int × Int)) → PyData
  | none => .none
  | some L => .tuple (L.map pairD)
theorem OCh.dp {K : PySem.W.Frag} {H : Hp} {v : V} {o : Option (List (Int × Int))} (h : OCh H v o) : Dp K H v (chD o) := by
  match o, h with
  | none, h =>
    have e : v = .non := h
    rw [e]
    exact .non
  | some L, ⟨t, us, e, et, iv⟩ =>
    rw [e]
    exact .tup (SqT.of et) iv.dp
theorem OCh.same {H H' : Hp} (s : Same H H') {v : V} {o : Option (List (Int × Int))} (h : OCh H v o) : OCh H' v o := by
  match o, h with
  | none, h => exact h
  | some L, ⟨t, us, e, et, iv⟩ => exact ⟨t, us, e, s _ _ et, iv.same s⟩
theorem sm_chD {ps : List (Int × Int)} {o : Option (List (Int × Int))} (few : ps.length ≤ 60) (ok : ∀ q ∈ ps, q.1.natAbs < 10 ^ 30 ∧ q.2.natAbs < 10 ^ 30) (sub : ∀ L, o = some L → L.Nodup ∧ ∀ q ∈ L, q ∈ ps) : Sm 12200 3 (chD o) := by
  match o, sub with
  | none, _ => exact Sm.none.mono (by decide) (by decide)
  | some L, sub =>
    obtain ⟨nd, su⟩ := sub L rfl
    have ll := nodup_le' nd su
    have z := Sm.tup (n := 202) (dp := 1) (ds := L.map pairD) (fun d hd => by
      obtain ⟨p, hp, rfl⟩ := List.mem_map.mp hd
      have := ok p (su p hp)
      exact sm2 this.1 this.2)
    rw [List.length_map] at z
    exact z.mono (by have : L.length * 203 ≤ 60 * 203 := Nat.mul_le_mul_right _ (by omega); show L.length * 203 ≤ 12200; omega) (by decide)
def sp_law_right (K : PySem.W.Frag) (pT : Addr) : Sp := fun vs H Q _ => ∃ (a t : Addr) (us : List V) (ps : List (Int × Int)) (lo hi : Int), vs = [.ref a, .ref t] ∧ H a = some (.tup us) ∧ Ivs H us ps ∧ ps.length ≤ 60 ∧ H t = some (.tup [.int lo, .int hi]) ∧ (∀ q ∈ ps, (0 ≤ q.1 ∧ q.1 ≤ q.2) ∧ q.2 ≤ 1000000000000) ∧ lo ≤ hi ∧ LamX.TabS H pT qLam ∧
  ∀ H', ButAt pT H H' → LamX.TabS H' pT qLam → Q (.bl true) H'
theorem ok_law_right (T : Tx K mg f_has_position f_contains f_pieces_inside f_farthest_piece f_cover_chain f_law_deck f_law_draw f_law_line f_law_interval f_law_intervals f_law_gap f_law_chain f_law_shuffled f_law_fewest f_law_right f_law d_has_position d_contains d_pieces_inside d_farthest_piece d_cover_chain d_law_deck d_law_draw d_law_line d_law_interval d_law_intervals d_law_gap d_law_chain d_law_shuffled d_law_fewest d_law_right d_law) (hT : TabH base mg d_farthest_piece pT) : FnG P w K mg base 6 f_law_right d_law_right ["_law_pieces", "_law_target"] (sp_law_right K pT) := by
  refine FnG.of T.F_law_right sc_law_right (fun {vs H Q} h => ?_) (fun cdv A outer s H vs Q hr hq h => ?_)
  · obtain ⟨a, t, us, ps, lo, hi, rfl, _⟩ := h
    rfl
  · obtain ⟨a, t, us, ps, lo, hi, rfl, ha, iv, few, ht, ok, le, tab, q⟩ := h
    refine ⟨_, (pss_cons (ps_set (i := 2) sc_law_right.nd rfl (Or.inl rfl) (pe_call (ok_cover_chain T hT) (hr.mono (by decide)) (by rfl) T.g_cover_chain T.F_cover_chain.kp T.b_cover_chain .nil pass0 (pa_cons (pv 0) (pa_cons (pv 1) pa_nil))))
      (pss_cons (ps_if (pt_cmpR op_ne (pe_callB (call_reprD hq hr.units) (by rfl) T.z_repr (by decide +kernel) (pa_cons (pv 2) pa_nil)) (pe_callB (call_reprD hq hr.units) (by rfl) T.z_repr (by decide +kernel) (pa_cons (pe_call (ok_law_chain T) (hr.mono (by decide)) (by rfl) T.g_law_chain T.F_law_chain.kp T.b_law_chain .nil pass0 (pa_cons (pv 0) (pa_cons (pv 1) pa_nil))) pa_nil)) (nomark _))
      (pss_one (ps_ret pe_bl))
      pss_nil)
      (pss_cons (ps_if (pt_cmpR op_isN (pv 2) pe_non (nomark _))
      (pss_one (ps_ret pe_bl))
      pss_nil)
      (pss_cons (ps_setLc (i := 3) (own := [("_law_piece", 4)]) (g := (gName 4)) (by rfl) sc_law_right.nd rfl rfl (sw_true rfl rfl rfl (by decide +kernel)) (pi_tup (pv 0)) (blkOk_by (own := [("_law_piece", 4)]) (N := N_law_right) (sc := defScope s_law_right) (by decide +kernel)) (fun _ _ _ _ _ => (pg_name (i := 4) sc_law_right.nd rfl (Or.inl rfl))) (fun _ _ _ _ _ => pts_one (PW.pt (pw_and (pt_cmpR op_le (pe_ix (show IxR _ (rIxT K) from ix_tup) (pv 1) pe_int (fun _ _ => rfl)) (pe_ix (show IxR _ (rIxT K) from ix_tup) (pv 4) pe_int (fun _ _ => rfl)) (nomark _)) (pw_and1 (pt_cmpR op_le (pe_ix (show IxR _ (rIxT K) from ix_tup) (pv 4) pe_int (fun _ _ => rfl)) (pe_ix (show IxR _ (rIxT K) from ix_tup) (pv 1) pe_int (fun _ _ => rfl)) (nomark _)))))) (fun _ _ _ _ _ => (pv 4)))
      (pss_one (ps_ret (pe_or (pe_cmpR op_gt (pe_callB call_len_seq (by rfl) T.z_len PySem.boot_len (pa_cons (pv 3) pa_nil)) pe_int (nomark _)) (pe_one (pe_cmpR op_eq (pe_callB call_len_seq (by rfl) T.z_len PySem.boot_len (pa_cons (pv 2) pa_nil)) (pe_call (ok_law_fewest T) (hr.mono (by decide)) (by rfl) T.g_law_fewest T.F_law_fewest.kp T.b_law_fewest .nil pass0 (pa_cons (pv 3) (pa_cons (pv 1) pa_nil))) (nomark _)))))))))), ?_⟩
    have lu := iv.length
    obtain ⟨tps, tpe, _⟩ := id tab
    have ord : ∀ q ∈ ps, q.1 ≤ q.2 := fun q h => (ok q h).1.2
    refine ⟨.ref a, rfl, .ref t, rfl, a, t, us, ps, lo, hi, rfl, ha, iv, by omega, ht, ord, tab, fun H1 v o b1 t1 ch oc => ?_⟩
    have keep1 : ∀ {b : Addr} {xs : List V}, H b = some (.tup xs) → H1 b = some (.tup xs) := fun {b xs} e => b1 b _ (fun z => by
      rw [z, tpe] at e
      cases e) e
    have ha1 := keep1 ha
    have ht1 := keep1 ht
    have iv1 : Ivs H1 us ps := iv.tps fun b xs e => keep1 e
    obtain ⟨ins, eins⟩ : ∃ ins, ins = ps.filter fun q => inI lo hi q.1 q.2 := ⟨_, rfl⟩
    rw [← eins] at ch
    have sub : ∀ L, o = some L → L.Nodup ∧ ∀ q ∈ L, q ∈ ps := fun L e => by
      have z := chain_sub ch L e
      refine ⟨z.2.1, fun q hq => ?_⟩
      have m := (z.1 q hq).1
      rw [eins] at m
      exact (List.mem_filter.mp m).1
    have sm := sm_chD few (fun q h => by have := ok q h; omega) sub
    refine ⟨v, rfl, v, chD o, _, _, rfl, oc.dp, sm, by decide, by decide, ?_⟩
    refine ⟨.ref a, rfl, .ref t, rfl, a, t, us, ps, lo, hi, rfl, ha1, iv1, by omega, ht1, ord, fun H2 v2 o2 s2 ch2 oc2 => ?_⟩
    rw [← eins] at ch2
    have eo := ch2.uniq ch
    subst eo
    refine ⟨v2, chD o2, _, _, rfl, oc2.dp, sm, by decide, by decide, rfl, _, rfl, iteNS rfl ?_⟩
    have b2 : ButAt pT H H2 := fun b o n e => s2 _ _ (b1 b o n e)
    have t2 := tabS_same t1 s2
    have oc1 := oc.same s2
    refine ⟨v, rfl, rfl, _, rfl, ?_⟩
    match o2, oc1, ch2 with
    | none, oc1, ch2 =>
      have e : v = .non := oc1
      rw [e]
      exact iteT (q H2 b2 t2)
    | some L, oc1, ch2 =>
      obtain ⟨cv, cus, rfl, ec, civ⟩ := oc1
      refine iteF ?_
      have ha2 := s2 _ _ ha1
      have ht2 := s2 _ _ ht1
      have iv2 := iv1.same s2
      refine ⟨.ref a, rfl, a, rfl, ⟨_, SqT.of ha2⟩, fun p np => ?_⟩
      refine lcT (K := K) (a := a) (xs := us) (fun j H' ws => Ivs H' ws ((ps.take j).filter fun q => inI lo hi q.1 q.2)) np (fun H' s => SqT.of (s _ _ ha2)) (by omega) (fun _ _ _ _ t r => r.tps t) (fun j H' ws r => ?_) (fun _ => .nil) ?_ ?_
      · rw [r.length]
        exact Nat.le_trans (List.length_filter_le _ _) (List.length_take_le _ _)
      · rintro j z H' N acc hj sj eA sz r no yes
        obtain ⟨b, x, y, rfl, exy, hb⟩ := iv2.get hj
        have hb' := sj _ _ hb
        have ht' := sj _ _ ht2
        have out : ¬ (inI lo hi x y = true) → N H' := fun e => by
          refine no H' (Same.refl _) ?_
          rw [take_filter exy, if_neg e, List.append_nil]
          exact r
        have inI_iff : inI lo hi x y = true ↔ lo ≤ x ∧ y ≤ hi := by
          unfold inI
          rw [Bool.and_eq_true, decide_eq_true_iff, decide_eq_true_iff]
        refine ⟨rfl, .ref t, rfl, t, _, 0, .int lo, rfl, rfl, SqT.of ht', rfl, .ref b, rfl, b, _, 0, .int x, rfl, rfl, SqT.of hb', rfl, _, _, rfl, rfl, _, rfl, ite2 (fun c1 => ?_) (fun c1 => ?_)⟩
        · refine ⟨.ref b, rfl, b, _, 1, .int y, rfl, rfl, SqT.of hb', rfl, .ref t, rfl, t, _, 1, .int hi, rfl, rfl, SqT.of ht', rfl, _, _, rfl, rfl, _, rfl, ite2 (fun c2 => ?_) (fun c2 => ?_)⟩
          · refine ⟨.ref b, rfl, yes H' _ (Same.refl _) ?_⟩
            rw [take_filter exy, if_pos (inI_iff.mpr ⟨of_decide_eq_true c1, of_decide_eq_true c2⟩)]
            exact r.snoc hb'
          · exact out fun e => c2 (decide_eq_true (inI_iff.mp e).2)
        · exact out fun e => c1 (decide_eq_true (inI_iff.mp e).1)
      intro H3 ws s3 ep ivw
      rw [lu, List.take_length, ← eins] at ivw
      have lw := ivw.length
      have b3 : ButAt pT H H3 := fun b o n e => s3 _ _ (b2 b o n e)
      have t3 := tabS_same t2 s3
      refine ⟨.ref p, rfl, p, ws, rfl, .inl (SqL.of ep), _, _, rfl, rfl, ?_⟩
      refine ⟨_, rfl, ite2 (fun _ => q H3 b3 t3) (fun c6 => ?_)⟩
      · have c6' : ¬ (6 : Int) < (ws.length : Int) := fun z => c6 (decide_eq_true z)
        have bin : ∀ z ∈ ins, lo ≤ z.1 ∧ z.2 ≤ hi := fun z hz => by
          rw [eins] at hz
          obtain ⟨m1, m2⟩ := List.mem_filter.mp hz
          have m2' : (decide (lo ≤ z.1) && decide (z.2 ≤ hi)) = true := m2
          rw [Bool.and_eq_true, decide_eq_true_iff, decide_eq_true_iff] at m2'
          exact m2'
        have lc := civ.length
        refine ⟨.ref cv, rfl, cv, cus, rfl, .inr (SqT.of (s3 _ _ ec)), .ref p, rfl, .ref t, rfl, p, t, ws, ins, lo, hi, L, rfl, ep, ivw, by omega, s3 _ _ ht2, le, bin, ch2, fun H4 s4 => ⟨rfl, ?_⟩⟩
        rw [lc, decide_eq_true rfl]
        exact q H4 (fun b o n e => s4 _ _ (b3 b o n e)) (tabS_same t3 s4)

theorem Ivs.erase {H : Hp} {vs : List V} {ps : List (Int × Int)} (h : Ivs H vs ps) : ∀ k : Nat, Ivs H (vs.eraseIdx k) (ps.eraseIdx k) := by
  induction h with
  | nil => intro k; exact .nil
  | cons e r ih =>
    intro k
    cases k with
    | zero => exact r
    | succ k => exact .cons e (ih k)
def sp_law_shuffled : Sp := fun vs H Q _ => ∃ (d : Addr) (c : Addr × Addr) (a : Addr) (n : Int) (us : List V) (ps : List (Int × Int)), vs = [.ref d, .ref a] ∧ Dk H d c n ∧ 0 ≤ n ∧ n < 990000 ∧ H a = some (.tup us) ∧ Ivs H us ps ∧ ps.length ≤ 30 ∧
  ∀ H' t us' qs m, Kp d c H H' → Dk H' d c m → n ≤ m → m ≤ n + 61 → H' t = some (.tup us') → Ivs H' us' qs → (∀ q ∈ qs, q ∈ ps) → qs.length ≤ 60 → Q (.ref t) H'
theorem ok_law_shuffled (T : Tx K mg f_has_position f_contains f_pieces_inside f_farthest_piece f_cover_chain f_law_deck f_law_draw f_law_line f_law_interval f_law_intervals f_law_gap f_law_chain f_law_shuffled f_law_fewest f_law_right f_law d_has_position d_contains d_pieces_inside d_farthest_piece d_cover_chain d_law_deck d_law_draw d_law_line d_law_interval d_law_intervals d_law_gap d_law_chain d_law_shuffled d_law_fewest d_law_right d_law) : FnOk P w K mg base CX0 2 f_law_shuffled d_law_shuffled ["_law_deck_here", "_law_pieces"] sp_law_shuffled := by
  refine T.F_law_shuffled.ok sc_law_shuffled (fun vs H Q E h => ?_) (fun cdv A outer s H vs Q E hr h => ?_)
  · obtain ⟨d, c, a, n, us, ps, rfl, _⟩ := h
    rfl
  · obtain ⟨d, c, a, n, us, ps, rfl, dk, n0, n1, ha, iv, few, q⟩ := h
    refine ⟨_, (pss_cons (ps_set (i := 2) sc_law_shuffled.nd rfl (Or.inr rfl) (pe_callTy call_list_of (by rfl) T.z_list (by decide +kernel) (pa_cons (pe_op op_catA (pv 1) (pe_slice sl_tupA (pv 1) po_none (po_some (pe_call (ok_law_draw T) (hr.mono (by decide)) (by rfl) T.g_law_draw T.F_law_draw.kp T.b_law_draw .nil pass0 (pa_cons (pv 0) (pa_cons (pe_op op_add (pe_callB call_len_seq (by rfl) T.z_len PySem.boot_len (pa_cons (pv 1) pa_nil)) pe_int) pa_nil)))))) pa_nil)))
      (pss_one (ps_ret (pe_callTy call_tuple_of (by rfl) T.z_tuple (by decide +kernel) (pa_cons (pe_lc (own := [("_law_k", 3)]) (g := (gName 3)) (tt := tYes) (by rfl) sc_law_shuffled.nd (pi_range1 (by rfl) T.z_range (pa_cons (pe_callB call_len_seq (by rfl) T.z_len PySem.boot_len (pa_cons (pv 2) pa_nil)) pa_nil)) (blkOk_by (own := [("_law_k", 3)]) (N := N_law_shuffled) (sc := defScope s_law_shuffled) (by decide +kernel)) (fun _ _ _ _ _ => (pg_name (i := 3) sc_law_shuffled.nd rfl (Or.inl rfl))) (fun _ _ _ _ _ => pts_nil) (fun _ _ _ _ _ => (pe_bmK (K := K) rfl (pe_bm PySem.F.plainAttrs_list PySem.F.slot_list_pop PySem.F.type_list_pop mt_popAt (pv 2) (pa_cons (pe_call (ok_law_draw T) (hr.mono (by decide)) (by rfl) T.g_law_draw T.F_law_draw.kp T.b_law_draw .nil pass0 (pa_cons (pv 0) (pa_cons (pe_callB (show CallR _ (.builtin "len") (rLenS K) from call_lenS) (by rfl) T.z_len PySem.boot_len (pa_cons (pv 2) pa_nil)) pa_nil))) pa_nil))))) pa_nil))))), ?_⟩
    have lu := iv.length
    have sz : sizeLine = 16777216 := by decide
    refine ⟨.ref a, rfl, .ref a, rfl, .ref d, rfl, .ref a, rfl, a, us, rfl, .inr (SqT.of ha), _, _, rfl, rfl, d, c, n, _, rfl, dk, n0, by omega, by omega, by omega, fun H1 r k1 dk1 r0 r1 => ?_⟩
    have ha1 := k1.tup dk ha
    have iv1 := iv.tps (k1.tps dk)
    refine ⟨r, rfl, slA_any ha1 (fun H2 b s2 eb => ?_)⟩
    obtain ⟨cs, ivc, cmem, cl⟩ : ∃ cs, Ivs H1 (cutV us none (some r)) cs ∧ (∀ q ∈ cs, q ∈ ps) ∧ cs.length ≤ ps.length := by
      refine ⟨(ps.drop (HT.sIx us.length 0 none)).take (HT.sIx us.length us.length (some r) - HT.sIx us.length 0 none), ?_, fun q hq => List.mem_of_mem_drop (List.mem_of_mem_take hq), by rw [List.length_take, List.length_drop]; omega⟩
      refine Ivs.take ?_ _
      rw [HT.sIx_none, List.drop_zero, List.drop_zero]
      exact iv1
    have lcs := ivc.length
    refine catA_any (s2 _ _ ha1) eb (by omega) (fun H3 e s3 ee => ?_)
    have s23 := s2.trans s3
    have dk3 := dk1.kept s23
    have ivA := (iv1.append ivc).same s23
    refine ⟨e, _, rfl, .inr (SqT.of ee), fun l nl => ?_⟩
    have ofl := dk3.off nl
    have s4 := same_new (o := .lst (us ++ cutV us none (some r))) nl
    have el := upd_same (H := H3) (a := l) (o := .lst (us ++ cutV us none (some r)))
    generalize upd H3 l (.lst (us ++ cutV us none (some r))) = H4 at *
    have dk4 := dk3.kept s4
    have ivB := ivA.same s4
    obtain ⟨N, eN⟩ : ∃ N : Nat, (us ++ cutV us none (some r)).length = N := ⟨_, rfl⟩
    have N60 : N ≤ 60 := by rw [← eN, List.length_append]; omega
    have k14 : Kp d c H H4 := k1.trans (Kp.same (s23.trans s4))
    refine ⟨.ref l, rfl, l, _, rfl, .inl (SqL.of el), _, rfl, by omega, by omega, fun D nD => ?_⟩
    have lD : l ≠ D := fun z => by
      rw [z, nD] at el
      cases el
    have ofD := dk4.off nD
    have nlH : H l = none := by
      cases q0 : H l with
      | none => rfl
      | some o =>
        have := (k1.trans (Kp.same s23)) l o ofl.1 ofl.2 q0
        rw [nl] at this
        cases this
    have nDH : ∀ b o, H b = some o → b ≠ d → (b ≠ c.1 ∧ b ≠ c.2) → b ≠ D := fun b o h n1' n2' z => by
      have := k14 b o n1' n2' h
      rw [z, nD] at this
      cases this
    refine lc_range (lo := 0) (n := (((us ++ cutV us none (some r)).length : Nat) : Int).toNat) (fun i H' => (Kp d c H H' ∧ Dk H' d c (n + 1 + i)) ∧ (∃ ls rs, H' l = some (.lst ls) ∧ Ivs H' ls rs ∧ rs.length + i = N ∧ ∀ q ∈ rs, q ∈ ps) ∧ ∃ ws qs, H' D = some (.lst ws) ∧ Ivs H' ws qs ∧ qs.length = i ∧ ∀ q ∈ qs, q ∈ ps)
      ⟨⟨fun b o n1' n2' h => by rw [upd_ne (nDH b o h n1' n2')]; exact k14 b o n1' n2' h, (dk4.upd ofD).eq (by simp)⟩, ⟨_, _, by rw [upd_ne lD]; exact el, ivB.same (same_new nD), by rw [← ivB.length, eN]; rfl, fun q hq => (List.mem_append.mp hq).elim (fun h => h) (cmem q)⟩, [], [], upd_same, .nil, rfl, fun q h => nomatch h⟩ ?_ ?_
    · rintro i H5 hi ⟨⟨k5, d5⟩, ⟨ls, rs, el5, ivr, lr, mr⟩, ws, qs, eD5, ivq, lq, mq⟩
      rw [eN] at hi
      have lls := ivr.length
      refine ⟨rfl, .ref l, rfl, .inl ⟨rfl, _, SqL.of el5⟩, .ref d, rfl, .ref l, rfl, l, ls, rfl, .inl (SqL.of el5), d, c, _, _, rfl, d5, by omega, by omega, by omega, by omega, fun H6 r6 k6 d6 r60 r61 => ?_⟩
      obtain ⟨k, rfl⟩ : ∃ k : Nat, r6 = (k : Int) := ⟨r6.toNat, by omega⟩
      have hk : k < ls.length := by omega
      have el6 := k6.keep ofl el5
      have eD6 := k6.keep ofD eD5
      have ivr6 := ivr.tps (k6.tps d5)
      have ivq6 := ivq.tps (k6.tps d5)
      obtain ⟨b6, bx, by', e6, ep6, hb6⟩ := ivr6.get (List.getElem?_eq_getElem hk)
      refine ⟨l, ls, k, k, .ref b6, rfl, rfl, el6, by omega, by omega, by rw [seqIndex_of (by omega) (by omega), Int.toNat_natCast], by rw [List.getElem?_eq_getElem hk, e6], ?_⟩
      have mb : (bx, by') ∈ ps := mr _ (List.mem_of_getElem? ep6)
      have ofl6 : D ≠ l := fun z => lD z.symm
      refine ⟨ws, by rw [upd_ne ofl6]; exact eD6, few_line (by rw [ivq.length]; omega), ⟨fun b o n1' n2' h => ?_, ?_⟩, ⟨ls.eraseIdx k, rs.eraseIdx k, by rw [upd_ne lD]; exact upd_same, ?_, ?_, fun q hq => mr q (List.mem_of_mem_eraseIdx hq)⟩, ws ++ [.ref b6], qs ++ [(bx, by')], upd_same, ?_, by rw [List.length_append, lq]; rfl, fun q hq => ?_⟩
      · rw [upd_ne (nDH b o h n1' n2'), upd_ne (ne_of_none h nlH)]
        exact k6 b o n1' n2' (k5 b o n1' n2' h)
      · have dA : Dk (upd H6 l (.lst (ls.eraseIdx k))) d c (n + 1 + i + 1) := d6.upd ofl
        have eDA : upd H6 l (.lst (ls.eraseIdx k)) D = some (.lst ws) := by rw [upd_ne ofl6]; exact eD6
        exact (dA.upd ofD).eq (by rw [Int.natCast_succ]; omega)
      · exact ((ivr6.erase k).tps (Tps.lst el6)).tps (Tps.lst (by rw [upd_ne ofl6]; exact eD6))
      · rw [List.length_eraseIdx_of_lt (by omega)]
        omega
      · exact ((ivq6.snoc hb6).tps (Tps.lst el6)).tps (Tps.lst (by rw [upd_ne ofl6]; exact eD6))
      · rcases List.mem_append.mp hq with hq | hq
        · exact mq q hq
        · rw [List.mem_singleton.mp hq]
          exact mb
    rintro H5 ⟨⟨k5, d5⟩, ⟨ls, rs, el5, ivr, lr, mr⟩, ws, qs, eD5, ivq, lq, mq⟩
    rw [eN, Int.toNat_natCast] at lq d5
    refine ⟨D, ws, rfl, .inl ⟨SqL.of eD5, fun t nt => ?_⟩⟩
    exact q _ t ws qs _ (k5.trans (Kp.same (same_new nt))) (d5.kept (same_new nt)) (by omega) (by omega) upd_same (ivq.same (same_new nt)) mq (by omega)

/-! ### () * n : the library has tuples with items -/
theorem tuple_mul0 (l : Addr) (n : Nat) (dd : Option Addr) (sl : Array (Option Value)) (x : Int) (u : Tok) (c0 : (decide (x < -(2 ^ 63)) || decide (x ≥ 2 ^ 63)) = false) :
    Meets (Builtin.«tuple.__mul__» ⟨[.ref l, .int x u], []⟩) (fun _ R s => s.heap.get? l = some { cls := .type "tuple", dict := dd, data := .seq #[] n, slots := sl } ∧ R (.ok (.ret (Value.ref l))) s) :=
  .of_wp fun prog w A R s h => by
    obtain ⟨hp, g, d, tk, os⟩ := s
    obtain ⟨hl, h⟩ := h
    have f1 := AutoSeq1.idx_int
    wp_walk using wpAny_loadPart' hl
    refine wpAny_ite_false (decide_eq_false (by rw [c0]; exact Bool.false_ne_true)) ?_
    wp_walk using wpAny_loadPart' hl
    exact ⟨_, rfl, h⟩
section
variable {X : Cx}
def rRepN (K : PySem.W.Frag) : R2 := fun x y H Q => ∃ l k, x = .ref l ∧ y = .int k ∧ SqT K H l [] ∧ 0 ≤ k ∧ k ≤ 1000 ∧ Q (.ref l) H
theorem op_repN : OpR X (binaryOp .Mult) (rRepN X.K) := by
  intro pins s σ H x y v u Q I rx ry ⟨l, k, ex, ey, hT, k0, k1, q⟩
  subst ex ey
  cases rx
  obtain ⟨t, rfl⟩ := ry
  obtain ⟨its, r, ⟨⟨cl, dd, dt, sl⟩, ho, hc, n, hd⟩, _⟩ := I.tuple hT
  simp only at hc hd
  subst hc hd
  cases r
  have far : (decide (k < -(2 ^ 63)) || decide (k ≥ 2 ^ 63)) = false := by
    rw [decide_eq_false (show ¬ k < -(2 ^ 63) by omega), decide_eq_false (show ¬ k ≥ 2 ^ 63 by omega)]
    rfl
  have isT : Shared.TypeIs s (.ref l) "tuple" := Exists.intro _ (And.intro ho rfl)
  refine wpAny_binaryOp_repeat_ref (T := "tuple") (U := "int") (by decide) isT (fun s' => typeIs_int s' k t) noFill_tuple_mul F.fills_int_mul F.slot_int_rmul repeat_tuple F.slot_int_index.lookup ?_
  refine call_meets F.slot_int_rmul (typeIs_int s k t) F.entry_int_rmul (F.args_int_rmul_2 _ _) (int_rmul_tuple k t l _ n dd sl) (And.intro ho (And.intro rfl (And.intro isT ?_)))
  refine call_meets F.slot_tuple_mul isT F.entry_tuple_mul (F.args_tuple_mul_2 _ _) (tuple_mul0 l n dd sl k t far) (And.intro ho ?_)
  exact ⟨.ref l, H, I, rfl, q⟩
end

/-! ### comprehensions over a range that change nothing but make new objects -/
theorem lcR {lo : Int} {n : Nat} {g : TG} {tt : TT} {te : TE} {vs : List Nat} {σ : L2.St} {H1 : Hp} {D : Addr} {Qd : Hp → Prop} (R : Nat → Hp → List V → Prop) (nD : H1 D = none) (few : n < 1000)
    (mono : ∀ i H' H'' ws, Tps H' H'' → R i H' ws → R i H'' ws) (len : ∀ i H' ws, R i H' ws → ws.length ≤ i) (r0 : ∀ H', R 0 H' [])
    (hs : ∀ i H' (N : Hp → Prop) acc, i < n → Same H1 H' → H' D = some (.lst acc) → acc.length < sizeLine → R i H' acc → (∀ H'', Same H' H'' → R (i + 1) H'' acc → N H'') → (∀ H'' y, Same H' H'' → R (i + 1) H'' (acc ++ [y]) → ∃ acc', H'' D = some (.lst acc') ∧ acc'.length < sizeLine ∧ N (upd H'' D (.lst (acc' ++ [y])))) →
      g (.int (lo + i)) (wipe σ vs) H' fun σ2 H2 => wipe σ2 vs = wipe σ vs ∧ tt σ2 H2 fun b H3 => if b = true then te σ2 H3 fun y H4 => ∃ acc, H4 D = some (.lst acc) ∧ acc.length < sizeLine ∧ N (upd H4 D (.lst (acc ++ [y]))) else N H3)
    (hd : ∀ H' ws, Same H1 H' → H' D = some (.lst ws) → R n H' ws → Qd H') :
    ∃ W : Nat → Nat → Hp → Prop, (∃ m, W 0 m (upd H1 D (.lst []))) ∧ ∀ i m H, W i m H →
      ((Itr lo n).stop i H ∧ Qd H) ∨ ((Itr lo n).go i H ∧ ∃ Nx : Hp → Prop, (∀ H', Nx H' → ∃ m', m' < m ∧ W (i + 1) m' H') ∧ ∀ x H', (Itr lo n).yld i H x H' → g x (wipe σ vs) H' fun σ2 H2 => wipe σ2 vs = wipe σ vs ∧ tt σ2 H2 fun b H3 =>
        if b = true then te σ2 H3 fun y H4 => ∃ acc, H4 D = some (.lst acc) ∧ acc.length < sizeLine ∧ Nx (upd H4 D (.lst (acc ++ [y]))) else Nx H3) := by
  refine lc_range (lo := lo) (n := n) (fun i H' => Same H1 H' ∧ ∃ ws, H' D = some (.lst ws) ∧ R i H' ws) ⟨same_new nD, [], upd_same, r0 _⟩ ?_ ?_
  · rintro i H' hi ⟨sm, ws, eD, r⟩
    have lw := len i H' ws r
    have sz : ws.length < sizeLine := few_line (by omega)
    refine hs i H' _ ws hi sm eD sz r (fun H'' s r2 => ⟨sm.trans s, ws, s _ _ eD, r2⟩) (fun H'' y s r2 => ?_)
    exact ⟨ws, s _ _ eD, sz, same_off nD (sm.trans s), _, upd_same, mono _ _ _ _ (Tps.lst (s _ _ eD)) r2⟩
  · rintro H' ⟨sm, ws, eD, r⟩
    exact hd H' ws sm eD r

theorem atI_end {xs : List V} {v : V} (h : xs[xs.length - 1]? = some v) : atI xs (-1) = some v := by
  have ne : xs ≠ [] := fun e => by
    rw [e] at h
    cases h
  have e := List.dropLast_concat_getLast ne
  rw [List.getLast_eq_getElem] at e
  rw [List.getElem?_eq_getElem (by have := List.length_pos_iff.mpr ne; omega)] at h
  rw [Option.some.inj h] at e
  rw [← e]
  exact atI_last _ _

theorem Ivs.reverse {H : Hp} {vs : List V} {ps : List (Int × Int)} (h : Ivs H vs ps) : Ivs H vs.reverse ps.reverse := by
  induction h with
  | nil => exact .nil
  | cons e _ ih =>
    rw [List.reverse_cons, List.reverse_cons]
    exact ih.snoc e
theorem ivs_rep {H : Hp} {us : List V} {ps : List (Int × Int)} (h : Ivs H us ps) : ∀ k : Nat, Ivs H (List.replicate k us).flatten (List.replicate k ps).flatten
  | 0 => .nil
  | k + 1 => by
    rw [List.replicate_succ, List.replicate_succ, List.flatten_cons, List.flatten_cons]
    exact h.append (ivs_rep h k)
theorem ivs_head {H : Hp} {us : List V} {ps : List (Int × Int)} (h : Ivs H us ps) (k : Nat) : ∃ cs, Ivs H (cutV us none (some (k : Int))) cs ∧ (∀ q ∈ cs, q ∈ ps) ∧ cs.length ≤ k := by
  refine ⟨ps.take k, ?_, fun q hq => List.mem_of_mem_take hq, List.length_take_le _ _⟩
  unfold cutV
  rw [HT.sIx_none, show HT.sIx us.length us.length (some (k : Int)) = min k us.length from HT.sIx_nat us.length us.length k, List.drop_zero, Nat.sub_zero]
  have z : us.take (min k us.length) = us.take k := by
    rw [List.take_eq_take_iff]
    omega
  rw [z]
  exact h.take k
structure Tg (H : Hp) (v : V) : Prop where
  ex : ∃ (t : Addr) (lo hi : Int), v = .ref t ∧ H t = some (.tup [.int lo, .int hi]) ∧ lo ≤ hi ∧ 0 ≤ lo ∧ hi ≤ 1000000000000
structure Sr (H : Hp) (v : V) : Prop where
  ex : ∃ (s : Addr) (us : List V) (qs : List (Int × Int)), v = .ref s ∧ H s = some (.tup us) ∧ Ivs H us qs ∧ (∀ q ∈ qs, (0 ≤ q.1 ∧ q.1 ≤ q.2) ∧ q.2 ≤ 1000000000000) ∧ qs.length ≤ 60
def VRow (ps : List (Int × Int)) : Prop := ∀ q ∈ ps, (0 ≤ q.1 ∧ q.1 ≤ q.2) ∧ q.2 ≤ 1000000000000
theorem rep60 {K : PySem.W.Frag} {H : Hp} {l : Addr} {us : List V} {ps : List (Int × Int)} {Q : VK} (hl : H l = some (.tup us)) (iv : Ivs H us ps) (few : us.length ≤ 1000) (h : ∀ H' t us' ps', Same H H' → H' t = some (.tup us') → Ivs H' us' ps' → (∀ q ∈ ps', q ∈ ps) → Q (.ref t) H') : rRepT K (.ref l) (.int 60) H Q ∨ rRepN K (.ref l) (.int 60) H Q := by
  by_cases e : us = []
  · subst e
    exact .inr ⟨l, 60, rfl, rfl, SqT.of hl, by decide, by decide, h H l [] ps (Same.refl _) hl iv fun q hq => hq⟩
  · refine .inl ⟨l, 60, us, rfl, rfl, SqT.of hl, e, by decide, by decide, few, fun p np => h _ p _ _ (same_new np) upd_same ((ivs_rep iv _).same (same_new np)) fun q hq => ?_⟩
    obtain ⟨w, hw, hq⟩ := List.mem_flatten.mp hq
    rw [List.eq_of_mem_replicate hw] at hq
    exact hq
theorem sm_rows {rows : List (Int × Int)} {lo hi : Int} (ok : ∀ q ∈ rows, (0 ≤ q.1 ∧ q.1 ≤ q.2) ∧ q.2 ≤ 1000000000000) (few : rows.length ≤ 60) (lo0 : 0 ≤ lo) (le : lo ≤ hi) (hi0 : hi ≤ 1000000000000) : Sm 24402 3 (.list [.tuple (rows.map pairD), .tuple [.int lo, .int hi]]) := by
  have z := Sm.tup (n := 202) (dp := 1) (ds := rows.map pairD) (fun d hd => by
    obtain ⟨p, hp, rfl⟩ := List.mem_map.mp hd
    have := ok p hp
    exact sm2 (by omega) (by omega))
  rw [List.length_map] at z
  have z1 : Sm 12200 2 (.tuple (rows.map pairD)) := z.mono (by have : rows.length * 203 ≤ 60 * 203 := Nat.mul_le_mul_right _ (by omega); show rows.length * 203 ≤ 12200; omega) (by decide)
  have z2 : Sm 12200 2 (.tuple [.int lo, .int hi]) := (sm2 (x := lo) (y := hi) (by omega) (by omega)).mono (by decide) (by decide)
  exact Sm.lst (n := 12200) (dp := 2) (fun d hd => by
    rcases List.mem_cons.mp hd with rfl | hd
    · exact z1
    · rw [List.mem_singleton.mp hd]
      exact z2)
def sp_law (K : PySem.W.Frag) (pT : Addr) : Sp := fun vs H Q _ => ∃ (a : Addr) (ns : List Int), vs = [.ref a] ∧ SqL K H a (ns.map V.int) ∧ ns.length ≤ 63 ∧ H pT = some (.tbl #[]) ∧ ∀ H', Q (.bl true) H'
theorem ok_law (T : Tx K mg f_has_position f_contains f_pieces_inside f_farthest_piece f_cover_chain f_law_deck f_law_draw f_law_line f_law_interval f_law_intervals f_law_gap f_law_chain f_law_shuffled f_law_fewest f_law_right f_law d_has_position d_contains d_pieces_inside d_farthest_piece d_cover_chain d_law_deck d_law_draw d_law_line d_law_interval d_law_intervals d_law_gap d_law_chain d_law_shuffled d_law_fewest d_law_right d_law) (hT : TabH base mg d_farthest_piece pT) : FnG P w K mg base 7 f_law d_law ["_law_script"] (sp_law K pT) := by
  refine FnG.of T.F_law sc_law (fun {vs H Q} h => ?_) (fun cdv A outer s H vs Q hr hq h => ?_)
  · obtain ⟨a, ns, rfl, _⟩ := h
    rfl
  · obtain ⟨a, ns, rfl, hS, hlen, hP, q⟩ := h
    refine ⟨_, (pss_cons (ps_set (i := 1) sc_law.nd rfl (Or.inl rfl) (pe_call (ok_law_deck (pT := pT) T) (hr.mono (by decide)) (by rfl) T.g_law_deck T.F_law_deck.kp T.b_law_deck .nil pass0 (pa_cons (pv 0) pa_nil)))
      (pss_cons (ps_for PassesOwn.never rfl (pi_range1 (by rfl) T.z_range (pa_cons pe_int pa_nil)) (pg_name (i := 2) sc_law.nd rfl (Or.inl rfl))
      (pss_cons (ps_set (i := 3) sc_law.nd rfl (Or.inr rfl) (pe_call (ok_law_line T) (hr.mono (by decide)) (by rfl) T.g_law_line T.F_law_line.kp T.b_law_line .nil pass0 (pa_cons (pv 1) (pa_cons (pe_op op_add pe_int (pe_call (ok_law_draw T) (hr.mono (by decide)) (by rfl) T.g_law_draw T.F_law_draw.kp T.b_law_draw .nil pass0 (pa_cons (pv 1) (pa_cons pe_int pa_nil)))) pa_nil))))
      (pss_cons (ps_set (i := 4) sc_law.nd rfl (Or.inl rfl) (pe_call (ok_law_intervals T) (hr.mono (by decide)) (by rfl) T.g_law_intervals T.F_law_intervals.kp T.b_law_intervals .nil pass0 (pa_cons (pv 1) (pa_cons (pv 3) (pa_cons pe_int pa_nil)))))
      (pss_cons (ps_set (i := 5) sc_law.nd rfl (Or.inl rfl) (pe_tup (pa_cons (pe_ix ix_list (pv 3) pe_int (fun _ _ => rfl)) (pa_cons (pe_ix ix_list (pv 3) (pe_un un_neg pe_int) (fun _ _ => rfl)) pa_nil))))
      (pss_cons (ps_setLc (i := 6) (own := [("_law_k", 7)]) (g := (gName 7)) (tt := tYes) (by rfl) sc_law.nd rfl rfl (sw_true rfl rfl rfl (by decide +kernel)) (pi_range1 (by rfl) T.z_range (pa_cons (pe_callB call_len_seq (by rfl) T.z_len PySem.boot_len (pa_cons (pv 3) pa_nil)) pa_nil)) (blkOk_by (own := [("_law_k", 7)]) (N := N_law) (sc := defScope s_law) (by decide +kernel)) (fun _ _ _ _ _ => (pg_name (i := 7) sc_law.nd rfl (Or.inl rfl))) (fun _ _ _ _ _ => pts_nil) (fun _ _ _ _ _ => (pe_tup (pa_cons (pe_ix (show IxR _ (rIxL K) from ix_list) (pv 3) (pv 7) (fun _ _ => rfl)) (pa_cons (pe_callB (call_max2 rfl) (by rfl) T.z_max (by decide +kernel) (pa_cons (pe_ix (show IxR _ (rIxL K) from ix_list) (pv 3) (pv 7) (fun _ _ => rfl)) (pa_cons (pe_op op_sub (pe_ix (show IxR _ (rIxL K) from ix_list) (pv 3) (pe_callB (call_min2 rfl) (by rfl) T.z_min (by decide +kernel) (pa_cons (pe_op op_add (pv 7) pe_int) (pa_cons (pe_op op_sub (pe_callB (show CallR _ (.builtin "len") (rLenS K) from call_lenS) (by rfl) T.z_len PySem.boot_len (pa_cons (pv 3) pa_nil)) pe_int) pa_nil))) (fun _ _ => rfl)) pe_int) pa_nil))) pa_nil)))))
      (pss_cons (ps_set (i := 8) sc_law.nd rfl (Or.inl rfl) (pe_callTy call_tuple_of (by rfl) T.z_tuple (by decide +kernel) (pa_cons (pe_callB (cr_sortedT rfl) (by rfl) T.z_sorted (by decide +kernel) (pa_cons (pe_callTy (cr_setOfT rfl hr.units) (by rfl) T.z_set (by decide +kernel) (pa_cons (pe_op op_cat (pv 6) (pe_lst (pa_cons (pe_tup (pa_cons (pe_ix ix_list (pv 3) (pe_un un_neg pe_int) (fun _ _ => rfl)) (pa_cons (pe_ix ix_list (pv 3) (pe_un un_neg pe_int) (fun _ _ => rfl)) pa_nil))) pa_nil))) pa_nil)) pa_nil)) pa_nil)))
      (pss_one (ps_for PassesOwn.never rfl (pi_list (pe_lst (pa_cons (pe_call (ok_law_interval T) (hr.mono (by decide)) (by rfl) T.g_law_interval T.F_law_interval.kp T.b_law_interval .nil pass0 (pa_cons (pv 1) (pa_cons (pv 3) pa_nil))) (pa_cons (pe_call (ok_law_interval T) (hr.mono (by decide)) (by rfl) T.g_law_interval T.F_law_interval.kp T.b_law_interval .nil pass0 (pa_cons (pv 1) (pa_cons (pv 3) pa_nil))) (pa_cons (pv 5) pa_nil))))) (pg_name (i := 9) sc_law.nd rfl (Or.inl rfl))
      (pss_cons (ps_set (i := 10) sc_law.nd rfl (Or.inl rfl) (pe_call (ok_law_shuffled T) (hr.mono (by decide)) (by rfl) T.g_law_shuffled T.F_law_shuffled.kp T.b_law_shuffled .nil pass0 (pa_cons (pv 1) (pa_cons (pe_op op_catA (pv 4) (pv 8)) pa_nil))))
      (pss_one (ps_for PassesOwn.never rfl (pi_list (pe_lst (pa_cons (pv 4) (pa_cons (pv 8) (pa_cons (pe_slice sl_tupA (pv 4) po_none (po_some pe_int)) (pa_cons (pv 10) (pa_cons (pe_revT (pv 8)) (pa_cons (pe_slice sl_tupA (pe_op (OpR.or op_repT op_repN) (pv 10) pe_int) po_none (po_some pe_int)) pa_nil)))))))) (pg_name (i := 11) sc_law.nd rfl (Or.inl rfl))
      (pss_cons (ps_set (i := 12) sc_law.nd rfl (Or.inl rfl) (pe_callB (call_reprD hq hr.units) (by rfl) T.z_repr (by decide +kernel) (pa_cons (pe_lst (pa_cons (pv 11) (pa_cons (pv 9) pa_nil))) pa_nil)))
      (pss_one (ps_if (PW.pt (pw_or (pt_not (pt_val (pe_callG (ok_law_right T hT) (hr.mono (by decide)) hq (by rfl) T.g_law_right T.F_law_right.kp T.b_law_right (pa_cons (pv 11) (pa_cons (pv 9) pa_nil))))) (pw_or1 (pt_cmpR op_ne (pe_callB (call_reprD hq hr.units) (by rfl) T.z_repr (by decide +kernel) (pa_cons (pe_lst (pa_cons (pv 11) (pa_cons (pv 9) pa_nil))) pa_nil)) (pv 12) (nomark _)))))
      (pss_one (ps_ret pe_bl))
      pss_nil))))))))))))))
      (pss_one (ps_ret pe_bl)))), ?_⟩
    have sz : sizeLine = 16777216 := by decide
    refine ⟨.ref a, rfl, a, ns, rfl, hS, hlen, LamX.TabS.nil hP, fun H1 d c s1 nd nc dk0 => ?_⟩
    refine ⟨10, rfl, by decide, by decide, for_range (D := ⟨_, _, fun _ _ => True, fun _ _ => True⟩) (n := 10) (fun i σ H' => (∃ n : Int, Dk H' d c n ∧ 0 ≤ n ∧ n ≤ 300 * i) ∧ ∃ y2 y3 y4 y5 y6 y7 y8 y9 y10 y11 y12, σ = [some (.ref a), some (.ref d), y2, y3, y4, y5, y6, y7, y8, y9, y10, y11, y12])
      ⟨⟨0, dk0, by decide, by decide⟩, _, _, _, _, _, _, _, _, _, _, _, rfl⟩ ?_ (fun σ H' _ => q H')⟩
    rintro i σ H2 hi ⟨⟨n, dk2, n0, n1⟩, y2, y3, y4, y5, y6, y7, y8, y9, y10, y11, y12, rfl⟩
    refine ⟨.ref d, rfl, .ref d, rfl, d, c, n, 9, rfl, dk2, n0, by omega, by decide, by decide, fun H3 r k3 dk3 r0 r1 => ⟨_, _, rfl, rfl, ?_⟩⟩
    refine ⟨d, c, n + 1, 1 + r, rfl, dk3, by omega, by omega, by omega, by omega, fun H4 l ls k4 dk4 nl el ll lns => ?_⟩
    have offl : Off d c l := dk3.off nl
    have lpos : 0 < ls.length := by omega
    refine ⟨.ref d, rfl, .ref l, rfl, d, c, l, _, 14, ls, rfl, dk4, by omega, by omega, offl, el, lpos, by omega, lns, by decide, by decide, fun H5 pt pus ps m5 k5 dk5 m50 m51 ep ivp row pl => ?_⟩
    have el5 := k5.keep offl el
    have vp : VRow ps := fun q hq => by
      have a1 := row.ok q hq
      have a2 := lns.ok _ a1.1.1
      have a3 := lns.ok _ a1.1.2
      omega
    -- wide
    obtain ⟨f0, ef0⟩ : ∃ f0, ls[0]? = some f0 := ⟨_, List.getElem?_eq_getElem lpos⟩
    obtain ⟨fl, efl⟩ : ∃ fl, ls[ls.length - 1]? = some fl := ⟨_, List.getElem?_eq_getElem (by omega)⟩
    have b0 := lns.ok _ (List.mem_of_getElem? ef0)
    have bl := lns.ok _ (List.mem_of_getElem? efl)
    have wle : f0 ≤ fl := by
      obtain ⟨g1, g2⟩ := List.getElem?_eq_some_iff.mp ef0
      obtain ⟨g3, g4⟩ := List.getElem?_eq_some_iff.mp efl
      by_cases c1 : ls.length = 1
      · have : fl = f0 := by
          rw [← g4, ← g2]
          congr 1
          omega
        omega
      · have := List.pairwise_iff_getElem.mp lns.asc 0 (ls.length - 1) g1 g3 (by omega)
        omega
    have at0 : atI (ls.map V.int) 0 = some (.int f0) := atI_nat (j := 0) (by rw [List.getElem?_map, ef0]; rfl)
    have atl : atI (ls.map V.int) (-1) = some (.int fl) := atI_end (by rw [List.length_map, List.getElem?_map, efl]; rfl)
    refine ⟨.ref l, rfl, l, _, 0, .int f0, rfl, rfl, SqL.of el5, at0, .ref l, rfl, 1, rfl, l, _, -1, .int fl, rfl, rfl, SqL.of el5, atl, by show 2 ≤ sizeLine; decide, fun wt nwt => ?_⟩
    have s6 := same_new (o := .tup [V.int f0, .int fl]) nwt
    have ewt := upd_same (H := H5) (a := wt) (o := .tup [V.int f0, .int fl])
    generalize upd H5 wt (.tup [V.int f0, .int fl]) = H6 at *
    have el6 := s6 _ _ el5
    -- steps
    refine ⟨.ref l, rfl, l, _, rfl, .inl (SqL.of el6), _, rfl, by rw [List.length_map]; omega, by rw [List.length_map]; omega, fun D nD => ?_⟩
    refine lcR (lo := 0) (n := ((((ls.map V.int).length : Nat) : Int)).toNat) (fun j H' ws => ∃ ss, Ivs H' ws ss ∧ ss.length = j ∧ VRow ss) nD (by rw [List.length_map]; omega) (fun _ _ _ _ t h => by
      obtain ⟨zs, iv, r⟩ := h
      exact ⟨zs, iv.tps t, r⟩) (fun i H' ws h => by
      obtain ⟨zs, iv, r, _⟩ := h
      rw [iv.length, r]
      exact Nat.le_refl _) (fun _ => ⟨[], .nil, rfl, fun q h => nomatch h⟩) ?_ ?_
    · rintro j H' N acc hj sm eA szz ⟨ss, iv, lss, vss⟩ no yes
      rw [List.length_map] at hj
      have hj' : j < ls.length := by omega
      have elH := sm _ _ el6
      obtain ⟨x, ex⟩ : ∃ x, ls[j]? = some x := ⟨_, List.getElem?_eq_getElem hj'⟩
      have atx : atI (ls.map V.int) (0 + (j : Int)) = some (.int x) := by
        rw [show (0 : Int) + (j : Int) = ((j : Nat) : Int) by omega]
        exact atI_nat (by rw [List.getElem?_map, ex]; rfl)
      obtain ⟨k, ek, hk⟩ : ∃ k : Nat, (if (((ls.map V.int).length : Nat) : Int) - 1 < 0 + (j : Int) + 2 then (((ls.map V.int).length : Nat) : Int) - 1 else 0 + (j : Int) + 2) = (k : Int) ∧ k < ls.length := by
        rw [List.length_map]
        by_cases c : ((ls.length : Nat) : Int) - 1 < 0 + (j : Int) + 2
        · rw [if_pos c]
          exact ⟨ls.length - 1, by omega, by omega⟩
        · rw [if_neg c]
          exact ⟨j + 2, by omega, by omega⟩
      obtain ⟨y, ey⟩ : ∃ y, ls[k]? = some y := ⟨_, List.getElem?_eq_getElem hk⟩
      have aty : atI (ls.map V.int) (if (((ls.map V.int).length : Nat) : Int) - 1 < 0 + (j : Int) + 2 then (((ls.map V.int).length : Nat) : Int) - 1 else 0 + (j : Int) + 2) = some (.int y) := by
        rw [ek]
        exact atI_nat (by rw [List.getElem?_map, ey]; rfl)
      have bx := lns.ok _ (List.mem_of_getElem? ex)
      have by' := lns.ok _ (List.mem_of_getElem? ey)
      refine ⟨rfl, .ref l, rfl, .int (0 + (j : Int)), rfl, l, _, 0 + (j : Int), .int x, rfl, rfl, SqL.of elH, atx, ?_⟩
      refine ⟨.ref l, rfl, .int (0 + (j : Int)), rfl, l, _, 0 + (j : Int), .int x, rfl, rfl, SqL.of elH, atx, ?_⟩
      refine ⟨.ref l, rfl, .int (0 + (j : Int)), rfl, _, _, rfl, rfl, .ref l, rfl, l, _, rfl, .inl (SqL.of elH), _, _, rfl, rfl, _, _, rfl, ?_⟩
      refine ⟨l, _, _, .int y, rfl, rfl, SqL.of elH, aty, _, _, rfl, rfl, _, _, rfl, by show 2 ≤ sizeLine; decide, fun t nt => ?_⟩
      obtain ⟨mxv, emx, mx1, mx2⟩ : ∃ m : Int, (if y - 1 > x then y - 1 else x) = m ∧ x ≤ m ∧ m ≤ 1000000000000 := by
        by_cases c : y - 1 > x
        · rw [if_pos c]
          exact ⟨_, rfl, by omega, by omega⟩
        · rw [if_neg c]
          exact ⟨_, rfl, by omega, by omega⟩
      refine yes _ _ (same_new nt) ⟨ss ++ [(x, mxv)], (iv.same (same_new nt)).snoc ?_, by rw [List.length_append, lss]; rfl, fun q hq => ?_⟩
      · rw [← emx]
        exact upd_same
      · rcases List.mem_append.mp hq with hq | hq
        · exact vss q hq
        · rw [List.mem_singleton.mp hq]
          exact ⟨⟨bx.1, mx1⟩, mx2⟩
    rintro H7 ws s7 eD ⟨ss, ivs, lss, vss⟩
    rw [List.length_map, Int.toNat_natCast] at lss
    have el7 := s7 _ _ el6
    have lws := ivs.length
    -- cover
    refine ⟨.ref D, rfl, .ref l, rfl, 1, rfl, l, _, -1, .int fl, rfl, rfl, SqL.of el7, atl, .ref l, rfl, 1, rfl, l, _, -1, .int fl, rfl, rfl, SqL.of el7, atl, by show 2 ≤ sizeLine; decide, fun b nb => ?_⟩
    have s8 := same_new (o := .tup [V.int fl, .int fl]) nb
    have eb := upd_same (H := H7) (a := b) (o := .tup [V.int fl, .int fl])
    generalize upd H7 b (.tup [V.int fl, .int fl]) = H8 at *
    refine ⟨by show 1 ≤ sizeLine; decide, fun b2 nb2 => ?_⟩
    have s9 := same_new (o := .lst [V.ref b]) nb2
    have eb2 := upd_same (H := H8) (a := b2) (o := .lst [V.ref b])
    generalize upd H8 b2 (.lst [V.ref b]) = H9 at *
    have s79 := s8.trans s9
    refine ⟨D, b2, _, _, rfl, rfl, s79 _ _ eD, eb2, by show _ + 1 ≤ _; omega, fun g ng => ?_⟩
    have s10 := same_new (o := .lst (ws ++ [V.ref b])) ng
    have eg := upd_same (H := H9) (a := g) (o := .lst (ws ++ [V.ref b]))
    generalize upd H9 g (.lst (ws ++ [V.ref b])) = H10 at *
    have ivG : Ivs H10 (ws ++ [V.ref b]) (ss ++ [(fl, fl)]) := (ivs.same (s79.trans s10)).snoc ((s9.trans s10) _ _ eb)
    have vG : VRow (ss ++ [(fl, fl)]) := fun q hq => by
      rcases List.mem_append.mp hq with hq | hq
      · exact vss q hq
      · rw [List.mem_singleton.mp hq]
        show (0 ≤ fl ∧ fl ≤ fl) ∧ fl ≤ 1000000000000
        omega
    have lG : (ss ++ [(fl, fl)]).length = ss.length + 1 := List.length_append ..
    dsimp only [tNil]
    refine sorted_set_pairs (SqL.of eg) ivG (by omega) (fun q hq => by have := vG q hq; omega) (fun H11 p us' cs s11 np epp ivc asc mem => ?_)
    have vc : VRow cs := fun q hq => vG q ((mem q).mp hq)
    have lcs : cs.length ≤ 10 := by
      have nd : cs.Nodup := asc.imp fun {a b} h e => by
        subst e
        rcases h with h | h <;> omega
      have := nodup_le nd fun x hx => (mem x).mp hx
      omega
    refine ⟨p, us', rfl, .inl ⟨SqL.of epp, fun ct nct => ?_⟩⟩
    have s12 := same_new (o := .tup us') nct
    have ect := upd_same (H := H11) (a := ct) (o := .tup us')
    generalize upd H11 ct (.tup us') = H12 at *
    have s5c := s6.trans (s7.trans (s79.trans (s10.trans (s11.trans s12))))
    have dk12 := dk5.kept s5c
    have ep12 := s5c _ _ ep
    have ivp12 := ivp.same s5c
    have ivc12 := ivc.same s12
    have el12 := s5c _ _ el5
    have ewt12 := (s7.trans (s79.trans (s10.trans (s11.trans s12)))) _ _ ewt
    refine ⟨.ref d, rfl, .ref l, rfl, d, c, l, m5, ls, rfl, dk12, by omega, by omega, offl, el12, lpos, by omega, fun J1 lo1 hi1 t1 kj1 dj1 ml1 mh1 le1 nt1 et1 => ?_⟩
    have elJ1 := kj1.keep offl el12
    refine ⟨.ref d, rfl, .ref l, rfl, d, c, l, m5 + 2, ls, rfl, dj1, by omega, by omega, offl, elJ1, lpos, by omega, fun J2 lo2 hi2 t2 kj2 dj2 ml2 mh2 le2 nt2 et2 => ?_⟩
    refine ⟨.ref wt, rfl, by show 3 ≤ sizeLine; decide, fun tl ntl => ?_⟩
    have offtl := dj2.off ntl
    have s13 := same_new (o := .lst [V.ref t1, .ref t2, .ref wt]) ntl
    have etl := upd_same (H := J2) (a := tl) (o := .lst [V.ref t1, .ref t2, .ref wt])
    generalize upd J2 tl (.lst [V.ref t1, .ref t2, .ref wt]) = J3 at *
    have kJ : Kp d c H12 J3 := kj1.trans (kj2.trans (Kp.same s13))
    have dj3 := dj2.kept s13
    have tJ : Tps H12 J3 := kJ.tps dk12
    have b1l := lns.ok _ ml1
    have b1h := lns.ok _ mh1
    have b2l := lns.ok _ ml2
    have b2h := lns.ok _ mh2
    have tgs : ∀ x ∈ [V.ref t1, .ref t2, .ref wt], Tg J3 x := by
      intro x hx
      simp only [List.mem_cons, List.not_mem_nil, or_false] at hx
      rcases hx with rfl | rfl | rfl
      · exact ⟨_, lo1, hi1, rfl, s13 _ _ (kj2.tup dj1 et1), le1, b1l.1, by omega⟩
      · exact ⟨_, lo2, hi2, rfl, s13 _ _ et2, le2, b2l.1, by omega⟩
      · exact ⟨_, f0, fl, rfl, tJ _ _ ewt12, wle, b0.1, by omega⟩
    have epJ := tJ _ _ ep12
    have ecJ := tJ _ _ ect
    have ivpJ := ivp12.tps tJ
    have ivcJ := ivc12.tps tJ
    refine ⟨tl, rfl, ⟨_, SqL.of etl⟩, for_list (D := ⟨_, _, fun _ _ => True, fun _ _ => True⟩) (K := K) (a := tl) (xs := [V.ref t1, .ref t2, .ref wt]) (fun j σ H' => (Kp d c J3 H' ∧ ∃ m, Dk H' d c m ∧ 0 ≤ m ∧ m ≤ m5 + 4 + 61 * j) ∧ ∃ y6 y7 y9 y10 y11 y12, σ = [some (.ref a), some (.ref d), some (.int (0 + i)), some (.ref l), some (.ref pt), some (.ref wt), y6, y7, some (.ref ct), y9, y10, y11, y12])
      ⟨⟨Kp.same (Same.refl _), m5 + 2 + 2, dj3, by omega, by omega⟩, _, _, _, _, _, _, rfl⟩ (fun j σ H' hj h => SqL.of (h.1.1.keep offtl etl)) ?_ ?_⟩
    · rintro j x σ G0 hx ⟨⟨kG, m, dG, m0, m1⟩, y6', y7', y9', y10', y11', y12', rfl⟩
      have hj3 : j < 3 := (List.getElem?_eq_some_iff.mp hx).1
      obtain ⟨t, lo, hi, rfl, et0, le, lo0, hi0⟩ := (tgs x (List.mem_of_getElem? hx)).ex
      have tG : Tps J3 G0 := kG.tps dj3
      have lpus := ivpJ.length
      have lcus := ivcJ.length
      refine ⟨.ref d, rfl, .ref pt, rfl, .ref ct, rfl, catA_any (tG _ _ epJ) (tG _ _ ecJ) (by omega) (fun G1 cc u1 ecc => ?_)⟩
      have ivA := ((ivpJ.tps tG).append (ivcJ.tps tG)).same u1
      refine ⟨d, c, cc, m, _, ps ++ cs, rfl, dG.kept u1, m0, by omega, ecc, ivA, by rw [List.length_append]; omega, fun G2 mt mus ms m' k2 dG2 m2 m3 emt ivm mm lm => ?_⟩
      have vA : VRow (ps ++ cs) := fun q hq => (List.mem_append.mp hq).elim (vp q) (vc q)
      have vm : VRow ms := fun q hq => vA q (mm q hq)
      have kG2 : Kp d c J3 G2 := kG.trans ((Kp.same u1).trans k2)
      have tG2 : Tps J3 G2 := kG2.tps dj3
      have ep2 := tG2 _ _ epJ
      have ec2 := tG2 _ _ ecJ
      have ivp2 := ivpJ.tps tG2
      have ivc2 := ivcJ.tps tG2
      have lmus := ivm.length
      refine ⟨.ref pt, rfl, .ref ct, rfl, .ref pt, rfl, 6, rfl, slA_any ep2 (fun G3 p6 u3 ep6 => ?_)⟩
      obtain ⟨c6, iv6, mem6, l6⟩ := ivs_head ivp2 6
      refine ⟨.ref mt, rfl, .ref ct, rfl, ct, us', rfl, SqT.of (u3 _ _ ec2), fun rv nrv => ?_⟩
      have u4 := same_new (o := .tup us'.reverse) nrv
      have erv := upd_same (H := G3) (a := rv) (o := .tup us'.reverse)
      generalize upd G3 rv (.tup us'.reverse) = G4 at *
      have u34 := u3.trans u4
      have emt4 := u34 _ _ emt
      have tG4 : Tps J3 G4 := fun b xs e => u34 _ _ (tG2 _ _ e)
      have ivm4 := ivm.same u34
      have vp6 : VRow c6 := fun q hq => vp q (mem6 q hq)
      have vcr : VRow cs.reverse := fun q hq => vc q (List.mem_reverse.mp hq)
      refine ⟨.ref mt, rfl, rep60 emt4 ivm4 (by omega) (fun G5 xl xus xs u5 exl ivx memx => ?_)⟩
      refine ⟨60, rfl, slA_any exl (fun G6 x60 u6 ex60 => ?_)⟩
      obtain ⟨c60, iv60, mem60, l60⟩ := ivs_head ivx 60
      have v60 : VRow c60 := fun q hq => vm q (memx q (mem60 q hq))
      have s26 : Same G2 G6 := u34.trans (u5.trans u6)
      refine ⟨by show 6 ≤ sizeLine; decide, fun sl nsl => ?_⟩
      have offsl : Off d c sl := (dG2.kept s26).off nsl
      have u7 := same_new (o := .lst [V.ref pt, .ref ct, .ref p6, .ref mt, .ref rv, .ref x60]) nsl
      have esl := upd_same (H := G6) (a := sl) (o := .lst [V.ref pt, .ref ct, .ref p6, .ref mt, .ref rv, .ref x60])
      generalize upd G6 sl (.lst [V.ref pt, .ref ct, .ref p6, .ref mt, .ref rv, .ref x60]) = G7 at *
      have s27 : Same G2 G7 := s26.trans u7
      have kG7 : Kp d c J3 G7 := kG2.trans (Kp.same s27)
      have dG7 := dG2.kept s27
      have srs : ∀ x ∈ [V.ref pt, .ref ct, .ref p6, .ref mt, .ref rv, .ref x60], Sr G7 x := by
        intro x hx
        simp only [List.mem_cons, List.not_mem_nil, or_false] at hx
        rcases hx with rfl | rfl | rfl | rfl | rfl | rfl
        · exact ⟨_, _, ps, rfl, s27 _ _ ep2, ivp2.same s27, vp, by omega⟩
        · exact ⟨_, _, cs, rfl, s27 _ _ ec2, ivc2.same s27, vc, by omega⟩
        · exact ⟨_, _, c6, rfl, (u4.trans (u5.trans (u6.trans u7))) _ _ ep6, iv6.same (u3.trans (u4.trans (u5.trans (u6.trans u7)))), vp6, by omega⟩
        · exact ⟨_, _, ms, rfl, s27 _ _ emt, ivm.same s27, vm, by omega⟩
        · exact ⟨_, _, cs.reverse, rfl, (u5.trans (u6.trans u7)) _ _ erv, (ivc2.reverse).same s27, vcr, by rw [List.length_reverse]; omega⟩
        · exact ⟨_, _, c60, rfl, u7 _ _ ex60, iv60.same (u6.trans u7), v60, by omega⟩
      refine ⟨sl, rfl, ⟨_, SqL.of esl⟩, for_list (D := ⟨_, _, fun _ _ => True, fun _ _ => True⟩) (K := K) (a := sl) (xs := [V.ref pt, .ref ct, .ref p6, .ref mt, .ref rv, .ref x60]) (fun _ σ H' => (Kp d c G7 H' ∧ Dk H' d c m') ∧ ∃ y6 y7 y11 y12, σ = [some (.ref a), some (.ref d), some (.int (0 + i)), some (.ref l), some (.ref pt), some (.ref wt), y6, y7, some (.ref ct), some (.ref t), some (.ref mt), y11, y12])
        ⟨⟨Kp.same (Same.refl _), dG7⟩, _, _, _, _, rfl⟩ (fun _ σ H' _ h => SqL.of (h.1.1.keep offsl esl)) ?_ ?_⟩
      · rintro j2 x2 σ Y0 hx2 ⟨⟨kY, dY⟩, y6', y7', y11', y12', rfl⟩
        obtain ⟨sr, srus, srs', rfl, esr, ivsr, vsr, lsr⟩ := (srs x2 (List.mem_of_getElem? hx2)).ex
        have tY : Tps G7 Y0 := kY.tps dG7
        have esrY := tY _ _ esr
        have ivsrY := ivsr.tps tY
        have etY : Y0 t = some (.tup [.int lo, .int hi]) := (kG7.trans kY).tup dj3 et0
        have smr := sm_rows vsr lsr lo0 le hi0
        refine ⟨.ref sr, rfl, .ref t, rfl, by show 2 ≤ sizeLine; decide, fun w nw => ?_⟩
        have offw := dY.off nw
        have z1 := same_new (o := .lst [V.ref sr, .ref t]) nw
        have ew := upd_same (H := Y0) (a := w) (o := .lst [V.ref sr, .ref t])
        generalize upd Y0 w (.lst [V.ref sr, .ref t]) = Y1 at *
        refine ⟨.ref w, _, _, _, rfl, .lst (SqL.of ew) (.cons (.tup (SqT.of (z1 _ _ esrY)) (ivsrY.same z1).dp) (.cons (dp2 (z1 _ _ etY)) .nil)), smr, by decide, by decide, ?_⟩
        refine ⟨.ref sr, rfl, .ref t, rfl, sr, t, srus, srs', lo, hi, rfl, z1 _ _ esrY, ivsrY.same z1, lsr, z1 _ _ etY, vsr, le, nc ▸ (dY.kept z1).tab, fun Y2 b2 t2 => ?_⟩
        have k12 : Kp d c Y1 Y2 := fun b o n1 n2 e => b2 b o (nc ▸ n2.2) e
        have dY2 : Dk Y2 d c m' := (dY.kept z1).but (nc ▸ b2) (nc ▸ t2)
        have kY2 : Kp d c G7 Y2 := kY.trans ((Kp.same z1).trans k12)
        have tY2 : Tps G7 Y2 := kY2.tps dG7
        refine ⟨_, rfl, iteF ?_⟩
        refine ⟨.ref sr, rfl, .ref t, rfl, by show 2 ≤ sizeLine; decide, fun w2 nw2 => ?_⟩
        have z3 := same_new (o := .lst [V.ref sr, .ref t]) nw2
        have ew2 := upd_same (H := Y2) (a := w2) (o := .lst [V.ref sr, .ref t])
        generalize upd Y2 w2 (.lst [V.ref sr, .ref t]) = Y3 at *
        refine ⟨.ref w2, _, _, _, rfl, .lst (SqL.of ew2) (.cons (.tup (SqT.of (z3 _ _ (tY2 _ _ esr))) ((ivsr.tps tY2).same z3).dp) (.cons (dp2 (z3 _ _ ((kG7.trans kY2).tup dj3 et0))) .nil)), smr, by decide, by decide, ?_⟩
        refine ⟨_, rfl, rfl, _, rfl, iteNS rfl ?_⟩
        exact ⟨⟨kY2.trans (Kp.same z3), dY2.kept z3⟩, _, _, _, _, rfl⟩
      rintro σ Y0 ⟨⟨kY, dY⟩, y6', y7', y11', y12', rfl⟩
      exact ⟨⟨kG7.trans kY, m', dY, by omega, by omega⟩, _, _, _, _, _, _, rfl⟩
    rintro σ G0 ⟨⟨kG, m, dG, m0, m1⟩, y6', y7', y9', y10', y11', y12', rfl⟩
    have l3 : (([V.ref t1, .ref t2, .ref wt].length : Nat) : Int) = 3 := rfl
    exact ⟨⟨m, dG, m0, by omega⟩, _, _, _, _, _, _, _, _, _, _, _, rfl⟩

end
theorem all_mk {l : PySem.W.OpenLaw} {w : World} {K : PySem.W.Frag} {h : Heap} {mg : Str → Option Value} {fa f1 f2 f3 f4 f5 f6 f7 f8 f9 f10 f11 f12 f13 f14 f15 f16 : Addr} (X : K.In h) (G : h.Ns mainGlobals mg) (hfa : mg "law" = some (.ref fa))
    {od1 an1 od2 an2 od3 an3 od4 an4 od5 an5 od6 an6 od7 an7 od8 an8 od9 an9 od10 an10 od11 an11 od12 an12 od13 an13 od14 an14 od15 an15 od16 an16 : Option Addr} {sl1 sl2 sl3 sl4 sl5 sl6 sl7 sl8 sl9 sl10 sl11 sl12 sl13 sl14 sl15 sl16 : Array (Option Value)} {oc1 kV1 dc1 pm1 cd1 ct1 oc2 kV2 dc2 pm2 cd2 ct2 oc3 kV3 dc3 pm3 cd3 ct3 oc4 kV4 dc4 pm4 cd4 ct4 oc5 kV5 dc5 pm5 cd5 ct5 oc6 kV6 dc6 pm6 cd6 ct6 oc7 kV7 dc7 pm7 cd7 ct7 oc8 kV8 dc8 pm8 cd8 ct8 oc9 kV9 dc9 pm9 cd9 ct9 oc10 kV10 dc10 pm10 cd10 ct10 oc11 kV11 dc11 pm11 cd11 ct11 oc12 kV12 dc12 pm12 cd12 ct12 oc13 kV13 dc13 pm13 cd13 ct13 oc14 kV14 dc14 pm14 cd14 ct14 oc15 kV15 dc15 pm15 cd15 ct15 oc16 kV16 dc16 pm16 cd16 ct16 : Value} {cc PP : Addr}
    (a1 : PySem.W.nsIn K mainGlobals "has_position" = some (some (.ref f1))) (l1 : K.lookup f1 = some ⟨oc1, od1, .func (PySem.W.fnOf "has_position" "has_position" (defArgs s_has_position) (defBody s_has_position) (defScope s_has_position) .none kV1 dc1 pm1 an1 cd1 ct1), sl1⟩) (c1 : PySem.W.codeIn K cd1 "has_position" = true) (k1 : PySem.W.keepIn K (.ref f1) = true)
    (a2 : PySem.W.nsIn K mainGlobals "contains" = some (some (.ref f2))) (l2 : K.lookup f2 = some ⟨oc2, od2, .func (PySem.W.fnOf "contains" "contains" (defArgs s_contains) (defBody s_contains) (defScope s_contains) .none kV2 dc2 pm2 an2 cd2 ct2), sl2⟩) (c2 : PySem.W.codeIn K cd2 "contains" = true) (k2 : PySem.W.keepIn K (.ref f2) = true)
    (a3 : PySem.W.nsIn K mainGlobals "pieces_inside" = some (some (.ref f3))) (l3 : K.lookup f3 = some ⟨oc3, od3, .func (PySem.W.fnOf "pieces_inside" "pieces_inside" (defArgs s_pieces_inside) (defBody s_pieces_inside) (defScope s_pieces_inside) .none kV3 dc3 pm3 an3 cd3 ct3), sl3⟩) (c3 : PySem.W.codeIn K cd3 "pieces_inside" = true) (k3 : PySem.W.keepIn K (.ref f3) = true)
    (a4 : PySem.W.nsIn K mainGlobals "farthest_piece" = some (some (.ref f4))) (l4 : K.lookup f4 = some ⟨oc4, od4, .func (PySem.W.fnOf "farthest_piece" "farthest_piece" (defArgs s_farthest_piece) (defBody s_farthest_piece) (defScope s_farthest_piece) .none kV4 dc4 pm4 an4 cd4 ct4), sl4⟩) (c4 : PySem.W.codeIn K cd4 "farthest_piece" = true) (k4 : PySem.W.keepIn K (.ref f4) = true)
    (a5 : PySem.W.nsIn K mainGlobals "cover_chain" = some (some (.ref f5))) (l5 : K.lookup f5 = some ⟨oc5, od5, .func (PySem.W.fnOf "cover_chain" "cover_chain" (defArgs s_cover_chain) (defBody s_cover_chain) (defScope s_cover_chain) .none kV5 dc5 pm5 an5 cd5 ct5), sl5⟩) (c5 : PySem.W.codeIn K cd5 "cover_chain" = true) (k5 : PySem.W.keepIn K (.ref f5) = true)
    (a6 : PySem.W.nsIn K mainGlobals "_law_deck" = some (some (.ref f6))) (l6 : K.lookup f6 = some ⟨oc6, od6, .func (PySem.W.fnOf "_law_deck" "_law_deck" (defArgs s_law_deck) (defBody s_law_deck) (defScope s_law_deck) .none kV6 dc6 pm6 an6 cd6 ct6), sl6⟩) (c6 : PySem.W.codeIn K cd6 "_law_deck" = true) (k6 : PySem.W.keepIn K (.ref f6) = true)
    (a7 : PySem.W.nsIn K mainGlobals "_law_draw" = some (some (.ref f7))) (l7 : K.lookup f7 = some ⟨oc7, od7, .func (PySem.W.fnOf "_law_draw" "_law_draw" (defArgs s_law_draw) (defBody s_law_draw) (defScope s_law_draw) .none kV7 dc7 pm7 an7 cd7 ct7), sl7⟩) (c7 : PySem.W.codeIn K cd7 "_law_draw" = true) (k7 : PySem.W.keepIn K (.ref f7) = true)
    (a8 : PySem.W.nsIn K mainGlobals "_law_line" = some (some (.ref f8))) (l8 : K.lookup f8 = some ⟨oc8, od8, .func (PySem.W.fnOf "_law_line" "_law_line" (defArgs s_law_line) (defBody s_law_line) (defScope s_law_line) .none kV8 dc8 pm8 an8 cd8 ct8), sl8⟩) (c8 : PySem.W.codeIn K cd8 "_law_line" = true) (k8 : PySem.W.keepIn K (.ref f8) = true)
    (a9 : PySem.W.nsIn K mainGlobals "_law_interval" = some (some (.ref f9))) (l9 : K.lookup f9 = some ⟨oc9, od9, .func (PySem.W.fnOf "_law_interval" "_law_interval" (defArgs s_law_interval) (defBody s_law_interval) (defScope s_law_interval) .none kV9 dc9 pm9 an9 cd9 ct9), sl9⟩) (c9 : PySem.W.codeIn K cd9 "_law_interval" = true) (k9 : PySem.W.keepIn K (.ref f9) = true)
    (a10 : PySem.W.nsIn K mainGlobals "_law_intervals" = some (some (.ref f10))) (l10 : K.lookup f10 = some ⟨oc10, od10, .func (PySem.W.fnOf "_law_intervals" "_law_intervals" (defArgs s_law_intervals) (defBody s_law_intervals) (defScope s_law_intervals) .none kV10 dc10 pm10 an10 cd10 ct10), sl10⟩) (c10 : PySem.W.codeIn K cd10 "_law_intervals" = true) (k10 : PySem.W.keepIn K (.ref f10) = true)
    (a11 : PySem.W.nsIn K mainGlobals "_law_gap" = some (some (.ref f11))) (l11 : K.lookup f11 = some ⟨oc11, od11, .func (PySem.W.fnOf "_law_gap" "_law_gap" (defArgs s_law_gap) (defBody s_law_gap) (defScope s_law_gap) .none kV11 dc11 pm11 an11 cd11 ct11), sl11⟩) (c11 : PySem.W.codeIn K cd11 "_law_gap" = true) (k11 : PySem.W.keepIn K (.ref f11) = true)
    (a12 : PySem.W.nsIn K mainGlobals "_law_chain" = some (some (.ref f12))) (l12 : K.lookup f12 = some ⟨oc12, od12, .func (PySem.W.fnOf "_law_chain" "_law_chain" (defArgs s_law_chain) (defBody s_law_chain) (defScope s_law_chain) .none kV12 dc12 pm12 an12 cd12 ct12), sl12⟩) (c12 : PySem.W.codeIn K cd12 "_law_chain" = true) (k12 : PySem.W.keepIn K (.ref f12) = true)
    (a13 : PySem.W.nsIn K mainGlobals "_law_shuffled" = some (some (.ref f13))) (l13 : K.lookup f13 = some ⟨oc13, od13, .func (PySem.W.fnOf "_law_shuffled" "_law_shuffled" (defArgs s_law_shuffled) (defBody s_law_shuffled) (defScope s_law_shuffled) .none kV13 dc13 pm13 an13 cd13 ct13), sl13⟩) (c13 : PySem.W.codeIn K cd13 "_law_shuffled" = true) (k13 : PySem.W.keepIn K (.ref f13) = true)
    (a14 : PySem.W.nsIn K mainGlobals "_law_fewest" = some (some (.ref f14))) (l14 : K.lookup f14 = some ⟨oc14, od14, .func (PySem.W.fnOf "_law_fewest" "_law_fewest" (defArgs s_law_fewest) (defBody s_law_fewest) (defScope s_law_fewest) .none kV14 dc14 pm14 an14 cd14 ct14), sl14⟩) (c14 : PySem.W.codeIn K cd14 "_law_fewest" = true) (k14 : PySem.W.keepIn K (.ref f14) = true)
    (a15 : PySem.W.nsIn K mainGlobals "_law_right" = some (some (.ref f15))) (l15 : K.lookup f15 = some ⟨oc15, od15, .func (PySem.W.fnOf "_law_right" "_law_right" (defArgs s_law_right) (defBody s_law_right) (defScope s_law_right) .none kV15 dc15 pm15 an15 cd15 ct15), sl15⟩) (c15 : PySem.W.codeIn K cd15 "_law_right" = true) (k15 : PySem.W.keepIn K (.ref f15) = true)
    (a16 : PySem.W.nsIn K mainGlobals "law" = some (some (.ref f16))) (l16 : K.lookup f16 = some ⟨oc16, od16, .func (PySem.W.fnOf "law" "law" (defArgs s_law) (defBody s_law) (defScope s_law) .none kV16 dc16 pm16 an16 cd16 ct16), sl16⟩) (c16 : PySem.W.codeIn K cd16 "law" = true) (k16 : PySem.W.keepIn K (.ref f16) = true)
    (z0 : PySem.W.nsIn K mainGlobals "abs" = some none) (z1 : PySem.W.nsIn K mainGlobals "len" = some none) (z2 : PySem.W.nsIn K mainGlobals "list" = some none) (z3 : PySem.W.nsIn K mainGlobals "max" = some none) (z4 : PySem.W.nsIn K mainGlobals "min" = some none) (z5 : PySem.W.nsIn K mainGlobals "range" = some none) (z6 : PySem.W.nsIn K mainGlobals "repr" = some none) (z7 : PySem.W.nsIn K mainGlobals "set" = some none) (z8 : PySem.W.nsIn K mainGlobals "sorted" = some none) (z9 : PySem.W.nsIn K mainGlobals "tuple" = some none) (hcc : cd4 = .ref cc) :
    ∃ fd : FuncData, (∀ (s : Shared) (v : Value), BindsTo s fd ⟨[v], []⟩ [("_law_script", v)]) ∧ ∀ base : Heap, K.In base → base.Ns mainGlobals mg → (∃ mm, base.Ns sysModules mm) → LamX.TabB base mg cc PP → FnG l.prog w K mg base 7 fa fd ["_law_script"] (sp_law K PP) := by
  have e := hfa.symm.trans (PySem.W.mg_of X G a16)
  cases e
  have F1 := fun_mk (st := s_has_position) l1 c1 k1
  have b1 := F1.binds (ps := ["interval", "position"]) fun _ _ _ _ _ _ us hl => match us, hl with | [_, _], _ => rfl
  have F2 := fun_mk (st := s_contains) l2 c2 k2
  have b2 := F2.binds (ps := ["outer", "inner"]) fun _ _ _ _ _ _ us hl => match us, hl with | [_, _], _ => rfl
  have F3 := fun_mk (st := s_pieces_inside) l3 c3 k3
  have b3 := F3.binds (ps := ["pieces", "target"]) fun _ _ _ _ _ _ us hl => match us, hl with | [_, _], _ => rfl
  have F4 := fun_mk (st := s_farthest_piece) l4 c4 k4
  have b4 := F4.binds (ps := ["pieces", "position"]) fun _ _ _ _ _ _ us hl => match us, hl with | [_, _], _ => rfl
  have F5 := fun_mk (st := s_cover_chain) l5 c5 k5
  have b5 := F5.binds (ps := ["pieces", "target"]) fun _ _ _ _ _ _ us hl => match us, hl with | [_, _], _ => rfl
  have F6 := fun_mk (st := s_law_deck) l6 c6 k6
  have b6 := F6.binds (ps := ["_law_script"]) fun _ _ _ _ _ _ us hl => match us, hl with | [_], _ => rfl
  have F7 := fun_mk (st := s_law_draw) l7 c7 k7
  have b7 := F7.binds (ps := ["_law_deck_here", "_law_bound"]) fun _ _ _ _ _ _ us hl => match us, hl with | [_, _], _ => rfl
  have F8 := fun_mk (st := s_law_line) l8 c8 k8
  have b8 := F8.binds (ps := ["_law_deck_here", "_law_count"]) fun _ _ _ _ _ _ us hl => match us, hl with | [_, _], _ => rfl
  have F9 := fun_mk (st := s_law_interval) l9 c9 k9
  have b9 := F9.binds (ps := ["_law_deck_here", "_law_line_here"]) fun _ _ _ _ _ _ us hl => match us, hl with | [_, _], _ => rfl
  have F10 := fun_mk (st := s_law_intervals) l10 c10 k10
  have b10 := F10.binds (ps := ["_law_deck_here", "_law_line_here", "_law_most"]) fun _ _ _ _ _ _ us hl => match us, hl with | [_, _, _], _ => rfl
  have F11 := fun_mk (st := s_law_gap) l11 c11 k11
  have b11 := F11.binds (ps := ["_law_pieces", "_law_target"]) fun _ _ _ _ _ _ us hl => match us, hl with | [_, _], _ => rfl
  have F12 := fun_mk (st := s_law_chain) l12 c12 k12
  have b12 := F12.binds (ps := ["_law_pieces", "_law_target"]) fun _ _ _ _ _ _ us hl => match us, hl with | [_, _], _ => rfl
  have F13 := fun_mk (st := s_law_shuffled) l13 c13 k13
  have b13 := F13.binds (ps := ["_law_deck_here", "_law_pieces"]) fun _ _ _ _ _ _ us hl => match us, hl with | [_, _], _ => rfl
  have F14 := fun_mk (st := s_law_fewest) l14 c14 k14
  have b14 := F14.binds (ps := ["_law_pieces", "_law_target"]) fun _ _ _ _ _ _ us hl => match us, hl with | [_, _], _ => rfl
  have F15 := fun_mk (st := s_law_right) l15 c15 k15
  have b15 := F15.binds (ps := ["_law_pieces", "_law_target"]) fun _ _ _ _ _ _ us hl => match us, hl with | [_, _], _ => rfl
  have F16 := fun_mk (st := s_law) l16 c16 k16
  have b16 := F16.binds (ps := ["_law_script"]) fun _ _ _ _ _ _ us hl => match us, hl with | [_], _ => rfl
  have T : Tx K mg _ _ _ _ _ _ _ _ _ _ _ _ _ _ _ _  _ _ _ _ _ _ _ _ _ _ _ _ _ _ _ _ := ⟨F1, b1, PySem.W.mg_of X G a1, F2, b2, PySem.W.mg_of X G a2, F3, b3, PySem.W.mg_of X G a3, F4, b4, PySem.W.mg_of X G a4, F5, b5, PySem.W.mg_of X G a5, F6, b6, PySem.W.mg_of X G a6, F7, b7, PySem.W.mg_of X G a7, F8, b8, PySem.W.mg_of X G a8, F9, b9, PySem.W.mg_of X G a9, F10, b10, PySem.W.mg_of X G a10, F11, b11, PySem.W.mg_of X G a11, F12, b12, PySem.W.mg_of X G a12, F13, b13, PySem.W.mg_of X G a13, F14, b14, PySem.W.mg_of X G a14, F15, b15, PySem.W.mg_of X G a15, F16, b16, PySem.W.mg_of X G a16, PySem.W.mg_none_of X G z0, PySem.W.mg_none_of X G z1, PySem.W.mg_none_of X G z2, PySem.W.mg_none_of X G z3, PySem.W.mg_none_of X G z4, PySem.W.mg_none_of X G z5, PySem.W.mg_none_of X G z6, PySem.W.mg_none_of X G z7, PySem.W.mg_none_of X G z8, PySem.W.mg_none_of X G z9⟩
  exact ⟨_, fun s v => .of_eq rfl, fun base _ _ hM hB => ok_law T ⟨cc, hB, hcc⟩⟩
end L9
open PySem PySem.W PyProof.Rows
set_option maxHeartbeats 0 in
theorem PySem.Challenge.cw_fewspans_k15_chains_of_pieces_holds : PySem.Challenge.rw_fewspans_k15_chains_of_pieces.Holds := by
  w_on; o_law; k_head; (case hw => w_witness2)
  k_fill
  refine L9.quiet_walkT (l := PySem.Challenge.rw_fewspans_k15_chains_of_pieces) (n := 63) (k := 7) (x := "_law_script") (by decide +kernel) rfl (by decide) rfl ⟨rfl, by decide, by decide⟩ (fun w h Y => PySem.W.km_in_of Y) ?F
  case F =>
    intro w mg fa h KX G hmg tabOf
    refine' L9.endT tabOf (y := "farthest_piece") ?ta ?tl ?te ?tc ?tv (by decide +kernel) ?noT (L9.all_mk KX G hmg ?a1 ?l1 ?c1 ?k1 ?a2 ?l2 ?c2 ?k2 ?a3 ?l3 ?c3 ?k3 ?a4 ?l4 ?c4 ?k4 ?a5 ?l5 ?c5 ?k5 ?a6 ?l6 ?c6 ?k6 ?a7 ?l7 ?c7 ?k7 ?a8 ?l8 ?c8 ?k8 ?a9 ?l9 ?c9 ?k9 ?a10 ?l10 ?c10 ?k10 ?a11 ?l11 ?c11 ?k11 ?a12 ?l12 ?c12 ?k12 ?a13 ?l13 ?c13 ?k13 ?a14 ?l14 ?c14 ?k14 ?a15 ?l15 ?c15 ?k15 ?a16 ?l16 ?c16 ?k16 ?z0 ?z1 ?z2 ?z3 ?z4 ?z5 ?z6 ?z7 ?z8 ?z9 ?hcc) (fun H a ns hl h0 hS => ⟨a, ns, rfl, hS, hl, h0, fun _ => rfl⟩)
    (case ta => k_is)
    (case tl => k_is)
    (case te => rfl)
    (case tc => k_is)
    (case tv => rfl)
    (case noT => kernel_rfl)
    (case a1 => k_is)
    (case l1 => k_is)
    (case c1 => k_is)
    (case k1 => k_is)
    (case a2 => k_is)
    (case l2 => k_is)
    (case c2 => k_is)
    (case k2 => k_is)
    (case a3 => k_is)
    (case l3 => k_is)
    (case c3 => k_is)
    (case k3 => k_is)
    (case a4 => k_is)
    (case l4 => k_is)
    (case c4 => k_is)
    (case k4 => k_is)
    (case a5 => k_is)
    (case l5 => k_is)
    (case c5 => k_is)
    (case k5 => k_is)
    (case a6 => k_is)
    (case l6 => k_is)
    (case c6 => k_is)
    (case k6 => k_is)
    (case a7 => k_is)
    (case l7 => k_is)
    (case c7 => k_is)
    (case k7 => k_is)
    (case a8 => k_is)
    (case l8 => k_is)
    (case c8 => k_is)
    (case k8 => k_is)
    (case a9 => k_is)
    (case l9 => k_is)
    (case c9 => k_is)
    (case k9 => k_is)
    (case a10 => k_is)
    (case l10 => k_is)
    (case c10 => k_is)
    (case k10 => k_is)
    (case a11 => k_is)
    (case l11 => k_is)
    (case c11 => k_is)
    (case k11 => k_is)
    (case a12 => k_is)
    (case l12 => k_is)
    (case c12 => k_is)
    (case k12 => k_is)
    (case a13 => k_is)
    (case l13 => k_is)
    (case c13 => k_is)
    (case k13 => k_is)
    (case a14 => k_is)
    (case l14 => k_is)
    (case c14 => k_is)
    (case k14 => k_is)
    (case a15 => k_is)
    (case l15 => k_is)
    (case c15 => k_is)
    (case k15 => k_is)
    (case a16 => k_is)
    (case l16 => k_is)
    (case c16 => k_is)
    (case k16 => k_is)
    (case z0 => k_is)
    (case z1 => k_is)
    (case z2 => k_is)
    (case z3 => k_is)
    (case z4 => k_is)
    (case z5 => k_is)
    (case z6 => k_is)
    (case z7 => k_is)
    (case z8 => k_is)
    (case z9 => k_is)
    (case hcc => rfl)
