import PyProof.Rows.All
import Wide.All
import OpenK.AllK
import Wide.FinOn
import PySem.Challenge.RW_fewspans_k63_whole_small_boards_searched
import HandS.ForMost
import HandS.Wide
import HandS.IsInst
import HandS.Conv
import HandS.TupLe
import HandS.Strs
import HandS.SetFor
import HandS.Style
import HandS.TupSets
import HandS.Keys
import HandS.Sort
import HandS.SortOrd
import HandS.SortRule
import HandS.SortKw
import HandS.SetBool
import HandS.TupAny
import HandS.Zip
import HandS.NoneIn
import HandS.Deep
import KE.GoesEnum
import KE.GoesMore
import HandS.Lambda
import HandS.CallLocal
import KE.DataCmp
import HandS.EndTab
import KE.KMinBuiltin
import HandS.TupMul
import PyProof.NeKinds
import HandS.Defaults
import HandS.MakeKwOnly
import HandS.OwnEq
import HandS.FStr
import KE.KCallOwn
import PyProof.DictMoreH
import HandS.SortInts
import HandS.Iter
set_option Elab.async false
set_option linter.all false
set_option maxRecDepth 100000
set_option maxHeartbeats 4000000
namespace L9
open PySem PySem.Spec PyProof.Rows L2
/-! ### set(xs), xs a list of ints: the library has it of tuples; the walk is a list's here -/
section
variable {P : Program} {w : World} {A : Around} {E : Value → Shared → Prop} {s : Shared}
abbrev noSet (w : World) : Obj := { cls := .type "set", dict := none, data := .set #[] 0 (.fresh 0 0 (!w.params.followText "set-order")) }
theorem setL_ints {l : Addr} {its : Array Value} (ns : List Int) {Q : Value → Shared → Prop} (quiet : A.handled = none) (isL : s.heap.IsList l its) (allI : IntsAre its.toList ns) (few : ns.length + 1 < scanBound)
    (fin : ∀ (h2 : Heap) (tk n : Nat), SetR w h2 s.heap.objs.size (fun j => decide (j ∈ ns)) n → n ≤ ns.length → (∀ b o, s.heap.get? b = some o → h2.get? b = some o) → Q (.ref s.heap.objs.size) { s with heap := h2, toks := tk }) :
    wpAny (model P w) A (call (.type "set") [.ref l]) Q E s := by
  have size : its.size = ns.length := by
    rw [← Array.length_toList]
    exact allI.length
  obtain ⟨cA, tA, mA⟩ := F.called_set.mro
  have f1 := F.called_set.made
  have f2 := F.called_set.sub
  refine wpAny_call (codeAny_of_tree (?_ : wpAny _ _ (callAny (.type "set") _) _ _ _))
  refine wpAny_pure (And.intro (Code.quiet_builtin _ (by decide +kernel)) (codeAny_builtin F.entry_type_call ?_))
  rw [Around.under_plain (weight_type_call_type "set" [Value.ref l] []) rfl]
  have f3 := F.called_set.notType
  have f4 := F.called_set.canCreate
  have f5 := F.typeCall_set_1 (Value.ref l)
  repeat any_goals first | assumption | wp_step
  refine codeAny_mono (code_set_led1 (.ref l) (E := E) (Q₁ := fun v s1 => v = .ref s.heap.objs.size ∧ s1 = { s with heap := s.heap.push (noSet w) }) (And.intro rfl rfl)) fun r s1 h1 => ?_
  match r, h1 with
  | .error e, h1 => exact h1
  | .ok (.ret v), h1 =>
    obtain ⟨rfl, rfl⟩ := h1
    have at0 : (s.heap.push (noSet w)).get? s.heap.objs.size = some (noSet w) := Heap.get?_push_size _ rfl
    have ty0 : Shared.TypeIs { s with heap := s.heap.push (noSet w) } (.ref s.heap.objs.size) "set" := Exists.intro _ (And.intro at0 rfl)
    have f6 := F.called_set.init.lookup
    have f7 := F.called_set.init.bind (Value.ref s.heap.objs.size)
    repeat any_goals first | assumption | wp_step
    let Z : Value → Shared → Prop := fun v s2 => v = .none ∧ ∃ h2 tk n, s2 = { s with heap := h2, toks := tk } ∧ SetR w h2 s.heap.objs.size (fun j => decide (j ∈ ns)) n ∧ n ≤ ns.length ∧ ∀ b o, s.heap.get? b = some o → h2.get? b = some o
    refine codeAny_mono (codeAny_call_builtin (R := wants Z E) F.called_set.init.plain F.entry_set_init (check_set_init_1 ty0 ?_)) fun r2 s2 h2 => ?_
    · obtain ⟨o, eo, ec, k, ed⟩ := isL
      obtain ⟨oc, od, oD, oS⟩ := o
      simp only at ec ed
      subst ec ed
      have lt : l < s.heap.objs.size := Heap.lt_size eo
      have eo1 : (s.heap.push (noSet w)).get? l = some { cls := .type "list", dict := od, data := .seq its k, slots := oS } := Heap.get?_push_of_some _ eo
      have g1 := F.sub_list_set
      have g2 := F.sub_list_frozenset
      have g3 : (Value.type "list" == Value.type "dict") = false := by decide
      have isL1 : (s.heap.push (noSet w)).IsList l its := Exists.intro _ (And.intro eo1 (And.intro rfl (Exists.intro k rfl)))
      unfold Builtin.«set.__init__» Builtin.Frozenset.updateFrom noKeywords
      generalize keep : pyIter = itr
      wp_walk
      subst keep
      refine wpAny_pyIter_list isL1 (wpAny_bind (wpAny_runValue ?_))
      have quiet3 : A.in1.in1.in1.handled = none := by simp [quiet]
      have sz : (s.heap.push (noSet w)).objs.size = s.heap.objs.size + 1 := Heap.size_push ..
      have lI : l ≠ (s.heap.push (noSet w)).objs.size := by
        rw [sz]
        exact Nat.ne_of_lt (Nat.lt_succ_of_lt lt)
      have out : s.heap.objs.size ∉ [(s.heap.push (noSet w)).objs.size, l] := by
        rw [sz]
        intro z
        rcases List.mem_cons.mp z with z | z
        · exact absurd z (Nat.ne_of_lt (Nat.lt_succ_self _))
        · exact absurd (List.mem_singleton.mp z) (Nat.ne_of_gt lt)
      have vals : ∀ (i : Nat) (v : Value), its[i]? = some v → ∃ j t, ns[i]? = some j ∧ v = .int j t := fun i v hv => by
        have lti : i < ns.length := by
          rw [← size]
          exact (Array.getElem?_eq_some_iff.mp hv).1
        obtain ⟨t, e⟩ := allI.int_at i v (by rw [Array.getElem?_toList]; exact hv)
        have en := List.getElem?_eq_getElem lti
        refine ⟨_, t, en, e.trans ?_⟩
        rw [List.getD_eq_getElem?_getD, en]
        rfl
      refine set_update_ints (Walks.list quiet3 _ l lI its).toS s.heap.objs.size out ns size few vals (its.size - 0) 0 _ rfl (Nat.zero_le _) (And.intro (Exists.intro _ (And.intro (Heap.get?_push_size _ rfl) (And.intro rfl rfl))) (isL1.push _)) ?start ?last
      case start =>
        exact ⟨0, Nat.le_refl _, setR_new_at (Heap.get?_push_of_some _ at0)⟩
      case last =>
        intro s3 n mv le R
        obtain ⟨h3, g3', d3, tk3, o3⟩ := s3
        have m1 : g3' = s.gens := mv.gens
        have m2 : d3 = s.drawn := mv.drawn
        have m3 : o3 = s.os := mv.os
        subst m1 m2 m3
        refine wpAny_pure (?_ : wpAny _ _ (ret Value.none) _ _ _)
        rw [size] at le
        refine wpAny_pure (And.intro rfl ⟨h3, tk3, n, rfl, R, le, fun b o e => ?_⟩)
        have lb := Heap.lt_size e
        refine mv.heap b o (fun z => ?_) (Heap.get?_push_of_some _ (Heap.get?_push_of_some _ e))
        rcases List.mem_cons.mp z with z | z
        · exact absurd z (Nat.ne_of_lt lb)
        · have z1 := List.mem_singleton.mp z
          rw [sz] at z1
          exact absurd z1 (Nat.ne_of_lt (Nat.lt_succ_of_lt lb))
    · match r2, h2 with
      | .error e, h2 => exact h2
      | .ok (.ret v), h2 =>
        obtain ⟨rfl, h', tk, n, rfl, R, le, kp⟩ := h2
        repeat any_goals first | assumption | wp_step
        exact fin h' tk n R le kp
      | .ok .next, h2 => exact h2
      | .ok .brk, h2 => exact h2
      | .ok .cont, h2 => exact h2
  | .ok .next, h1 => exact h1
  | .ok .brk, h1 => exact h1
  | .ok .cont, h1 => exact h1
end
section
variable {X : Cx}
def rSetOfI (K : PySem.W.Frag) (w : World) : List V → Hp → VK → Prop := fun xs H Q => ∃ (l : Addr) (ns : List Int), xs = [V.ref l] ∧ SqL K H l (ns.map V.int) ∧ ns.length < 60 ∧
  ∀ (H' : Hp) a n, Same H H' → H a = none → H' a = some (SetO w a (fun j => decide (j ∈ ns)) n) → n ≤ ns.length → Q (.ref a) H'
theorem cr_setOfI (calm : X.calm = true) : CallR X (.type "set") (rSetOfI X.K X.w) := by
  intro pins s σ H xs us Q I r h
  obtain ⟨l, ns, rfl, hl, few, q⟩ := h
  rw [Vals.ref1 r]
  obtain ⟨its, rv, pl, _⟩ := I.list hl
  refine setL_ints (P := X.prog) (w := X.w) ns (I.ok.hd calm) pl.isList (ints_of_vals rv) (by unfold scanBound; omega) fun h2 tk n R le kp => ?_
  exact ⟨.ref s.heap.objs.size, _, I.laid (t' := tk) kp (Nat.le_refl _) (setO_new R), rfl, q _ _ n (fun b x e => by rw [upd_ne (ne_of_none e (I.hok.fresh (Nat.le_refl _)))]; exact e) (I.hok.fresh (Nat.le_refl _)) upd_same le⟩
end

/-! ### set(t), t a tuple of tuples of ints: the library has it of lists; the walk is a tuple's here -/
section
variable {P : Program} {w : World} {A : Around} {E : Value → Shared → Prop} {s : Shared}
abbrev noSetT (w : World) : Obj := { cls := .type "set", dict := none, data := .set #[] 0 (.fresh 0 0 (!w.params.followText "set-order")) }
theorem setT_tups {l : Addr} {its : Array Value} (ks : List (Addr × List Int)) {Q : Value → Shared → Prop} (quiet : A.handled = none) (isT : s.heap.IsTuple l its) (refs : its.toList = ks.map fun p => Value.ref p.1)
    (tk : ∀ p ∈ ks, IsT P w s.heap p.2 p.1) (few : ks.length < 64) (un : A.units + 3 < cLine)
    (fin : ∀ (h2 : Heap) (tk : Nat) L es ep t, SetTR P w h2 s.heap.objs.size L es ep t → Got ks ks.length L → (∀ b o, s.heap.get? b = some o → h2.get? b = some o) → Q (.ref s.heap.objs.size) { s with heap := h2, toks := tk }) :
    wpAny (model P w) A (call (.type "set") [.ref l]) Q E s := by
  have size : its.size = ks.length := by
    rw [← Array.length_toList, refs, List.length_map]
  obtain ⟨cA, tA, mA⟩ := F.called_set.mro
  have f1 := F.called_set.made
  have f2 := F.called_set.sub
  refine wpAny_call (codeAny_of_tree (?_ : wpAny _ _ (callAny (.type "set") _) _ _ _))
  refine wpAny_pure (And.intro (Code.quiet_builtin _ (by decide +kernel)) (codeAny_builtin F.entry_type_call ?_))
  rw [Around.under_plain (weight_type_call_type "set" [Value.ref l] []) rfl]
  have f3 := F.called_set.notType
  have f4 := F.called_set.canCreate
  have f5 := F.typeCall_set_1 (Value.ref l)
  repeat any_goals first | assumption | wp_step
  refine codeAny_mono (code_set_led1 (.ref l) (E := E) (Q₁ := fun v s1 => v = .ref s.heap.objs.size ∧ s1 = { s with heap := s.heap.push (noSetT w) }) (And.intro rfl rfl)) fun r s1 h1 => ?_
  match r, h1 with
  | .error e, h1 => exact h1
  | .ok (.ret v), h1 =>
    obtain ⟨rfl, rfl⟩ := h1
    have at0 : (s.heap.push (noSetT w)).get? s.heap.objs.size = some (noSetT w) := Heap.get?_push_size _ rfl
    have ty0 : Shared.TypeIs { s with heap := s.heap.push (noSetT w) } (.ref s.heap.objs.size) "set" := Exists.intro _ (And.intro at0 rfl)
    have f6 := F.called_set.init.lookup
    have f7 := F.called_set.init.bind (Value.ref s.heap.objs.size)
    repeat any_goals first | assumption | wp_step
    let Z : Value → Shared → Prop := fun v s2 => v = .none ∧ ∃ h2 tk L es ep t, s2 = { s with heap := h2, toks := tk } ∧ SetTR P w h2 s.heap.objs.size L es ep t ∧ Got ks ks.length L ∧ ∀ b o, s.heap.get? b = some o → h2.get? b = some o
    refine codeAny_mono (codeAny_call_builtin (R := wants Z E) F.called_set.init.plain F.entry_set_init (check_set_init_1 ty0 ?_)) fun r2 s2 h2 => ?_
    · obtain ⟨o, eo, ec, k, ed⟩ := isT
      obtain ⟨oc, od, oD, oS⟩ := o
      simp only at ec ed
      subst ec ed
      have lt : l < s.heap.objs.size := Heap.lt_size eo
      have eo1 : (s.heap.push (noSetT w)).get? l = some { cls := .type "tuple", dict := od, data := .seq its k, slots := oS } := Heap.get?_push_of_some _ eo
      have g1 := F.sub_tuple_set
      have g2 := F.sub_tuple_frozenset
      have g3 : (Value.type "tuple" == Value.type "dict") = false := by decide
      have isT1 : (s.heap.push (noSetT w)).IsTuple l its := Exists.intro _ (And.intro eo1 (And.intro rfl (Exists.intro k rfl)))
      unfold Builtin.«set.__init__» Builtin.Frozenset.updateFrom noKeywords
      generalize keep : pyIter = itr
      wp_walk
      subst keep
      refine wpAny_pyIter_tuple isT1 (wpAny_bind (wpAny_runValue ?_))
      have quiet3 : A.in1.in1.in1.handled = none := by simp [quiet]
      have sz : (s.heap.push (noSetT w)).objs.size = s.heap.objs.size + 1 := Heap.size_push ..
      have lI : l ≠ (s.heap.push (noSetT w)).objs.size := by
        rw [sz]
        exact Nat.ne_of_lt (Nat.lt_succ_of_lt lt)
      have out : s.heap.objs.size ∉ [(s.heap.push (noSetT w)).objs.size, l] := by
        rw [sz]
        intro z
        rcases List.mem_cons.mp z with z | z
        · exact absurd z (Nat.ne_of_lt (Nat.lt_succ_self _))
        · exact absurd (List.mem_singleton.mp z) (Nat.ne_of_gt lt)
      have vals : ∀ (i : Nat) (v : Value), its[i]? = some v → ∃ p, ks[i]? = some p ∧ v = .ref p.1 := fun i v hv => by
        have z : its.toList[i]? = some v := by
          rw [Array.getElem?_toList]
          exact hv
        rw [refs, List.getElem?_map] at z
        obtain ⟨p, e1, e2⟩ := Option.map_eq_some_iff.mp z
        exact Exists.intro p (And.intro e1 e2.symm)
      have beyond : ∀ b, s.heap.objs.size ≤ b → s.heap.get? b = none := fun b hb => by
        cases z : s.heap.get? b with
        | none => rfl
        | some o => exact (Nat.lt_irrefl _ (Nat.lt_of_lt_of_le (Heap.lt_size z) hb)).elim
      refine set_update_tups (Walks.tuple quiet3 _ l lI its).toS s.heap.objs.size out ks size few vals s.heap tk (beyond _ (Nat.le_refl _)) (fun b hb => beyond b ?_) un (its.size - 0) 0 _ rfl (Nat.zero_le _) (And.intro (Exists.intro _ (And.intro (Heap.get?_push_size _ rfl) (And.intro rfl rfl))) (isT1.push _)) (fun b o e => Heap.get?_push_of_some _ (Heap.get?_push_of_some _ e)) ?start ?last
      · rw [List.mem_singleton.mp hb, sz]
        exact Nat.le_succ _
      case start =>
        exact ⟨[], #[], 0, _, setTR_fresh (Heap.get?_push_of_some _ at0), Got.zero ks⟩
      case last =>
        intro s3 L es ep t mv R got kp
        obtain ⟨h3, g3', d3, tk3, o3⟩ := s3
        have m1 : g3' = s.gens := mv.gens
        have m2 : d3 = s.drawn := mv.drawn
        have m3 : o3 = s.os := mv.os
        subst m1 m2 m3
        refine wpAny_pure (?_ : wpAny _ _ (ret Value.none) _ _ _)
        rw [size] at got
        exact wpAny_pure (And.intro rfl ⟨h3, tk3, L, es, ep, t, rfl, R, got, kp⟩)
    · match r2, h2 with
      | .error e, h2 => exact h2
      | .ok (.ret v), h2 =>
        obtain ⟨rfl, h', tk, L, es, ep, t, rfl, R, got, kp⟩ := h2
        repeat any_goals first | assumption | wp_step
        exact fin h' tk L es ep t R got kp
      | .ok .next, h2 => exact h2
      | .ok .brk, h2 => exact h2
      | .ok .cont, h2 => exact h2
  | .ok .next, h1 => exact h1
  | .ok .brk, h1 => exact h1
  | .ok .cont, h1 => exact h1
end
section
variable {X : Cx}
def rSetOfTT (K : PySem.W.Frag) (P : Program) (w : World) : List V → Hp → VK → Prop := fun xs H Q => ∃ (l : Addr) (ks : List (Addr × List Int)), xs = [V.ref l] ∧ SqT K H l (ks.map fun p => V.ref p.1) ∧ (∀ p ∈ ks, SqT K H p.1 (p.2.map V.int)) ∧ ks.length < 64 ∧
  ∀ a L, H a = none → (∀ p ∈ L, p ∈ ks) → (∀ p ∈ ks, p.2 ∈ L.map (·.2)) → Q (.ref a) (upd H a (SetTO P w a L))
theorem cr_setOfTT (calm : X.calm = true) (units : X.A.units + 64 < cLine) : CallR X (.type "set") (rSetOfTT X.K X.prog X.w) := by
  intro pins s σ H xs us Q I r h
  obtain ⟨l, ks, rfl, hl, hk, few, q⟩ := h
  rw [Vals.ref1 r]
  obtain ⟨its, rv, pl, _⟩ := I.tuple hl
  have nn : H s.heap.objs.size = none := I.hok.fresh (Nat.le_refl _)
  refine setT_tups (P := X.prog) (w := X.w) (its := its.toArray) ks (I.ok.hd calm) pl (by simpa using refs_of_vals rv) (fun p hp => I.isT (hk p hp)) few (by omega) fun h2 tk L es ep t R got kp => ?_
  exact ⟨.ref s.heap.objs.size, _, I.laid (t' := tk) kp (Nat.le_refl _) (setTO_new R.t0), rfl, q _ L nn (fun p hp => List.mem_of_mem_take (got.sub p hp)) (fun p hp => got.all p (by rw [List.take_length]; exact hp))⟩
end

/-! ### defs that are run where no text-making of the machine is under way (repr, str of nested data ask for it) -/
abbrev Quiet (A : Around) : Prop := A.guards = some []
structure FnG (P : Program) (w : World) (K : PySem.W.Frag) (mg : Str → Option Value) (base : Heap) (k : Nat) (f : Addr) (fd : FuncData) (ps : List Str) (sp : Sp) : Prop where
  size : ∀ {vs H Q}, sp vs H Q E0 → vs.length = ps.length
  go : ∀ {A outer s H us vs Q}, Room k A → Quiet A → Env0 P w K mg base A outer s H → BindsTo s fd ⟨us, []⟩ (ps.zip us) → Vals vs us → sp vs H Q E0 →
    codeAny (model P w) A (.call (.ref f) ⟨us, []⟩) (CR CX0 outer P w H s Q E0) s
section
variable {P : Program} {w : World} {K : PySem.W.Frag} {mg : Str → Option Value} {base : Heap}
theorem FnG.of {x qual : Str} {st : Stmt} {f : Addr} {fd : FuncData} {N ps : List Str} {k : Nat} {sp : Sp} (F : Fun K x qual st f fd) (S : FnScope N ps (defScope st))
    (size : ∀ {vs H Q}, sp vs H Q E0 → vs.length = ps.length)
    (body : ∀ cdv A outer s H vs Q, Room k (A.deeper (envOfC qual (defScope st) s.heap.objs.size f cdv)) → Quiet (A.deeper (envOfC qual (defScope st) s.heap.objs.size f cdv)) → sp vs H Q E0 →
      ∃ t, PSs (cxOf CX0 P w K mg base N qual (defScope st) f cdv A outer s H E0).nox (defBody st) t ∧ t { nx := fun _ H' => Q .non H', rt := Q } (start N vs) H) :
    FnG P w K mg base (k + 1) f fd ps sp := by
  obtain ⟨oc, od, kV, doc, pm, an, cdv, ct, osl, rfl, look, code⟩ := F.ex
  constructor
  · exact size
  intro A outer s H us vs Q room quiet e0 bind rel want
  have inH : K.In s.heap := e0.mod.kin.keeps fun b o q => (e0.bs b o q).1
  have lim := e0.mod.nolimit.keeps (fun b o q => (e0.bs b o q).1)
  have kinds : ∀ y ∈ ps.zip us, (defScope st).names.lookup y.1 = some .local ∨ ((defScope st).names.lookup y.1 = some .cell ∧ ((cellsFrom (s.heap.objs.size + 1) (defScope st).names []).lookup y.1).isSome = true) := by
    rintro ⟨n, v⟩ hy
    have hn := (List.of_mem_zip hy).1
    cases S.par n hn with
    | inl q => exact Or.inl q
    | inr q => exact Or.inr ⟨q, PySem.W.cellsFrom_some _ _ _ (Or.inl q)⟩
  apply codeAny_call_function room.depth (inH _ _ look) rfl S.co S.gen rfl (PySem.W.codeRec_of inH code)
  apply bind
  apply wpAny_newFunctionEnv_cells S.kind kinds
  intro env he s1 x
  subst he
  refine And.intro (lim.keeps x.toInCall.keep) (codeAny_func ?_)
  obtain ⟨t, ht, hq⟩ := body cdv A outer s H vs Q (room.deeper _) quiet want
  have I := inv_start (CX := CX0) (E := E0) S room.hd e0 (size want) rel x
  apply wpAny_mono (ht.nox.run [] s1 (start N vs) H _ I hq)
  · intro fl s' hs
    cases fl with
    | ret u =>
      obtain ⟨v, σ', H', J, rv, q⟩ := hs
      exact Exists.intro v ⟨H', J.os, J.bare, J.base, J.hok, rv, q⟩
    | next =>
      obtain ⟨σ', H', J, q⟩ := hs
      exact Exists.intro V.non ⟨H', J.os, J.bare, J.base, J.hok, rfl, q⟩
    | brk => exact hs.elim fun _ h => h.elim fun _ h => h.2.elim
    | cont => exact hs.elim fun _ h => h.elim fun _ h => h.2.elim
  · intro e s' hs
    exact hs
end
section
variable {X : Cx} {k : Nat} {f : Addr} {fd : FuncData} {ps : List Str} {sp : Sp} {x : Str} {p pos : Pos} {e : Expr} {es : List Expr} {t : TA}
theorem pe_callG (F : FnG X.prog X.w X.K X.mg X.base k f fd ps sp) (room : Room k X.A) (quiet : Quiet X.A) (hg : Gl X x) (hm : X.mg x = some (.ref f)) (keep : PySem.W.keepIn X.K (.ref f) = true) (bind : Binds X.K fd ps [])
    (args : PA X (e :: es) t) (hdb : (x == ("__debug__" : Str)) = false := by decide) (star : starEach (e :: es) X.env = (false, eval e X.env) :: starEach es X.env := by rfl) (plain : (backTo pos (starEach es X.env)).any (·.1) = false := by rfl) :
    PE X (.Call (.Name x p) (e :: es) [] pos) (tCall sp [] E0 t) := by
  constructor
  intro pins s σ H Q I h
  apply wpAny_Call_Name_kw
  apply ld_glob I hg hm _ hdb
  apply PySem.W.callWith_K (h₀ := X.base) I.ok.mod.kin keep _ star plain
  apply thn (args.run pos pins s σ H _ I h)
  rintro us s1 ⟨vs, H1, I1, rel, q⟩
  refine And.intro I1.kIn ?_
  have q' : sp vs H1 Q E0 := by
    have z := q
    rw [List.append_nil] at z
    exact z
  have same : us.length = ps.length := rel.length.symm.trans (F.size q')
  have b := bind s1 us I1.kIn (by rw [List.append_nil]; exact same)
  rw [List.append_nil] at b
  apply wpAny_call
  apply codeAny_mono (F.go room quiet I1.env0 b rel q')
  intro r s' hr
  match r, hr with
  | .error _, hr => exact hr.elim
  | .ok (.ret u), hr => exact I1.after hr
  | .ok .next, hr => exact False.elim hr
  | .ok .brk, hr => exact False.elim hr
  | .ok .cont, hr => exact False.elim hr
end
/-! ### repr of data at any depth -/
structure Sm (n dp : Nat) (d : PyData) : Prop where
  shows : d.showable = true
  short : d.leavesShort 40 = true
  small : d.weight ≤ n
  flat : d.depth ≤ dp
theorem Sm.mono {n m dp dq : Nat} {d : PyData} (h : Sm n dp d) (h1 : n ≤ m) (h2 : dp ≤ dq) : Sm m dq d := ⟨h.shows, h.short, Nat.le_trans h.small h1, Nat.le_trans h.flat h2⟩
theorem Sm.none : Sm 0 0 .none := ⟨rfl, rfl, Nat.le_refl _, Nat.le_refl _⟩
theorem Sm.bool (b : Bool) : Sm 0 0 (.bool b) := ⟨rfl, rfl, Nat.le_refl _, Nat.le_refl _⟩
theorem log2_small {i : Int} (h : i.natAbs < 10 ^ 30) : i.natAbs.log2 < 100 := PySem.Flt.log2_lt_of (by decide) (Nat.lt_trans h (by decide))
theorem Sm.int {i : Int} (h : i.natAbs < 10 ^ 30) : Sm 100 0 (.int i) := by
  have l := log2_small h
  refine ⟨decide_eq_true (Nat.lt_trans l (by decide)), decide_eq_true ?_, ?_, Nat.le_refl _⟩
  · have q := int_text_length_le10 (a := i) (k := 30) (by decide) h
    show (Str.ofString (toString i)).length ≤ 40
    rw [PySem.ofString_length]
    exact Nat.le_trans q (by decide)
  · show (if i == 0 then 0 else i.natAbs.log2 + 1) ≤ 100
    split <;> omega
theorem smAll {n dp : Nat} : ∀ {ds : List PyData}, (∀ d ∈ ds, Sm n dp d) → PyData.showableAll ds = true ∧ PyData.leavesShortAll 40 ds = true ∧ PyData.weightAll ds ≤ ds.length * (n + 1) ∧ PyData.depthAll ds ≤ dp
  | [], _ => ⟨rfl, rfl, Nat.zero_le _, Nat.zero_le _⟩
  | d :: ds, h => by
    obtain ⟨a, b, c, e⟩ := smAll (ds := ds) fun x hx => h x (List.mem_cons_of_mem _ hx)
    have z := h d List.mem_cons_self
    refine ⟨?_, ?_, ?_, ?_⟩
    · show (d.showable && PyData.showableAll ds) = true
      rw [z.shows, a]
      rfl
    · show (d.leavesShort 40 && PyData.leavesShortAll 40 ds) = true
      rw [z.short, b]
      rfl
    · show d.weight + 1 + PyData.weightAll ds ≤ (ds.length + 1) * (n + 1)
      have := z.small
      rw [Nat.add_mul]
      omega
    · show max d.depth (PyData.depthAll ds) ≤ dp
      exact Nat.max_le.mpr ⟨z.flat, e⟩
theorem Sm.tup {n dp : Nat} {ds : List PyData} (h : ∀ d ∈ ds, Sm n dp d) : Sm (ds.length * (n + 1)) (dp + 1) (.tuple ds) :=
  let ⟨a, b, c, e⟩ := smAll h
  ⟨a, b, c, Nat.succ_le_succ e⟩
theorem Sm.lst {n dp : Nat} {ds : List PyData} (h : ∀ d ∈ ds, Sm n dp d) : Sm (ds.length * (n + 1)) (dp + 1) (.list ds) :=
  let ⟨a, b, c, e⟩ := smAll h
  ⟨a, b, c, Nat.succ_le_succ e⟩
theorem Sm.fits {n dp : Nat} {d : PyData} (h : Sm n dp d) (hn : n ≤ 300000) : d.shown.length ≤ sizeLine := by
  have q := PyData.shown_le 40 (by decide) d h.short
  have := h.small
  have e : sizeLine = 16777216 := by decide
  rw [e]
  omega
/-- data with dicts in it; its lists stand in the heap by themselves -/
def keyD : Key → PyData
  | .inl i => .int i
  | .inr x => .str x
mutual
inductive Dv (K : PySem.W.Frag) (H : Hp) : V → PyData → Prop
  | non : Dv K H .non .none
  | bl (b : Bool) : Dv K H (.bl b) (.bool b)
  | int (i : Int) : Dv K H (.int i) (.int i)
  | str (x : Str) : Dv K H (.str x) (.str x)
  | lst {a : Addr} {xs : List V} {ds : List PyData} : H a = some (.lst xs) → DvAll K H xs ds → Dv K H (.ref a) (.list ds)
  | tup {a : Addr} {xs : List V} {ds : List PyData} : H a = some (.tup xs) → DvAll K H xs ds → Dv K H (.ref a) (.tuple ds)
  | dic {a : Addr} {kvs : List (Key × V)} {ds : List PyData} : H a = some (.dK kvs) → DvAll K H (kvs.map (·.2)) ds → Dv K H (.ref a) (.dict ((kvs.map fun p => keyD p.1).zip ds))
inductive DvAll (K : PySem.W.Frag) (H : Hp) : List V → List PyData → Prop
  | nil : DvAll K H [] []
  | cons {v : V} {vs : List V} {d : PyData} {ds : List PyData} : Dv K H v d → DvAll K H vs ds → DvAll K H (v :: vs) (d :: ds)
end
theorem DvAll.length {K : PySem.W.Frag} {H : Hp} : ∀ {vs : List V} {ds : List PyData}, DvAll K H vs ds → vs.length = ds.length
  | _, _, .nil => rfl
  | _, _, .cons _ h => by rw [List.length_cons, List.length_cons, h.length]
theorem keys_read {P : Program} {w : World} {h : Heap} : ∀ {es : List DictEntry} {vs : List (Key × Value)}, Pairs (mixKind P w) es vs → ReadsAll h (es.map (·.key)) (vs.map fun p => keyD p.1) []
  | _, _, .nil => .nil
  | _, _, .cons (e := e) (kv := kv) hk _ r => by
    have one : Reads h e.key (keyD kv.1) [] := by
      rcases keyIs_shape hk with ⟨i, t, e1, e2⟩ | ⟨x, t, e1, e2⟩
      · rw [e1, e2]
        exact .int i t
      · rw [e1, e2]
        exact .str x t
    exact ReadsAll.cons one (keys_read r)
theorem vals_read {P : Program} {w : World} : ∀ {es : List DictEntry} {vs : List (Key × Value)}, Pairs (mixKind P w) es vs → es.map (·.val) = vs.map (·.2)
  | _, _, .nil => rfl
  | _, _, .cons _ hv r => by rw [List.map_cons, List.map_cons, hv, vals_read r]
theorem kv_vals : ∀ {kvs : List (Key × V)} {vs : List (Key × Value)}, KV kvs vs → Vals (kvs.map (·.2)) (vs.map (·.2)) ∧ (vs.map fun p => keyD p.1) = kvs.map fun p => keyD p.1
  | _, _, .nil => ⟨.nil, rfl⟩
  | _, _, .cons h r => by
    obtain ⟨a, b⟩ := kv_vals r
    refine ⟨.cons h.2 a, ?_⟩
    rw [List.map_cons, List.map_cons, b, h.1]
section
variable {X : Cx} {pins : List (Addr × Obj)} {σ : L2.St} {H : Hp} {s : Shared}
theorem Dv.reads (I : Inv X pins σ H s) (mods : ∃ mm, X.base.Ns sysModules mm) {v : V} {d : PyData} (h : Dv X.K H v d) : ∀ u : Value, RelV v u → ∃ as, Reads s.heap u d as ∧ sysModules ∉ as := by
  have free : H sysModules = none := by
    obtain ⟨mm, o, es, ep, e, _⟩ := mods
    exact (I.bs _ o e).2
  refine Dv.rec (K := X.K) (H := H) (motive_1 := fun v d _ => ∀ u : Value, RelV v u → ∃ as, Reads s.heap u d as ∧ sysModules ∉ as) (motive_2 := fun vs ds _ => ∀ us : List Value, Vals vs us → ∃ as, ReadsAll s.heap us ds as ∧ sysModules ∉ as) ?_ ?_ ?_ ?_ ?_ ?_ ?_ ?_ ?_ h
  · intro u r
    cases r
    exact ⟨_, .none, fun z => nomatch z⟩
  · intro b u r
    cases r
    exact ⟨_, .bool b, fun z => nomatch z⟩
  · intro i u r
    obtain ⟨t, rfl⟩ := r
    exact ⟨_, .int i t, fun z => nomatch z⟩
  · intro x u r
    obtain ⟨t, rfl⟩ := r
    exact ⟨_, .str x t, fun z => nomatch z⟩
  · intro a xs ds e _ ih u r
    cases r
    obtain ⟨_, its, n, rv, q⟩ := I.hok a _ e
    obtain ⟨as, ra, na⟩ := ih _ rv
    refine ⟨a :: as, .list q rfl rfl (by simpa using ra), fun z => ?_⟩
    rcases List.mem_cons.mp z with z | z
    · rw [← z, free] at e
      cases e
    · exact na z
  · intro a xs ds e _ ih u r
    cases r
    obtain ⟨_, its, rv, o, ho, hc, n, hd⟩ := I.hok a _ e
    obtain ⟨as, ra, na⟩ := ih _ rv
    exact ⟨as, .tuple ho hc hd (by simpa using ra), na⟩
  · intro a kvs ds e hall ih u r
    cases r
    obtain ⟨_, hne, vs, kv, o, es, ep, ho, ex, hd, _, prs, _⟩ := I.hok a _ e
    obtain ⟨rv, ek⟩ := kv_vals kv
    obtain ⟨as, ra, na⟩ := ih _ rv
    have len : (kvs.map fun p => keyD p.1).length = ds.length := by
      have z := hall.length
      rw [List.length_map] at z
      rw [List.length_map, z]
    refine ⟨_, .dict ho ex.1 hd (as := []) (bs := as) ?_ ?_, fun z => ?_⟩
    · rw [List.map_fst_zip (by omega), ← ek]
      exact keys_read prs
    · rw [List.map_snd_zip (by omega), vals_read prs]
      exact ra
    · rcases List.mem_cons.mp z with z | z
      · rw [← z] at hne
        exact absurd hne (by decide)
      · exact na z
  · intro us r
    cases r
    exact ⟨_, .nil, fun z => nomatch z⟩
  · intro v vs d ds _ _ ih1 ih2 us r
    cases r with
    | cons r1 r2 =>
      obtain ⟨as, ra, na⟩ := ih1 _ r1
      obtain ⟨bs, rb, nb⟩ := ih2 _ r2
      refine ⟨_, .cons ra rb, fun z => ?_⟩
      rcases List.mem_append.mp z with z | z
      · exact na z
      · exact nb z
theorem call_reprV (mods : ∃ mm, X.base.Ns sysModules mm) (quiet : Quiet X.A) (units : X.A.units + 64 < cLine) : CallR X (.builtin "repr")
    (fun xs H Q => ∃ v d n dp, xs = [v] ∧ Dv X.K H v d ∧ Sm n dp d ∧ n ≤ 300000 ∧ dp ≤ 60 ∧ Q (.str d.shown) H) := by
  intro pins s σ H xs us Q I r h
  obtain ⟨v, d, n, dp, rfl, hd, sm, hn, hdp, q⟩ := h
  obtain ⟨u, rfl, ru⟩ := vals1 r
  have fits := sm.fits hn
  have flat := sm.flat
  obtain ⟨as, rd, off⟩ := Dv.reads I mods hd _ ru
  cases hd with
  | non =>
    cases ru
    exact PySem.P.repr_of_none ⟨.str _, H, I.tok _, ⟨_, rfl⟩, q⟩
  | bl b =>
    cases ru
    exact PySem.P.repr_of_bool ⟨.str _, H, I.tok _, ⟨_, rfl⟩, q⟩
  | int i =>
    obtain ⟨t, rfl⟩ := ru
    exact PySem.P.repr_of_int (of_decide_eq_true sm.shows) ⟨.str _, H, I.tok _, ⟨_, rfl⟩, q⟩
  | str x =>
    obtain ⟨t, rfl⟩ := ru
    exact PySem.P.repr_of_str ⟨.str _, H, I.tok _, ⟨_, rfl⟩, q⟩ fits
  | _ =>
    cases ru
    exact repr_of_reads' rd sm.shows (fun _ => off) quiet (by omega) (fun _ _ e => e) (fun h' t tk more => ⟨.str _, H, I.kept more, ⟨_, rfl⟩, q⟩) fits
end
theorem Dp.noDict {K : PySem.W.Frag} {H : Hp} {v : V} {d : PyData} (h : Dp K H v d) : d.hasDict = false := by
  refine Dp.rec (K := K) (H := H) (motive_1 := fun v d _ => d.hasDict = false) (motive_2 := fun vs ds _ => PyData.hasDictAll ds = false) ?_ ?_ ?_ ?_ ?_ ?_ ?_ ?_ h
  all_goals intros
  all_goals simp_all [PyData.hasDict, PyData.hasDictAll]
section
variable {X : Cx}
theorem call_reprD (quiet : Quiet X.A) (units : X.A.units + 64 < cLine) : CallR X (.builtin "repr")
    (fun xs H Q => ∃ v d n dp, xs = [v] ∧ Dp X.K H v d ∧ Sm n dp d ∧ n ≤ 300000 ∧ dp ≤ 60 ∧ Q (.str d.shown) H) := by
  intro pins s σ H xs us Q I r h
  obtain ⟨v, d, n, dp, rfl, hd, sm, hn, hdp, q⟩ := h
  obtain ⟨u, rfl, ru⟩ := vals1 r
  have fits := sm.fits hn
  have flat := sm.flat
  obtain ⟨as, rd⟩ := Dp.reads I d v u hd ru
  cases hd with
  | non =>
    cases ru
    exact PySem.P.repr_of_none ⟨.str _, H, I.tok _, ⟨_, rfl⟩, q⟩
  | bl b =>
    cases ru
    exact PySem.P.repr_of_bool ⟨.str _, H, I.tok _, ⟨_, rfl⟩, q⟩
  | int i =>
    obtain ⟨t, rfl⟩ := ru
    exact PySem.P.repr_of_int (of_decide_eq_true sm.shows) ⟨.str _, H, I.tok _, ⟨_, rfl⟩, q⟩
  | str x =>
    obtain ⟨t, rfl⟩ := ru
    exact PySem.P.repr_of_str ⟨.str _, H, I.tok _, ⟨_, rfl⟩, q⟩ fits
  | lst h1 h2 =>
    cases ru
    exact repr_of_reads' rd sm.shows (PyData.noDict_hsm (Dp.noDict (Dp.lst h1 h2))) quiet (by omega) (fun _ _ e => e) (fun h' t tk more => ⟨.str _, H, I.kept more, ⟨_, rfl⟩, q⟩) fits
  | tup h1 h2 =>
    cases ru
    exact repr_of_reads' rd sm.shows (PyData.noDict_hsm (Dp.noDict (Dp.tup h1 h2))) quiet (by omega) (fun _ _ e => e) (fun h' t tk more => ⟨.str _, H, I.kept more, ⟨_, rfl⟩, q⟩) fits
end
/-! ### the end of a law row whose def is of the quiet kind -/
theorem quiet_law {P : Program} {w : World} {K : PySem.W.Frag} {mg mb : Str → Option Value} {k : Nat} {fa a : Addr} {fd : FuncData} {x : Str} {sp : Sp} {s₁ : Shared} {vs : List Value} {ns : List Int}
    (inK : K.In s₁.heap) (glob : s₁.heap.Ns mainGlobals mg) (blt : s₁.heap.Ns builtinsNs mb) (bltIs : ∀ y : Str, y ≠ "__name__" → mb y = bootBuiltins y) (lim : s₁.heap.NoLimit) (gens : s₁.gens = #[]) (mods : ∃ mm, s₁.heap.Ns sysModules mm)
    (here : s₁.heap.get? a = some { cls := .type "list", data := .seq vs.toArray }) (whole : IntsAre vs ns) (few : ns.length ≤ sizeLine) (room : Room k callerA)
    (F : ∀ base : Heap, K.In base → base.Ns mainGlobals mg → (∃ mm, base.Ns sysModules mm) → FnG P w K mg base k fa fd [x] sp) (bind : ∀ (s : Shared) (u : Value), BindsTo s fd ⟨[u], []⟩ [(x, u)])
    (want : ∀ H : Hp, Only H → SqL K H a (ns.map V.int) → sp [.ref a] H (fun v _ => v = .bl true) E0) :
    codeAny (model P w) callerA (.call (.ref fa) ⟨[.ref a], []⟩) (fun r s' => r = .ok (.ret (.bool true)) ∧ OldK s₁.heap s'.heap ∧ s'.os = s₁.os ∧ AllBare s'.gens) s₁ := by
  have rel := vals_ints whole
  -- H: the script alone, or nothing
  have main : ∀ H : Hp, Only H → SqL K H a (ns.map V.int) → HOk P w H s₁.heap → (∀ b u, H b = some u → b = a ∧ K.lookup b = none) →
      codeAny (model P w) callerA (.call (.ref fa) ⟨[.ref a], []⟩) (fun r s' => r = .ok (.ret (.bool true)) ∧ OldK s₁.heap s'.heap ∧ s'.os = s₁.os ∧ AllBare s'.gens) s₁ := by
    intro H only sq ok apart
    have untold : ∀ {b o}, s₁.heap.get? b = some o → (b = a → False) → H b = none := by
      intro b o e ne
      cases q : H b with
      | none => rfl
      | some u => exact (ne (apart b u q).1).elim
    have ns1 : ∀ {b m}, s₁.heap.Ns b m → (hidT s₁.heap H).Ns b m := by
      rintro b m ⟨o, es, ep, e, d, r⟩
      refine ⟨o, es, ep, hidT_get e (untold e fun z => ?_), d, r⟩
      subst z
      rw [here] at e
      cases e
      cases d
    have kIn : K.In (hidT s₁.heap H) := by
      intro b o e
      apply hidT_get (inK b o e)
      cases q : H b with
      | none => rfl
      | some u =>
        have z := (apart b u q).2
        rw [e] at z
        cases z
    have lim1 : (hidT s₁.heap H).NoLimit := by
      obtain ⟨mc, h1, h2⟩ := lim
      exact ⟨mc, ns1 h1, h2⟩
    have e0 : Env0 P w K mg (hidT s₁.heap H) callerA [] s₁ H := {
      frames := rfl, mod := ⟨kIn, ns1 glob, ⟨mb, ns1 blt, bltIs⟩, lim1⟩, bs := fun _ _ e => of_hidT e, bsz := Nat.le_of_eq (hidT_size _ _), funs := True.intro, frf := (fun _ hb => nomatch hb), hok := ok, bare := .of_eq gens }
    apply codeAny_mono ((F _ kIn (ns1 glob) (mods.elim fun mm h => ⟨mm, ns1 h⟩)).go (us := [.ref a]) (vs := [.ref a]) room rfl e0 (bind s₁ _) (.cons rfl .nil) (want H only sq))
    intro r s' hr
    match r, hr with
    | .error _, hr => exact hr.elim
    | .ok .next, hr => exact False.elim hr
    | .ok .brk, hr => exact False.elim hr
    | .ok .cont, hr => exact False.elim hr
    | .ok (.ret u), hr =>
      obtain ⟨v, H', os, bare, un, ok', rv, q⟩ := hr
      cases (show v = V.bl true from q)
      cases (show u = Value.bool true from rv)
      refine ⟨rfl, OldK.of_keep ?_, os, bare⟩
      intro b o e
      cases only b with
      | inl n => exact un.keep b o e n (fun z => nomatch z) (fun z => nomatch z)
      | inr n =>
        obtain ⟨ob, xs, z⟩ := n
        have e1 := (ok b _ z).1
        have e2 := (ok' b _ (un.frzs b ob _ z)).1
        rw [e] at e1
        cases e1
        exact e2
  have small : (ns.map V.int).length ≤ sizeLine := by rw [List.length_map]; exact few
  cases known : K.lookup a with
  | some o =>
    have e := inK a o known
    rw [here] at e
    cases e
    have sz : vs.length ≤ sizeLine := by rw [← rel.length]; exact small
    exact main (fun _ => none) (fun _ => .inl rfl) (.inr ⟨_, vs.toArray, _, known, rfl, rfl, rfl, by simpa using sz, by simpa using rel⟩) (fun _ _ z => nomatch z) (fun _ _ z => nomatch z)
  | none =>
    have at1 : ∀ {b u}, (if b = a then some (HO.frz { cls := .type "list", data := .seq vs.toArray } (.lst (ns.map V.int))) else none) = some u → b = a := by
      intro b u z
      by_cases hb : b = a
      · exact hb
      · rw [if_neg hb] at z
        cases z
    refine main (fun b => if b = a then some (.frz { cls := .type "list", data := .seq vs.toArray } (.lst (ns.map V.int))) else none) (fun b => ?_) (.inl (.inr ⟨{ cls := .type "list", data := .seq vs.toArray }, if_pos rfl⟩)) (fun b u z => ?_) (fun b u z => ?_)
    · by_cases hb : b = a
      · exact .inr ⟨_, _, if_pos hb⟩
      · exact .inl (if_neg hb)
    · have hb := at1 z
      subst hb
      have z2 := (if_pos rfl).symm.trans z
      cases z2
      exact ⟨here, small, vs, _, rel, here⟩
    · have hb := at1 z
      subst hb
      exact ⟨rfl, known⟩
theorem quiet_walk {l : PySem.W.OpenLaw} {n k : Nat} {q : Program} {loose : List Str} {XP : (Str → Option Value) → Heap → Prop} {YP : World → Heap → Prop} {d : DefRec} {K : Params → PySem.W.Frag} {sp : World → Sp} {x : Str}
    (noImport : importsNone q = true) (most : l.most = some n) (n2 : n ≤ sizeLine) (defaults : d.params.defaults = []) (room : Room k callerA) (hY : ∀ (w : World) (h : Heap), YP w h → (K w.params).In h)
    (F : ∀ (w : World) (mg : Str → Option Value) (fa : Addr) (h : Heap), (K w.params).In h → h.Ns mainGlobals mg → mg d.name = some (.ref fa) →
      ∃ fd : FuncData, (∀ (s : Shared) (u : Value), BindsTo s fd ⟨[u], []⟩ [(x, u)]) ∧ ∀ base : Heap, (K w.params).In base → base.Ns mainGlobals mg → (∃ mm, base.Ns sysModules mm) → FnG l.prog w (K w.params) mg base k fa fd [x] (sp w))
    (want : ∀ (w : World) (H : Hp) (a : Addr) (ns : List Int), ns.length ≤ n → Only H → SqL (K w.params) H a (ns.map V.int) → sp w [.ref a] H (fun v _ => v = .bl true) E0) :
    PySem.W.WalkO q loose XP YP l.row.toRowW d [] (fun f vs => PySem.call f vs) := by
  apply Att.attach_call most defaults
  intro w s₀ s₁ mg mb fa o pm cd doc a vs ns G Y ho hd hcd hmg hobj hints hlen hg
  obtain ⟨fd, hb, hF⟩ := F w mg fa _ (hY w _ Y) G.T.g hmg
  exact quiet_law (hY w _ Y) G.T.g G.T.b G.T.builtins G.T.nolimit hg ((G.T.seer noImport).mods.elim fun mm h => ⟨mm, h.1⟩) hobj hints (Nat.le_trans hlen n2) room hF hb fun H o1 s1 => want w H a ns hlen o1 s1

/-! ### a op1 b op2 c op3 .. : chains of any length -/
section
variable {X : Cx}
structure PCh (X : Cx) (ops : List CmpOp) (es : List Expr) (t : V → TE) : Prop where
  run : ∀ (pos : Pos) (pins : List (Addr × Obj)) (s : Shared) (σ : L2.St) (H : Hp) (Q : VK) (x : V) (v : Value), Inv X pins σ H s → RelV x v → t x σ H Q → wpAny (model X.prog X.w) X.A (compareChain pos v ops (evalEach es X.env)) (EP X pins σ Q) X.xe s
structure PChT (X : Cx) (ops : List CmpOp) (es : List Expr) (t : V → TE) : Prop where
  run : ∀ (pos : Pos) (pins : List (Addr × Obj)) (s : Shared) (σ : L2.St) (H : Hp) (Q : Bool → Hp → Prop) (x : V) (v : Value), Inv X pins σ H s → RelV x v → (t x σ H fun y H' => ∃ k, y = .bl k ∧ Q k H') → wpAny (model X.prog X.w) X.A (testChain pos v ops (evalEach es X.env)) (TP X pins σ Q) X.xe s
def tLast (r : R2) (tb : TE) : V → TE := fun x σ H Q => tb σ H fun y H2 => r x y H2 Q
def tLink (r : R2) (tb : TE) (rest : V → TE) : V → TE := fun x σ H Q => tb σ H fun y H2 => r x y H2 fun z H3 => ∃ k, z = .bl k ∧ (if k = true then rest y σ H3 Q else Q (.bl false) H3)
def tCh (ta : TE) (rest : V → TE) : TE := fun σ H Q => ta σ H fun x H1 => rest x σ H1 Q
theorem pch_last {op : CmpOp} {r : R2} {b : Expr} {tb : TE} (ho : OpR X (compareOp op) r) (hb : PE X b tb) : PCh X [op] [b] (tLast r tb) :=
  ⟨fun pos pins s σ H Q x v I rx h => chain_last (thn (hb.run pins s σ H _ I h) fun u s2 ⟨y, H2, I2, r2, q2⟩ => ho pins s2 σ H2 x y v u Q I2 rx r2 q2)⟩
theorem pch_link {op op' : CmpOp} {ops : List CmpOp} {r : R2} {b b' : Expr} {bs : List Expr} {tb : TE} {rest : V → TE} (ho : OpR X (compareOp op) r) (hb : PE X b tb) (hr : PCh X (op' :: ops) (b' :: bs) rest) : PCh X (op :: op' :: ops) (b :: b' :: bs) (tLink r tb rest) := by
  refine ⟨fun pos pins s σ H Q x v I rx h => ?_⟩
  refine chain_link (thn (hb.run pins s σ H _ I h) fun u s2 ⟨y, H2, I2, r2, q2⟩ => thn (ho pins s2 σ H2 x y v u _ I2 rx r2 q2) fun d s3 ⟨z, H3, I3, r3, k, e, q3⟩ => ?_)
  subst e
  cases r3
  refine wpAny_truthy_bool ?_
  cases k with
  | false => exact ite_ff ⟨.bl false, H3, I3, rfl, q3⟩
  | true => exact ite_tt (hr.run pos pins s3 σ H3 Q y u I3 r2 q3)
theorem pe_chN {op op' : CmpOp} {ops : List CmpOp} {a b b' : Expr} {bs : List Expr} {pos : Pos} {ta : TE} {rest : V → TE} (ha : PE X a ta) (hr : PCh X (op :: op' :: ops) (b :: b' :: bs) rest)
    (hm : lastMarks (op :: op' :: ops) (b :: b' :: bs) = false := by with_unfolding_all rfl) : PE X (.Compare a (op :: op' :: ops) (b :: b' :: bs) pos) (tCh ta rest) :=
  ⟨fun pins s σ H Q I h => Compare_chain (thn (ha.run pins s σ H _ I h) fun v s1 ⟨x, H1, I1, r1, q1⟩ => hr.run pos pins s1 σ H1 Q x v I1 r1 q1) hm⟩
theorem pchT_last {op : CmpOp} {r : R2} {b : Expr} {tb : TE} (ho : OpR X (compareOp op) r) (hb : PE X b tb) : PChT X [op] [b] (tLast r tb) := by
  refine ⟨fun pos pins s σ H Q x v I rx h => ?_⟩
  refine test_last (thn (hb.run pins s σ H _ I h) fun u s2 ⟨y, H2, I2, r2, q2⟩ => thn (ho pins s2 σ H2 x y v u _ I2 rx r2 q2) fun d s3 ⟨z, H3, I3, r3, k, e, q3⟩ => ?_)
  subst e
  cases r3
  exact wpAny_truthy_bool ⟨H3, I3, q3⟩
theorem pchT_link {op op' : CmpOp} {ops : List CmpOp} {r : R2} {b b' : Expr} {bs : List Expr} {tb : TE} {rest : V → TE} (ho : OpR X (compareOp op) r) (hb : PE X b tb) (hr : PChT X (op' :: ops) (b' :: bs) rest) : PChT X (op :: op' :: ops) (b :: b' :: bs) (tLink r tb rest) := by
  refine ⟨fun pos pins s σ H Q x v I rx h => ?_⟩
  refine test_link (thn (hb.run pins s σ H _ I h) fun u s2 ⟨y, H2, I2, r2, q2⟩ => thn (ho pins s2 σ H2 x y v u _ I2 rx r2 q2) fun d s3 ⟨z, H3, I3, r3, k, e, q3⟩ => ?_)
  subst e
  cases r3
  refine wpAny_truthy_bool ?_
  cases k with
  | false =>
    obtain ⟨k', e', q'⟩ := q3
    cases e'
    exact ite_ff ⟨H3, I3, q'⟩
  | true => exact ite_tt (hr.run pos pins s3 σ H3 Q y u I3 r2 q3)
theorem pt_chN {op op' : CmpOp} {ops : List CmpOp} {a b b' : Expr} {bs : List Expr} {pos : Pos} {ta : TE} {rest : V → TE} (ha : PE X a ta) (hr : PChT X (op :: op' :: ops) (b :: b' :: bs) rest)
    (hm : lastMarks (op :: op' :: ops) (b :: b' :: bs) = false := by with_unfolding_all rfl) : PT X (.Compare a (op :: op' :: ops) (b :: b' :: bs) pos) (tTest (tCh ta rest)) :=
  ⟨fun pins s σ H Q I h => isTrue_chain (thn (ha.run pins s σ H _ I h) fun v s1 ⟨x, H1, I1, r1, q1⟩ => hr.run pos pins s1 σ H1 Q x v I1 r1 q1) hm⟩
end

theorem pi_listK {X : Cx} {K : PySem.W.Frag} {tg l : Expr} {tl : TE} (hK : X.K = K) (hl : PE X l tl) : PI X tg l (iList K tl) := hK ▸ pi_list hl
theorem pi_tupK {X : Cx} {K : PySem.W.Frag} {tg l : Expr} {tl : TE} (hK : X.K = K) (hl : PE X l tl) : PI X tg l (iTup K tl) := hK ▸ pi_tup hl

/-! ### enumerate of a tuple -/
section
open Sem (wp)
set_option maxHeartbeats 4000000 in
theorem enum_of_tuple (t : Addr) (items : Array Value) : Meets (Builtin.«enumerate.__new__» ⟨[.type "enumerate", .ref t], []⟩) (fun _ R s => s.heap.IsTuple t items ∧
    R (.ok (.ret (.ref (s.heap.push { cls := .type "tuple_iterator", data := .fields #[.ref t, .int 0 0] }).objs.size)))
      { s with heap := (s.heap.push { cls := .type "tuple_iterator", data := .fields #[.ref t, .int 0 0] }).push { cls := .type "enumerate", data := .fields #[.none, .bool false, .ref s.heap.objs.size, rawInt 0, .none, .none] } }) := by
  refine .of_wp fun prog w A R s h => ?_
  obtain ⟨hp, g, d, tk, os⟩ := s
  obtain ⟨isT, h⟩ := h
  have sub := sub_enumerate
  have start : ∀ {A' : Around} {E : Value → Shared → Prop} {Q : Value → Shared → Prop}, Q (.ref hp.objs.size) ⟨hp.push { cls := .type "tuple_iterator", data := .fields #[.ref t, .int 0 0] }, g, d, tk, os⟩ → wpAny (model prog w) A' (pyIter (.ref t)) Q E ⟨hp, g, d, tk, os⟩ := by
    intro A' E Q q
    exact (begins_tuple t items).iter prog w A' E ⟨hp, g, d, tk, os⟩ Q isT q
  wp_walk using start
  refine wpAny_stack_any fun st => wpAny_pure ?_
  split
  · rename_i cc _ _ _ _ _
    cases (cc == Value.type "enumerate") <;> (wp_walk using start; exact Exists.intro _ ⟨rfl, h⟩)
  · wp_walk using start
    exact Exists.intro _ ⟨rfl, h⟩
end
theorem call_enumT {prog : Program} {w : World} {A : Around} {E : Value → Shared → Prop} {s : Shared} {t : Addr} {items : Array Value} {Q : Value → Shared → Prop} (isT : s.heap.IsTuple t items)
    (h : ∀ h', IsEnum h' (s.heap.objs.size + 1) s.heap.objs.size 0 .none → h'.IsTupleIter s.heap.objs.size t 0 → (∀ b o, s.heap.get? b = some o → h'.get? b = some o) → Q (.ref (s.heap.objs.size + 1)) { s with heap := h' }) :
    wpAny (model prog w) A (call (.type "enumerate") [.ref t]) Q E s := by
  refine callType_new F.called_enumerate (by decide) (F.typeCall_enumerate_1 _) (F.newCall_enumerate_1 _) (fun obj => F.args_object_init_2 obj _) F.entry_enumerate_new (enum_of_tuple t items) (And.intro isT ?_)
  have size : (s.heap.push { cls := .type "tuple_iterator", data := .fields #[.ref t, .int 0 0] }).objs.size = s.heap.objs.size + 1 := Heap.size_push ..
  show _ ∧ _
  rw [size]
  have made := Heap.get?_push_size (s.heap.push { cls := .type "tuple_iterator", data := .fields #[.ref t, .int 0 0] }) (o := { cls := .type "enumerate", data := .fields #[.none, .bool false, .ref s.heap.objs.size, rawInt 0, .none, .none] }) rfl
  rw [size] at made
  refine ⟨⟨_, made, rfl⟩, h _ made ⟨_, Heap.get?_push_of_some _ (Heap.get?_push_size _ rfl), rfl, rfl⟩ ?_⟩
  intro b o e
  exact Heap.get?_push_of_some _ (Heap.get?_push_of_some _ e)
/-- the tuple at a, each item in a new pair with its place -/
def IteT (K : PySem.W.Frag) (a : Addr) (N : Nat) : It where
  go := fun i H => ∃ (xs : List V) (x : V), SqT K H a xs ∧ xs[i]? = some x ∧ xs.length = N
  yld := fun i H v H' => ∃ t x, v = .ref t ∧ H t = none ∧ H' = upd H t (.tup [.int (i : Nat), x]) ∧ ∀ xs, SqT K H a xs → xs[i]? = some x
  stop := fun i H => ∃ xs : List V, SqT K H a xs ∧ xs.length = N ∧ N ≤ i
theorem turn_enumT {P : Program} {w : World} {K : PySem.W.Frag} {elts : List Expr} {kk : Nat} {tpos : Pos} (a e it : Addr) (N : Nat) :
    Turn P w K (.Tuple elts kk tpos) (IteT K a N) [e, it] e (fun i h => (∃ old, IsEnum h e it ((i : Nat) : Int) old) ∧ h.IsTupleIter it a i ∧ e ≠ it ∧ i ≤ N) := by
  have two : ∀ {b : Addr}, b ∈ [e, it] → b = e ∨ b = it := fun hb => by simpa using hb
  constructor
  · simp
  · rintro i h ⟨⟨old, he⟩, ⟨o, ho, hc, hd⟩, _, _⟩ b hb
    rcases two hb with rfl | rfl
    · exact ⟨_, he, fun v q => nomatch q⟩
    · refine ⟨o, ho, fun v q => ?_⟩
      rw [hd] at q
      cases q
  · rintro i h h' ⟨⟨old, he⟩, hi, hne, hN⟩ k
    exact ⟨⟨old, k e (by simp) _ he⟩, hi.at fun o q => k it (by simp) o q, hne, hN⟩
  · intro X hP hw hK hc i pins s σ H E I hf st hg
    subst hP hw hK
    obtain ⟨⟨old, he⟩, hit, hne, hN⟩ := st
    obtain ⟨xs, x, hq, hx, hxN⟩ := hg
    have inside := (List.getElem?_eq_some_iff.mp hx).1
    obtain ⟨its, rv, p, _⟩ := I.tuple hq
    obtain ⟨u, hu, ru⟩ := rv.get hx
    have isT : s.heap.IsTuple a its.toArray := p
    have apart : a ≠ it := by
      rintro rfl
      obtain ⟨o1, q1, c1, _⟩ := hit
      obtain ⟨o2, q2, c2, _⟩ := isT
      rw [q1] at q2
      cases q2
      rw [c1] at c2
      exact absurd (Value.type.inj c2) (by decide)
    have hea : e ≠ a := by
      rintro rfl
      obtain ⟨o2, q2, c2, _⟩ := isT
      rw [he] at q2
      cases q2
      exact absurd (Value.type.inj c2) (by decide)
    have lte : e < s.heap.objs.size := Heap.lt_size he
    have lti : it < s.heap.objs.size := hit.elim fun _ q => Heap.lt_size q.1
    have less : i < its.toArray.size := by
      have z := (List.getElem?_eq_some_iff.mp hu).1
      rw [List.size_toArray]
      exact z
    apply wpAny_pyNext_enum_itemD (Draws.tuple (A := X.A.in1) (I.ok.hd hc) it a apart its.toArray) he ⟨hit, isT⟩ less hne (by simp [hne, hea])
    intro y h' tk hy ho st' hT hsz hk
    have ey : y = u := by
      have z : its[i]? = some y := by simpa using hy
      rw [hu] at z
      exact (Option.some.inj z).symm
    subst ey
    refine ⟨_, rfl, wpAny_letOwnedTupleGo_enum (s := { s with heap := h', toks := tk + 1 }) ho fun h2 he2 sb => ?_⟩
    have kept : ∀ b o, b ∉ [e, it] → s.heap.get? b = some o → h2.get? b = some o := by
      intro b o nb q
      have n1 : b ≠ e := fun z => nb (by simp [z])
      have n2 : b ≠ it := fun z => nb (by simp [z])
      exact (sb.2 b n1).trans (hk b o n1 n2 q)
    have hT2 : h2.get? s.heap.objs.size = some { cls := .type "tuple", data := .seq #[.int i tk, y] } := (sb.2 _ (Nat.ne_of_gt lte)).trans hT
    have I1 : Inv X pins σ (upd H s.heap.objs.size (.tup [.int (i : Nat), x])) { s with heap := h2, toks := tk + 1 } := by
      refine I.turnedNew (ch := [e, it]) kept hf (Nat.le_refl _) ⟨by show 2 ≤ sizeLine; decide, [.int i tk, y], .cons ⟨_, rfl⟩ (.cons ru .nil), ?_⟩
      exact ⟨_, hT2, rfl, _, rfl⟩
    refine ⟨.ref s.heap.objs.size, _, I1, rfl, ⟨_, x, rfl, I.hok.fresh (Nat.le_refl _), rfl, fun ys hys => ?_⟩, ⟨⟨y, ?_⟩, ?_, hne, by omega⟩, fun b hb => ?_⟩
    · rw [I.tuple_inj hys hq]
      exact hx
    · have cast : ((i + 1 : Nat) : Int) = (i : Int) + 1 := by omega
      rw [cast]
      exact he2
    · exact st'.1.at fun o q => (sb.2 it hne.symm).trans q
    · have lt : b < s.heap.objs.size := by
        rcases two hb with rfl | rfl
        · exact lte
        · exact lti
      rw [upd_ne (Nat.ne_of_lt lt)]
      exact (hf b hb).1
  · intro X hP hw hK hc i pins s σ H E I hf st hg
    subst hP hw hK
    obtain ⟨⟨old, he⟩, hit, hne, hN⟩ := st
    obtain ⟨xs, hq, hxN, hx⟩ := hg
    obtain ⟨its, rv, p, _⟩ := I.tuple hq
    have isT : s.heap.IsTuple a its.toArray := p
    have apart : a ≠ it := by
      rintro rfl
      obtain ⟨o1, q1, c1, _⟩ := hit
      obtain ⟨o2, q2, c2, _⟩ := isT
      rw [q1] at q2
      cases q2
      rw [c1] at c2
      exact absurd (Value.type.inj c2) (by decide)
    obtain ⟨f0, f1, f2, f3, f4, f5⟩ := hf it (by simp)
    have len := rv.length
    have at1 : i = its.toArray.size := by
      rw [List.size_toArray]
      omega
    subst at1
    apply wpAny_pyNext_enum_endD (Draws.tuple (A := X.A.in1) (I.ok.hd hc) it a apart its.toArray) he ⟨hit, isT⟩
    intro h' eb
    exact And.intro rfl (I.turned (t' := s.toks) (fun b o hb q => eb b o hb q) f0 f1 f3 f4 f5)
  · rintro A i s Q E ⟨⟨_, he⟩, _⟩ h
    exact wpAny_pyIter_enum he h
def iEnumT (K : PySem.W.Frag) (ta : TA) : TI := fun σ H R => ta σ H fun vs H1 => ∃ a xs, vs = [.ref a] ∧ SqT K H1 a xs ∧ R (IteT K a xs.length) H1
theorem pi_enumT {X : Cx} {e : Expr} {ta : TA} {p pos tpos : Pos} {elts : List Expr} {kk : Nat} (hg : Gl X "enumerate") (hm : X.mg "enumerate" = none) (args : PA X [e] ta) (star : starEach [e] X.env = [(false, eval e X.env)] := by rfl) :
    PI X (.Tuple elts kk tpos) (.Call (.Name "enumerate" p) [e] [] pos) (iEnumT X.K ta) := by
  constructor
  intro pins s σ H R I h
  refine Call_ (ld_blt I hg hm boot_enumerate ?_)
  refine PyProof.Rows.callWith_type1 (thn (args.run pos pins s σ H _ I h) ?_) star rfl
  rintro us s1 ⟨vs, H1, I1, rel, a, xs, rfl, sq, q⟩
  obtain ⟨u, rfl, ru⟩ := vals1 rel
  cases ru
  obtain ⟨its, rv, isT, _⟩ := I1.tuple sq
  refine call_enumT (items := its.toArray) isT fun h' he hit hk => wpAny_pyIter_enum he ?_
  have fresh : ∀ b ∈ [s1.heap.objs.size + 1, s1.heap.objs.size], s1.heap.objs.size ≤ b := by
    intro b hb
    have z : b = s1.heap.objs.size + 1 ∨ b = s1.heap.objs.size := by simpa using hb
    rcases z with rfl | rfl
    · exact Nat.le_add_right _ _
    · exact Nat.le_refl _
  exact ⟨_, _, _, _, H1, rfl, I1.kept hk, turn_enumT a (s1.heap.objs.size + 1) s1.heap.objs.size xs.length, ⟨⟨.none, he⟩, hit, Nat.succ_ne_self _, Nat.zero_le _⟩, fun b hb => I1.fpOk (fresh b hb) (I1.hok.fresh (fresh b hb)), q⟩

/-! ### t[::-1] of a tuple; xs == [], xs != [] of a list that may hold anything -/
section
open HT
variable {prog : Program} {w : World} {A : Around} {E : Value → Shared → Prop} {s : Shared}
theorem adjust_rev (n : Nat) : Builtin.Slice.sliceAdjust none none (-1) (n : Int) = ((n : Int) - 1, -1) := by
  unfold Builtin.Slice.sliceAdjust
  have h1 : (-1 : Int) < 0 := by decide
  simp only [h1, if_true]
theorem places_rev (n : Nat) : Builtin.Slice.slicePlaces ((n : Int) - 1) (-1) (-1) = n := by
  unfold Builtin.Slice.slicePlaces
  have h1 : ¬ ((-1 : Int) > 0) := by decide
  simp only [h1, if_false]
  have h2 : (-(-1) : Int) = 1 := by decide
  rw [h2, Int.ediv_one]
  split <;> omega
theorem sliceApplied_rev {sl : Addr} {vl vu vs : Value} {n : Nat} {Q : Int × Int × Nat → Shared → Prop} (hs : s.heap.IsSliceOf sl vl vu vs) (pl : IsPart vl none) (pu : IsPart vu none) (pt : IsPart vs (some (-1)))
    (h : Q ((n : Int) - 1, -1, n) s) : wpAny (model prog w) A (Builtin.Slice.sliceApplied (.ref sl) (pure (n : Int))) Q E s := by
  obtain ⟨os, hos, hcs, hds⟩ := id hs
  unfold Builtin.Slice.sliceApplied Builtin.Slice.sliceFields
  refine wpAny_bind (wpAny_bind (wpAny_field hos hds (x := vl) rfl (wpAny_bind (wpAny_field hos hds (x := vu) rfl (wpAny_bind (wpAny_field hos hds (x := vs) rfl (wpAny_pure ?_)))))))
  refine wpAny_bind (slicePart_ pt ?_)
  show wpAny _ _ (if ((-1 : Int) == 0) = true then _ else _) _ _ s
  rw [if_neg (by decide)]
  refine wpAny_bind (slicePart_ pl (wpAny_bind (slicePart_ pu (wpAny_bind (wpAny_pure ?_)))))
  show wpAny _ _ (match Builtin.Slice.sliceAdjust none none (-1) (n : Int) with | (lo, hi) => pure (lo, (-1 : Int), Builtin.Slice.slicePlaces lo hi (-1))) _ _ s
  rw [adjust_rev]
  show wpAny _ _ (pure ((n : Int) - 1, (-1 : Int), Builtin.Slice.slicePlaces ((n : Int) - 1) (-1) (-1))) _ _ s
  rw [places_rev]
  exact wpAny_pure h
theorem pick_rev (xs : Array Value) : ((List.range xs.size).filterMap fun (k : Nat) => xs[((xs.size : Int) - 1 + (k : Int) * (-1)).toNat]?) = xs.toList.reverse := by
  have e : ∀ m : Nat, m ≤ xs.size → ((List.range m).filterMap fun (k : Nat) => xs[((xs.size : Int) - 1 + (k : Int) * (-1)).toNat]?) = xs.toList.reverse.take m := by
    intro m
    induction m with
    | zero => intro _; rfl
    | succ m ih =>
      intro hm
      rw [List.range_succ, List.filterMap_append, ih (by omega), List.take_add_one]
      congr 1
      have e1 : ((xs.size : Int) - 1 + (m : Int) * (-1)).toNat = xs.size - 1 - m := by omega
      have e2 : xs.toList.reverse[m]? = xs[xs.size - 1 - m]? := by
        rw [List.getElem?_reverse (by rw [Array.length_toList]; omega), Array.length_toList, Array.getElem?_toList]
      rw [e2]
      have lt : xs.size - 1 - m < xs.size := by omega
      simp only [List.filterMap_cons, List.filterMap_nil, e1]
      rw [Array.getElem?_eq_getElem lt]
      rfl
  rw [e _ (Nat.le_refl _), List.take_of_length_le (by rw [List.length_reverse, Array.length_toList]; exact Nat.le_refl _)]
theorem getItem_tuple_rev {t sl : Addr} {items : Array Value} {vl vu vs : Value} {Q : Value → Shared → Prop} (ht : IsTup s.heap t items) (hs : s.heap.IsSliceOf sl vl vu vs) (pl : IsPart vl none) (pu : IsPart vu none) (pt : IsPart vs (some (-1)))
    (h : Q (.ref s.heap.objs.size) { s with heap := s.heap.push { cls := .type "tuple", data := .seq items.toList.reverse.toArray } })
    (hsz : items.size ≤ sizeLine) : wpAny (model prog w) A (getItem (.ref t) (.ref sl)) Q E s := by
  have htake : sizeOk (.seq items.toList.reverse.toArray) := by
    show items.toList.reverse.toArray.size ≤ sizeLine
    rw [List.size_toArray, List.length_reverse, Array.length_toList]
    omega
  obtain ⟨os, hos, hcs, hds⟩ := id hs
  have hTs : s.TypeIs (.ref sl) "slice" := ⟨os, hos, hcs⟩
  unfold getItem
  try with_reducible refine wpAny_holding ?_
  first | refine wpAny_bind (wpAny_pure ?_) | skip
  refine wpAny_bind (wpAny_sequenceKey ht.typeIs (by decide) ?_)
  refine wpAny_bind (wpAny_callSpecial?_slot (name := Str.ofString "__getitem__") ht.typeIs PyProof.Rows.slot_tuple_getitem
    (wpAny_call_entry PyProof.Rows.slot_tuple_getitem ht.typeIs entry_tuple_getitem ?_ (args_tuple_getitem _ _)))
  show wpAny _ _ (Builtin.Tuple.tupleItemsOf (.ref t) >>= _) _ _ s
  refine wpAny_bind (tupleItemsOf_ ht ?_)
  refine wpAny_bind (wpAny_typeOf hTs ?_)
  rw [if_pos (by decide)]
  refine wpAny_bind (sliceApplied_rev hs pl pu pt ?_)
  have hno : ¬ ((((items.size : Int) - 1) == 0 && (-1 : Int) == 1 && items.size == items.size) = true) := by
    intro q
    rw [Bool.and_eq_true, Bool.and_eq_true] at q
    exact absurd q.1.2 (by decide)
  show wpAny _ _ (if (((items.size : Int) - 1) == 0 && (-1 : Int) == 1 && items.size == items.size) = true then _ else _) _ _ s
  rw [if_neg hno, pick_rev]
  first
    | exact wpAny_bind (m := Builtin.Tuple.tupleExact _) (wpAny_newObj_type (wpAny_pure ⟨_, rfl, wpAny_pure h⟩) htake)
    | exact wpAny_bind (m := Builtin.Tuple.tupleExact _) (wpAny_newObj_type (wpAny_bind (wpAny_pure (wpAny_pure ⟨_, rfl, wpAny_pure h⟩))) htake)
    | exact wpAny_bind (wpAny_bind (m := Builtin.Tuple.tupleExact _) (wpAny_newObj_type (wpAny_pure (wpAny_pure ⟨_, rfl, wpAny_pure h⟩)) htake))
    | exact wpAny_bind (wpAny_bind (m := Builtin.Tuple.tupleExact _) (wpAny_newObj_type (wpAny_pure ⟨_, rfl, wpAny_pure h⟩) htake))
end
section
variable {X : Cx}
def tRevT (K : PySem.W.Frag) (te : TE) : TE := fun σ H Q => te σ H fun x H1 => ∃ a xs, x = .ref a ∧ SqT K H1 a xs ∧ ∀ p, H1 p = none → Q (.ref p) (upd H1 p (.tup xs.reverse))
theorem pe_revT {e : Expr} {te : TE} {k : Nat} {p1 p2 p3 pos : Pos} (he : PE X e te) : PE X (.Subscript e (.Slice none none (some (.UnaryOp .USub (.Constant (.int 1) k p1) p2)) p3) pos) (tRevT X.K te) := by
  refine ⟨fun pins s σ H Q I h => ?_⟩
  refine Subscript_ (thn (he.run pins s σ H _ I h) fun v s1 ⟨x, H1, I1, r1, q1⟩ => ?_)
  obtain ⟨a, xs, ex, hx, q⟩ := q1
  subst ex
  cases r1
  have hst : PO X (some (.UnaryOp .USub (.Constant (.int 1) k p1) p2)) (tPart (tUn (rU fun i => .int (-i)) (tC (.int 1)))) := po_some (pe_un un_neg pe_int)
  refine wpAny_Slice (thn (po_none.run pins s1 σ H1 (fun o H2 => o = none ∧ H2 = H1) I1 ⟨rfl, rfl⟩) fun vl s2 ⟨l, H2, I2, pl, el, e2⟩ => ?_)
  subst el e2
  refine thn (po_none.run pins s2 σ H2 (fun o H3 => o = none ∧ H3 = H2) I2 ⟨rfl, rfl⟩) fun vu s3 ⟨u, H3, I3, pu, eu, e3⟩ => ?_
  subst eu e3
  refine thn (hst.run pins s3 σ H3 (fun o H4 => o = some (-1) ∧ H4 = H3) I3 ⟨1, rfl, -1, rfl, rfl, rfl⟩) fun vs s4 ⟨o, H4, I4, ps, eo, e4⟩ => ?_
  subst eo e4
  have I5 : Inv X pins σ H4 { s4 with heap := s4.heap.push { cls := .type "slice", data := .fields #[vl, vu, vs] } } := I4.kept (t' := s4.toks) fun b ob q => Heap.get?_push_of_some _ q
  obtain ⟨its, r, ht, hz⟩ := I5.tuple hx
  have hlen := r.length
  show wpAny (model X.prog X.w) X.A (subscriptTail e (.Slice none none (some (.UnaryOp .USub (.Constant (.int 1) k p1) p2)) p3) (.ref a) (.ref s4.heap.objs.size)) (EP X pins σ Q) X.xe { s4 with heap := s4.heap.push { cls := .type "slice", data := .fields #[vl, vu, vs] } }
  refine tail_any (ops := [.ref a, .ref s4.heap.objs.size]) ht.typeIs (PyProof.Rows.slot_tuple_getitem.lookup) ?_ (by with_unfolding_all rfl)
  refine getItem_tuple_rev ht (Heap.IsSliceOf.new _ vl vu vs) pl pu ps ?_ (by rw [List.size_toArray]; omega)
  refine ⟨.ref _, _, I5.laid (t' := s4.toks) (o := .tup xs.reverse) (fun b ob q => Heap.get?_push_of_some _ q) (Nat.le_refl _) ?_, rfl, q _ (I5.hok.fresh (Nat.le_refl _))⟩
  exact ⟨by rw [List.length_reverse]; exact hz, _, r.reverse, IsTup.new _ _⟩
def rEqL (K : PySem.W.Frag) : R2 := fun x y H Q => ∃ (a b : Addr) (xs : List V), x = .ref a ∧ y = .ref b ∧ SqL K H a xs ∧ SqL K H b [] ∧ Q (.bl xs.isEmpty) H
def rNeL (K : PySem.W.Frag) : R2 := fun x y H Q => ∃ (a b : Addr) (xs : List V), x = .ref a ∧ y = .ref b ∧ SqL K H a xs ∧ SqL K H b [] ∧ Q (.bl (!xs.isEmpty)) H
theorem op_eqL (units : X.A.units < cLine) : OpR X (compareOp .Eq) (rEqL X.K) := by
  intro pins s σ H x y v u Q I rx ry h
  obtain ⟨a, b, xs, rfl, rfl, ha, hb, q⟩ := h
  cases rx
  cases ry
  obtain ⟨its, r1, p1, _⟩ := I.list ha
  obtain ⟨its2, r2, p2, _⟩ := I.list hb
  cases r2
  cases r1 with
  | nil =>
    exact SeqAt.eq_listAt (e := fun _ => true) p1.isList p2.isList rfl units (fun j h1 h2 => absurd h2 (Nat.not_lt_zero j)) ⟨.bl true, H, I, rfl, q⟩
  | cons r t =>
    exact SeqAt.eq_list_lengthsAt p1.isList p2.isList (by simp) units ⟨.bl false, H, I, rfl, q⟩
theorem op_neL (units : X.A.units < cLine) : OpR X (compareOp .NotEq) (rNeL X.K) := by
  intro pins s σ H x y v u Q I rx ry h
  obtain ⟨a, b, xs, rfl, rfl, ha, hb, q⟩ := h
  cases rx
  cases ry
  obtain ⟨its, r1, p1, _⟩ := I.list ha
  obtain ⟨its2, r2, p2, _⟩ := I.list hb
  cases r2
  cases r1 with
  | nil =>
    exact SeqAt.RcNeAt.lists (e := fun _ => true) p1.isList p2.isList rfl units (fun j h1 h2 => absurd h2 (Nat.not_lt_zero j)) X.prog X.w X.xe (EP X pins σ Q) ⟨.bl false, H, I, rfl, q⟩
  | cons r t =>
    exact SeqAt.RcNeAt.lists_lengths p1.isList p2.isList (by simp) units X.prog X.w X.xe (EP X pins σ Q) ⟨.bl true, H, I, rfl, q⟩
end

/-! ### x in t, x not in t, for a tuple of data -/
theorem units65 {k : Nat} {A : Around} (r : Room k A) : A.units + 65 < cLine := by
  have := r.un
  omega
section
variable {X : Cx}
def rInT (K : PySem.W.Frag) : R2 := fun x y H Q => ∃ d ds, Dp K H x d ∧ Dp K H y (.tuple ds) ∧ SeqAt.shaped d = true ∧ SeqAt.shaped (.tuple ds) = true ∧ Q (.bl (ds.any fun z => PyData.eqv z d)) H
def rNotInT (K : PySem.W.Frag) : R2 := fun x y H Q => ∃ d ds, Dp K H x d ∧ Dp K H y (.tuple ds) ∧ SeqAt.shaped d = true ∧ SeqAt.shaped (.tuple ds) = true ∧ Q (.bl (!ds.any fun z => PyData.eqv z d)) H
theorem op_inT (units : X.A.units + 65 < cLine) : OpR X (compareOp .In) (rInT X.K) := by
  intro pins s σ H x y v u Q I rx ry ⟨d, ds, dx, dy, sx, sy, q⟩
  obtain ⟨_, r1⟩ := Dp.reads I d x v dx rx
  obtain ⟨_, r2⟩ := Dp.reads I (.tuple ds) y u dy ry
  have l2 : PyData.canLayAll0 ds = true := SeqAt.canLay_of_shaped sy
  exact SeqAt.in_tuple_reads r2 r1 l2 (SeqAt.canLay_of_shaped sx) (room_in_shaped sx units) (Exists.intro (V.bl _) ⟨H, I, rfl, q⟩)
theorem op_notInT (units : X.A.units + 65 < cLine) : OpR X (compareOp .NotIn) (rNotInT X.K) := by
  intro pins s σ H x y v u Q I rx ry ⟨d, ds, dx, dy, sx, sy, q⟩
  obtain ⟨_, r1⟩ := Dp.reads I d x v dx rx
  obtain ⟨_, r2⟩ := Dp.reads I (.tuple ds) y u dy ry
  have l2 : PyData.canLayAll0 ds = true := SeqAt.canLay_of_shaped sy
  exact SeqAt.notIn_tuple_reads r2 r1 l2 (SeqAt.canLay_of_shaped sx) (room_in_shaped sx units) (Exists.intro (V.bl _) ⟨H, I, rfl, q⟩)
end
theorem for_zipU {K : PySem.W.Frag} {a b : Addr} {xs ys : List V} {g : TG} {tb : TS} {D : Ends} {σ : L2.St} {H : Hp} (Pv : Nat → L2.St → Hp → Prop) (h0 : Pv 0 σ H) (hq : ∀ i σ H, Pv i σ H → SqT K H a xs ∧ SqT K H b ys)
    (hs : ∀ (i : Nat) (x y : V) (T : Addr) (σ : L2.St) (H : Hp), xs[i]? = some x → ys[i]? = some y → Pv i σ H → H T = none → g (.ref T) σ (upd H T (.tup [x, y])) fun σ2 H2 => tb { D with nx := Pv (i + 1), ct := Pv (i + 1), bk := D.nx } σ2 H2) (hd : ∀ i σ H, i ≤ xs.length → Pv i σ H → D.nx σ H) :
    ∃ W : Nat → Nat → L2.St → Hp → Prop, (∃ m, W 0 m σ H) ∧ ∀ i m σ H, W i m σ H →
      ((RZ.ItzT K a b).stop i H ∧ D.nx σ H) ∨ ((RZ.ItzT K a b).go i H ∧ ∃ N : L2.St → Hp → Prop, (∀ σ' H', N σ' H' → ∃ m', m' < m ∧ W (i + 1) m' σ' H') ∧ ∀ v H', (RZ.ItzT K a b).yld i H v H' → g v σ H' fun σ2 H2 => tb { D with nx := N, ct := N, bk := D.nx } σ2 H2) := by
  refine ⟨fun i m σ H => m = xs.length - i ∧ i ≤ xs.length ∧ Pv i σ H, ⟨_, rfl, Nat.zero_le _, h0⟩, ?_⟩
  rintro i m σ H ⟨rfl, hi, p⟩
  obtain ⟨q1, q2⟩ := hq i σ H p
  by_cases c : i < xs.length ∧ i < ys.length
  · refine .inr ⟨⟨xs, ys, xs[i]'c.1, ys[i]'c.2, q1, q2, List.getElem?_eq_getElem c.1, List.getElem?_eq_getElem c.2⟩, Pv (i + 1), fun σ' H' p' => ⟨xs.length - (i + 1), by omega, rfl, by omega, p'⟩, fun v H' hy => ?_⟩
    obtain ⟨T, x, y, rfl, nT, rfl, f1, f2⟩ := hy
    exact hs i x y T σ H (f1 xs q1) (f2 ys q2) p nT
  · exact .inl ⟨⟨xs, ys, q1, q2, by omega⟩, hd i σ H hi p⟩

/-- a statement that is never come to -/
theorem ps_never {X : Cx} {st : Stmt} : PS X st (fun _ _ _ => False) := ⟨fun _ _ _ _ _ _ h => h.elim⟩

/-! ### a walk over a tuple, whatever its body is (comprehensions with two for) -/
theorem walkT {K : PySem.W.Frag} {a : Addr} {xs : List V} {B : V → Hp → (Hp → Prop) → Prop} {H0 : Hp} {Qd : Hp → Prop} (Pv : Nat → Hp → Prop) (h0 : Pv 0 H0) (hl : ∀ i H, i ≤ xs.length → Pv i H → SqT K H a xs)
    (hs : ∀ i x H, xs[i]? = some x → Pv i H → B x H (Pv (i + 1))) (hd : ∀ H, Pv xs.length H → Qd H) :
    ∃ W : Nat → Nat → Hp → Prop, (∃ m, W 0 m H0) ∧ ∀ i m H, W i m H →
      ((Itt K a).stop i H ∧ Qd H) ∨ ((Itt K a).go i H ∧ ∃ Nx : Hp → Prop, (∀ H', Nx H' → ∃ m', m' < m ∧ W (i + 1) m' H') ∧ ∀ x H', (Itt K a).yld i H x H' → B x H' Nx) := by
  refine ⟨fun i m H => m = xs.length - i ∧ i ≤ xs.length ∧ Pv i H, ⟨xs.length, by simp, Nat.zero_le _, h0⟩, ?_⟩
  rintro i m H ⟨rfl, hi, p⟩
  have q := hl i H hi p
  by_cases hlt : i < xs.length
  · refine .inr ⟨⟨xs, xs[i], q, by simp [hlt]⟩, Pv (i + 1), fun H' p' => ⟨xs.length - (i + 1), by omega, rfl, hlt, p'⟩, fun x H' y => ?_⟩
    obtain ⟨e, y⟩ := y
    subst e
    exact hs i x _ (y xs q) p
  · have e : i = xs.length := by omega
    subst e
    exact .inl ⟨⟨xs, q, by omega⟩, hd H p⟩

/-! ### max(xs, key=f), f a built-in that makes an int of an item and changes nothing -/
section
variable {prog : Program} {w : World} {A : Around} {E : Value → Shared → Prop} {s : Shared} {l : Addr} {kid : String} {vs : List Value} {Q : Value → Shared → Prop}
/-- all objects stay -/
abbrev Stay (h h' : Heap) : Prop := ∀ b o, h.get? b = some o → h'.get? b = some o
theorem isL_stay {h h' : Heap} {a : Addr} {xs : Array Value} (k : Stay h h') (x : h.IsList a xs) : h'.IsList a xs := let ⟨o, e, r⟩ := x; ⟨o, k _ _ e, r⟩
theorem isT_stay {h h' : Heap} {a : Addr} {xs : Array Value} (k : Stay h h') (x : IsTup h a xs) : IsTup h' a xs := let ⟨o, e, r⟩ := x; ⟨o, k _ _ e, r⟩
def KeyAt (prog : Program) (w : World) (A : Around) (s : Shared) (f : Value) (vs : List Value) (kf : Nat → Int) : Prop :=
  ∀ (i : Nat) (v : Value), vs[i]? = some v → ∀ (h : Heap) (tk : Nat), Stay s.heap h →
    wpAny (model prog w) A (call f [v]) (fun x s' => ∃ h' tk' t, s' = { s with heap := h', toks := tk' } ∧ x = .int (kf i) t ∧ Stay h h') (fun _ _ => False) { s with heap := h, toks := tk }
/-- the first of the greatest keys -/
def Topmost (kf : Nat → Int) (n i : Nat) : Prop := ∀ j, j < n → kf j ≤ kf i ∧ (j < i → kf j < kf i)
theorem maxKey_loop {I S : Addr} {R : Result → Shared → Prop} (kf : Nat → Int) (hh : A.handled = none) (isL : s.heap.IsList l vs.toArray) (lI : l ≠ I) (SI : S ≠ I) (nI : s.heap.get? I = none) (nS : s.heap.get? S = none) (key : KeyAt prog w A.in1 s (.builtin kid) vs kf)
    (fin : ∀ i v h' tk', vs[i]? = some v → Topmost kf vs.length i → Stay s.heap h' → R (.ok (.ret v)) { s with heap := h', toks := tk' }) :
    ∀ (r j i : Nat) (h : Heap) (tk : Nat) (vb : Value) (tb : Tok) (c : Nat), vs.length - (j + 1) = r → j + 1 ≤ vs.length → Stay s.heap h →
      h.get? S = some (seqObj "list" #[vb, .int (kf i) tb] c) → h.IsListIter I l (j + 1) → vs[i]? = some vb → i ≤ j → Topmost kf (j + 1) i →
      codeAny (model prog w) A (.builtin "max.loop" ⟨[.ref I, .builtin kid, .ref S], []⟩) R { s with heap := h, toks := tk } := by
  have nm : (toString "max" ++ toString ".loop" : String) = "max.loop" := by decide
  have wk := Walks.list (prog := prog) (w := w) (A := A.in1) hh I l lI vs.toArray
  have sz : vs.toArray.size = vs.length := List.size_toArray ..
  have off : ∀ {h h' : Heap} {x : Addr}, s.heap.get? x = none → Stay s.heap h → (∀ b o, b ≠ x → h.get? b = some o → h'.get? b = some o) → Stay s.heap h' := fun nx st k b o e => k b o (fun z => by rw [z, nx] at e; cases e) (st b o e)
  intro r
  induction r with
  | zero =>
    intro j i h tk vb tb c er jl st gS it ev ij top
    have last : j + 1 = vs.length := by omega
    refine codeAny_builtin (b := _) PySem.F.entry_max_loop ?_
    rw [Around.under_plainId (PySem.F.plain_max_loop) _]
    show wpAny _ A.in1 (seqItems? (Value.ref S) >>= _) _ _ _
    refine wpAny_bind (wpAny_seqItems (gS) rfl ?_)
    show wpAny _ A.in1 (tryCatch (pyNext (Value.ref I)) _ >>= _) _ _ _
    refine wpAny_bind (wpAny_tryCatch (wk.done _ _ _ ⟨by rw [sz, ← last]; exact it, isL_stay st isL⟩ fun h1 tk1 k1 => ?_))
    have st1 := off nI st (fun b o nb e => k1 b o (fun z => nb (List.mem_singleton.mp z)) e)
    have gS1 := k1 S _ (fun z => SI (List.mem_singleton.mp z)) gS
    have u1 := Heap.SameBut.update h1 S (Obj.mapSeq (fun _ => (#[] : Array Value)))
    show wpAny _ A.in1 (updateSeq S (fun _ => #[]) >>= fun _ => _) _ _ _
    refine wpAny_bind (wpAny_updateSeq gS1 rfl (wpAny_bind (wpAny_letGo (wpAny_pure ?_))))
    exact fin i vb _ _ ev (by rw [← last]; exact top) (off nS st1 fun b o nb e => (u1.2 b nb).trans e)
  | succ r ih =>
    intro j i h tk vb tb c er jl st gS it ev ij top
    have more : j + 1 < vs.length := by omega
    refine codeAny_builtin (b := _) PySem.F.entry_max_loop ?_
    rw [Around.under_plainId (PySem.F.plain_max_loop) _]
    show wpAny _ A.in1 (seqItems? (Value.ref S) >>= _) _ _ _
    refine wpAny_bind (wpAny_seqItems (gS) rfl ?_)
    show wpAny _ A.in1 (tryCatch (pyNext (Value.ref I)) _ >>= _) _ _ _
    refine wpAny_bind (wpAny_tryCatch (wk.item (j + 1) _ _ _ (by rw [sz]; exact more) ⟨it, isL_stay st isL⟩ fun v h1 tk1 pv it1 k1 => ?_))
    have ev1 : vs[j + 1]? = some v := by simpa using pv
    obtain ⟨oI, gI, cI, dI⟩ := it1.1
    have st1 := off nI st (fun b o nb e => k1 b o (fun z => nb (List.mem_singleton.mp z)) e)
    have gS1 := k1 S _ (fun z => SI (List.mem_singleton.mp z)) gS
    show wpAny _ A.in1 (tryCatch (holding [v] (call (Value.builtin kid) [v])) _ >>= _) _ _ _
    refine wpAny_bind (wpAny_tryCatch (wpAny_holding (wpAny_mono (key (j + 1) v ev1 h1 tk1 st1) (fun x s2 hx => ?_) (fun _ _ no => no.elim))))
    obtain ⟨h2, tk2, t2, rfl, rfl, k2⟩ := hx
    have st2 : Stay s.heap h2 := fun b o e => k2 b o (st1 b o e)
    have gS2 := k2 _ _ gS1
    have gI2 := k2 _ _ gI
    show wpAny _ A.in1 (tryCatch (holding [v, Value.int (kf (j + 1)) t2] (richCompare .Gt (.int (kf (j + 1)) t2) (.int (kf i) tb) >>= _)) _ >>= _) _ _ _
    refine wpAny_bind (wpAny_tryCatch (wpAny_holding (wpAny_bind (CmpOf.ints_gt (prog := prog) (w := w) (A := A.in1) (P := fun n u => ∃ t, u = .int (kf n) t) kf (fun n u z => z) (j + 1) i _ _ _ _ _ ⟨t2, rfl⟩ ⟨tb, rfl⟩ ?_))))
    refine wpAny_bind (wpAny_holding (wpAny_truthy_bool (wpAny_bind (wpAny_letGo (wpAny_pure ?_)))))
    by_cases up : kf (j + 1) > kf i
    · have u1 := Heap.SameBut.update h2 S (Obj.mapSeq (fun _ => #[v, .int (kf (j + 1)) t2]))
      obtain ⟨c2, gS3⟩ : ∃ c2, (h2.update S (Obj.mapSeq fun _ => #[v, .int (kf (j + 1)) t2])).get? S = some (seqObj "list" #[v, .int (kf (j + 1)) t2] c2) := ⟨_, get?_update_seq gS2 fun _ => _⟩
      simp only [up, decide_true, if_true]
      refine wpAny_bind (wpAny_updateSeq gS2 rfl (wpAny_bind (wpAny_letGo ?_)))
      rw [nm]
      refine wpAny_pure ⟨plainId_quiet (PySem.F.plain_max_loop) _, ih (j + 1) (j + 1) _ _ v t2 c2 (by omega) more (off nS st2 fun b o nb e => (u1.2 b nb).trans e) gS3 ⟨oI, (u1.2 I SI.symm).trans gI2, cI, dI⟩ ev1 (Nat.le_refl _) fun n hn => ?_⟩
      by_cases e : n = j + 1
      · subst e
        exact ⟨Int.le_refl _, fun z => absurd z (Nat.lt_irrefl _)⟩
      · have := (top n (by omega)).1
        exact ⟨by omega, fun _ => by omega⟩
    · simp only [up, decide_false, Bool.false_eq_true, if_false]
      refine wpAny_bind (wpAny_letGo ?_)
      rw [nm]
      refine wpAny_pure ⟨plainId_quiet (PySem.F.plain_max_loop) _, ih (j + 1) i _ _ vb tb c (by omega) more st2 gS2 ⟨oI, gI2, cI, dI⟩ ev (by omega) fun n hn => ?_⟩
      by_cases e : n = j + 1
      · subst e
        exact ⟨by omega, fun z => absurd z (by omega)⟩
      · exact top n (by omega)
theorem maxKey (kf : Nat → Int) (hh : A.handled = none) (isL : s.heap.IsList l vs.toArray) (some1 : 0 < vs.length) (key : KeyAt prog w A.in1 s (.builtin kid) vs kf)
    (fin : ∀ i v h' tk', vs[i]? = some v → Topmost kf vs.length i → Stay s.heap h' → Q v { s with heap := h', toks := tk' }) :
    wpAny (model prog w) A (call (.builtin "max") [.ref l] [(Str.ofString "key", .builtin kid)]) Q E s := by
  have nm : (toString "max" ++ toString ".loop" : String) = "max.loop" := by decide
  have isL0 := isL
  obtain ⟨ol, gl, _⟩ := isL0
  have ll : l < s.heap.objs.size := Heap.lt_size gl
  refine kmb_tree PySem.F.kind_max PySem.F.plain_max PySem.F.entry_max (kmb_max_key _ _) ?_
  show wpAny _ A.in1 (Builtin.Builtins.bindParams "max" ["key", "default"] 0 ⟨[], [(Str.ofString "key", Value.builtin kid)]⟩ >>= _) _ _ s
  refine wpAny_bind (wpAny_of_eq (show Builtin.Builtins.bindParams "max" ["key", "default"] 0 ⟨[], [(Str.ofString "key", Value.builtin kid)]⟩ = pure [some (.builtin kid), none] from rfl) ?_)
  refine wpAny_bind (wpAny_pure (wpAny_bind (wpAny_pyIter_list isL (wpAny_bind (wpAny_newList ?_ (Nat.zero_le _))))))
  rw [nm]
  have it0 := Heap.get?_push_size s.heap (o := { cls := .type "list_iterator", data := .fields #[.ref l, .int 0 0] }) rfl
  have z1 : (s.heap.push { cls := .type "list_iterator", data := .fields #[.ref l, .int 0 0] }).objs.size = s.heap.objs.size + 1 := Heap.size_push ..
  have k1 : Stay s.heap (s.heap.push { cls := .type "list_iterator", data := .fields #[.ref l, .int 0 0] }) := fun b o e => Heap.get?_push_of_some _ e
  generalize s.heap.push { cls := .type "list_iterator", data := .fields #[.ref l, .int 0 0] } = g1 at *
  have gS := Heap.get?_push_size g1 (o := seqObj "list" #[] 0) rfl
  have k2 : Stay g1 (g1.push (seqObj "list" #[] 0)) := fun b o e => Heap.get?_push_of_some _ e
  have gI := k2 _ _ it0
  generalize g1.push (seqObj "list" #[] 0) = g2 at *
  rw [z1] at gS ⊢
  have st2 : Stay s.heap g2 := fun b o e => k2 b o (k1 b o e)
  have nI : s.heap.get? s.heap.objs.size = none := Heap.get?_none_of_le (Nat.le_refl _)
  have nS : s.heap.get? (s.heap.objs.size + 1) = none := Heap.get?_none_of_le (Nat.le_succ _)
  have SI : s.heap.objs.size + 1 ≠ s.heap.objs.size := Nat.succ_ne_self _
  have lI : l ≠ s.heap.objs.size := Nat.ne_of_lt ll
  have wk := Walks.list (prog := prog) (w := w) (A := A.in1) hh s.heap.objs.size l lI vs.toArray
  have sz : vs.toArray.size = vs.length := List.size_toArray ..
  have off : ∀ {h h' : Heap} {x : Addr}, s.heap.get? x = none → Stay s.heap h → (∀ b o, b ≠ x → h.get? b = some o → h'.get? b = some o) → Stay s.heap h' := fun nx st k b o e => k b o (fun z => by rw [z, nx] at e; cases e) (st b o e)
  refine wpAny_pure ⟨plainId_quiet (PySem.F.plain_max_loop) _, codeAny_builtin (b := _) PySem.F.entry_max_loop ?_⟩
  rw [Around.under_plainId (PySem.F.plain_max_loop) _]
  show wpAny _ A.in1 (seqItems? (Value.ref _) >>= _) _ _ _
  refine wpAny_bind (wpAny_seqItems (gS) rfl ?_)
  show wpAny _ A.in1 (tryCatch (pyNext (Value.ref s.heap.objs.size)) _ >>= _) _ _ _
  refine wpAny_bind (wpAny_tryCatch (wk.item 0 _ _ _ (by rw [sz]; exact some1) ⟨⟨_, gI, rfl, rfl⟩, isL_stay st2 isL⟩ fun v h1 tk1 pv it1 kk => ?_))
  have ev1 : vs[0]? = some v := by simpa using pv
  obtain ⟨oI, gI1, cI, dI⟩ := it1.1
  have st1 := off nI st2 (fun b o nb e => kk b o (fun z => nb (List.mem_singleton.mp z)) e)
  have gS1 := kk _ _ (fun z => SI (List.mem_singleton.mp z)) gS
  show wpAny _ A.in1 (tryCatch (holding [v] (call (Value.builtin kid) [v])) _ >>= _) _ _ _
  refine wpAny_bind (wpAny_tryCatch (wpAny_holding (wpAny_mono (key 0 v ev1 h1 tk1 st1) (fun x s2 hx => ?_) (fun _ _ no => no.elim))))
  obtain ⟨h2, tk2, t2, rfl, rfl, k3⟩ := hx
  have gS2 := k3 _ _ gS1
  have u1 := Heap.SameBut.update h2 (s.heap.objs.size + 1) (Obj.mapSeq (fun _ => #[v, .int (kf 0) t2]))
  obtain ⟨c2, gS3⟩ : ∃ c2, (h2.update (s.heap.objs.size + 1) (Obj.mapSeq fun _ => #[v, .int (kf 0) t2])).get? (s.heap.objs.size + 1) = some (seqObj "list" #[v, .int (kf 0) t2] c2) := ⟨_, get?_update_seq gS2 fun _ => _⟩
  show wpAny _ A.in1 (updateSeq (s.heap.objs.size + 1) (fun _ => #[v, .int (kf 0) t2]) >>= _) _ _ _
  refine wpAny_bind (wpAny_updateSeq gS2 rfl ?_)
  rw [nm]
  refine wpAny_pure ⟨plainId_quiet (PySem.F.plain_max_loop) _, maxKey_loop kf hh isL lI SI nI nS key fin _ 0 0 _ _ v t2 c2 rfl some1 (off nS (fun b o e => k3 b o (st1 b o e)) fun b o nb e => (u1.2 b nb).trans e) gS3 ⟨oI, (u1.2 _ SI.symm).trans (k3 _ _ gI1), cI, dI⟩ ev1 (Nat.le_refl _) fun n hn => ?_⟩
  have e : n = 0 := by omega
  subst e
  exact ⟨Int.le_refl _, fun z => absurd z (Nat.lt_irrefl _)⟩
end
/-- max([x, y], key=len), x and y tuples -/
def rMaxLen (K : PySem.W.Frag) : List V → Hp → VK → Prop := fun vs H Q => ∃ (a b c : Addr) (xs ys : List V), vs = [.ref a] ∧ SqL K H a [.ref b, .ref c] ∧ SqT K H b xs ∧ SqT K H c ys ∧ Q (.ref (if xs.length < ys.length then c else b)) H
theorem pe_maxLen {X : Cx} {e : Expr} {p q kp pos : Pos} {t : TA} (hc : X.calm = true) (hg : Gl X "max") (hm : X.mg "max" = none) (hg2 : Gl X "len") (hm2 : X.mg "len" = none) (ha : PA X [e] t)
    (he : backTo pos (starEach [e] X.env) = (false, eval e X.env) :: backTo pos (starEach [] X.env) := by rfl) (hpl : (backTo pos (starEach [e] X.env)).any (·.1) = false := by rfl) :
    PE X (.Call (.Name "max" p) [e] [⟨some "key", .Name "len" q, kp⟩] pos) (tCB (rMaxLen X.K) t) := by
  refine ⟨fun pins s σ H Q I h => ?_⟩
  refine wpAny_Call_Name_kw (ld_blt (u := .builtin "max") I hg hm (by decide +kernel) ?_)
  refine PyProof.Rows.callWith_kw (thn (ha.run pos pins s σ H _ I h) fun us s1 ⟨vs, H1, I1, r1, q1⟩ => ?_) he hpl (by rfl) (by rfl)
  show wpAny _ _ (evalAll [(do let v ← eval (.Name "len" q) X.env; standAt pos; pure v)]) _ _ s1
  refine wpAny_evalAll_cons (wpAny_bind (ld_blt (u := .builtin "len") I1 hg2 hm2 (by decide +kernel) (wpAny_bind (wpAny_standAt (wpAny_pure (wpAny_evalAll_nil ?_))))))
  obtain ⟨a, b, c, xs, ys, rfl, hl, hb, hc2, qq⟩ := q1
  rw [Vals.ref1 r1]
  obtain ⟨its, rv, isL, _⟩ := I1.list hl
  obtain ⟨u, u', rfl, ru, ru'⟩ := vals2 rv
  obtain rfl : u = Value.ref b := ru
  obtain rfl : u' = Value.ref c := ru'
  obtain ⟨i1, v1, t1, z1⟩ := I1.tuple hb
  obtain ⟨i2, v2, t2, z2⟩ := I1.tuple hc2
  have l1 := v1.length
  have l2 := v2.length
  have fit : ∀ {n : Nat}, n ≤ sizeLine → ((n : Nat) : Int) < 2 ^ 63 := fun {n} z => by
    rw [show sizeLine = 16777216 by decide] at z
    omega
  refine maxKey (vs := [Value.ref b, Value.ref c]) (fun i => if i = 0 then (i1.length : Int) else i2.length) (I1.ok.hd hc) isL.isList (Nat.zero_lt_succ _) (fun i v hv h' tk st => ?_) (fun i v h' tk' hv top st => ?_)
  · match i, hv with
    | 0, hv =>
      cases hv
      refine PyProof.Rows.len_tuple (isT_stay st t1) (fit (by rw [List.size_toArray, ← l1]; exact z1)) ⟨_, _, _, rfl, by rw [List.size_toArray]; rfl, fun _ _ e => e⟩
    | 1, hv =>
      cases hv
      refine PyProof.Rows.len_tuple (isT_stay st t2) (fit (by rw [List.size_toArray, ← l2]; exact z2)) ⟨_, _, _, rfl, by rw [List.size_toArray]; rfl, fun _ _ e => e⟩
  · match i, hv with
    | 0, hv =>
      cases hv
      have := (top 1 (Nat.lt_succ_self 1)).1
      replace this : (i2.length : Int) ≤ i1.length := this
      rw [if_neg (by omega)] at qq
      exact ⟨V.ref _, H1, I1.kept st, rfl, qq⟩
    | 1, hv =>
      cases hv
      have := (top 0 (Nat.zero_lt_succ _)).2 (by decide)
      replace this : (i1.length : Int) < i2.length := this
      rw [if_pos (by omega)] at qq
      exact ⟨V.ref _, H1, I1.kept st, rfl, qq⟩

/-! ### a min-max theorem: demands are rectangles, intervals are points -/
abbrev Dem := Int × Int × Int
def sv (z : Int × Int) (d : Dem) : Bool := decide (d.2.1 ≤ z.1 ∧ z.1 ≤ d.1 ∧ d.1 ≤ z.2 ∧ z.2 ≤ d.2.2)
def cf (d e : Dem) : Bool := decide ((e.2.1 ≤ d.1 ∧ d.1 ≤ e.2.2) ∧ d.2.1 ≤ e.1 ∧ e.1 ≤ d.2.2)
def Vd (d : Dem) : Prop := d.2.1 ≤ d.1 ∧ d.1 ≤ d.2.2
theorem sv_iff' {z : Int × Int} {d : Dem} : sv z d = true ↔ d.2.1 ≤ z.1 ∧ z.1 ≤ d.1 ∧ d.1 ≤ z.2 ∧ z.2 ≤ d.2.2 := decide_eq_true_iff
theorem cf_iff {d e : Dem} : cf d e = true ↔ (e.2.1 ≤ d.1 ∧ d.1 ≤ e.2.2) ∧ d.2.1 ≤ e.1 ∧ e.1 ≤ d.2.2 := decide_eq_true_iff
theorem cf_comm (d e : Dem) : cf d e = cf e d := by
  rw [Bool.eq_iff_iff, cf_iff, cf_iff]
  exact ⟨fun h => ⟨h.2, h.1⟩, fun h => ⟨h.2, h.1⟩⟩
theorem cf_of_sv {z : Int × Int} {d e : Dem} (h1 : sv z d = true) (h2 : sv z e = true) : cf d e = true := by
  rw [sv_iff'] at h1 h2
  rw [cf_iff]
  omega
theorem cf_self {d : Dem} (h : Vd d) : cf d d = true := by
  rw [cf_iff]
  exact ⟨h, h⟩
/-- how many of the demands the point serves -/
def cov (L : List Dem) (z : Int × Int) : Nat := L.countP (sv z)
theorem cov_nil (z : Int × Int) : cov [] z = 0 := rfl
theorem cov_cons (d : Dem) (L : List Dem) (z : Int × Int) : cov (d :: L) z = cov L z + (if sv z d = true then 1 else 0) := List.countP_cons
theorem cov_app (L M : List Dem) (z : Int × Int) : cov (L ++ M) z = cov L z + cov M z := List.countP_append
theorem cov_perm {L M : List Dem} (h : L.Perm M) (z : Int × Int) : cov L z = cov M z := h.countP_eq _
/-- no two of them conflict -/
def Ind (L : List Dem) : Prop := L.Pairwise fun d e => cf d e = false
theorem Ind.cov_le {L : List Dem} (h : Ind L) (z : Int × Int) : cov L z ≤ 1 := by
  induction L with
  | nil => exact Nat.zero_le _
  | cons d L ih =>
    have p := List.pairwise_cons.mp h
    rw [cov_cons]
    split
    · next s =>
      have e : cov L z = 0 := List.countP_eq_zero.mpr fun e he c => by
        have := p.1 e he
        rw [cf_of_sv s c] at this
        cases this
      omega
    · have := ih p.2
      omega
structure Fam (F : List Dem) : Prop where
  ok : ∀ d ∈ F, 0 ≤ d.2.1 ∧ Vd d
  ex : ∀ d ∈ F, ∀ e ∈ F, d.1 < e.1 → d.2.1 < e.2.1 → d.2.2 < e.2.2 → cf d e = true → (d.1, e.2) ∈ F ∧ (e.1, d.2) ∈ F
  cross : ∀ d ∈ F, ∀ e ∈ F, cf d e = true → d.2 = e.2 ∨ (d.2.1 < e.2.1 ∧ d.2.2 < e.2.2) ∨ (e.2.1 < d.2.1 ∧ e.2.2 < d.2.2)
theorem sv_exch {z : Int × Int} {d e : Dem} (h1 : d.1 < e.1) (h2 : d.2.1 < e.2.1) (h3 : d.2.2 < e.2.2) (c : cf d e = true) :
    (if sv z (d.1, e.2) = true then 1 else 0) + (if sv z (e.1, d.2) = true then 1 else 0) ≤ (if sv z d = true then 1 else 0) + (if sv z e = true then 1 else 0) := by
  have c := cf_iff.mp c
  simp only [sv_iff']
  split <;> split <;> split <;> split <;> omega
def pot (L : List Dem) : Int := (L.map fun d => d.1 * (d.2.1 + d.2.2)).sum
theorem pot_cons (d : Dem) (L : List Dem) : pot (d :: L) = d.1 * (d.2.1 + d.2.2) + pot L := by
  unfold pot
  rw [List.map_cons, List.sum_cons]
theorem pot_nonneg {L : List Dem} (h : ∀ d ∈ L, 0 ≤ d.2.1 ∧ Vd d) : 0 ≤ pot L := by
  induction L with
  | nil => exact Int.le_refl _
  | cons d L ih =>
    rw [pot_cons]
    have := ih fun e he => h e (List.mem_cons_of_mem _ he)
    have q := h d List.mem_cons_self
    unfold Vd at q
    have : 0 ≤ d.1 * (d.2.1 + d.2.2) := Int.mul_nonneg (by omega) (by omega)
    omega
theorem pot_perm {L M : List Dem} (h : L.Perm M) : pot L = pot M := by
  induction h with
  | nil => rfl
  | cons x _ ih => rw [pot_cons, pot_cons, ih]
  | swap x y l =>
    rw [pot_cons, pot_cons, pot_cons, pot_cons]
    omega
  | trans _ _ i1 i2 => rw [i1, i2]
def Corner (d e : Dem) : Prop := cf d e = true ∧ d.1 < e.1 ∧ d.2.1 < e.2.1 ∧ d.2.2 < e.2.2
theorem pull2 {L : List Dem} {d e : Dem} (hd : d ∈ L) (he : e ∈ L) (ne : d ≠ e) : ∃ R, L.Perm (d :: e :: R) := by
  have p1 := List.perm_cons_erase hd
  have he' : e ∈ L.erase d := (List.mem_erase_of_ne (Ne.symm ne)).mpr he
  exact ⟨(L.erase d).erase e, p1.trans ((List.perm_cons_erase he').cons d)⟩
theorem uncross {F : List Dem} (fam : Fam F) : ∀ (n : Nat) (L : List Dem), (∀ d ∈ L, d ∈ F) → (pot L).toNat < n → ∃ M : List Dem, (∀ d ∈ M, d ∈ F) ∧ M.length = L.length ∧ (∀ z, cov M z ≤ cov L z) ∧ ∀ d ∈ M, ∀ e ∈ M, ¬ Corner d e := by
  intro n
  induction n with
  | zero => exact fun _ _ h => absurd h (Nat.not_lt_zero _)
  | succ n ih =>
    intro L hL hn
    by_cases c : ∀ d ∈ L, ∀ e ∈ L, ¬ Corner d e
    · exact ⟨L, hL, rfl, fun _ => Nat.le_refl _, c⟩
    · have ⟨d, hd, e, he, k⟩ : ∃ d ∈ L, ∃ e ∈ L, Corner d e := by
        refine Classical.byContradiction fun z => c fun d hd e he k => z ⟨d, hd, e, he, k⟩
      obtain ⟨k1, k2, k3, k4⟩ := k
      have ne : d ≠ e := fun z => by
        subst z
        exact absurd k2 (Int.lt_irrefl _)
      obtain ⟨R, pm⟩ := pull2 hd he ne
      have x := fam.ex d (hL d hd) e (hL e he) k2 k3 k4 k1
      have hR : ∀ f ∈ R, f ∈ F := fun f hf => hL f (pm.mem_iff.mpr (List.mem_cons_of_mem _ (List.mem_cons_of_mem _ hf)))
      have hN : ∀ f ∈ (d.1, e.2) :: (e.1, d.2) :: R, f ∈ F := fun f hf => by
        rcases List.mem_cons.mp hf with rfl | hf
        · exact x.1
        rcases List.mem_cons.mp hf with rfl | hf
        · exact x.2
        · exact hR f hf
      have less : pot ((d.1, e.2) :: (e.1, d.2) :: R) < pot L := by
        rw [pot_perm pm, pot_cons, pot_cons, pot_cons, pot_cons]
        show d.1 * (e.2.1 + e.2.2) + (e.1 * (d.2.1 + d.2.2) + pot R) < d.1 * (d.2.1 + d.2.2) + (e.1 * (e.2.1 + e.2.2) + pot R)
        have : 0 < (e.1 - d.1) * ((e.2.1 + e.2.2) - (d.2.1 + d.2.2)) := Int.mul_pos (by omega) (by omega)
        rw [Int.sub_mul, Int.mul_sub, Int.mul_sub] at this
        omega
      have nn := pot_nonneg fun f hf => fam.ok f (hN f hf)
      obtain ⟨M, m1, m2, m3, m4⟩ := ih _ hN (by omega)
      refine ⟨M, m1, by rw [m2, pm.length_eq]; rfl, fun z => Nat.le_trans (m3 z) ?_, m4⟩
      rw [cov_perm pm, cov_cons, cov_cons, cov_cons, cov_cons]
      have := sv_exch (z := z) k2 k3 k4 k1
      omega
/-- e lies across d -/
def Und (e d : Dem) : Prop := d.2.1 ≤ e.2.1 ∧ e.1 ≤ d.1 ∧ d.2.2 ≤ e.2.2
theorem und_of {F : List Dem} (fam : Fam F) {d e : Dem} (hd : d ∈ F) (he : e ∈ F) (c : cf d e = true) (n1 : ¬ Corner d e) (n2 : ¬ Corner e d) : Und d e ∨ Und e d := by
  unfold Und
  rcases fam.cross d hd e he c with h | h | h
  · rw [h]
    omega
  · have : ¬ d.1 < e.1 := fun z => n1 ⟨c, z, h.1, h.2⟩
    omega
  · have : ¬ e.1 < d.1 := fun z => n2 ⟨by rw [cf_comm]; exact c, z, h.1, h.2⟩
    omega
def leD (d e : Dem) : Bool := decide (d.1 - d.2.1 < e.1 - e.2.1 ∨ (d.1 - d.2.1 = e.1 - e.2.1 ∧ e.2.2 ≤ d.2.2))
theorem leD_total (a b : Dem) : (leD a b || leD b a) = true := by
  unfold leD
  rw [Bool.or_eq_true, decide_eq_true_eq, decide_eq_true_eq]
  omega
theorem leD_trans (a b c : Dem) : leD a b = true → leD b c = true → leD a c = true := by
  unfold leD
  rw [decide_eq_true_eq, decide_eq_true_eq, decide_eq_true_eq]
  omega
theorem und_le {F : List Dem} (fam : Fam F) {f e : Dem} (hf : f ∈ F) (he : e ∈ F) (c : cf f e = true) (n1 : ¬ Corner f e) (n2 : ¬ Corner e f) (le : leD f e = true) : Und f e := by
  have le := of_decide_eq_true le
  rcases und_of fam hf he c n1 n2 with h | h
  · exact h
  · unfold Und at *
    omega
def gre : Nat → List Dem → List Dem
  | 0, _ => []
  | _, [] => []
  | n + 1, d :: R => d :: gre n (R.filter fun e => !cf d e)
def lef : Nat → List Dem → List Dem
  | 0, L => L
  | _, [] => []
  | n + 1, d :: R => (R.filter fun e => cf d e) ++ lef n (R.filter fun e => !cf d e)
theorem gre_lef : ∀ (n : Nat) (L : List Dem), L.Perm (gre n L ++ lef n L)
  | 0, L => List.Perm.refl _
  | n + 1, [] => List.Perm.refl _
  | n + 1, d :: R => by
    have ih := gre_lef n (R.filter fun e => !cf d e)
    show (d :: R).Perm (d :: (gre n (R.filter fun e => !cf d e) ++ ((R.filter fun e => cf d e) ++ lef n (R.filter fun e => !cf d e))))
    refine List.Perm.cons d ?_
    have p1 := (List.filter_append_perm (fun e => cf d e) R).symm
    refine p1.trans ?_
    refine ((List.Perm.refl (R.filter fun e => cf d e)).append ih).trans ?_
    rw [← List.append_assoc, ← List.append_assoc]
    exact List.perm_append_comm.append_right _
theorem gre_sub (n : Nat) (L : List Dem) : ∀ d ∈ gre n L, d ∈ L := fun d hd => (gre_lef n L).mem_iff.mpr (List.mem_append_left _ hd)
theorem lef_sub (n : Nat) (L : List Dem) : ∀ d ∈ lef n L, d ∈ L := fun d hd => (gre_lef n L).mem_iff.mpr (List.mem_append_right _ hd)
theorem gre_ind : ∀ (n : Nat) (L : List Dem), Ind (gre n L)
  | 0, _ => List.Pairwise.nil
  | n + 1, [] => List.Pairwise.nil
  | n + 1, d :: R => by
    refine List.pairwise_cons.mpr ⟨fun e he => ?_, gre_ind n _⟩
    have := (List.mem_filter.mp (gre_sub n _ e he)).2
    rw [Bool.not_eq_true'] at this
    exact this
theorem gre_in : ∀ (n : Nat) (A B : List Dem) (e : Dem), A.length < n → e ∈ gre n (A ++ e :: B) ∨ ∃ f ∈ A, cf f e = true
  | 0, _, _, _, h => absurd h (Nat.not_lt_zero _)
  | n + 1, [], B, e, _ => .inl List.mem_cons_self
  | n + 1, d :: A, B, e, h => by
    by_cases c : cf d e = true
    · exact .inr ⟨d, List.mem_cons_self, c⟩
    · have eq : (A ++ e :: B).filter (fun x => !cf d x) = A.filter (fun x => !cf d x) ++ e :: B.filter (fun x => !cf d x) := by
        rw [List.filter_append, List.filter_cons_of_pos (by rw [Bool.not_eq_true] at c; rw [c]; rfl)]
      have l : (A.filter fun x => !cf d x).length < n := Nat.lt_of_le_of_lt (List.length_filter_le _ _) (Nat.lt_of_succ_lt_succ h)
      rcases gre_in n (A.filter fun x => !cf d x) (B.filter fun x => !cf d x) e l with g | ⟨f, hf, k⟩
      · refine .inl (List.mem_cons_of_mem _ ?_)
        show e ∈ gre n ((A ++ e :: B).filter fun x => !cf d x)
        rw [eq]
        exact g
      · exact .inr ⟨f, List.mem_cons_of_mem _ (List.mem_filter.mp hf).1, k⟩
theorem cov_lt {z w : Int × Int} {f : Dem} : ∀ {L : List Dem}, f ∈ L → (∀ c ∈ L, sv z c = true → sv w c = true) → sv z f = false → sv w f = true → cov L z < cov L w
  | [], hf, _, _, _ => nomatch hf
  | d :: L, hf, h, n, y => by
    rw [cov_cons, cov_cons]
    have le : cov L z ≤ cov L w := List.countP_mono_left fun c hc => h c (List.mem_cons_of_mem _ hc)
    have h1 := h d List.mem_cons_self
    rcases List.mem_cons.mp hf with rfl | hf
    · rw [n, y]
      simp
      omega
    · have ih := cov_lt hf (fun c hc => h c (List.mem_cons_of_mem _ hc)) n y
      split
      · next s => rw [if_pos (h1 s)]; omega
      · split <;> omega
theorem first_of {p : Dem → Bool} : ∀ {L : List Dem}, (∃ d ∈ L, p d = true) → ∃ A e B, L = A ++ e :: B ∧ p e = true ∧ ∀ f ∈ A, p f = false
  | [], h => by
    obtain ⟨d, hd, _⟩ := h
    cases hd
  | d :: L, h => by
    by_cases c : p d = true
    · exact ⟨[], d, L, rfl, c, fun f hf => nomatch hf⟩
    · obtain ⟨x, hx, px⟩ := h
      rcases List.mem_cons.mp hx with rfl | hx
      · exact absurd px c
      · obtain ⟨A, e, B, r1, r2, r3⟩ := first_of ⟨x, hx, px⟩
        refine ⟨d :: A, e, B, by rw [r1]; rfl, r2, fun f hf => ?_⟩
        rcases List.mem_cons.mp hf with rfl | hf
        · exact Bool.not_eq_true _ ▸ c
        · exact r3 f hf
theorem lef_cov {F : List Dem} (fam : Fam F) {L : List Dem} (hL : ∀ d ∈ L, d ∈ F) (nc : ∀ d ∈ L, ∀ e ∈ L, ¬ Corner d e) (srt : L.Pairwise fun d e => leD d e = true) {m : Nat} (hm : ∀ z, cov L z ≤ m + 1) (z : Int × Int) : cov (lef L.length L) z ≤ m := by
  have sum := cov_perm (gre_lef L.length L) z
  rw [cov_app] at sum
  have top := hm z
  by_cases g : ∃ d ∈ gre L.length L, sv z d = true
  · have : 0 < cov (gre L.length L) z := List.countP_pos_iff.mpr g
    omega
  · by_cases s : ∃ d ∈ L, sv z d = true
    · obtain ⟨A, e, B, rfl, se, nA⟩ := first_of s
      have la : A.length < (A ++ e :: B).length := by
        rw [List.length_append, List.length_cons]
        omega
      rcases gre_in _ A B e la with q | ⟨f, hf, k⟩
      · exact absurd ⟨e, q, se⟩ g
      · have mf : f ∈ A ++ e :: B := List.mem_append_left _ hf
        have me : e ∈ A ++ e :: B := List.mem_append_right _ List.mem_cons_self
        have pw := List.pairwise_append.mp srt
        have u1 := und_le fam (hL f mf) (hL e me) k (nc f mf e me) (nc e me f mf) (pw.2.2 f hf e List.mem_cons_self)
        have w : cov (A ++ e :: B) z < cov (A ++ e :: B) (f.1, z.2) := by
          have vf := (fam.ok f (hL f mf)).2
          have ve := sv_iff'.mp se
          refine cov_lt mf (fun c hc sc => ?_) (nA f hf) ?_
          · have u2 : Und e c := by
              rcases List.mem_append.mp hc with h | h
              · rw [nA c h] at sc
                cases sc
              · rcases List.mem_cons.mp h with rfl | h
                · exact ⟨Int.le_refl _, Int.le_refl _, Int.le_refl _⟩
                · exact und_le fam (hL e me) (hL c hc) (cf_of_sv se sc) (nc e me c hc) (nc c hc e me) ((List.pairwise_cons.mp pw.2.1).1 c h)
            have sc := sv_iff'.mp sc
            rw [sv_iff']
            unfold Und Vd at *
            show c.2.1 ≤ f.1 ∧ f.1 ≤ c.1 ∧ c.1 ≤ z.2 ∧ z.2 ≤ c.2.2
            omega
          · rw [sv_iff']
            unfold Und Vd at *
            show f.2.1 ≤ f.1 ∧ f.1 ≤ f.1 ∧ f.1 ≤ z.2 ∧ z.2 ≤ f.2.2
            omega
        have := hm (f.1, z.2)
        omega
    · have : cov L z = 0 := List.countP_eq_zero.mpr fun d hd c => s ⟨d, hd, c⟩
      omega
theorem len_le {F : List Dem} (fam : Fam F) {k : Nat} (hk : ∀ I, Ind I → (∀ d ∈ I, d ∈ F) → I.length ≤ k) : ∀ (m : Nat) (L : List Dem), (∀ d ∈ L, d ∈ F) → (∀ d ∈ L, ∀ e ∈ L, ¬ Corner d e) → (∀ z, cov L z ≤ m) → L.length ≤ m * k
  | 0, L, hL, _, hm => by
    cases L with
    | nil => exact Nat.zero_le _
    | cons d L =>
      have v := (fam.ok d (hL d List.mem_cons_self)).2
      have := hm (d.1, d.1)
      rw [cov_cons, if_pos (sv_iff'.mpr (by unfold Vd at v; exact ⟨v.1, Int.le_refl _, Int.le_refl _, v.2⟩))] at this
      omega
  | m + 1, L, hL, nc, hm => by
    have pm := List.mergeSort_perm L leD
    have srt := List.pairwise_mergeSort leD_trans leD_total L
    generalize L.mergeSort leD = S at *
    have hS : ∀ d ∈ S, d ∈ L := fun d hd => pm.mem_iff.mp hd
    have hl := lef_cov fam (fun d hd => hL d (hS d hd)) (fun d hd e he => nc d (hS d hd) e (hS e he)) srt (m := m) (fun z => by rw [cov_perm pm]; exact hm z)
    have sub := lef_sub S.length S
    have ih := len_le fam hk m (lef S.length S) (fun d hd => hL d (hS d (sub d hd))) (fun d hd e he => nc d (hS d (sub d hd)) e (hS e (sub e he))) hl
    have g := hk _ (gre_ind S.length S) fun d hd => hL d (hS d (gre_sub _ _ d hd))
    have e := (gre_lef S.length S).length_eq
    have e2 := pm.length_eq
    rw [List.length_append] at e
    rw [Nat.add_mul]
    omega
theorem sum_lt {α : Type} {f : α → Nat} : ∀ {Z : List α} {w : α}, w ∈ Z → (∀ x ∈ Z, f x ≤ 1) → f w = 0 → (Z.map f).sum + 1 ≤ Z.length
  | [], _, h, _, _ => nomatch h
  | x :: Z, w, h, h1, h0 => by
    have le : ∀ Y : List α, (∀ x ∈ Y, f x ≤ 1) → (Y.map f).sum ≤ Y.length := by
      intro Y
      induction Y with
      | nil => exact fun _ => Nat.le_refl _
      | cons y Y ih =>
        intro hy
        have := ih fun x hx => hy x (List.mem_cons_of_mem _ hx)
        have := hy y List.mem_cons_self
        rw [List.map_cons, List.sum_cons, List.length_cons]
        omega
    have r := le Z fun x hx => h1 x (List.mem_cons_of_mem _ hx)
    have hx := h1 x List.mem_cons_self
    rw [List.map_cons, List.sum_cons, List.length_cons]
    rcases List.mem_cons.mp h with rfl | h
    · omega
    · have := sum_lt h (fun x hx => h1 x (List.mem_cons_of_mem _ hx)) h0
      omega
theorem cov_flat {α : Type} (I : α → List Dem) (z : Int × Int) : ∀ Z : List α, cov (Z.flatMap I) z = (Z.map fun w => cov (I w) z).sum
  | [] => rfl
  | x :: Z => by
    rw [List.flatMap_cons, cov_app, cov_flat I z Z, List.map_cons, List.sum_cons]
theorem len_flat {α β : Type} (I : α → List β) {k : Nat} : ∀ Z : List α, (∀ w ∈ Z, (I w).length = k) → (Z.flatMap I).length = Z.length * k
  | [], _ => by simp
  | x :: Z, h => by
    rw [List.flatMap_cons, List.length_append, len_flat I Z fun w hw => h w (List.mem_cons_of_mem _ hw), h x List.mem_cons_self, List.length_cons, Nat.add_mul]
    omega
theorem top_of (F : List Dem) : ∃ M : Nat, ∀ d ∈ F, d.2.2 ≤ M := by
  induction F with
  | nil => exact ⟨0, fun d hd => nomatch hd⟩
  | cons d F ih =>
    obtain ⟨M, h⟩ := ih
    refine ⟨M + d.2.2.toNat, fun e he => ?_⟩
    rcases List.mem_cons.mp he with rfl | he
    · omega
    · have := h e he
      omega
def box (M : Nat) : List (Int × Int) := (List.range (M + 1)).flatMap fun (x : Nat) => (List.range (M + 1)).map fun (y : Nat) => ((x : Int), (y : Int))
theorem mem_box {M : Nat} {z : Int × Int} (h : 0 ≤ z.1 ∧ z.1 ≤ M) (h2 : 0 ≤ z.2 ∧ z.2 ≤ M) : z ∈ box M := by
  unfold box
  refine List.mem_flatMap.mpr ⟨z.1.toNat, List.mem_range.mpr (by omega), List.mem_map.mpr ⟨z.2.toNat, List.mem_range.mpr (by omega), ?_⟩⟩
  exact Prod.ext (by show ((z.1.toNat : Nat) : Int) = z.1; omega) (by show ((z.2.toNat : Nat) : Int) = z.2; omega)
/-- a point that every largest selection has to pay for -/
theorem hits {F : List Dem} (fam : Fam F) {k : Nat} (hk : ∀ I, Ind I → (∀ d ∈ I, d ∈ F) → I.length ≤ k + 1) : ∃ z, ∀ I, Ind I → (∀ d ∈ I, d ∈ F) → I.length = k + 1 → ∃ d ∈ I, sv z d = true := by
  refine Classical.byContradiction fun no => ?_
  have miss : ∀ z, ∃ I, Ind I ∧ (∀ d ∈ I, d ∈ F) ∧ I.length = k + 1 ∧ ∀ d ∈ I, sv z d = false := fun z => by
    refine Classical.byContradiction fun h => no ⟨z, fun I i1 i2 i3 => Classical.byContradiction fun n => h ⟨I, i1, i2, i3, fun d hd => ?_⟩⟩
    rw [← Bool.not_eq_true]
    exact fun s => n ⟨d, hd, s⟩
  obtain ⟨I, hI⟩ := Classical.axiomOfChoice miss
  obtain ⟨M, hM⟩ := top_of F
  have hsub : ∀ d ∈ (box M).flatMap I, d ∈ F := fun d hd => by
    obtain ⟨w, _, h⟩ := List.mem_flatMap.mp hd
    exact (hI w).2.1 d h
  have hlen := len_flat I (k := k + 1) (box M) fun w _ => (hI w).2.2.1
  have pos : 0 < (box M).length := List.length_pos_of_mem (mem_box (M := M) (z := (0, 0)) ⟨by decide, by show (0 : Int) ≤ M; omega⟩ ⟨by decide, by show (0 : Int) ≤ M; omega⟩)
  have hc : ∀ z, cov ((box M).flatMap I) z ≤ (box M).length - 1 := fun z => by
    by_cases b : (0 ≤ z.1 ∧ z.1 ≤ M) ∧ 0 ≤ z.2 ∧ z.2 ≤ M
    · have s := sum_lt (f := fun w => cov (I w) z) (mem_box b.1 b.2) (fun x _ => (hI x).1.cov_le z) (List.countP_eq_zero.mpr fun d hd c => by
        rw [(hI z).2.2.2 d hd] at c
        cases c)
      rw [cov_flat]
      omega
    · have : cov ((box M).flatMap I) z = 0 := List.countP_eq_zero.mpr fun d hd c => b (by
        have c := sv_iff'.mp c
        have o := fam.ok d (hsub d hd)
        have t := hM d (hsub d hd)
        unfold Vd at o
        omega)
      omega
  obtain ⟨N, n1, n2, n3, n4⟩ := uncross fam _ _ hsub (Nat.lt_succ_self _)
  have := len_le fam hk ((box M).length - 1) N n1 n4 fun z => Nat.le_trans (n3 z) (hc z)
  rw [n2, hlen] at this
  obtain ⟨b, eb⟩ : ∃ b, (box M).length = b + 1 := ⟨(box M).length - 1, by omega⟩
  rw [eb, Nat.add_sub_cancel, Nat.add_mul, Nat.one_mul] at this
  omega
theorem Fam.rest {F : List Dem} (fam : Fam F) (z : Int × Int) : Fam (F.filter fun d => !sv z d) := by
  have hs : ∀ d, d ∈ F.filter (fun d => !sv z d) → d ∈ F ∧ sv z d = false := fun d hd => by
    have := List.mem_filter.mp hd
    exact ⟨this.1, by rw [← Bool.not_eq_true']; exact this.2⟩
  refine ⟨fun d hd => fam.ok d (hs d hd).1, fun d hd e he h1 h2 h3 c => ?_, fun d hd e he c => fam.cross d (hs d hd).1 e (hs e he).1 c⟩
  have x := fam.ex d (hs d hd).1 e (hs e he).1 h1 h2 h3 c
  have y := sv_exch (z := z) h1 h2 h3 c
  rw [(hs d hd).2, (hs e he).2] at y
  simp at y
  exact ⟨List.mem_filter.mpr ⟨x.1, by rw [y.1]; rfl⟩, List.mem_filter.mpr ⟨x.2, by rw [y.2]; rfl⟩⟩
/-- as many points as the largest selection has serve all -/
theorem min_max : ∀ (k : Nat) {F : List Dem}, Fam F → (∀ I, Ind I → (∀ d ∈ I, d ∈ F) → I.length ≤ k) → ∃ S : List (Int × Int), S.length ≤ k ∧ ∀ d ∈ F, ∃ z ∈ S, sv z d = true
  | 0, F, fam, hk => ⟨[], Nat.le_refl _, fun d hd => by
    have := hk [d] (List.pairwise_singleton _ _) fun e he => by
      rw [List.mem_singleton.mp he]
      exact hd
    exact absurd this (by simp)⟩
  | k + 1, F, fam, hk => by
    obtain ⟨z, hz⟩ := hits fam hk
    obtain ⟨S, s1, s2⟩ := min_max k (fam.rest z) fun I i1 i2 => by
      have sub : ∀ d ∈ I, d ∈ F ∧ sv z d = false := fun d hd => by
        have := List.mem_filter.mp (i2 d hd)
        exact ⟨this.1, by rw [← Bool.not_eq_true']; exact this.2⟩
      have le := hk I i1 fun d hd => (sub d hd).1
      by_cases e : I.length = k + 1
      · obtain ⟨d, hd, s⟩ := hz I i1 (fun d hd => (sub d hd).1) e
        rw [(sub d hd).2] at s
        cases s
      · omega
    refine ⟨z :: S, by rw [List.length_cons]; omega, fun d hd => ?_⟩
    by_cases s : sv z d = true
    · exact ⟨z, List.mem_cons_self, s⟩
    · obtain ⟨w, hw, q⟩ := s2 d (List.mem_filter.mpr ⟨hd, by rw [Bool.not_eq_true] at s; rw [s]; rfl⟩)
      exact ⟨w, List.mem_cons_of_mem _ hw, q⟩

/-! ### a lambda of one parameter p with one captured name c, made in a def and called by a built-in -/
structure Lam1 (sc scope : Scope) (cap par : Str) : Prop where
  kind : scope.kind = .function
  co : scope.isCoroutine = false
  gen : scope.isGenerator = false
  parL : scope.names.lookup par = some .local
  cells : ∀ y ∈ scope.names, y.2 ≠ .cell
  locs : ∀ y, scope.names.lookup y = some .local → y = par
  free : ∀ y ∈ scope.names, y.2 = .free → sc.names.lookup y.1 = some .cell ∨ sc.names.lookup y.1 = some .free
  ne : cap ≠ par
def lam1B (sc scope : Scope) (cap par : Str) : Bool :=
  decide (scope.kind = .function) && !scope.isCoroutine && !scope.isGenerator && decide (scope.names.lookup par = some .local) && (scope.names.all fun y => !decide (y.2 = .cell)) && (scope.names.all fun y => !decide (y.2 = .local) || decide (y.1 = par))
    && (scope.names.all fun y => !decide (y.2 = .free) || decide (sc.names.lookup y.1 = some .cell) || decide (sc.names.lookup y.1 = some .free)) && !decide (cap = par)
theorem lam1_by {sc scope : Scope} {cap par : Str} (h : lam1B sc scope cap par = true) : Lam1 sc scope cap par := by
  unfold lam1B at h
  simp only [Bool.and_eq_true, Bool.or_eq_true, Bool.not_eq_true', decide_eq_true_eq, decide_eq_false_iff_not, List.all_eq_true] at h
  obtain ⟨⟨⟨⟨⟨⟨⟨h1, h2⟩, h3⟩, h4⟩, h5⟩, h6⟩, h7⟩, h8⟩ := h
  refine ⟨h1, h2, h3, h4, h5, fun y e => ?_, fun y hy e => ?_, h8⟩
  · rcases h6 _ (PySem.mem_of_lookup e) with z | z
    · exact absurd rfl z
    · exact z
  · rcases h7 y hy with (z | z) | z
    · exact absurd e z
    · exact .inl z
    · exact .inr z
theorem Lam1.has {X : Cx} {scope : Scope} {cap par : Str} (L : Lam1 X.env.scope scope cap par) (ok : X.Ok) : ∀ y ∈ scope.names, y.2 = .free → ∃ c, X.env.cells.lookup y.1 = some c := fun y hy e => by
  rcases L.free y hy e with k | k
  · exact ok.has _ (.inl k)
  · exact ok.has _ (.inr k)
/-- the context of the lambda's body -/
def lamCx1 (X : Cx) (A : Around) (s : Shared) (H : Hp) (scope : Scope) (cap par : Str) (f c' : Addr) : Cx where
  prog := X.prog
  w := X.w
  K := X.K
  mg := X.mg
  base := X.base
  A := A.deeper (LamX.lamEnv X scope s.heap.objs.size f c')
  N := [cap, par]
  s_0 := s
  H_0 := H
  env := LamX.lamEnv X scope s.heap.objs.size f c'
  outer := X.stack
  stack := LamX.lamEnv X scope s.heap.objs.size f c' :: X.stack
  ex := []
  fn := fun _ => false
  calm := true
  pn := []
  xe := fun _ _ => False
section
variable {X : Cx} {pins : List (Addr × Obj)} {σ : L2.St} {HZ : Hp} {s1 : Shared}
theorem lam_start1 {A : Around} {scope : Scope} {cap par : Str} {f c' : Addr} {h₁ : Heap} {tk i : Nat} {cv pv : V} {u : Value} (I : Inv X pins σ HZ s1) (L : Lam1 X.env.scope scope cap par) (hi : X.N[i]? = some cap) (hσ : σ[i]? = some (some cv))
    (hA : A.frames = some X.stack) (hd : A.handled = none) (hns : h₁.Ns s1.heap.objs.size fun y => ([(par, u)] : List (Str × Value)).reverse.lookup y) (rv : RelV pv u) (keep1 : ∀ b o, s1.heap.get? b = some o → h₁.get? b = some o) :
    Inv (lamCx1 X A s1 HZ scope cap par f c') [] [some cv, some pv] HZ { s1 with heap := h₁, toks := tk } := by
  have e0 := I.env0
  have caps := L.has I.ok
  have ofClo : ∀ {y c}, (cloFrom X.env.cells scope.names []).lookup y = some c → X.env.cells.lookup y = some c := fun {y c} e => by
    rcases cloFrom_mem (PySem.mem_of_lookup e) with zz | ⟨q1, q2⟩
    · cases zz
    · obtain ⟨cc, hc⟩ := caps _ q1 rfl
      have hc : X.env.cells.lookup y = some cc := hc
      have e2 : c = cc := by
        rw [q2, hc] <;> rfl
      rw [e2]
      exact hc
  have hasC : ∀ {y}, scope.names.lookup y = some .free → ∃ c, (cloFrom X.env.cells scope.names []).lookup y = some c := fun {y} hl => by
    have hy : (y, NameKind.free) ∈ scope.names := PySem.mem_of_lookup hl
    exact mem_lookup (cloFrom_has (cells := X.env.cells) (acc := []) hy)
  have cellK : ∀ {c : Addr} {v : Option Value}, s1.heap.IsCell c v → h₁.IsCell c v := fun {c v} ⟨o, ho, hd⟩ => ⟨o, keep1 _ _ ho, hd⟩
  have noEx : ∀ b : Addr, b ∉ (lamCx1 X A s1 HZ scope cap par f c').ex := fun b z => absurd (show b ∈ ([] : List Addr) from z) (by simp)
  refine ⟨⟨e0.mod, L.kind, rfl, rfl, Nat.le_refl _, fun y z c e1 e2 => I.ok.inj y z c (ofClo e1) (ofClo e2), fun y hy => ?_, fun y c z _ => ?_, fun _ => hd, Around.frames_deeper hA, .inr ⟨rfl, rfl⟩, fun b z => absurd z (noEx b), e0.bs, e0.bsz, fun b _ _ => noEx b,
      fun b z => absurd z (noEx b), e0.funs, e0.frf⟩,
    rfl, e0.bare, Un.kept keep1, ⟨_, hns, fun j y v e1 e2 e3 => ?_⟩, fun y c e => ?_, e0.hok.fresh (Nat.le_refl _), fun y c e => ?_, fun q hq => absurd (show q ∈ ([] : List (Addr × Obj)) ++ [] from hq) (by simp), e0.hok.kept keep1, rfl⟩
  · have hy : scope.names.lookup y = some .cell ∨ scope.names.lookup y = some .free := hy
    rcases hy with hy | hy
    · exact absurd rfl (L.cells _ (PySem.mem_of_lookup hy))
    · exact hasC hy
  · have z : false = true := z
    cases z
  · have e3 : Vis scope y := e3
    match j, e1, e2 with
    | 0, e1, e2 =>
      cases e1
      cases e2
      rcases e3 with k | k | k
      · exact absurd (L.locs _ k) L.ne
      · exact absurd rfl (L.cells _ (PySem.mem_of_lookup k))
      · obtain ⟨m, hn, hl⟩ := I.loc
        have hvis : Vis X.env.scope cap := (L.free _ (PySem.mem_of_lookup k) rfl).elim (fun k => .inr (.inl k)) (fun k => .inr (.inr k))
        obtain ⟨w', r, q⟩ := hl i cap cv hi hσ hvis
        obtain ⟨c2, h2⟩ := hasC k
        refine ⟨w', r, .inr ⟨.inr k, c2, h2, ?_⟩⟩
        have c1 := ofClo h2
        rcases q with ⟨k', _⟩ | ⟨_, c3, e', z⟩
        · have k' : X.env.scope.names.lookup cap = some .local := k'
          rcases L.free _ (PySem.mem_of_lookup k) rfl with k2 | k2 <;> rw [show X.env.scope.names.lookup cap = _ from k2] at k' <;> cases k'
        · rw [c1] at e'
          cases e'
          exact cellK z
    | 1, e1, e2 =>
      cases e1
      cases e2
      refine ⟨u, rv, .inl ⟨L.parL, ?_⟩⟩
      simp [List.lookup]
    | n + 2, e1, e2 => cases e1
  · obtain ⟨w', z⟩ := I.cell y c (ofClo e)
    exact ⟨w', cellK z⟩
  · exact I.freeC y c (ofClo e)
/-- the lambda called with u -/
theorem lam_call1 {A : Around} {scope : Scope} {cap par : Str} {f c' : Addr} {pm ctv : Value} {params : Arguments} {body : Expr} {k i : Nat} {cv pv : V} {u : Value} {tb : TE} {Q : VK} (I : Inv X pins σ HZ s1) (L : Lam1 X.env.scope scope cap par) (hi : X.N[i]? = some cap) (hσ : σ[i]? = some (some cv))
    (hA : A.frames = some X.stack) (hr : Room (k + 1) A)
    (hf : s1.heap.get? f = some (PySem.W.kla_obj "<lambda>" (X.env.qual ++ "<lambda>") params body scope (cloFrom X.env.cells scope.names []) pm c' ctv)) (hc : HZ c' = some (LamX.CodeO c' (X.env.qual ++ "<lambda>")))
    (hbind : bindArgs (PySem.W.kla_fn "<lambda>" (X.env.qual ++ "<lambda>") params body scope (cloFrom X.env.cells scope.names []) pm (.ref c') ctv) ⟨[u], []⟩ = pure [(par, u)])
    (hbody : Room k (A.deeper (LamX.lamEnv X scope s1.heap.objs.size f c')) → PE (lamCx1 X A s1 HZ scope cap par f c') body tb) (rv : RelV pv u) (ht : tb [some cv, some pv] HZ Q) :
    wpAny (model X.prog X.w) A (call (.ref f) [u]) (fun x s' => ∃ v H', Inv X pins σ H' s' ∧ RelV v x ∧ Q v H' ∧ Un (frs X.stack) [] HZ H' s1.heap s'.heap) (fun _ _ => False) s1 := by
  obtain ⟨⟨oc, vs, t, hoc, hdc, hvc⟩, _, _⟩ := I.hok c' _ hc
  have rc : codeAny (model X.prog X.w) A (.call (.ref f) ⟨[u], []⟩) (CR CX0 X.stack X.prog X.w HZ s1 Q E0) s1 := by
    refine PySem.W.kla_callFunE hr.depth hf rfl L.co L.gen rfl ⟨c', oc, vs, t, rfl, hoc, hdc, hvc⟩ ?_
    rw [hbind]
    refine wpAny_pure (wpAny_newFunctionEnv L.cells (fun y hy => by rw [List.mem_singleton.mp hy]; exact L.parL) (fun h₁ hns hsb => ⟨I.nolimit.fresh _ hsb, ?_⟩) L.kind)
    show codeAny _ _ (.expr body (LamX.lamEnv X scope s1.heap.objs.size f c')) _ _
    have keep1 : ∀ b o, s1.heap.get? b = some o → h₁.get? b = some o := fun b o e => hsb.extBut b o (Nat.ne_of_lt (Heap.lt_size e)) (Heap.get?_push_of_some _ e)
    have J := lam_start1 (A := A) (f := f) (c' := c') (tk := s1.toks + ([(par, u)] : List (Str × Value)).length) I L hi hσ hA hr.hd hns rv keep1
    refine PySem.W.kla_codeExpr (wpAny_mono ((hbody (hr.deeper _)).run [] _ _ HZ Q J ht) (fun v s' hq => ?_) fun e s' hq => hq.elim)
    obtain ⟨w', H', J', rv', q⟩ := hq
    exact ⟨w', H', J'.os, J'.bare, J'.base, J'.hok, rv', q⟩
  refine wpAny_call (codeAny_mono rc fun r s' hq => ?_)
  cases r with
  | error e => exact (show False from hq).elim
  | ok fl =>
    cases fl with
    | ret x =>
      obtain ⟨v, H', os, bare, un, hok, r, q⟩ := hq
      exact ⟨v, H', I.call' os un hok bare (fun b z => absurd z (by simp)), r, q, un⟩
    | next => exact False.elim hq
    | brk => exact False.elim hq
    | cont => exact False.elim hq
end

/-! ### min(xs, key=f), f a function of the program's own -/
/-- the first of the least keys -/
def Lowest (kf : Nat → Int) (n i : Nat) : Prop := ∀ j, j < n → kf i ≤ kf j ∧ (j < i → kf i < kf j)
structure RawA (X : Cx) (pins : List (Addr × Obj)) (b : Addr) : Prop where
  sz : X.s_0.heap.objs.size ≤ b
  loc : b ≠ X.env.locals
  cell : ∀ x c, X.env.cells.lookup x = some c → c ≠ b
  pin : ∀ p ∈ X.pn ++ pins, p.1 ≠ b
  fr : b ∉ frs X.stack
theorem RawA.of {X : Cx} {pins : List (Addr × Obj)} {σ : L2.St} {H : Hp} {s : Shared} (I : Inv X pins σ H s) {b : Addr} (h : s.heap.objs.size ≤ b) : RawA X pins b where
  sz := Nat.le_trans I.sz h
  loc := (Nat.ne_of_lt (Nat.lt_of_lt_of_le I.lt h)).symm
  cell := fun x c e => by
    obtain ⟨v, o, ho, _⟩ := I.cell x c e
    exact Nat.ne_of_lt (Nat.lt_of_lt_of_le (Heap.lt_size ho) h)
  pin := fun p hp => Nat.ne_of_lt (Nat.lt_of_lt_of_le (Heap.lt_size (I.pin p hp).1) h)
  fr := fun z => by
    rcases List.mem_cons.mp (I.stkSub _ z) with e | e
    · have h1 := I.lt
      rw [← e] at h1
      exact Nat.lt_irrefl _ (Nat.lt_of_lt_of_le h1 h)
    · exact I.nofs h e
structure InLp (X : Cx) (pins : List (Addr × Obj)) (σ : L2.St) (Φ : Hp → Prop) (I S f : Addr) (fo : Obj) (s : Shared) : Prop where
  ex : ∃ H, Inv X pins σ H s ∧ Φ H ∧ H I = none ∧ H S = none ∧ H f = none
  fn : s.heap.get? f = some fo
section
variable {X : Cx} {pins : List (Addr × Obj)} {σ : L2.St} {Φ : Hp → Prop} {l I S f : Addr} {fo : Obj} {as : List Addr} {R : Result → Shared → Prop}
theorem InLp.turn {s : Shared} (L : InLp X pins σ Φ I S f fo s) {it : Addr} {h' : Heap} {t' : Nat} (hit : it = I ∨ it = S) (r : RawA X pins it) (ne : it ≠ f) (k : ∀ b o, b ≠ it → s.heap.get? b = some o → h'.get? b = some o) : InLp X pins σ Φ I S f fo { s with heap := h', toks := t' } := by
  obtain ⟨H, inv, φ, n1, n2, n3⟩ := L.ex
  refine ⟨⟨H, inv.turned (it := it) k ?_ r.loc (.inr r.sz) r.cell r.pin, φ, n1, n2, n3⟩, k _ _ ne.symm L.fn⟩
  rcases hit with rfl | rfl
  · exact n1
  · exact n2
def KeyI (X : Cx) (pins : List (Addr × Obj)) (σ : L2.St) (Φ : Hp → Prop) (f : Addr) (fo : Obj) (as : List Addr) (kf : Nat → Int) : Prop :=
  ∀ (i : Nat) (a : Addr), as[i]? = some a → ∀ (s : Shared) (H : Hp), Inv X pins σ H s → Φ H → H f = none → s.heap.get? f = some fo →
    wpAny (model X.prog X.w) X.A.in1 (call (.ref f) [.ref a]) (fun x s' => (∃ t, x = .int (kf i) t) ∧ ∃ H', Inv X pins σ H' s' ∧ Φ H' ∧ Un (frs X.stack) [] H H' s.heap s'.heap) (fun _ _ => False) s
theorem minL_loop (kf : Nat → Int) (hh : X.A.handled = none) (isL : ∀ s H, Inv X pins σ H s → Φ H → s.heap.IsList l (as.map Value.ref).toArray) (lI : l ≠ I) (SI : S ≠ I) (If : I ≠ f) (Sf : S ≠ f) (rI : RawA X pins I) (rS : RawA X pins S) (nf : f ∉ frs X.stack) (key : KeyI X pins σ Φ f fo as kf)
    (fin : ∀ i a s, as[i]? = some a → Lowest kf as.length i → InLp X pins σ Φ I S f fo s → R (.ok (.ret (.ref a))) s) :
    ∀ (r j i : Nat) (s : Shared) (ab : Addr) (tb : Tok) (c : Nat), as.length - (j + 1) = r → j + 1 ≤ as.length → InLp X pins σ Φ I S f fo s →
      s.heap.get? S = some (seqObj "list" #[.ref ab, .int (kf i) tb] c) → s.heap.IsListIter I l (j + 1) → as[i]? = some ab → i ≤ j → Lowest kf (j + 1) i →
      codeAny (model X.prog X.w) X.A (.builtin "min.loop" ⟨[.ref I, .ref f, .ref S], []⟩) R s := by
  have nm : (toString "min" ++ toString ".loop" : String) = "min.loop" := by decide
  have wk := Walks.list (prog := X.prog) (w := X.w) (A := X.A.in1) hh I l lI (as.map Value.ref).toArray
  have sz : (as.map Value.ref).toArray.size = as.length := by simp
  intro r
  induction r with
  | zero =>
    intro j i s ab tb c er jl L gS it ev ij top
    have last : j + 1 = as.length := by omega
    refine codeAny_builtin PySem.F.entry_min_loop ?_
    rw [Around.under_plainId PySem.F.plain_min_loop _]
    show wpAny _ X.A.in1 (seqItems? (Value.ref S) >>= _) _ _ _
    refine wpAny_bind (wpAny_seqItems gS rfl ?_)
    show wpAny _ X.A.in1 (tryCatch (pyNext (Value.ref I)) _ >>= _) _ _ _
    refine wpAny_bind (wpAny_tryCatch (wk.done _ _ _ ⟨by rw [sz, ← last]; exact it, by
      obtain ⟨H, inv, φ, _⟩ := L.ex
      exact isL _ _ inv φ⟩ fun h1 tk1 k1 => ?_))
    have k1' : ∀ b o, b ≠ I → s.heap.get? b = some o → h1.get? b = some o := fun b o nb e => k1 b o (fun z => nb (List.mem_singleton.mp z)) e
    have L1 := L.turn (t' := tk1) (.inl rfl) rI If k1'
    have gS1 := k1' S _ SI gS
    have u1 := Heap.SameBut.update h1 S (Obj.mapSeq (fun _ => (#[] : Array Value)))
    show wpAny _ X.A.in1 (updateSeq S (fun _ => #[]) >>= fun _ => _) _ _ _
    refine wpAny_bind (wpAny_updateSeq gS1 rfl (wpAny_bind (wpAny_letGo (wpAny_pure ?_))))
    exact fin i ab _ ev (by rw [← last]; exact top) (L1.turn (.inr rfl) rS Sf fun b o nb e => (u1.2 b nb).trans e)
  | succ r ih =>
    intro j i s ab tb c er jl L gS it ev ij top
    have more : j + 1 < as.length := by omega
    refine codeAny_builtin PySem.F.entry_min_loop ?_
    rw [Around.under_plainId PySem.F.plain_min_loop _]
    show wpAny _ X.A.in1 (seqItems? (Value.ref S) >>= _) _ _ _
    refine wpAny_bind (wpAny_seqItems gS rfl ?_)
    show wpAny _ X.A.in1 (tryCatch (pyNext (Value.ref I)) _ >>= _) _ _ _
    refine wpAny_bind (wpAny_tryCatch (wk.item (j + 1) _ _ _ (by rw [sz]; exact more) ⟨it, by
      obtain ⟨H, inv, φ, _⟩ := L.ex
      exact isL _ _ inv φ⟩ fun v h1 tk1 pv it1 k1 => ?_))
    obtain ⟨a1, ev1, rfl⟩ : ∃ a1, as[j + 1]? = some a1 ∧ v = Value.ref a1 := by
      have z : (as.map Value.ref)[j + 1]? = some v := by simpa using pv
      rw [List.getElem?_map] at z
      obtain ⟨a1, e1, e2⟩ := Option.map_eq_some_iff.mp z
      exact ⟨a1, e1, e2.symm⟩
    have k1' : ∀ b o, b ≠ I → s.heap.get? b = some o → h1.get? b = some o := fun b o nb e => k1 b o (fun z => nb (List.mem_singleton.mp z)) e
    have L1 := L.turn (t' := tk1) (.inl rfl) rI If k1'
    have gS1 := k1' S _ SI gS
    obtain ⟨oI, gI, cI, dI⟩ := it1.1
    obtain ⟨H1, inv1, φ1, nI1, nS1, nf1⟩ := L1.ex
    show wpAny _ X.A.in1 (tryCatch (holding [.ref a1] (call (Value.ref f) [.ref a1])) _ >>= _) _ _ _
    refine wpAny_bind (wpAny_tryCatch (wpAny_holding (wpAny_mono (key (j + 1) a1 ev1 _ H1 inv1 φ1 nf1 L1.fn) (fun x s2 hx => ?_) (fun _ _ no => no.elim))))
    obtain ⟨⟨t2, rfl⟩, H2, inv2, φ2, un⟩ := hx
    have gS2 : s2.heap.get? S = _ := un.keep S _ gS1 nS1 rS.fr (by simp)
    have gI2 : s2.heap.get? I = _ := un.keep I _ gI nI1 rI.fr (by simp)
    have gf2 : s2.heap.get? f = _ := un.keep f _ L1.fn nf1 nf (by simp)
    have L2' : InLp X pins σ Φ I S f fo s2 := ⟨⟨H2, inv2, φ2, un.free I _ gI nI1 (by simp), un.free S _ gS1 nS1 (by simp), un.free f _ L1.fn nf1 (by simp)⟩, gf2⟩
    show wpAny _ X.A.in1 (tryCatch (holding [.ref a1, Value.int (kf (j + 1)) t2] (richCompare .Lt (.int (kf (j + 1)) t2) (.int (kf i) tb) >>= _)) _ >>= _) _ _ _
    refine wpAny_bind (wpAny_tryCatch (wpAny_holding (wpAny_bind (CmpOf.ints_lt (prog := X.prog) (w := X.w) (A := X.A.in1) (P := fun n u => ∃ t, u = .int (kf n) t) kf (fun n u z => z) (j + 1) i _ _ _ _ _ ⟨t2, rfl⟩ ⟨tb, rfl⟩ ?_))))
    refine wpAny_bind (wpAny_holding (wpAny_truthy_bool (wpAny_bind (wpAny_letGo (wpAny_pure ?_)))))
    by_cases up : kf (j + 1) < kf i
    · have u1 := Heap.SameBut.update s2.heap S (Obj.mapSeq (fun _ => #[.ref a1, .int (kf (j + 1)) t2]))
      obtain ⟨c2, gS3⟩ : ∃ c2, (s2.heap.update S (Obj.mapSeq fun _ => #[.ref a1, .int (kf (j + 1)) t2])).get? S = some (seqObj "list" #[.ref a1, .int (kf (j + 1)) t2] c2) := ⟨_, get?_update_seq gS2 fun _ => _⟩
      simp only [up, decide_true, if_true]
      refine wpAny_bind (wpAny_updateSeq gS2 rfl (wpAny_bind (wpAny_letGo ?_)))
      rw [nm]
      refine wpAny_pure ⟨plainId_quiet PySem.F.plain_min_loop _, ih (j + 1) (j + 1) _ a1 t2 c2 (by omega) more (L2'.turn (.inr rfl) rS Sf fun b o nb e => (u1.2 b nb).trans e) gS3 ⟨oI, (u1.2 I SI.symm).trans gI2, cI, dI⟩ ev1 (Nat.le_refl _) fun n hn => ?_⟩
      by_cases e : n = j + 1
      · subst e
        exact ⟨Int.le_refl _, fun z => absurd z (Nat.lt_irrefl _)⟩
      · have := (top n (by omega)).1
        exact ⟨by omega, fun _ => by omega⟩
    · simp only [up, decide_false, Bool.false_eq_true, if_false]
      refine wpAny_bind (wpAny_letGo ?_)
      rw [nm]
      refine wpAny_pure ⟨plainId_quiet PySem.F.plain_min_loop _, ih (j + 1) i _ ab tb c (by omega) more (L2'.turn (.inr rfl) rS Sf fun b o nb e => e) gS2 ⟨oI, gI2, cI, dI⟩ ev (by omega) fun n hn => ?_⟩
      by_cases e : n = j + 1
      · subst e
        exact ⟨by omega, fun z => absurd z (by omega)⟩
      · exact top n (by omega)
theorem minL {s : Shared} {Q : Value → Shared → Prop} {E : Value → Shared → Prop} {H : Hp} (kf : Nat → Int) (inv : Inv X pins σ H s) (φ : Φ H) (hh : X.A.handled = none) (isL : ∀ s H, Inv X pins σ H s → Φ H → s.heap.IsList l (as.map Value.ref).toArray) (some1 : 0 < as.length) (hf : s.heap.get? f = some fo) (hn : H f = none) (nf : f ∉ frs X.stack) (key : KeyI X pins σ Φ f fo as kf)
    (fin : ∀ i a s H, as[i]? = some a → Lowest kf as.length i → Inv X pins σ H s → Φ H → Q (.ref a) s) :
    wpAny (model X.prog X.w) X.A (call (.builtin "min") [.ref l] [(Str.ofString "key", .ref f)]) Q E s := by
  have nm : (toString "min" ++ toString ".loop" : String) = "min.loop" := by decide
  have isL0 := isL s H inv φ
  have isL1 := isL0
  obtain ⟨ol, gl, _⟩ := isL1
  have ll : l < s.heap.objs.size := Heap.lt_size gl
  have lf : f < s.heap.objs.size := Heap.lt_size hf
  refine kmb_tree PySem.F.kind_min PySem.F.plain_min PySem.F.entry_min (kmb_min_key _ _) ?_
  show wpAny _ X.A.in1 (Builtin.Builtins.bindParams "min" ["key", "default"] 0 ⟨[], [(Str.ofString "key", Value.ref f)]⟩ >>= _) _ _ s
  refine wpAny_bind (wpAny_of_eq (show Builtin.Builtins.bindParams "min" ["key", "default"] 0 ⟨[], [(Str.ofString "key", Value.ref f)]⟩ = pure [some (.ref f), none] from rfl) ?_)
  refine wpAny_bind (wpAny_pure (wpAny_bind (wpAny_pyIter_list isL0 (wpAny_bind (wpAny_newList ?_ (Nat.zero_le _))))))
  rw [nm]
  have it0 := Heap.get?_push_size s.heap (o := { cls := .type "list_iterator", data := .fields #[.ref l, .int 0 0] }) rfl
  have z1 : (s.heap.push { cls := .type "list_iterator", data := .fields #[.ref l, .int 0 0] }).objs.size = s.heap.objs.size + 1 := Heap.size_push ..
  have k1 : Stay s.heap (s.heap.push { cls := .type "list_iterator", data := .fields #[.ref l, .int 0 0] }) := fun b o e => Heap.get?_push_of_some _ e
  generalize s.heap.push { cls := .type "list_iterator", data := .fields #[.ref l, .int 0 0] } = g1 at *
  have gS := Heap.get?_push_size g1 (o := seqObj "list" #[] 0) rfl
  have k2 : Stay g1 (g1.push (seqObj "list" #[] 0)) := fun b o e => Heap.get?_push_of_some _ e
  have gI := k2 _ _ it0
  generalize g1.push (seqObj "list" #[] 0) = g2 at *
  rw [z1] at gS ⊢
  have st2 : Stay s.heap g2 := fun b o e => k2 b o (k1 b o e)
  have SI : s.heap.objs.size + 1 ≠ s.heap.objs.size := Nat.succ_ne_self _
  have lI : l ≠ s.heap.objs.size := Nat.ne_of_lt ll
  have If : s.heap.objs.size ≠ f := (Nat.ne_of_lt lf).symm
  have Sf : s.heap.objs.size + 1 ≠ f := (Nat.ne_of_lt (Nat.lt_succ_of_lt lf)).symm
  have rI : RawA X pins s.heap.objs.size := RawA.of inv (Nat.le_refl _)
  have rS : RawA X pins (s.heap.objs.size + 1) := RawA.of inv (Nat.le_succ _)
  have L0 : InLp X pins σ Φ s.heap.objs.size (s.heap.objs.size + 1) f fo { s with heap := g2 } := ⟨⟨H, inv.kept st2, φ, inv.hok.fresh (Nat.le_refl _), inv.hok.fresh (Nat.le_succ _), hn⟩, st2 _ _ hf⟩
  have wk := Walks.list (prog := X.prog) (w := X.w) (A := X.A.in1) hh s.heap.objs.size l lI (as.map Value.ref).toArray
  have sz : (as.map Value.ref).toArray.size = as.length := by simp
  refine wpAny_pure ⟨plainId_quiet PySem.F.plain_min_loop _, codeAny_builtin PySem.F.entry_min_loop ?_⟩
  rw [Around.under_plainId PySem.F.plain_min_loop _]
  show wpAny _ X.A.in1 (seqItems? (Value.ref _) >>= _) _ _ _
  refine wpAny_bind (wpAny_seqItems gS rfl ?_)
  show wpAny _ X.A.in1 (tryCatch (pyNext (Value.ref s.heap.objs.size)) _ >>= _) _ _ _
  refine wpAny_bind (wpAny_tryCatch (wk.item 0 _ _ _ (by rw [sz]; exact some1) ⟨⟨_, gI, rfl, rfl⟩, isL_stay st2 isL0⟩ fun v h1 tk1 pv it1 kk => ?_))
  obtain ⟨a1, ev1, rfl⟩ : ∃ a1, as[0]? = some a1 ∧ v = Value.ref a1 := by
    have z : (as.map Value.ref)[0]? = some v := by simpa using pv
    rw [List.getElem?_map] at z
    obtain ⟨a1, e1, e2⟩ := Option.map_eq_some_iff.mp z
    exact ⟨a1, e1, e2.symm⟩
  have kk' : ∀ b o, b ≠ s.heap.objs.size → g2.get? b = some o → h1.get? b = some o := fun b o nb e => kk b o (fun z => nb (List.mem_singleton.mp z)) e
  have L1 := L0.turn (t' := tk1) (.inl rfl) rI If kk'
  have gS1 := kk' _ _ SI gS
  obtain ⟨oI, gI1, cI, dI⟩ := it1.1
  obtain ⟨H1, inv1, φ1, nI1, nS1, nf1⟩ := L1.ex
  show wpAny _ X.A.in1 (tryCatch (holding [.ref a1] (call (Value.ref f) [.ref a1])) _ >>= _) _ _ _
  refine wpAny_bind (wpAny_tryCatch (wpAny_holding (wpAny_mono (key 0 a1 ev1 _ H1 inv1 φ1 nf1 L1.fn) (fun x s2 hx => ?_) (fun _ _ no => no.elim))))
  obtain ⟨⟨t2, rfl⟩, H2, inv2, φ2, un⟩ := hx
  have gS2 := un.keep _ _ gS1 nS1 rS.fr (by simp)
  have gI2 := un.keep _ _ gI1 nI1 rI.fr (by simp)
  have gf2 := un.keep f _ L1.fn nf1 nf (by simp)
  have L2' : InLp X pins σ Φ s.heap.objs.size (s.heap.objs.size + 1) f fo s2 := ⟨⟨H2, inv2, φ2, un.free _ _ gI1 nI1 (by simp), un.free _ _ gS1 nS1 (by simp), un.free f _ L1.fn nf1 (by simp)⟩, gf2⟩
  have u1 := Heap.SameBut.update s2.heap (s.heap.objs.size + 1) (Obj.mapSeq (fun _ => #[.ref a1, .int (kf 0) t2]))
  obtain ⟨c2, gS3⟩ : ∃ c2, (s2.heap.update (s.heap.objs.size + 1) (Obj.mapSeq fun _ => #[.ref a1, .int (kf 0) t2])).get? (s.heap.objs.size + 1) = some (seqObj "list" #[.ref a1, .int (kf 0) t2] c2) := ⟨_, get?_update_seq gS2 fun _ => _⟩
  show wpAny _ X.A.in1 (updateSeq (s.heap.objs.size + 1) (fun _ => #[.ref a1, .int (kf 0) t2]) >>= _) _ _ _
  refine wpAny_bind (wpAny_updateSeq gS2 rfl ?_)
  rw [nm]
  refine wpAny_pure ⟨plainId_quiet PySem.F.plain_min_loop _, minL_loop kf hh isL lI SI If Sf rI rS nf key (fun i a s' e low L => ?_) _ 0 0 _ a1 t2 c2 rfl some1 (L2'.turn (.inr rfl) rS Sf fun b o nb e => (u1.2 b nb).trans e) gS3 ⟨oI, (u1.2 _ SI.symm).trans gI2, cI, dI⟩ ev1 (Nat.le_refl _) fun n hn => ?_⟩
  · obtain ⟨H', inv', φ', _⟩ := L.ex
    exact fin i a s' H' e low inv' φ'
  · have e : n = 0 := by omega
    subst e
    exact ⟨Int.le_refl _, fun z => absurd z (Nat.lt_irrefl _)⟩
end

/-- all but what stands at P stays -/
abbrev ButAt (P : Addr) (H H' : Hp) : Prop := ∀ b o, b ≠ P → H b = some o → H' b = some o
/-- the lambda is made: nothing but its maker's table changes -/
theorem lam_make3 {X : Cx} {pins : List (Addr × Obj)} {σ : L2.St} {H : Hp} {s : Shared} {c P : Addr} {params : Arguments} {body : Expr} {scope : Scope} {pos : Pos} {E : Value → Shared → Prop} {Q : Value → Shared → Prop} (I : Inv X pins σ H s) (TB : LamX.TabB X.base X.mg c P) (hcode : X.env.code = .ref c)
    (tab : LamX.TabS H P (X.env.qual ++ "<lambda>")) (hdef : defaultsOf params X.env = ([], [])) (caps : ∀ y ∈ scope.names, y.2 = .free → ∃ c, X.env.cells.lookup y.1 = some c)
    (fin : ∀ (f c' : Addr) (pm ctv : Value) (H1 : Hp) (s' : Shared), Inv X pins σ H1 s' → ButAt P H H1 → LamX.TabS H1 P (X.env.qual ++ "<lambda>") →
      s'.heap.get? f = some (PySem.W.kla_obj "<lambda>" (X.env.qual ++ "<lambda>") params body scope (cloFrom X.env.cells scope.names []) pm c' ctv) → H1 f = none → f ∉ frs X.stack → H1 c' = some (LamX.CodeO c' (X.env.qual ++ "<lambda>")) → Q (.ref f) s') :
    wpAny (model X.prog X.w) X.A (eval (.Lambda params body scope pos) X.env) Q E s := by
  obtain ⟨ps, hP, tri, known⟩ := tab
  have raw : s.heap.get? P = some { cls := .none, data := .fields ps } := I.hok P _ hP
  have glob := I.mod.glob.keeps I.bk
  have code := TB.code.keeps I.bk
  have bm := TB.bm.keeps I.bk
  apply PySem.W.kla_eval hdef
  cases found : codeAmong pos ps.toList with
  | some cv =>
    obtain ⟨c', rfl, co⟩ := known pos cv found
    apply PySem.W.kla_makeFunctionHit (closure_ok caps) I.ok.glob glob hcode code raw tri found bm
    intro ctv h' tk keep size
    exact fin _ c' _ ctv H _ (I.kept fun b o e => Heap.get?_push_of_some _ (keep b o e)) (fun _ _ _ e => e) ⟨ps, hP, tri, known⟩ (Heap.get?_push_size _ rfl) (I.hok.fresh size) (RawA.of I size).fr co
  | none =>
    apply PySem.W.kla_makeFunction (closure_ok caps) I.ok.glob glob hcode code raw tri found TB.gP bm
    intro c' ctv h' tk ext old lt rec grown
    obtain ⟨_, oc, vs, t, e2, hoc, hd, hv⟩ := rec
    cases e2
    have size : s.heap.objs.size ≤ h'.objs.size := Nat.le_trans old (Nat.le_of_lt lt)
    have nC : H c' = none := I.hok.fresh old
    have PC : P ≠ c' := ne_of_none hP nC
    have J := LamX.inv_table (t' := tk) (more := #[rawInt pos.line, rawInt pos.col, .ref c']) (h' := h'.push (PySem.W.kla_obj "<lambda>" (X.env.qual ++ "<lambda>") params body scope (cloFrom X.env.cells scope.names []) ((X.mg "__name__").getD .none) c' ctv)) I hP
      (fun b o nb e => Heap.get?_push_of_some _ (ext b o nb e)) (Heap.get?_push_of_some _ grown) old ⟨oc, vs, t, Heap.get?_push_of_some _ hoc, hd, hv⟩
    have but : ButAt P H (upd (upd H P (.tbl (ps ++ #[rawInt pos.line, rawInt pos.col, .ref c']))) c' (LamX.CodeO c' (X.env.qual ++ "<lambda>"))) := fun b o nb e => by
      rw [upd_ne (ne_of_none e nC), upd_ne nb]
      exact e
    have asList : (ps ++ #[rawInt pos.line, rawInt pos.col, .ref c']).toList = ps.toList ++ [rawInt pos.line, rawInt pos.col, .ref c'] := by simp
    refine fin h'.objs.size c' _ ctv _ _ J but ⟨_, (upd_ne PC).trans upd_same, ?_, fun pos' cv hc => ?_⟩ (Heap.get?_push_size _ rfl) ?_ (RawA.of I size).fr upd_same
    · rw [asList]
      exact PySem.TriplesOk_snoc _ _ _ _ tri
    · rw [asList] at hc
      rcases LamX.among_app _ tri hc with z | z
      · obtain ⟨c0, q1, q2⟩ := known pos' cv z
        refine ⟨c0, q1, but _ _ (fun w => ?_) q2⟩
        rw [w, hP] at q2
        exact LamX.codeO_ne ps (Option.some.inj q2).symm
      · exact ⟨c', z, upd_same⟩
    · rw [upd_ne (Nat.ne_of_gt lt), upd_ne (Nat.ne_of_gt (Nat.lt_of_lt_of_le (Heap.lt_size raw) size))]
      exact I.hok.fresh size
/-- min(xs, key=lambda par: body), xs a list of objects; body makes ints and changes nothing that stands -/
def tMinLam (P : Addr) (q : Str) (i : Nat) (ta : TA) (tb : TE) : TE := fun σ H Q => ta σ H fun vs H1 => ∃ (a : Addr) (as : List Addr) (kf : Nat → Int) (cv : V), vs = [.ref a] ∧ H1 a = some (.lst (as.map V.ref)) ∧ 0 < as.length ∧ LamX.TabS H1 P q ∧ σ[i]? = some (some cv) ∧
  ∀ H2, ButAt P H1 H2 → LamX.TabS H2 P q → (∀ (j : Nat) (b : Addr) (H' : Hp), as[j]? = some b → Same H2 H' → tb [some cv, some (.ref b)] H' fun v H'' => v = .int (kf j) ∧ Same H' H'') ∧
    ∀ (j : Nat) (b : Addr) (H' : Hp), as[j]? = some b → Lowest kf as.length j → Same H2 H' → Q (.ref b) H'
theorem vals_refs : ∀ {as : List Addr} {us : List Value}, Vals (as.map V.ref) us → us = as.map Value.ref
  | [], _, .nil => rfl
  | a :: as, _, .cons r t => by
    cases r
    rw [vals_refs t] <;> rfl
theorem pe_minLam {X : Cx} {c P : Addr} {k : Nat} {e : Expr} {params : Arguments} {body : Expr} {scope : Scope} {cap par : Str} {p kp lpos pos : Pos} {ta : TA} {tb : TE} (i : Nat) (hc : X.calm = true) (hg : Gl X "min") (hm : X.mg "min" = none) (hr : Room (k + 2) X.A) (TB : LamX.TabB X.base X.mg c P) (hcode : X.env.code = .ref c)
    (L : Lam1 X.env.scope scope cap par) (hi : X.N[i]? = some cap) (hdef : defaultsOf params X.env = ([], []))
    (hbind : ∀ (q : Str) (cl : List (Str × Addr)) (pm cv ctv u : Value), bindArgs (PySem.W.kla_fn "<lambda>" q params body scope cl pm cv ctv) ⟨[u], []⟩ = pure [(par, u)]) (ha : PA X [e] ta)
    (hbody : ∀ (A : Around) (s : Shared) (H : Hp) (f c' : Addr), Room k (A.deeper (LamX.lamEnv X scope s.heap.objs.size f c')) → PE (lamCx1 X A s H scope cap par f c') body tb)
    (he : backTo pos (starEach [e] X.env) = (false, eval e X.env) :: backTo pos (starEach [] X.env) := by rfl) (hpl : (backTo pos (starEach [e] X.env)).any (·.1) = false := by rfl) :
    PE X (.Call (.Name "min" p) [e] [⟨some "key", .Lambda params body scope lpos, kp⟩] pos) (tMinLam P (X.env.qual ++ "<lambda>") i ta tb) := by
  refine ⟨fun pins s σ H Q I h => ?_⟩
  refine wpAny_Call_Name_kw (ld_blt (u := .builtin "min") I hg hm (by decide +kernel) ?_)
  refine PyProof.Rows.callWith_kw (thn (ha.run pos pins s σ H _ I h) fun us s1 ⟨vs, H1, I1, r1, q1⟩ => ?_) he hpl (by rfl) (by rfl)
  show wpAny _ _ (evalAll [(do let v ← eval (.Lambda params body scope lpos) X.env; standAt pos; pure v)]) _ _ s1
  obtain ⟨a, as, kf, cv, rfl, hl, pos1, tab, hσ, hq⟩ := q1
  rw [Vals.ref1 r1]
  refine wpAny_evalAll_cons (wpAny_bind (lam_make3 I1 TB hcode tab hdef (L.has I1.ok) fun f c' pm ctv H2 s2 I2 eN T2 hf hfn hfr hco => ?_))
  refine wpAny_bind (wpAny_standAt (wpAny_pure (wpAny_evalAll_nil ?_)))
  obtain ⟨k1, k2⟩ := hq H2 eN T2
  have hl2 : H2 a = some (.lst (as.map V.ref)) := eN _ _ (fun z => by
    obtain ⟨ps, h4, _⟩ := tab
    rw [z, h4] at hl
    cases hl) hl
  refine minL (Φ := fun H' => Same H2 H') (as := as) (f := f) (H := H2) kf I2 (Same.refl _) (I2.ok.hd hc) (fun s H inv φ => ?_) pos1 hf hfn hfr (fun j b eb s H inv φ hn hg => ?_) fun j b s H eb low inv φ => ⟨.ref b, H, inv, rfl, k2 j b H eb low φ⟩
  · obtain ⟨its, rv, isL, _⟩ := inv.list (SqL.of (φ _ _ hl2))
    rw [vals_refs rv] at isL
    exact isL.isList
  · refine wpAny_mono (lam_call1 (A := X.A.in1) (pv := .ref b) (u := .ref b) inv L hi hσ inv.ok.frames hr.in1 hg (φ _ _ hco) (hbind _ _ _ _ _ _) (fun hr' => hbody _ _ _ _ _ hr') rfl (k1 j b H eb φ)) (fun x s' hx => ?_) fun _ _ no => no
    obtain ⟨v, H', inv', rv, ⟨rfl, sm⟩, un⟩ := hx
    exact ⟨rv, H', inv', φ.trans sm, un⟩

/-! ### the end of a law row of the quiet kind whose program makes a lambda: its maker's table of code objects stands empty at the start -/
abbrev emptyTab : Obj := { cls := .none, data := .fields #[] }
/-- H tells the script and the table, nothing else -/
structure Start (P : Program) (w : World) (K : PySem.W.Frag) (h : Heap) (a T : Addr) (H : Hp) : Prop where
  tab : H T = some (.tbl #[])
  ok : HOk P w H h
  only : ∀ b u, H b = some u → (b = T ∧ u = .tbl #[]) ∨ (b = a ∧ K.lookup b = none ∧ ∃ o xs, u = .frz o (.lst xs))
theorem Start.untold {P : Program} {w : World} {K : PySem.W.Frag} {h : Heap} {a T : Addr} {H : Hp} (S : Start P w K h a T H) {b : Addr} (h1 : b ≠ T) (h2 : b ≠ a) : H b = none := by
  cases q : H b with
  | none => rfl
  | some u =>
    rcases S.only b u q with z | z
    · exact absurd z.1 h1
    · exact absurd z.1 h2
theorem quiet_lawT {P : Program} {w : World} {K : PySem.W.Frag} {mg mb : Str → Option Value} {k : Nat} {fa a c T : Addr} {fd : FuncData} {x : Str} {sp : Sp} {s₁ : Shared} {vs : List Value} {ns : List Int}
    (inK : K.In s₁.heap) (glob : s₁.heap.Ns mainGlobals mg) (blt : s₁.heap.Ns builtinsNs mb) (bltIs : ∀ y : Str, y ≠ "__name__" → mb y = bootBuiltins y) (lim : s₁.heap.NoLimit) (gens : s₁.gens = #[]) (mods : ∃ mm, s₁.heap.Ns sysModules mm)
    (tab : s₁.heap.get? T = some emptyTab) (noT : K.lookup T = none) (code : PySem.W.CodeHd s₁.heap c T)
    (bmain : ∃ (bm : Addr) (ob : Obj), mg "__builtins__" = some (.ref bm) ∧ bm ≠ builtinsNs ∧ s₁.heap.get? bm = some ob ∧ ob.cls = .type "module" ∧ ob.dict = some builtinsNs ∧ ob.data = .plain)
    (here : s₁.heap.get? a = some { cls := .type "list", data := .seq vs.toArray }) (whole : IntsAre vs ns) (few : ns.length ≤ sizeLine) (room : Room k callerA)
    (F : ∀ base : Heap, K.In base → base.Ns mainGlobals mg → (∃ mm, base.Ns sysModules mm) → LamX.TabB base mg c T → FnG P w K mg base k fa fd [x] sp) (bind : ∀ (s : Shared) (u : Value), BindsTo s fd ⟨[u], []⟩ [(x, u)])
    (want : ∀ H : Hp, H T = some (.tbl #[]) → SqL K H a (ns.map V.int) → sp [.ref a] H (fun v _ => v = .bl true) E0) :
    codeAny (model P w) callerA (.call (.ref fa) ⟨[.ref a], []⟩) (fun r s' => r = .ok (.ret (.bool true)) ∧ OldK s₁.heap s'.heap ∧ s'.os = s₁.os ∧ AllBare s'.gens) s₁ := by
  have rel := vals_ints whole
  have aT : a ≠ T := fun z => by
    have q := tab
    rw [← z, here] at q
    injection q with q
    exact nomatch congrArg Obj.data q
  have main : ∀ H : Hp, Start P w K s₁.heap a T H → SqL K H a (ns.map V.int) →
      codeAny (model P w) callerA (.call (.ref fa) ⟨[.ref a], []⟩) (fun r s' => r = .ok (.ret (.bool true)) ∧ OldK s₁.heap s'.heap ∧ s'.os = s₁.os ∧ AllBare s'.gens) s₁ := by
    intro H S sq
    -- what is neither a list nor a table's empty fields is not told
    have plainO : ∀ {b o}, s₁.heap.get? b = some o → (∀ ys n, o.data ≠ .seq ys n) → o.data ≠ .fields #[] → (hidT s₁.heap H).get? b = some o := fun {b o} e h1 h2 => hidT_get e (S.untold (fun z => by
        rw [z, tab] at e
        cases e
        exact h2 rfl) fun z => by
        rw [z, here] at e
        cases e
        exact h1 _ _ rfl)
    have ns1 : ∀ {b m}, s₁.heap.Ns b m → (hidT s₁.heap H).Ns b m := by
      rintro b m ⟨o, es, ep, e, d, r⟩
      refine ⟨o, es, ep, plainO e (fun ys n z => ?_) (fun z => ?_), d, r⟩
      · rw [d] at z
        cases z
      · rw [d] at z
        cases z
    have kIn : K.In (hidT s₁.heap H) := by
      intro b o e
      refine hidT_get (inK b o e) ?_
      cases q : H b with
      | none => rfl
      | some u =>
        rcases S.only b u q with z | z
        · rw [z.1, noT] at e
          cases e
        · rw [z.2.1] at e
          cases e
    have lim1 : (hidT s₁.heap H).NoLimit := by
      obtain ⟨mc, h1, h2⟩ := lim
      exact ⟨mc, ns1 h1, h2⟩
    have code1 : PySem.W.CodeHd (hidT s₁.heap H) c T := by
      obtain ⟨o, us, file, tf, flags, tg, inF, text, tt, e1, r1, r2, r3, rr⟩ := code
      refine ⟨o, us, file, tf, flags, tg, inF, text, tt, plainO e1 (fun ys n z => ?_) (fun z => ?_), r1, r2, r3, rr⟩
      · rw [r2] at z
        cases z
      · rw [r2] at z
        cases z
        cases r3
    have table : LamX.TabB (hidT s₁.heap H) mg c T := by
      refine ⟨code1, ?_, fun z => ?_⟩
      · obtain ⟨bm, ob, b1, b2, b3, b4, b5, b6⟩ := bmain
        refine ⟨bm, ob, b1, b2, fun z => ?_, fun z => ?_, plainO b3 (fun ys n z => ?_) (fun z => ?_), b4, b5, b6⟩
        · obtain ⟨o, es, ep, e, d, _⟩ := glob
          rw [z, e] at b3
          cases b3
          rw [d] at b6
          cases b6
        · rw [z, tab] at b3
          cases b3
          cases b6
        · rw [b6] at z
          cases z
        · rw [b6] at z
          cases z
      · obtain ⟨o, es, ep, e, d, _⟩ := glob
        rw [z, tab] at e
        cases e
        cases d
    have e0 : Env0 P w K mg (hidT s₁.heap H) callerA [] s₁ H := {
      frames := rfl, mod := ⟨kIn, ns1 glob, ⟨mb, ns1 blt, bltIs⟩, lim1⟩, bs := fun _ _ e => of_hidT e, bsz := Nat.le_of_eq (hidT_size _ _), funs := True.intro, frf := (fun _ hb => nomatch hb), hok := S.ok, bare := .of_eq gens }
    apply codeAny_mono ((F _ kIn (ns1 glob) (mods.elim fun mm h => ⟨mm, ns1 h⟩) table).go (us := [.ref a]) (vs := [.ref a]) room rfl e0 (bind s₁ _) (.cons rfl .nil) (want H S.tab sq))
    intro r s' hr
    match r, hr with
    | .error _, hr => exact hr.elim
    | .ok .next, hr => exact False.elim hr
    | .ok .brk, hr => exact False.elim hr
    | .ok .cont, hr => exact False.elim hr
    | .ok (.ret u), hr =>
      obtain ⟨v, H', os, bare, un, ok', rv, q⟩ := hr
      cases (show v = V.bl true from q)
      cases (show u = Value.bool true from rv)
      obtain ⟨more, grown⟩ := un.tbls T #[] S.tab
      have gT := ok' T _ grown
      have rest : ∀ b o, b ≠ T → s₁.heap.get? b = some o → s'.heap.get? b = some o := by
        intro b o nb e
        cases q : H b with
        | none => exact un.keep b o e q (fun z => nomatch z) (fun z => nomatch z)
        | some u =>
          rcases S.only b u q with z | ⟨_, _, ob, xs, rfl⟩
          · exact absurd z.1 nb
          · have e1 := (S.ok b _ q).1
            have e2 := (ok' b _ (un.frzs b ob _ q)).1
            rw [e] at e1
            cases e1
            exact e2
      refine ⟨rfl, ⟨fun b o e => ?_, fun b o e => ?_⟩, os, bare⟩
      · by_cases hb : b = T
        · subst hb
          rw [tab] at e
          cases e
          exact .inr (.inl ⟨(code.tab tab).isCodeTable, rfl, #[], more, rfl, gT⟩)
        · exact .inl (rest b o hb e)
      · by_cases hb : b = T
        · subst hb
          exact ⟨_, gT⟩
        · exact ⟨o, rest b o hb e⟩
  have small : (ns.map V.int).length ≤ sizeLine := by rw [List.length_map]; exact few
  cases known : K.lookup a with
  | some o =>
    have e := inK a o known
    rw [here] at e
    cases e
    have sz : vs.length ≤ sizeLine := by rw [← rel.length]; exact small
    have H0 : ∀ {b u}, (if b = T then some (HO.tbl #[]) else none) = some u → b = T ∧ u = .tbl #[] := by
      intro b u z
      by_cases hb : b = T
      · rw [if_pos hb] at z
        cases z
        exact ⟨hb, rfl⟩
      · rw [if_neg hb] at z
        cases z
    refine main (fun b => if b = T then some (.tbl #[]) else none) ⟨if_pos rfl, fun b u z => ?_, fun b u z => .inl (H0 z)⟩ (.inr ⟨_, vs.toArray, _, known, rfl, rfl, rfl, by simpa using sz, by simpa using rel⟩)
    obtain ⟨rfl, rfl⟩ := H0 z
    exact tab
  | none =>
    have H1 : ∀ {b u}, (if b = T then some (HO.tbl #[]) else if b = a then some (HO.frz { cls := .type "list", data := .seq vs.toArray } (.lst (ns.map V.int))) else none) = some u → (b = T ∧ u = .tbl #[]) ∨ (b = a ∧ u = HO.frz { cls := .type "list", data := .seq vs.toArray } (.lst (ns.map V.int))) := by
      intro b u z
      by_cases hb : b = T
      · rw [if_pos hb] at z
        cases z
        exact .inl ⟨hb, rfl⟩
      · rw [if_neg hb] at z
        by_cases hc : b = a
        · rw [if_pos hc] at z
          cases z
          exact .inr ⟨hc, rfl⟩
        · rw [if_neg hc] at z
          cases z
    refine main (fun b => if b = T then some (.tbl #[]) else if b = a then some (.frz { cls := .type "list", data := .seq vs.toArray } (.lst (ns.map V.int))) else none) ⟨if_pos rfl, fun b u z => ?_, fun b u z => ?_⟩ (.inl (.inr ⟨{ cls := .type "list", data := .seq vs.toArray }, (if_neg aT).trans (if_pos rfl)⟩))
    · rcases H1 z with ⟨rfl, rfl⟩ | ⟨rfl, rfl⟩
      · exact tab
      · exact ⟨here, small, vs, _, rel, here⟩
    · rcases H1 z with z | ⟨rfl, rfl⟩
      · exact .inl z
      · exact .inr ⟨rfl, known, _, _, rfl⟩
theorem quiet_walkT {l : PySem.W.OpenLaw} {n k : Nat} {q : Program} {loose : List Str} {XP : (Str → Option Value) → Heap → Prop} {YP : World → Heap → Prop} {d : DefRec} {K : Params → PySem.W.Frag} {x : Str}
    (noImport : importsNone q = true) (most : l.most = some n) (n2 : n ≤ sizeLine) (defaults : d.params.defaults = []) (room : Room k callerA) (hY : ∀ (w : World) (h : Heap), YP w h → (K w.params).In h)
    (F : ∀ (w : World) (mg : Str → Option Value) (fa : Addr) (h : Heap), (K w.params).In h → h.Ns mainGlobals mg → mg d.name = some (.ref fa) → (∀ (d' : DefRec) (y : Str) (c P : Addr), (recsOf q).find? (fun e => e.name == y) = some d' → PySem.W.tabIn (K w.params) y = some (c, P) → PySem.W.CodeHd h c P ∧ h.get? P = some emptyTab) →
      ∃ (fd : FuncData) (c T : Addr) (sp : Sp), PySem.W.CodeHd h c T ∧ h.get? T = some emptyTab ∧ (K w.params).lookup T = none ∧ (∀ (s : Shared) (u : Value), BindsTo s fd ⟨[u], []⟩ [(x, u)]) ∧
        (∀ (H : Hp) (a : Addr) (ns : List Int), ns.length ≤ n → H T = some (.tbl #[]) → SqL (K w.params) H a (ns.map V.int) → sp [.ref a] H (fun v _ => v = .bl true) E0) ∧
        ∀ base : Heap, (K w.params).In base → base.Ns mainGlobals mg → (∃ mm, base.Ns sysModules mm) → LamX.TabB base mg c T → FnG l.prog w (K w.params) mg base k fa fd [x] sp) :
    PySem.W.WalkO q loose XP YP l.row.toRowW d [] (fun f vs => PySem.call f vs) := by
  apply Att.attach_call most defaults
  intro w s₀ s₁ mg mb fa o pm cd doc a vs ns G Y ho hd hcd hmg hobj hints hlen hg
  obtain ⟨fd, c, T, sp, code, tab, noT, hb, want, hF⟩ := F w mg fa _ (hY w _ Y) G.T.g hmg fun d' y c P h1 h2 => PySem.W.tab_of G.T (hY w _ Y) h1 h2
  exact quiet_lawT (hY w _ Y) G.T.g G.T.b G.T.builtins G.T.nolimit hg ((G.T.seer noImport).mods.elim fun mm h => ⟨mm, h.1⟩) tab noT code G.T.bmain hobj hints (Nat.le_trans hlen n2) room hF hb fun H o1 s1 => want H a ns hlen o1 s1
theorem tabIn_of {K : PySem.W.Frag} {y : Str} {f cc T : Addr} {o1 p1 : Value} {o2 p2 : Option Addr} {fd : FuncData} {vs : Array Value} {o3 p3 : Array (Option Value)} (a : PySem.W.nsIn K mainGlobals y = some (some (.ref f))) (l : K.lookup f = some ⟨o1, o2, .func fd, o3⟩) (e : fd.code = .ref cc)
    (c : K.lookup cc = some ⟨p1, p2, .fields vs, p3⟩) (v : (vs[11]? : Option Value) = some (.ref T)) : PySem.W.tabIn K y = some (cc, T) := by
  unfold PySem.W.tabIn
  rw [a]
  simp only [l, e, c, v]
theorem endT {l : PySem.W.OpenLaw} {w : World} {K : PySem.W.Frag} {mg : Str → Option Value} {h : Heap} {q : Program} {k n : Nat} {fa : Addr} {x y : Str} {sp : Sp} {f cc T : Addr} {o1 p1 : Value} {o2 p2 : Option Addr} {fdm : FuncData} {vs : Array Value} {o3 p3 : Array (Option Value)}
    (tabOf : ∀ (d' : DefRec) (y : Str) (c P : Addr), (recsOf q).find? (fun e => e.name == y) = some d' → PySem.W.tabIn K y = some (c, P) → PySem.W.CodeHd h c P ∧ h.get? P = some emptyTab)
    (a : PySem.W.nsIn K mainGlobals y = some (some (.ref f))) (lk : K.lookup f = some ⟨o1, o2, .func fdm, o3⟩) (e : fdm.code = .ref cc) (c : K.lookup cc = some ⟨p1, p2, .fields vs, p3⟩) (v : (vs[11]? : Option Value) = some (.ref T))
    (there : ((recsOf q).find? fun e => e.name == y).isSome = true) (noT : (K.lookup T).isNone = true)
    (all : ∃ fd : FuncData, (∀ (s : Shared) (v : Value), BindsTo s fd ⟨[v], []⟩ [(x, v)]) ∧ ∀ base : Heap, K.In base → base.Ns mainGlobals mg → (∃ mm, base.Ns sysModules mm) → LamX.TabB base mg cc T → FnG l.prog w K mg base k fa fd [x] sp)
    (want : ∀ (H : Hp) (a : Addr) (ns : List Int), ns.length ≤ n → H T = some (.tbl #[]) → SqL K H a (ns.map V.int) → sp [.ref a] H (fun v _ => v = .bl true) E0) :
    ∃ (fd : FuncData) (c T : Addr) (sp : Sp), PySem.W.CodeHd h c T ∧ h.get? T = some emptyTab ∧ K.lookup T = none ∧ (∀ (s : Shared) (u : Value), BindsTo s fd ⟨[u], []⟩ [(x, u)]) ∧
        (∀ (H : Hp) (a : Addr) (ns : List Int), ns.length ≤ n → H T = some (.tbl #[]) → SqL K H a (ns.map V.int) → sp [.ref a] H (fun v _ => v = .bl true) E0) ∧
        ∀ base : Heap, K.In base → base.Ns mainGlobals mg → (∃ mm, base.Ns sysModules mm) → LamX.TabB base mg c T → FnG l.prog w K mg base k fa fd [x] sp := by
  obtain ⟨fd, b, F⟩ := all
  obtain ⟨d', hd⟩ := Option.isSome_iff_exists.mp there
  obtain ⟨code, tab⟩ := tabOf d' y cc T hd (tabIn_of a lk e c v)
  exact ⟨fd, cc, T, sp, code, tab, Option.isNone_iff_eq_none.mp noT, b, want, F⟩

/-! ### the def that makes a lambda: its code object, the table at P -/
abbrev TabH (base : Heap) (mg : Str → Option Value) (fd : FuncData) (P : Addr) : Prop := ∃ c, LamX.TabB base mg c P ∧ fd.code = .ref c
theorem okC {P : Program} {w : World} {K : PySem.W.Frag} {mg : Str → Option Value} {base : Heap} {x qual : Str} {st : Stmt} {f : Addr} {fd : FuncData} {N ps : List Str} {k : Nat} {sp : Sp} (F : Fun K x qual st f fd) (S : FnScope N ps (defScope st)) (len : ∀ vs H Q E, sp vs H Q E → vs.length = ps.length)
    (body : ∀ (cdv : Value), fd.code = cdv → ∀ (A : Around) (outer : List Env) (s : Shared) (H : Hp) (vs : List V) (Q : VK) (E : XK), Room k (A.deeper (envOfC qual (defScope st) s.heap.objs.size f cdv)) → sp vs H Q E →
      ∃ t, PSs (cxOf CX0 P w K mg base N qual (defScope st) f cdv A outer s H E).nox (defBody st) t ∧ t { nx := fun _ H' => Q .non H', rt := Q } (start N vs) H) : FnOk P w K mg base CX0 (k + 1) f fd ps sp := by
  obtain ⟨oc, od, kV, doc, pm, an, cdv, ct, osl, e, look, code⟩ := F.ex
  subst e
  refine fn_of look code S len fun A outer s H vs Q E room want => ?_
  obtain ⟨t, ht, hq⟩ := body cdv rfl A outer s H vs Q E room want
  exact ⟨t, ht.nox, hq⟩

/-! ### t * 1 is t -/
theorem tuple_mul1 (l : Addr) (items : Array Value) (n : Nat) (dd : Option Addr) (sl : Array (Option Value)) (u : Tok) :
    Meets (Builtin.«tuple.__mul__» ⟨[.ref l, .int 1 u], []⟩) (fun _ R s => s.heap.get? l = some { cls := .type "tuple", dict := dd, data := .seq items n, slots := sl } ∧ R (.ok (.ret (Value.ref l))) s) :=
  .of_wp fun prog w A R s h => by
    obtain ⟨hp, g, d, tk, os⟩ := s
    obtain ⟨hl, h⟩ := h
    have f1 := AutoSeq1.idx_int
    wp_walk using wpAny_loadPart' hl
    repeat (first
      | (refine wpAny_ite_false (by decide) ?_; wp_walk using wpAny_loadPart' hl)
      | (refine wpAny_ite_true (by rw [show ((1 : Int) == 1) = true from rfl, Bool.or_true]) ?_; wp_walk using wpAny_loadPart' hl))
    exact ⟨_, rfl, h⟩
section
variable {X : Cx}
def rRep1 (K : PySem.W.Frag) : R2 := fun x y H Q => ∃ l xs, x = .ref l ∧ y = .int 1 ∧ SqT K H l xs ∧ Q (.ref l) H
theorem op_rep1 : OpR X (binaryOp .Mult) (rRep1 X.K) := by
  intro pins s σ H x y v u Q I rx ry ⟨l, xs, ex, ey, hT, q⟩
  subst ex ey
  cases rx
  obtain ⟨t, rfl⟩ := ry
  obtain ⟨its, r, ⟨⟨cl, dd, dt, sl⟩, ho, hc, n, hd⟩, _⟩ := I.tuple hT
  simp only at hc hd
  subst hc hd
  have isT : Shared.TypeIs s (.ref l) "tuple" := Exists.intro _ (And.intro ho rfl)
  refine wpAny_binaryOp_repeat_ref (T := "tuple") (U := "int") (by decide) isT (fun s' => typeIs_int s' 1 t) noFill_tuple_mul F.fills_int_mul F.slot_int_rmul repeat_tuple F.slot_int_index.lookup ?_
  refine call_meets F.slot_int_rmul (typeIs_int s 1 t) F.entry_int_rmul (F.args_int_rmul_2 _ _) (int_rmul_tuple 1 t l _ n dd sl) (And.intro ho (And.intro rfl (And.intro isT ?_)))
  refine call_meets F.slot_tuple_mul isT F.entry_tuple_mul (F.args_tuple_mul_2 _ _) (tuple_mul1 l _ n dd sl t) (And.intro ho ?_)
  exact ⟨.ref l, H, I, rfl, q⟩
end

/-! ### d.setdefault(t, v), d[t]: dicts whose keys are tuples -/
section
variable {X : Cx} {pins : List (Addr × Obj)} {σ : L2.St} {H : Hp} {s : Shared} {a b : Addr} {r : Value} {d : V} {k : List Key} {A : Around} {E : Value → Shared → Prop}
theorem d_setdT {kvs : List (List Key × V)} {Q : Value → Shared → Prop} (hu : A.units + 1 < cLine) (I : Inv X pins σ H s) (e : H a = some (.dT kvs)) (eb : H b = some (.tup (k.map kV))) (rd : RelV d r) (hl : kvs.length < sizeLine)
    (h1 : ∀ v, valV kvs k = some v → ∀ (w' : Value) (s' : Shared), Inv X pins σ H s' → RelV v w' → Q w' s') (h2 : valV kvs k = none → ∀ (w' : Value) (s' : Shared), Inv X pins σ (upd H a (.dT (putK kvs k d))) s' → RelV d w' → Q w' s') :
    wpAny (model X.prog X.w) A (call (.builtin "dict.setdefault") [.ref a, .ref b, r]) Q E s := by
  obtain ⟨z, hd, xs, rel, dd⟩ := dt_of I.hok e
  have hz : xs.length ≤ sizeLine := by rw [← Paired.length rel]; exact z
  refine call_setdefault_heap (hsz := hz) (tupleKind_room_in1 hu) (key_of I.hok eb) hd dd (fun p hp => ?_) fun hn h' dd' hs => ?_
  · have q := rel.val k
    rw [hp] at q
    cases q0 : valV kvs k with
    | none =>
      rw [q0] at q
      exact (show False from q).elim
    | some v0 =>
      rw [q0] at q
      exact h1 v0 q0 _ _ (I.tok _) q
  · have q := rel.val k
    rw [hn] at q
    cases q0 : valV kvs k with
    | some v0 =>
      rw [q0] at q
      exact (show False from q).elim
    | none =>
      have hl2 : (putK kvs k d).length ≤ sizeLine := by
        have := length_putK kvs k d
        omega
      obtain ⟨q, es, ep, hq, g2, g3, g4, _, g5⟩ := dd'
      refine h2 q0 _ _ (d_write (t' := s.toks + (tupleKind (mixKind X.prog X.w)).draws k) I (by rw [e]; exact True.intro) hs ⟨q, hq⟩ ⟨hl2, hd, _, (rel.put k eb rd).keeps fun c ys ec => ?_, q, es, ep, hq, g2, g3, g4, g5⟩) rd
      rw [upd_ne (ne_of ec e (fun z => nomatch z))]
      exact ec
end
def tDSetdT (td ty tx : TE) : TE := fun σ H Q => td σ H fun x H1 => ∃ a, x = .ref a ∧ IsD H1 a ∧ ty σ H1 fun y H2 => tx σ H2 fun z H3 => ∃ (kvs : List (List Key × V)) (k : List Key) (b : Addr), H3 a = some (.dT kvs) ∧ y = .ref b ∧ H3 b = some (.tup (k.map kV)) ∧ kvs.length < sizeLine ∧
  (∀ v, valV kvs k = some v → Q v H3) ∧ (valV kvs k = none → Q z (upd H3 a (.dT (putK kvs k z))))
section
variable {X : Cx} {o e f : Expr} {td ty tx : TE} {apos cpos : Pos}
theorem pe_dsetdT (hu : X.A.units + 1 < cLine) (ho : PE X o td) (he : PE X e ty) (hf : PE X f tx) (m : M2 X o "setdefault" apos e f cpos) : PE X (.Call (.Attribute o "setdefault" apos) [e, f] [] cpos) (tDSetdT td ty tx) := by
  refine ⟨fun pins s σ H Q I h => ?_⟩
  refine wpAny_Call_method m.base m.few m.line PySem.F.plainAttrs_dict PySem.F.slot_dict_setdefault PySem.F.type_dict_setdefault (thn (ho.run pins s σ H _ I h) fun u s1 ⟨x, H1, I1, rx, a, ex, d, q1⟩ => ?_)
  subst ex
  obtain rfl : u = Value.ref a := rx
  obtain ⟨t1, t2, _⟩ := isD_at I1 d
  refine ⟨t1, t2, ?_⟩
  rw [m.trees]
  refine Calls.callWith_builtin rfl (Calls.evalArgs_plain (Calls.spliced_cons (thn (he.run pins s1 σ H1 _ I1 q1) fun iv s2 ⟨y, H2, I2, ry, q2⟩ =>
    Calls.spliced_cons (thn (hf.run pins s2 σ H2 _ I2 q2) fun fv s3 ⟨z, H3, I3, rz, kvs, k, b, ea, ey, eb, hl, q3, q4⟩ => Calls.spliced_nil ?_))))
  subst ey
  cases (show iv = Value.ref b from ry)
  exact d_setdT hu I3 ea eb rz hl (fun v hv w' s4 I4 rw' => ⟨v, _, I4, rw', q3 v hv⟩) fun hn w' s4 I4 rw' => ⟨z, _, I4, rw', q4 hn⟩
end

/-! ### zip of a tuple and a list, in a comprehension (over the library's Draws) -/
section
open RZ
/-- what stands at turn i: the tuple at a, the list at b -/
def ItzM (K : PySem.W.Frag) (a b : Addr) : It where
  go := fun i H => ∃ (xs ys : List V) (x y : V), (SqT K H a xs ∧ xs[i]? = some x) ∧ SqL K H b ys ∧ ys[i]? = some y
  yld := fun i H v H' => ∃ T x y, (v = .ref T ∧ H T = none ∧ H' = upd H T (.tup [x, y])) ∧ (∀ xs, SqT K H a xs → xs[i]? = some x) ∧ ∀ ys, SqL K H b ys → ys[i]? = some y
  stop := fun i H => ∃ xs ys : List V, SqT K H a xs ∧ SqL K H b ys ∧ (i ≤ xs.length ∧ i ≤ ys.length) ∧ (i = xs.length ∨ i = ys.length)
/-- the cells of such a zip whose first new cell is n -/
def fpM (n : Nat) : List Addr := [n + 4, n + 2, n + 3, n, n + 1]
def stM (n : Nat) (a b : Addr) (i : Nat) (h : Heap) : Prop :=
  (IsZip h (n + 4) (n + 2) (n + 3) .none ∧ IsTupOf2 h (n + 2) (.ref n) (.ref (n + 1)) ∧ ∃ x y, IsTupOf2 h (n + 3) x y) ∧ h.IsTupleIter n a i ∧ h.IsListIter (n + 1) b i
theorem fpM_mem {n : Nat} {c : Addr} : c ∈ fpM n ↔ c = n + 4 ∨ c = n + 2 ∨ c = n + 3 ∨ c = n ∨ c = n + 1 := by
  unfold fpM
  simp
theorem fpM_z (n : Nat) : n + 4 ∈ fpM n := fpM_mem.mpr (.inl rfl)
theorem fpM_TI (n : Nat) : n + 2 ∈ fpM n := fpM_mem.mpr (.inr (.inl rfl))
theorem fpM_TO (n : Nat) : n + 3 ∈ fpM n := fpM_mem.mpr (.inr (.inr (.inl rfl)))
theorem fpM_1 (n : Nat) : n ∈ fpM n := fpM_mem.mpr (.inr (.inr (.inr (.inl rfl))))
theorem fpM_2 (n : Nat) : n + 1 ∈ fpM n := fpM_mem.mpr (.inr (.inr (.inr (.inr rfl))))
theorem stM_obj {n : Nat} {a b : Addr} {i : Nat} {h : Heap} (st : stM n a b i h) {c : Addr} (hc : c ∈ fpM n) : ∃ o, h.get? c = some o ∧ ∀ v, o.data ≠ .cell v := by
  obtain ⟨⟨hz, hTI, x, y, hTO⟩, ⟨o1, e1, _, d1⟩, o2, e2, _, d2⟩ := st
  rcases fpM_mem.mp hc with rfl | rfl | rfl | rfl | rfl
  · exact ⟨_, hz, fun v q => nomatch q⟩
  · exact ⟨_, hTI, fun v q => nomatch q⟩
  · exact ⟨_, hTO, fun v q => nomatch q⟩
  · exact ⟨o1, e1, fun v q => by rw [d1] at q; cases q⟩
  · exact ⟨o2, e2, fun v q => by rw [d2] at q; cases q⟩
theorem stM_keep {n : Nat} {a b : Addr} {i : Nat} {h h' : Heap} (st : stM n a b i h) (k : ∀ c ∈ fpM n, ∀ o, h.get? c = some o → h'.get? c = some o) : stM n a b i h' := by
  obtain ⟨⟨hz, hTI, x, y, hTO⟩, h1, h2⟩ := st
  exact ⟨⟨k _ (fpM_z n) _ hz, k _ (fpM_TI n) _ hTI, x, y, k _ (fpM_TO n) _ hTO⟩, h1.at fun o q => k _ (fpM_1 n) o q, h2.at fun o q => k _ (fpM_2 n) o q⟩
theorem ne_add {a n k : Nat} (h : a < n) : a ≠ n + k := by omega
theorem ne_addN {a n : Nat} (h : a < n) : a ≠ n := by omega
theorem sepM {n : Nat} {a b : Addr} (ha : a < n) (hb : b < n) : ZipSep2 (n + 4) (n + 2) (n + 3) n (n + 1) [n, a] [n + 1, b] :=
  zip_sep2 (N := n) (fp1 := [a]) (fp2 := [b]) (fun c hc => by rw [List.mem_singleton.mp hc]; exact ha) (fun c hc => by rw [List.mem_singleton.mp hc]; exact hb)
theorem turn_zipM {P : Program} {w : World} {K : PySem.W.Frag} {elts : List Expr} {kk : Nat} {tpos : Pos} {a b : Addr} {n : Nat} (ha : a < n) (hb : b < n) :
    Turn P w K (.Tuple elts kk tpos) (ItzM K a b) (fpM n) (n + 4) (stM n a b) where
  mem := fpM_z n
  obj := fun i h st c hc => stM_obj st hc
  keep := fun i h h' st k => stM_keep st k
  item := by
    intro X hP hw hK hc i pins s σ H E I hf st hg
    subst hP hw hK
    obtain ⟨xs, ys, x, y, ⟨hqx, hx⟩, hqy, hy⟩ := hg
    obtain ⟨its, rv, p, _⟩ := I.tuple hqx
    obtain ⟨its2, rv2, p2, _⟩ := I.list hqy
    obtain ⟨u, hu, ru⟩ := rv.get hx
    obtain ⟨u2, hu2, ru2⟩ := rv2.get hy
    have low : ∀ c ∈ fpM n, c < s.heap.objs.size := fun c hcm => by
      obtain ⟨o, ho, _⟩ := stM_obj st hcm
      exact Heap.lt_size ho
    obtain ⟨⟨hz, hTI, x0, y0, hTO⟩, h1, h2⟩ := st
    have hh : X.A.in1.handled = none := I.ok.hd hc
    have D1 := Draws.tuple (prog := X.prog) (w := X.w) hh n a (ne_addN ha) its.toArray
    have D2 := Draws.list (prog := X.prog) (w := X.w) hh (n + 1) b (ne_add hb) its2.toArray
    have l1 : i < its.toArray.size := by
      have := (List.getElem?_eq_some_iff.mp hu).1
      simpa using this
    have l2 : i < its2.toArray.size := by
      have := (List.getElem?_eq_some_iff.mp hu2).1
      simpa using this
    refine wpAny_pyNext_zipD2_item (sepM ha hb) D1 D2 hz hTI hTO ⟨h1, p⟩ ⟨h2, p2.isList⟩ l1 l2 fun x1 x2 h' tk e1 e2 z' TO' st1 st2 hT _ hk => ?_
    obtain rfl : x1 = u := by
      have e1 : its[i]? = some x1 := by simpa using e1
      rw [hu] at e1
      exact (Option.some.inj e1).symm
    obtain rfl : x2 = u2 := by
      have e2 : its2[i]? = some x2 := by simpa using e2
      rw [hu2] at e2
      exact (Option.some.inj e2).symm
    refine ⟨_, rfl, wpAny_letOwnedTupleGo_zip (s := { s with heap := h', toks := tk }) z' fun h'' z'' sb => ?_⟩
    have keep : ∀ c o, c ∉ fpM n → s.heap.get? c = some o → h''.get? c = some o := fun c o hb q =>
      (sb.2 c fun e => hb (e ▸ fpM_z n)).trans (hk c o (fun e => hb (e ▸ fpM_z n)) (fun e => hb (e ▸ fpM_TO n)) (fun e => hb (e ▸ fpM_1 n)) (fun e => hb (e ▸ fpM_2 n)) q)
    have out : ∀ c ∈ fpM n, c ≠ s.heap.objs.size := fun c hcm => Nat.ne_of_lt (low c hcm)
    have hT2 : h''.get? s.heap.objs.size = some { cls := .type "tuple", data := .seq #[x1, x2] } := (sb.2 _ (out _ (fpM_z n)).symm).trans hT
    have new : ObjOk X.prog X.w (upd H s.heap.objs.size (.tup [x, y])) h'' s.heap.objs.size (.tup [x, y]) :=
      ⟨by show 2 ≤ sizeLine; decide, [x1, x2], .cons ru (.cons ru2 .nil), _, hT2, rfl, _, rfl⟩
    have nz : n + 2 ≠ n + 4 ∧ n + 3 ≠ n + 4 ∧ n ≠ n + 4 ∧ n + 1 ≠ n + 4 := by omega
    have nt : n + 2 ≠ n + 3 ∧ n + 2 ≠ n ∧ n + 2 ≠ n + 1 := by omega
    refine ⟨.ref s.heap.objs.size, _, I.turnedNew (t' := tk) keep hf (Nat.le_refl _) new, rfl, ⟨_, x, y, ⟨rfl, I.hok.fresh (Nat.le_refl _), rfl⟩, fun l hl => by rw [I.tuple_inj hl hqx]; exact hx, fun l hl => by rw [I.list_inj hl hqy]; exact hy⟩, ?_, fun c hcm => ?_⟩
    · exact ⟨⟨z'', (sb.2 _ nz.1).trans (hk _ _ nz.1 nt.1 nt.2.1 nt.2.2 hTI), x1, x2, (sb.2 _ nz.2.1).trans TO'⟩, st1.1.at fun o q => (sb.2 _ nz.2.2.1).trans q, st2.1.at fun o q => (sb.2 _ nz.2.2.2).trans q⟩
    · rw [upd_ne (out c hcm)]
      exact (hf c hcm).1
  done := by
    intro X hP hw hK hc i pins s σ H E I hf st hg
    subst hP hw hK
    obtain ⟨⟨hz, hTI, x0, y0, hTO⟩, h1, h2⟩ := st
    obtain ⟨xs, ys, hqx, hqy, ⟨le1, le2⟩, hend⟩ := hg
    obtain ⟨its, rv, p, _⟩ := I.tuple hqx
    obtain ⟨its2, rv2, p2, _⟩ := I.list hqy
    have q1 : its.toArray.size = xs.length := by
      rw [rv.length]
      simp
    have q2 : its2.toArray.size = ys.length := by
      rw [rv2.length]
      simp
    have hh : X.A.in1.handled = none := I.ok.hd hc
    refine wpAny_pyNext_zipD2_end (sepM ha hb) (Draws.tuple (prog := X.prog) (w := X.w) hh n a (ne_addN ha) its.toArray) (Draws.list (prog := X.prog) (w := X.w) hh (n + 1) b (ne_add hb) its2.toArray) hz hTI hTO ⟨h1, p⟩ ⟨h2, p2.isList⟩ (by rw [q1]; exact le1) (by rw [q2]; exact le2) (by rw [q1, q2]; exact hend) fun h' tk hk => ⟨rfl, ?_⟩
    exact I.turnedL (t' := tk) (ch := fpM n) (fun c o hb q => hk c o (fun e => hb (e ▸ fpM_z n)) (fun e => hb (e ▸ fpM_TO n)) (fun e => hb (e ▸ fpM_1 n)) (fun e => hb (e ▸ fpM_2 n)) q) hf
  self := fun A i s Q E st h => wpAny_pyIter_zip st.1.1 h
def iZipM (K : PySem.W.Frag) (ta : TA) : TI := fun σ H R => ta σ H fun vs H1 => ∃ a b xs ys, vs = [.ref a, .ref b] ∧ SqT K H1 a xs ∧ SqL K H1 b ys ∧ R (ItzM K a b) H1
theorem pi_zipM {X : Cx} {e e2 : Expr} {ta : TA} {p pos tpos : Pos} {elts : List Expr} {kk : Nat} (hg : Gl X "zip") (hm : X.mg "zip" = none) (ha : PA X [e, e2] ta)
    (hs : starEach [e, e2] X.env = (false, eval e X.env) :: starEach [e2] X.env := by rfl) (hpl : (backTo pos (starEach [e2] X.env)).any (·.1) = false := by rfl) :
    PI X (.Tuple elts kk tpos) (.Call (.Name "zip" p) [e, e2] [] pos) (iZipM X.K ta) := by
  refine ⟨fun pins s σ H R I h => ?_⟩
  refine Call_ (ld_blt I hg hm PyProof.Rows.boot_zip (PyProof.Rows.callWith_type1 (thn (ha.run pos pins s σ H _ I h) fun us s1 ⟨vs, H1, I1, r1, a, b, xs, ys, ex, hqx, hqy, q⟩ => ?_) hs hpl))
  subst ex
  obtain ⟨its, rv, p1, _⟩ := I1.tuple hqx
  obtain ⟨its2, rv2, p2, _⟩ := I1.list hqy
  obtain ⟨o1, ho1, _⟩ := id p1
  have e1 : us = [.ref a, .ref b] := by
    cases r1 with
    | cons r rr =>
      cases r
      cases rr with
      | cons r' rr =>
        cases r'
        cases rr
        rfl
  subst e1
  have la : a < s1.heap.objs.size := Heap.lt_size ho1
  refine zip_begins2 (begins_tuple a its.toArray) (begins_list b its2.toArray) p1 p2.isList fun h' hz hTI hTO h1 h2 _ hk => wpAny_pyIter_zip hz ?_
  refine ⟨s1.heap.objs.size + 4, fpM s1.heap.objs.size, stM s1.heap.objs.size a b, _, H1, rfl, I1.kept (t' := s1.toks) hk, turn_zipM la p2.lt, ⟨⟨hz, hTI, _, _, hTO⟩, ⟨_, h1, rfl, rfl⟩, _, h2, rfl, rfl⟩, fun c hcm => ?_, q⟩
  have hle : s1.heap.objs.size ≤ c := by
    rcases fpM_mem.mp hcm with z | z | z | z | z <;> rw [z]
    · exact Nat.le_add_right _ _
    · exact Nat.le_add_right _ _
    · exact Nat.le_add_right _ _
    · exact Nat.le_refl _
    · exact Nat.le_add_right _ _
  exact I1.fpOk hle (I1.hok.fresh hle)
end

def topS (i : Nat) : Stmt := PySem.Challenge.pw_fewspans_k63_whole_small_boards_searched.main.body.getD i (.Pass ⟨0, 0, 0, 0⟩)
abbrev s_depth_changes : Stmt := topS 1
abbrev N_depth_changes : List Str := ["intervals", "changes", "low", "high"]
theorem sc_depth_changes : FnScope N_depth_changes ["intervals"] (defScope s_depth_changes) := ⟨rfl, rfl, rfl, by decide +kernel, rfl, by decide +kernel, by decide +kernel⟩
abbrev s_find_blocks : Stmt := topS 2
abbrev N_find_blocks : List Str := ["intervals", "changes", "borders", "blocks", "depth", "low", "after"]
theorem sc_find_blocks : FnScope N_find_blocks ["intervals"] (defScope s_find_blocks) := ⟨rfl, rfl, rfl, by decide +kernel, rfl, by decide +kernel, by decide +kernel⟩
abbrev s_has_position : Stmt := topS 4
abbrev N_has_position : List Str := ["interval", "position"]
theorem sc_has_position : FnScope N_has_position ["interval", "position"] (defScope s_has_position) := ⟨rfl, rfl, rfl, by decide +kernel, rfl, by decide +kernel, by decide +kernel⟩
abbrev s_contains : Stmt := topS 5
abbrev N_contains : List Str := ["outer", "inner"]
theorem sc_contains : FnScope N_contains ["outer", "inner"] (defScope s_contains) := ⟨rfl, rfl, rfl, by decide +kernel, rfl, by decide +kernel, by decide +kernel⟩
abbrev s_serves : Stmt := topS 7
abbrev N_serves : List Str := ["piece", "demand", "position", "target"]
theorem sc_serves : FnScope N_serves ["piece", "demand"] (defScope s_serves) := ⟨rfl, rfl, rfl, by decide +kernel, rfl, by decide +kernel, by decide +kernel⟩
abbrev s_conflict : Stmt := topS 8
abbrev N_conflict : List Str := ["first", "second"]
theorem sc_conflict : FnScope N_conflict ["first", "second"] (defScope s_conflict) := ⟨rfl, rfl, rfl, by decide +kernel, rfl, by decide +kernel, by decide +kernel⟩
abbrev s_demands_at_blocks : Stmt := topS 9
abbrev N_demands_at_blocks : List Str := ["targets", "blocks", "low", "high", "target"]
theorem sc_demands_at_blocks : FnScope N_demands_at_blocks ["targets", "blocks"] (defScope s_demands_at_blocks) := ⟨rfl, rfl, rfl, by decide +kernel, rfl, by decide +kernel, by decide +kernel⟩
abbrev s_is_open : Stmt := topS 10
abbrev N_is_open : List Str := ["pieces", "demand", "piece"]
theorem sc_is_open : FnScope N_is_open ["pieces", "demand"] (defScope s_is_open) := ⟨rfl, rfl, rfl, by decide +kernel, rfl, by decide +kernel, by decide +kernel⟩
abbrev s_open_demands : Stmt := topS 11
abbrev N_open_demands : List Str := ["targets", "pieces", "demands", "demand"]
theorem sc_open_demands : FnScope N_open_demands ["targets", "pieces"] (defScope s_open_demands) := ⟨rfl, rfl, rfl, by decide +kernel, rfl, by decide +kernel, by decide +kernel⟩
abbrev s_shadow_target : Stmt := topS 12
abbrev N_shadow_target : List Str := ["targets", "demand", "position", "whole", "target"]
theorem sc_shadow_target : FnScope N_shadow_target ["targets", "demand"] (defScope s_shadow_target) := ⟨rfl, rfl, rfl, by decide +kernel, rfl, by decide +kernel, by decide +kernel⟩
abbrev s_decisive_demands : Stmt := topS 14
abbrev N_decisive_demands : List Str := ["targets", "pieces", "demand"]
theorem sc_decisive_demands : FnScope N_decisive_demands ["targets", "pieces"] (defScope s_decisive_demands) := ⟨rfl, rfl, rfl, by decide +kernel, rfl, by decide +kernel, by decide +kernel⟩
abbrev s_largest_independent : Stmt := topS 15
abbrev N_largest_independent : List Str := ["demands", "first", "rest", "chosen", "demand", "position", "target"]
theorem sc_largest_independent : FnScope N_largest_independent ["demands"] (defScope s_largest_independent) := ⟨rfl, rfl, rfl, by decide +kernel, rfl, by decide +kernel, by decide +kernel⟩
abbrev s_unserved_demands : Stmt := topS 16
abbrev N_unserved_demands : List Str := ["demands", "piece", "demand"]
theorem sc_unserved_demands : FnScope N_unserved_demands ["demands", "piece"] (defScope s_unserved_demands) := ⟨rfl, rfl, rfl, by decide +kernel, rfl, by decide +kernel, by decide +kernel⟩
abbrev s_helpful_piece : Stmt := topS 17
abbrev N_helpful_piece : List Str := ["demands", "blocks", "pieces", "low", "end", "start", "high"]
theorem sc_helpful_piece : FnScope N_helpful_piece ["demands", "blocks"] (defScope s_helpful_piece) := ⟨rfl, rfl, rfl, by decide +kernel, rfl, by decide +kernel, by decide +kernel⟩
abbrev s_smallest_solution : Stmt := topS 18
abbrev N_smallest_solution : List Str := ["targets", "pieces", "blocks", "demands", "witnesses", "added", "piece"]
theorem sc_smallest_solution : FnScope N_smallest_solution ["targets", "pieces"] (defScope s_smallest_solution) := ⟨rfl, rfl, rfl, by decide +kernel, rfl, by decide +kernel, by decide +kernel⟩
abbrev s_row_runs : Stmt := topS 20
abbrev N_row_runs : List Str := ["board", "row", "runs", "index", "column"]
theorem sc_row_runs : FnScope N_row_runs ["board", "row"] (defScope s_row_runs) := ⟨rfl, rfl, rfl, by decide +kernel, rfl, by decide +kernel, by decide +kernel⟩
abbrev s_rows_of_runs : Stmt := topS 21
abbrev N_rows_of_runs : List Str := ["board", "rows", "row", "last", "column", "run"]
theorem sc_rows_of_runs : FnScope N_rows_of_runs ["board"] (defScope s_rows_of_runs) := ⟨rfl, rfl, rfl, by decide +kernel, rfl, by decide +kernel, by decide +kernel⟩
abbrev s_tallest_rectangle : Stmt := topS 22
abbrev N_tallest_rectangle : List Str := ["board", "piece", "left", "right", "columns", "bottom", "top"]
theorem sc_tallest_rectangle : FnScope N_tallest_rectangle ["board", "piece"] (defScope s_tallest_rectangle) := ⟨rfl, rfl, rfl, by decide +kernel, rfl, by decide +kernel, by decide +kernel⟩
abbrev s_cover_board : Stmt := topS 23
abbrev N_cover_board : List Str := ["board", "rows", "pieces", "witnesses", "rectangles", "piece", "column", "run"]
theorem sc_cover_board : FnScope N_cover_board ["board"] (defScope s_cover_board) := ⟨rfl, rfl, rfl, by decide +kernel, rfl, by decide +kernel, by decide +kernel⟩
abbrev s_law_draws : Stmt := topS 25
abbrev N_law_draws : List Str := ["_law_script", "_law_cells", "_law_cell"]
theorem sc_law_draws : FnScope N_law_draws ["_law_script"] (defScope s_law_draws) := ⟨rfl, rfl, rfl, by decide +kernel, rfl, by decide +kernel, by decide +kernel⟩
abbrev s_law_next : Stmt := topS 26
abbrev N_law_next : List Str := ["_law_drawn", "_law_many", "_law_cells", "_law_nth", "_law_rests", "_law_spot", "_law_digit", "_law_mixed", "_law_more"]
theorem sc_law_next : FnScope N_law_next ["_law_drawn", "_law_many"] (defScope s_law_next) := ⟨rfl, rfl, rfl, by decide +kernel, rfl, by decide +kernel, by decide +kernel⟩
abbrev s_law_column : Stmt := topS 27
abbrev N_law_column : List Str := ["_law_drawn", "_law_height", "_law_first", "_law_second", "_law_shape"]
theorem sc_law_column : FnScope N_law_column ["_law_drawn", "_law_height"] (defScope s_law_column) := ⟨rfl, rfl, rfl, by decide +kernel, rfl, by decide +kernel, by decide +kernel⟩
abbrev s_law_board : Stmt := topS 28
abbrev N_law_board : List Str := ["_law_drawn", "_law_most_here", "_law_height", "_law_columns", "_law_index", "_law_shape"]
theorem sc_law_board : FnScope N_law_board ["_law_drawn", "_law_most_here", "_law_height"] (defScope s_law_board) := ⟨rfl, rfl, rfl, by decide +kernel, rfl, by decide +kernel, by decide +kernel⟩
abbrev s_law_is_int : Stmt := topS 29
abbrev N_law_is_int : List Str := ["_law_value", "_law_low", "_law_high"]
theorem sc_law_is_int : FnScope N_law_is_int ["_law_value", "_law_low", "_law_high"] (defScope s_law_is_int) := ⟨rfl, rfl, rfl, by decide +kernel, rfl, by decide +kernel, by decide +kernel⟩
abbrev s_law_inside : Stmt := topS 30
abbrev N_law_inside : List Str := ["_law_board_here", "_law_column_here", "_law_row"]
theorem sc_law_inside : FnScope N_law_inside ["_law_board_here", "_law_column_here", "_law_row"] (defScope s_law_inside) := ⟨rfl, rfl, rfl, by decide +kernel, rfl, by decide +kernel, by decide +kernel⟩
abbrev s_law_full : Stmt := topS 31
abbrev N_law_full : List Str := ["_law_board_here", "_law_left", "_law_right", "_law_bottom", "_law_top", "_law_good", "_law_c"]
theorem sc_law_full : FnScope N_law_full ["_law_board_here", "_law_left", "_law_right", "_law_bottom", "_law_top"] (defScope s_law_full) := ⟨rfl, rfl, rfl, by decide +kernel, rfl, by decide +kernel, by decide +kernel⟩
abbrev s_law_is_rectangle : Stmt := topS 32
abbrev N_law_is_rectangle : List Str := ["_law_board_here", "_law_value", "_law_item", "_law_left", "_law_right", "_law_bottom", "_law_top"]
theorem sc_law_is_rectangle : FnScope N_law_is_rectangle ["_law_board_here", "_law_value"] (defScope s_law_is_rectangle) := ⟨rfl, rfl, rfl, by decide +kernel, rfl, by decide +kernel, by decide +kernel⟩
abbrev s_law_apart : Stmt := topS 33
abbrev N_law_apart : List Str := ["_law_board_here", "_law_first", "_law_second", "_law_left", "_law_right"]
theorem sc_law_apart : FnScope N_law_apart ["_law_board_here", "_law_first", "_law_second"] (defScope s_law_apart) := ⟨rfl, rfl, rfl, by decide +kernel, rfl, by decide +kernel, by decide +kernel⟩
abbrev s_law_levels : Stmt := topS 34
abbrev N_law_levels : List Str := ["_law_board_here", "_law_rows", "_law_column_here"]
theorem sc_law_levels : FnScope N_law_levels ["_law_board_here"] (defScope s_law_levels) := ⟨rfl, rfl, rfl, by decide +kernel, rfl, by decide +kernel, by decide +kernel⟩
abbrev s_law_ascends : Stmt := topS 35
abbrev N_law_ascends : List Str := ["_law_items", "_law_k"]
theorem sc_law_ascends : FnScope N_law_ascends ["_law_items"] (defScope s_law_ascends) := ⟨rfl, rfl, rfl, by decide +kernel, rfl, by decide +kernel, by decide +kernel⟩
abbrev s_law_covered : Stmt := topS 36
abbrev N_law_covered : List Str := ["_law_board_here", "_law_rectangles", "_law_rows", "_law_left", "_law_right", "_law_bottom", "_law_top", "_law_c", "_law_row", "_law_over", "_law_r"]
theorem sc_law_covered : FnScope N_law_covered ["_law_board_here", "_law_rectangles"] (defScope s_law_covered) := ⟨rfl, rfl, rfl, by decide +kernel, rfl, by decide +kernel, by decide +kernel⟩
abbrev s_law_is_cell : Stmt := topS 37
abbrev N_law_is_cell : List Str := ["_law_board_here", "_law_value"]
theorem sc_law_is_cell : FnScope N_law_is_cell ["_law_board_here", "_law_value"] (defScope s_law_is_cell) := ⟨rfl, rfl, rfl, by decide +kernel, rfl, by decide +kernel, by decide +kernel⟩
abbrev s_law_holds : Stmt := topS 38
abbrev N_law_holds : List Str := ["_law_board_here", "_law_value", "_law_rectangles", "_law_cells", "_law_item", "_law_k", "_law_other"]
theorem sc_law_holds : FnScope N_law_holds ["_law_board_here", "_law_value"] (defScope s_law_holds) := ⟨rfl, rfl, rfl, by decide +kernel, rfl, by decide +kernel, by decide +kernel⟩
abbrev s_law_board_cells : Stmt := topS 39
abbrev N_law_board_cells : List Str := ["_law_board_here", "_law_cells", "_law_c", "_law_row"]
theorem sc_law_board_cells : FnScope N_law_board_cells ["_law_board_here"] (defScope s_law_board_cells) := ⟨rfl, rfl, rfl, by decide +kernel, rfl, by decide +kernel, by decide +kernel⟩
abbrev s_law_number : Stmt := topS 40
abbrev N_law_number : List Str := ["_law_board_here", "_law_value"]
theorem sc_law_number : FnScope N_law_number ["_law_board_here"] (defScope s_law_number) := ⟨rfl, rfl, rfl, by decide +kernel, rfl, by decide +kernel, by decide +kernel⟩
abbrev s_law_tallest : Stmt := topS 41
abbrev N_law_tallest : List Str := ["_law_board_here", "_law_found", "_law_left", "_law_right", "_law_columns", "_law_bottom", "_law_top", "_law_c", "_law_rows", "_law_cells", "_law_row"]
theorem sc_law_tallest : FnScope N_law_tallest ["_law_board_here"] (defScope s_law_tallest) := ⟨rfl, rfl, rfl, by decide +kernel, rfl, by decide +kernel, by decide +kernel⟩
abbrev s_law_fewest : Stmt := topS 42
abbrev N_law_fewest : List Str := ["_law_board_here", "_law_masks", "_law_cells", "_law_rectangle", "_law_cell", "_law_level", "_law_number_here", "_law_state", "_law_states", "_law_mask", "_law_a", "_law_b"]
theorem sc_law_fewest : FnScope N_law_fewest ["_law_board_here"] (defScope s_law_fewest) := ⟨rfl, rfl, rfl, by decide +kernel, rfl, by decide +kernel, by decide +kernel⟩
abbrev s_law_most : Stmt := topS 43
abbrev N_law_most : List Str := ["_law_board_here", "_law_sets", "_law_cell", "_law_more", "_law_one", "_law_other"]
theorem sc_law_most : FnScope N_law_most ["_law_board_here"] (defScope s_law_most) := ⟨rfl, rfl, rfl, by decide +kernel, rfl, by decide +kernel, by decide +kernel⟩
abbrev s_law : Stmt := topS 44
abbrev N_law : List Str := ["_law_script", "_law_drawn", "_law_turn", "_law_board_here", "_law_number_here"]
theorem sc_law : FnScope N_law ["_law_script"] (defScope s_law) := ⟨rfl, rfl, rfl, by decide +kernel, rfl, by decide +kernel, by decide +kernel⟩
/-! ### the deck of three: the cells, how many draws, the rests of large cells -/
structure Dk3 (H : Hp) (d : Addr) (c : Addr × Addr) (n : Int) : Prop where
  ex : ∃ (xs ys : List Int), H d = some (.lst [.ref c.2, .int n, .ref c.1]) ∧ H c.2 = some (.lst (xs.map V.int)) ∧ H c.1 = some (.lst (ys.map V.int)) ∧ c.2 ≠ c.1 ∧ 0 < xs.length ∧ xs.length ≤ 64 ∧ ys.length = xs.length ∧ ∀ y ∈ ys, 0 ≤ y
theorem ints_ne {H : Hp} {d c e : Addr} {n : Int} {ys : List Int} (h1 : H d = some (.lst [.ref e, .int n, .ref c])) (h3 : H c = some (.lst (ys.map V.int))) : c ≠ d := by
  intro z
  subst z
  have q := h3.symm.trans h1
  match ys, q with
  | [], q => cases q
  | y :: r, q => cases q
def Kp3 (d : Addr) (c : Addr × Addr) (H H' : Hp) : Prop := ∀ b o, b ≠ d → b ≠ c.1 → H b = some o → H' b = some o
theorem Kp3.trans {d : Addr} {c : Addr × Addr} {H H1 H2 : Hp} (h1 : Kp3 d c H H1) (h2 : Kp3 d c H1 H2) : Kp3 d c H H2 := fun b o n1 n2 e => h2 b o n1 n2 (h1 b o n1 n2 e)
theorem Kp3.same {d : Addr} {c : Addr × Addr} {H H1 : Hp} (h : Same H H1) : Kp3 d c H H1 := fun b o _ _ e => h b o e
theorem Dk3.two {H : Hp} {d : Addr} {c : Addr × Addr} {n : Int} (h : Dk3 H d c n) : (∃ us, H d = some (.lst us)) ∧ (∃ us, H c.1 = some (.lst us)) ∧ ∃ us, H c.2 = some (.lst us) := by
  obtain ⟨xs, ys, h1, h2, h3, _⟩ := h.ex
  exact ⟨⟨_, h1⟩, ⟨_, h3⟩, _, h2⟩
theorem Kp3.none {d : Addr} {c : Addr × Addr} {H H' : Hp} (k : Kp3 d c H H') {n m : Int} (h : Dk3 H d c n) (h' : Dk3 H' d c m) {t : Addr} (e : H' t = none) : H t = none := by
  obtain ⟨⟨u1, e1⟩, ⟨u2, e2⟩, _⟩ := h'.two
  by_cases c1 : t = d
  · rw [c1, e1] at e
    cases e
  · by_cases c2 : t = c.1
    · rw [c2, e2] at e
      cases e
    · cases q : H t with
      | none => rfl
      | some o =>
        rw [k t o c1 c2 q] at e
        cases e
theorem Dk3.kept {H H' : Hp} {d : Addr} {c : Addr × Addr} {n : Int} (h : Dk3 H d c n) (s : Same H H') : Dk3 H' d c n :=
  let ⟨xs, ys, h1, h2, h3, r⟩ := h.ex
  ⟨xs, ys, s _ _ h1, s _ _ h2, s _ _ h3, r⟩
theorem Dk3.eq {H : Hp} {d : Addr} {c : Addr × Addr} {n m : Int} (h : Dk3 H d c n) (e : n = m) : Dk3 H d c m := e ▸ h
theorem same_new {H : Hp} {p : Addr} {o : HO} (h : H p = none) : Same H (upd H p o) := fun b x e => by
  rw [upd_ne (ne_of_none e h)]
  exact e
theorem cutTo (xs : List V) (j : Nat) : cutV xs none (some (j : Int)) = xs.take j := by
  unfold cutV
  rw [HT.sIx_none, show HT.sIx xs.length xs.length (some (j : Int)) = min j xs.length from HT.sIx_nat xs.length xs.length j]
  rw [Nat.sub_zero, List.drop_zero]
  rcases Nat.le_total j xs.length with h | h
  · rw [Nat.min_eq_left h]
  · rw [Nat.min_eq_right h, List.take_length, List.take_of_length_le h]
/-- p is no part of the deck -/
abbrev Off3 (d : Addr) (c : Addr × Addr) (p : Addr) : Prop := p ≠ d ∧ p ≠ c.1 ∧ p ≠ c.2
theorem Kp3.keep {d : Addr} {c : Addr × Addr} {H H' : Hp} (k : Kp3 d c H H') {a : Addr} {o : HO} (n1 : Off3 d c a) (h : H a = some o) : H' a = some o := k a o n1.1 n1.2.1 h
theorem Kp3.tup {d : Addr} {c : Addr × Addr} {n : Int} {H H' : Hp} (k : Kp3 d c H H') (dk : Dk3 H d c n) {a : Addr} {xs : List V} (h : H a = some (.tup xs)) : H' a = some (.tup xs) := by
  obtain ⟨⟨u1, e1⟩, ⟨u2, e2⟩, _⟩ := dk.two
  exact k a _ (ne_of h e1 (fun z => by cases z)) (ne_of h e2 (fun z => by cases z)) h
theorem Dk3.off {H : Hp} {d : Addr} {c : Addr × Addr} {n : Int} (h : Dk3 H d c n) {p : Addr} (e : H p = none) : Off3 d c p := by
  obtain ⟨⟨u1, e1⟩, ⟨u2, e2⟩, u3, e3⟩ := h.two
  exact ⟨(ne_of_none e1 e).symm, (ne_of_none e2 e).symm, (ne_of_none e3 e).symm⟩
theorem Dk3.upd {H : Hp} {d : Addr} {c : Addr × Addr} {n : Int} (h : Dk3 H d c n) {p : Addr} {o : HO} (off : Off3 d c p) : Dk3 (upd H p o) d c n := by
  obtain ⟨xs, ys, h1, h2, h3, r⟩ := h.ex
  exact ⟨xs, ys, by rw [upd_ne off.1.symm]; exact h1, by rw [upd_ne off.2.2.symm]; exact h2, by rw [upd_ne off.2.1.symm]; exact h3, r⟩
def mxI (i j : Int) : Int := if j > i then j else i
def mnI (i j : Int) : Int := if j < i then j else i
def sp3_law_draws (K : PySem.W.Frag) : Sp := fun vs H Q _ => ∃ (a : Addr) (ns : List Int), vs = [.ref a] ∧ SqL K H a (ns.map V.int) ∧ ns.length ≤ 63 ∧
  ∀ H' d c, Same H H' → H d = none → Dk3 H' d c 0 → Q (.ref d) H'
def sp3_law_next : Sp := fun vs H Q _ => ∃ (d : Addr) (c : Addr × Addr) (n lim : Int), vs = [.ref d, .int lim] ∧ Dk3 H d c n ∧ 0 ≤ n ∧ n < 1000000 ∧ 0 < lim ∧ lim < 2 ^ 63 ∧
  ∀ H' r, Kp3 d c H H' → Dk3 H' d c (n + 1) → 0 ≤ r → r < lim → Q (.int r) H'
section
structure Tx (K : PySem.W.Frag) (mg : Str → Option Value) (f_depth_changes f_find_blocks f_has_position f_contains f_serves f_conflict f_demands_at_blocks f_is_open f_open_demands f_shadow_target f_decisive_demands f_largest_independent f_unserved_demands f_helpful_piece f_smallest_solution f_row_runs f_rows_of_runs f_tallest_rectangle f_cover_board f_law_draws f_law_next f_law_column f_law_board f_law_is_int f_law_inside f_law_full f_law_is_rectangle f_law_apart f_law_levels f_law_ascends f_law_covered f_law_is_cell f_law_holds f_law_board_cells f_law_number f_law_tallest f_law_fewest f_law_most f_law : Addr) (d_depth_changes d_find_blocks d_has_position d_contains d_serves d_conflict d_demands_at_blocks d_is_open d_open_demands d_shadow_target d_decisive_demands d_largest_independent d_unserved_demands d_helpful_piece d_smallest_solution d_row_runs d_rows_of_runs d_tallest_rectangle d_cover_board d_law_draws d_law_next d_law_column d_law_board d_law_is_int d_law_inside d_law_full d_law_is_rectangle d_law_apart d_law_levels d_law_ascends d_law_covered d_law_is_cell d_law_holds d_law_board_cells d_law_number d_law_tallest d_law_fewest d_law_most d_law : FuncData) : Prop where
  F_depth_changes : Fun K "depth_changes" "depth_changes" s_depth_changes f_depth_changes d_depth_changes
  b_depth_changes : Binds K d_depth_changes ["intervals"] []
  g_depth_changes : mg "depth_changes" = some (.ref f_depth_changes)
  F_find_blocks : Fun K "find_blocks" "find_blocks" s_find_blocks f_find_blocks d_find_blocks
  b_find_blocks : Binds K d_find_blocks ["intervals"] []
  g_find_blocks : mg "find_blocks" = some (.ref f_find_blocks)
  F_has_position : Fun K "has_position" "has_position" s_has_position f_has_position d_has_position
  b_has_position : Binds K d_has_position ["interval", "position"] []
  g_has_position : mg "has_position" = some (.ref f_has_position)
  F_contains : Fun K "contains" "contains" s_contains f_contains d_contains
  b_contains : Binds K d_contains ["outer", "inner"] []
  g_contains : mg "contains" = some (.ref f_contains)
  F_serves : Fun K "serves" "serves" s_serves f_serves d_serves
  b_serves : Binds K d_serves ["piece", "demand"] []
  g_serves : mg "serves" = some (.ref f_serves)
  F_conflict : Fun K "conflict" "conflict" s_conflict f_conflict d_conflict
  b_conflict : Binds K d_conflict ["first", "second"] []
  g_conflict : mg "conflict" = some (.ref f_conflict)
  F_demands_at_blocks : Fun K "demands_at_blocks" "demands_at_blocks" s_demands_at_blocks f_demands_at_blocks d_demands_at_blocks
  b_demands_at_blocks : Binds K d_demands_at_blocks ["targets", "blocks"] []
  g_demands_at_blocks : mg "demands_at_blocks" = some (.ref f_demands_at_blocks)
  F_is_open : Fun K "is_open" "is_open" s_is_open f_is_open d_is_open
  b_is_open : Binds K d_is_open ["pieces", "demand"] []
  g_is_open : mg "is_open" = some (.ref f_is_open)
  F_open_demands : Fun K "open_demands" "open_demands" s_open_demands f_open_demands d_open_demands
  b_open_demands : Binds K d_open_demands ["targets", "pieces"] []
  g_open_demands : mg "open_demands" = some (.ref f_open_demands)
  F_shadow_target : Fun K "shadow_target" "shadow_target" s_shadow_target f_shadow_target d_shadow_target
  b_shadow_target : Binds K d_shadow_target ["targets", "demand"] []
  g_shadow_target : mg "shadow_target" = some (.ref f_shadow_target)
  F_decisive_demands : Fun K "decisive_demands" "decisive_demands" s_decisive_demands f_decisive_demands d_decisive_demands
  b_decisive_demands : Binds K d_decisive_demands ["targets", "pieces"] []
  g_decisive_demands : mg "decisive_demands" = some (.ref f_decisive_demands)
  F_largest_independent : Fun K "largest_independent" "largest_independent" s_largest_independent f_largest_independent d_largest_independent
  b_largest_independent : Binds K d_largest_independent ["demands"] []
  g_largest_independent : mg "largest_independent" = some (.ref f_largest_independent)
  F_unserved_demands : Fun K "unserved_demands" "unserved_demands" s_unserved_demands f_unserved_demands d_unserved_demands
  b_unserved_demands : Binds K d_unserved_demands ["demands", "piece"] []
  g_unserved_demands : mg "unserved_demands" = some (.ref f_unserved_demands)
  F_helpful_piece : Fun K "helpful_piece" "helpful_piece" s_helpful_piece f_helpful_piece d_helpful_piece
  b_helpful_piece : Binds K d_helpful_piece ["demands", "blocks"] []
  g_helpful_piece : mg "helpful_piece" = some (.ref f_helpful_piece)
  F_smallest_solution : Fun K "smallest_solution" "smallest_solution" s_smallest_solution f_smallest_solution d_smallest_solution
  b_smallest_solution : Binds K d_smallest_solution ["targets", "pieces"] []
  g_smallest_solution : mg "smallest_solution" = some (.ref f_smallest_solution)
  F_row_runs : Fun K "row_runs" "row_runs" s_row_runs f_row_runs d_row_runs
  b_row_runs : Binds K d_row_runs ["board", "row"] []
  g_row_runs : mg "row_runs" = some (.ref f_row_runs)
  F_rows_of_runs : Fun K "rows_of_runs" "rows_of_runs" s_rows_of_runs f_rows_of_runs d_rows_of_runs
  b_rows_of_runs : Binds K d_rows_of_runs ["board"] []
  g_rows_of_runs : mg "rows_of_runs" = some (.ref f_rows_of_runs)
  F_tallest_rectangle : Fun K "tallest_rectangle" "tallest_rectangle" s_tallest_rectangle f_tallest_rectangle d_tallest_rectangle
  b_tallest_rectangle : Binds K d_tallest_rectangle ["board", "piece"] []
  g_tallest_rectangle : mg "tallest_rectangle" = some (.ref f_tallest_rectangle)
  F_cover_board : Fun K "cover_board" "cover_board" s_cover_board f_cover_board d_cover_board
  b_cover_board : Binds K d_cover_board ["board"] []
  g_cover_board : mg "cover_board" = some (.ref f_cover_board)
  F_law_draws : Fun K "_law_draws" "_law_draws" s_law_draws f_law_draws d_law_draws
  b_law_draws : Binds K d_law_draws ["_law_script"] []
  g_law_draws : mg "_law_draws" = some (.ref f_law_draws)
  F_law_next : Fun K "_law_next" "_law_next" s_law_next f_law_next d_law_next
  b_law_next : Binds K d_law_next ["_law_drawn", "_law_many"] []
  g_law_next : mg "_law_next" = some (.ref f_law_next)
  F_law_column : Fun K "_law_column" "_law_column" s_law_column f_law_column d_law_column
  b_law_column : Binds K d_law_column ["_law_drawn", "_law_height"] []
  g_law_column : mg "_law_column" = some (.ref f_law_column)
  F_law_board : Fun K "_law_board" "_law_board" s_law_board f_law_board d_law_board
  b_law_board : Binds K d_law_board ["_law_drawn", "_law_most_here", "_law_height"] []
  g_law_board : mg "_law_board" = some (.ref f_law_board)
  F_law_is_int : Fun K "_law_is_int" "_law_is_int" s_law_is_int f_law_is_int d_law_is_int
  b_law_is_int : Binds K d_law_is_int ["_law_value", "_law_low", "_law_high"] []
  g_law_is_int : mg "_law_is_int" = some (.ref f_law_is_int)
  F_law_inside : Fun K "_law_inside" "_law_inside" s_law_inside f_law_inside d_law_inside
  b_law_inside : Binds K d_law_inside ["_law_board_here", "_law_column_here", "_law_row"] []
  g_law_inside : mg "_law_inside" = some (.ref f_law_inside)
  F_law_full : Fun K "_law_full" "_law_full" s_law_full f_law_full d_law_full
  b_law_full : Binds K d_law_full ["_law_board_here", "_law_left", "_law_right", "_law_bottom", "_law_top"] []
  g_law_full : mg "_law_full" = some (.ref f_law_full)
  F_law_is_rectangle : Fun K "_law_is_rectangle" "_law_is_rectangle" s_law_is_rectangle f_law_is_rectangle d_law_is_rectangle
  b_law_is_rectangle : Binds K d_law_is_rectangle ["_law_board_here", "_law_value"] []
  g_law_is_rectangle : mg "_law_is_rectangle" = some (.ref f_law_is_rectangle)
  F_law_apart : Fun K "_law_apart" "_law_apart" s_law_apart f_law_apart d_law_apart
  b_law_apart : Binds K d_law_apart ["_law_board_here", "_law_first", "_law_second"] []
  g_law_apart : mg "_law_apart" = some (.ref f_law_apart)
  F_law_levels : Fun K "_law_levels" "_law_levels" s_law_levels f_law_levels d_law_levels
  b_law_levels : Binds K d_law_levels ["_law_board_here"] []
  g_law_levels : mg "_law_levels" = some (.ref f_law_levels)
  F_law_ascends : Fun K "_law_ascends" "_law_ascends" s_law_ascends f_law_ascends d_law_ascends
  b_law_ascends : Binds K d_law_ascends ["_law_items"] []
  g_law_ascends : mg "_law_ascends" = some (.ref f_law_ascends)
  F_law_covered : Fun K "_law_covered" "_law_covered" s_law_covered f_law_covered d_law_covered
  b_law_covered : Binds K d_law_covered ["_law_board_here", "_law_rectangles"] []
  g_law_covered : mg "_law_covered" = some (.ref f_law_covered)
  F_law_is_cell : Fun K "_law_is_cell" "_law_is_cell" s_law_is_cell f_law_is_cell d_law_is_cell
  b_law_is_cell : Binds K d_law_is_cell ["_law_board_here", "_law_value"] []
  g_law_is_cell : mg "_law_is_cell" = some (.ref f_law_is_cell)
  F_law_holds : Fun K "_law_holds" "_law_holds" s_law_holds f_law_holds d_law_holds
  b_law_holds : Binds K d_law_holds ["_law_board_here", "_law_value"] []
  g_law_holds : mg "_law_holds" = some (.ref f_law_holds)
  F_law_board_cells : Fun K "_law_board_cells" "_law_board_cells" s_law_board_cells f_law_board_cells d_law_board_cells
  b_law_board_cells : Binds K d_law_board_cells ["_law_board_here"] []
  g_law_board_cells : mg "_law_board_cells" = some (.ref f_law_board_cells)
  F_law_number : Fun K "_law_number" "_law_number" s_law_number f_law_number d_law_number
  b_law_number : Binds K d_law_number ["_law_board_here"] []
  g_law_number : mg "_law_number" = some (.ref f_law_number)
  F_law_tallest : Fun K "_law_tallest" "_law_tallest" s_law_tallest f_law_tallest d_law_tallest
  b_law_tallest : Binds K d_law_tallest ["_law_board_here"] []
  g_law_tallest : mg "_law_tallest" = some (.ref f_law_tallest)
  F_law_fewest : Fun K "_law_fewest" "_law_fewest" s_law_fewest f_law_fewest d_law_fewest
  b_law_fewest : Binds K d_law_fewest ["_law_board_here"] []
  g_law_fewest : mg "_law_fewest" = some (.ref f_law_fewest)
  F_law_most : Fun K "_law_most" "_law_most" s_law_most f_law_most d_law_most
  b_law_most : Binds K d_law_most ["_law_board_here"] []
  g_law_most : mg "_law_most" = some (.ref f_law_most)
  F_law : Fun K "law" "law" s_law f_law d_law
  b_law : Binds K d_law ["_law_script"] []
  g_law : mg "law" = some (.ref f_law)
  z_any : mg "any" = none
  z_bool : mg "bool" = none
  z_enumerate : mg "enumerate" = none
  z_int : mg "int" = none
  z_isinstance : mg "isinstance" = none
  z_len : mg "len" = none
  z_list : mg "list" = none
  z_max : mg "max" = none
  z_min : mg "min" = none
  z_piece : mg "piece" = none
  z_range : mg "range" = none
  z_set : mg "set" = none
  z_sorted : mg "sorted" = none
  z_tuple : mg "tuple" = none
  z_zip : mg "zip" = none
variable {P : Program} {w : World} {K : PySem.W.Frag} {mg : Str → Option Value} {base : Heap} {f_depth_changes f_find_blocks f_has_position f_contains f_serves f_conflict f_demands_at_blocks f_is_open f_open_demands f_shadow_target f_decisive_demands f_largest_independent f_unserved_demands f_helpful_piece f_smallest_solution f_row_runs f_rows_of_runs f_tallest_rectangle f_cover_board f_law_draws f_law_next f_law_column f_law_board f_law_is_int f_law_inside f_law_full f_law_is_rectangle f_law_apart f_law_levels f_law_ascends f_law_covered f_law_is_cell f_law_holds f_law_board_cells f_law_number f_law_tallest f_law_fewest f_law_most f_law : Addr} {d_depth_changes d_find_blocks d_has_position d_contains d_serves d_conflict d_demands_at_blocks d_is_open d_open_demands d_shadow_target d_decisive_demands d_largest_independent d_unserved_demands d_helpful_piece d_smallest_solution d_row_runs d_rows_of_runs d_tallest_rectangle d_cover_board d_law_draws d_law_next d_law_column d_law_board d_law_is_int d_law_inside d_law_full d_law_is_rectangle d_law_apart d_law_levels d_law_ascends d_law_covered d_law_is_cell d_law_holds d_law_board_cells d_law_number d_law_tallest d_law_fewest d_law_most d_law : FuncData} {pT : Addr}
abbrev TxA (K : PySem.W.Frag) (mg : Str → Option Value) (f_depth_changes f_find_blocks f_has_position f_contains f_serves f_conflict f_demands_at_blocks f_is_open f_open_demands f_shadow_target f_decisive_demands f_largest_independent f_unserved_demands f_helpful_piece f_smallest_solution f_row_runs f_rows_of_runs f_tallest_rectangle f_cover_board f_law_draws f_law_next f_law_column f_law_board f_law_is_int f_law_inside f_law_full f_law_is_rectangle f_law_apart f_law_levels f_law_ascends f_law_covered f_law_is_cell f_law_holds f_law_board_cells f_law_number f_law_tallest f_law_fewest f_law_most f_law : Addr) (d_depth_changes d_find_blocks d_has_position d_contains d_serves d_conflict d_demands_at_blocks d_is_open d_open_demands d_shadow_target d_decisive_demands d_largest_independent d_unserved_demands d_helpful_piece d_smallest_solution d_row_runs d_rows_of_runs d_tallest_rectangle d_cover_board d_law_draws d_law_next d_law_column d_law_board d_law_is_int d_law_inside d_law_full d_law_is_rectangle d_law_apart d_law_levels d_law_ascends d_law_covered d_law_is_cell d_law_holds d_law_board_cells d_law_number d_law_tallest d_law_fewest d_law_most d_law : FuncData) := Tx K mg f_depth_changes f_find_blocks f_has_position f_contains f_serves f_conflict f_demands_at_blocks f_is_open f_open_demands f_shadow_target f_decisive_demands f_largest_independent f_unserved_demands f_helpful_piece f_smallest_solution f_row_runs f_rows_of_runs f_tallest_rectangle f_cover_board f_law_draws f_law_next f_law_column f_law_board f_law_is_int f_law_inside f_law_full f_law_is_rectangle f_law_apart f_law_levels f_law_ascends f_law_covered f_law_is_cell f_law_holds f_law_board_cells f_law_number f_law_tallest f_law_fewest f_law_most f_law d_depth_changes d_find_blocks d_has_position d_contains d_serves d_conflict d_demands_at_blocks d_is_open d_open_demands d_shadow_target d_decisive_demands d_largest_independent d_unserved_demands d_helpful_piece d_smallest_solution d_row_runs d_rows_of_runs d_tallest_rectangle d_cover_board d_law_draws d_law_next d_law_column d_law_board d_law_is_int d_law_inside d_law_full d_law_is_rectangle d_law_apart d_law_levels d_law_ascends d_law_covered d_law_is_cell d_law_holds d_law_board_cells d_law_number d_law_tallest d_law_fewest d_law_most d_law 
theorem ok3_law_draws (T : Tx K mg f_depth_changes f_find_blocks f_has_position f_contains f_serves f_conflict f_demands_at_blocks f_is_open f_open_demands f_shadow_target f_decisive_demands f_largest_independent f_unserved_demands f_helpful_piece f_smallest_solution f_row_runs f_rows_of_runs f_tallest_rectangle f_cover_board f_law_draws f_law_next f_law_column f_law_board f_law_is_int f_law_inside f_law_full f_law_is_rectangle f_law_apart f_law_levels f_law_ascends f_law_covered f_law_is_cell f_law_holds f_law_board_cells f_law_number f_law_tallest f_law_fewest f_law_most f_law d_depth_changes d_find_blocks d_has_position d_contains d_serves d_conflict d_demands_at_blocks d_is_open d_open_demands d_shadow_target d_decisive_demands d_largest_independent d_unserved_demands d_helpful_piece d_smallest_solution d_row_runs d_rows_of_runs d_tallest_rectangle d_cover_board d_law_draws d_law_next d_law_column d_law_board d_law_is_int d_law_inside d_law_full d_law_is_rectangle d_law_apart d_law_levels d_law_ascends d_law_covered d_law_is_cell d_law_holds d_law_board_cells d_law_number d_law_tallest d_law_fewest d_law_most d_law) : FnOk P w K mg base CX0 1 f_law_draws d_law_draws ["_law_script"] (sp3_law_draws K) := by
  refine T.F_law_draws.ok sc_law_draws (fun vs H Q E h => ?_) (fun cdv A outer s H vs Q E hr h => ?_)
  · obtain ⟨a, ns0, rfl, _⟩ := h
    rfl
  · obtain ⟨a, ns0, rfl, hS, hlen, q⟩ := h
    refine ⟨_, (pss_cons (ps_set (i := 1) sc_law_draws.nd rfl (Or.inl rfl) (pe_op op_cat (pe_callTy call_list_of (by rfl) T.z_list (by decide +kernel) (pa_cons (pe_slice sl_list (pv 0) po_none (po_some pe_int)) pa_nil)) (pe_op op_rep (pe_lst (pa_cons pe_int pa_nil)) (pe_callTy call_int1 (by rfl) T.z_int (by decide +kernel) (pa_cons (pe_cmpR op_eq (pe_callB call_len_seq (by rfl) T.z_len PySem.boot_len (pa_cons (pv 0) pa_nil)) pe_int (nomark _)) pa_nil)))))
      (pss_one (ps_ret (pe_lst (pa_cons (pv 1) (pa_cons pe_int (pa_cons (pe_lc (own := [("_law_cell", 2)]) (g := (gName 2)) (tt := tYes) (by rfl) sc_law_draws.nd (pi_list (pv 1)) (blkOk_by (own := [("_law_cell", 2)]) (N := N_law_draws) (sc := defScope s_law_draws) (by decide +kernel)) (fun _ _ _ _ _ => (pg_name (i := 2) sc_law_draws.nd rfl (Or.inl rfl))) (fun _ _ _ _ _ => pts_nil) (fun _ _ _ _ _ => (pe_op op_mul (pv 2) (pe_callTy call_int1 (by rfl) T.z_int (by decide +kernel) (pa_cons (pe_cmpR op_ge (pv 2) (pe_op op_pow pe_int pe_int) (nomark _)) pa_nil))))) pa_nil))))))), ?_⟩
    refine ⟨.ref a, rfl, 63, rfl, a, ns0.map V.int, rfl, hS, fun p np => ?_⟩
    rw [show cutV (ns0.map V.int) none (some 63) = (ns0.take 63).map V.int by rw [List.map_take]; exact cutTo _ 63]
    have tk : ns0.take 63 = ns0 := List.take_of_length_le hlen
    rw [tk]
    have s1 := same_new (o := .lst (ns0.map V.int)) np
    have e1 := upd_same (H := H) (a := p) (o := .lst (ns0.map V.int))
    generalize upd H p (.lst (ns0.map V.int)) = H1 at *
    refine ⟨p, _, rfl, .inl (SqL.of e1), fun D nD => ?_⟩
    have s2 := same_new (o := .lst (ns0.map V.int)) nD
    have eD := upd_same (H := H1) (a := D) (o := .lst (ns0.map V.int))
    generalize upd H1 D (.lst (ns0.map V.int)) = H2 at *
    have s12 := s1.trans s2
    refine ⟨by show 1 ≤ sizeLine; decide, fun z nz => ?_⟩
    have s3 := same_new (o := .lst [.int 0]) nz
    have ez := upd_same (H := H2) (a := z) (o := .lst [.int 0])
    generalize upd H2 z (.lst [.int 0]) = H3 at *
    have s13 := s12.trans s3
    refine ⟨.ref a, rfl, a, _, rfl, .inl (s13.seq hS), rfl, .inr ⟨_, rfl, ?_⟩⟩
    obtain ⟨k, ek⟩ : ∃ k : Int, k = (if decide (V.int ((ns0.map V.int).length : Int) = V.int 0) = true then 1 else 0) := ⟨_, rfl⟩
    have ek2 : (k = 1 ∧ ns0.length = 0) ∨ (k = 0 ∧ 0 < ns0.length) := by
      rw [List.length_map] at ek
      by_cases c : ns0.length = 0
      · rw [if_pos (decide_eq_true (by rw [c]; rfl))] at ek
        exact .inl ⟨ek, c⟩
      · rw [if_neg (fun z => c (by have := of_decide_eq_true z; injection this with this; omega))] at ek
        exact .inr ⟨ek, by omega⟩
    rw [← ek]
    refine ⟨z, k, _, rfl, rfl, ez, by omega, by omega, by rw [show sizeLine = 16777216 by decide]; show 1 * _ ≤ _; omega, fun zz nzz => ?_⟩
    have s4 := same_new (o := .lst (List.replicate k.toNat [V.int 0]).flatten) nzz
    have ezz := upd_same (H := H3) (a := zz) (o := .lst (List.replicate k.toNat [V.int 0]).flatten)
    generalize upd H3 zz (.lst (List.replicate k.toNat [V.int 0]).flatten) = H4 at *
    obtain ⟨cs, ecs⟩ : ∃ cs : List Int, cs = (ns0 ++ List.replicate k.toNat 0) := ⟨_, rfl⟩
    have elst : ns0.map V.int ++ (List.replicate k.toNat [V.int 0]).flatten = cs.map V.int := by
      rw [ecs, List.map_append, List.map_replicate]
      rcases ek2 with ⟨e, _⟩ | ⟨e, _⟩ <;> rw [e] <;> rfl
    have lcs : 0 < cs.length ∧ cs.length ≤ 64 := by
      rw [ecs, List.length_append, List.length_replicate]
      omega
    have s34 := s3.trans s4
    refine ⟨D, zz, _, _, rfl, rfl, s34 _ _ eD, ezz, ?_, fun e ne => ?_⟩
    · have := congrArg List.length elst
      rw [List.length_append, List.length_map (f := V.int)] at this
      rw [show sizeLine = 16777216 by decide]
      simp only [List.length_map] at *
      omega
    rw [elst]
    have s5 := same_new (o := .lst (cs.map V.int)) ne
    have ee := upd_same (H := H4) (a := e) (o := .lst (cs.map V.int))
    generalize upd H4 e (.lst (cs.map V.int)) = H5 at *
    have s05 := s12.trans (s34.trans s5)
    refine ⟨.ref e, rfl, .ref e, rfl, e, rfl, ⟨_, SqL.of ee⟩, fun c nc => ?_⟩
    refine lc_list (K := K) (a := e) (xs := cs.map V.int) (fun i H' => Same H5 H' ∧ ∃ ys : List Int, H' c = some (.lst (ys.map V.int)) ∧ ys.length = i ∧ ∀ y ∈ ys, 0 ≤ y) ⟨same_new nc, [], upd_same, rfl, fun y hy => nomatch hy⟩ (fun i H' _ h => SqL.of (h.1 _ _ ee)) ?_ ?_
    · rintro i x H' hi ⟨sm, ys, eC, ly, py⟩
      have il := (List.getElem?_eq_some_iff.mp hi).1
      rw [List.getElem?_map] at hi
      obtain ⟨n, en, rfl⟩ := Option.map_eq_some_iff.mp hi
      rw [List.length_map] at il
      refine ⟨rfl, .int n, rfl, .int n, rfl, 10, 18, rfl, rfl, ⟨by decide, by decide, by decide⟩, _, _, rfl, rfl, .inr ⟨_, rfl, ?_⟩⟩
      obtain ⟨k2, ek3, h0⟩ : ∃ k2 : Int, (if decide ((10 : Int) ^ (18 : Int).toNat ≤ n) = true then 1 else 0) = k2 ∧ ((k2 = 1 ∧ 0 ≤ n) ∨ k2 = 0) := by
        refine ⟨_, rfl, ?_⟩
        split
        · next h =>
          have h := of_decide_eq_true h
          have : (10 : Int) ^ (18 : Int).toNat = 1000000000000000000 := by decide
          omega
        · exact .inr rfl
      rw [ek3]
      refine ⟨_, _, rfl, rfl, .inr ⟨by omega, by omega⟩, ys.map V.int, eC, by rw [List.length_map]; exact small1000 (by omega), (fun b u e => by rw [upd_ne (ne_of_none e nc)]; exact sm b u e), ys ++ [n * k2], ?_, by rw [List.length_append, ly]; rfl, fun y hy => ?_⟩
      · rw [upd_same, List.map_append]
        rfl
      · rcases List.mem_append.mp hy with hy | hy
        · exact py y hy
        · rw [List.mem_singleton.mp hy]
          rcases h0 with ⟨rfl, h⟩ | rfl
          · rw [Int.mul_one]
            exact h
          · rw [Int.mul_zero]
            exact Int.le_refl _
    rintro H6 ⟨s6, ys, eC, ly, py⟩
    rw [List.length_map] at ly
    refine ⟨by show 3 ≤ sizeLine; decide, fun d nd => ?_⟩
    have s7 := same_new (o := .lst [.ref e, .int 0, .ref c]) nd
    have s07 := s05.trans (s6.trans s7)
    refine q _ d (c, e) s07 ((s05.trans s6).free nd) ⟨cs, ys, upd_same, s7 _ _ (s6 _ _ ee), s7 _ _ eC, ne_of_none ee nc, lcs.1, lcs.2, ly, py⟩
theorem ok3_law_next (T : Tx K mg f_depth_changes f_find_blocks f_has_position f_contains f_serves f_conflict f_demands_at_blocks f_is_open f_open_demands f_shadow_target f_decisive_demands f_largest_independent f_unserved_demands f_helpful_piece f_smallest_solution f_row_runs f_rows_of_runs f_tallest_rectangle f_cover_board f_law_draws f_law_next f_law_column f_law_board f_law_is_int f_law_inside f_law_full f_law_is_rectangle f_law_apart f_law_levels f_law_ascends f_law_covered f_law_is_cell f_law_holds f_law_board_cells f_law_number f_law_tallest f_law_fewest f_law_most f_law d_depth_changes d_find_blocks d_has_position d_contains d_serves d_conflict d_demands_at_blocks d_is_open d_open_demands d_shadow_target d_decisive_demands d_largest_independent d_unserved_demands d_helpful_piece d_smallest_solution d_row_runs d_rows_of_runs d_tallest_rectangle d_cover_board d_law_draws d_law_next d_law_column d_law_board d_law_is_int d_law_inside d_law_full d_law_is_rectangle d_law_apart d_law_levels d_law_ascends d_law_covered d_law_is_cell d_law_holds d_law_board_cells d_law_number d_law_tallest d_law_fewest d_law_most d_law) : FnOk P w K mg base CX0 1 f_law_next d_law_next ["_law_drawn", "_law_many"] sp3_law_next := by
  refine T.F_law_next.ok sc_law_next (fun vs H Q E h => ?_) (fun cdv A outer s H vs Q E hr h => ?_)
  · obtain ⟨d, c, n, lim, rfl, _⟩ := h
    rfl
  · obtain ⟨d, c, n, lim, rfl, dk, n0, n1, l0, l1, q⟩ := h
    refine ⟨_, (pss_cons (ps_asg (pv 0) (pg_unl rfl (pgs_cons (pg_name (i := 2) sc_law_next.nd rfl (Or.inl rfl)) (pgs_cons (pg_name (i := 3) sc_law_next.nd rfl (Or.inl rfl)) (pgs_cons (pg_name (i := 4) sc_law_next.nd rfl (Or.inl rfl)) pgs_nil)))))
      (pss_cons (ps_set (i := 5) sc_law_next.nd rfl (Or.inl rfl) (pe_op op_mod (pv 3) (pe_callB call_len_seq (by rfl) T.z_len PySem.boot_len (pa_cons (pv 2) pa_nil))))
      (pss_cons (ps_asg (pe_op op_add (pv 3) pe_int) (pg_sub (pv 0) pe_int set_list))
      (pss_cons (ps_if (pt_cmpR op_gt (pe_ix ix_list (pv 4) (pv 5) (fun _ _ => rfl)) pe_int (nomark _))
      (pss_cons (ps_set (i := 6) sc_law_next.nd rfl (Or.inl rfl) (pe_op op_mod (pe_ix ix_list (pv 4) (pv 5) (fun _ _ => rfl)) (pv 1)))
      (pss_cons (ps_asg (pe_op op_fdivW (pe_ix ix_list (pv 4) (pv 5) (fun _ _ => rfl)) (pv 1)) (pg_sub (pv 4) (pv 5) set_list))
      (pss_one (ps_ret (pv 6)))))
      pss_nil)
      (pss_cons (ps_set (i := 7) sc_law_next.nd rfl (Or.inl rfl) (pe_op op_mod (pe_op op_pow (pe_op op_add (pe_op op_add (pe_op op_mod (pe_ix ix_list (pv 2) (pv 5) (fun _ _ => rfl)) pe_int) (pe_op op_mulW pe_int (pv 3))) pe_int) pe_int) pe_int))
      (pss_cons (ps_set (i := 8) sc_law_next.nd rfl (Or.inl rfl) (pe_op op_mod (pe_op op_pow (pe_op op_add (pe_op op_add (pv 7) (pe_op op_mulW (pe_op op_mulW pe_int (pv 3)) (pv 3))) pe_int) pe_int) pe_int))
      (pss_one (ps_ret (pe_op op_mod (pe_op op_mod (pe_op op_add (pe_op op_mulW (pv 8) pe_int) (pv 7)) pe_int) (pv 1)))))))))), ?_⟩
    obtain ⟨xs, ys, h1, h2, h3, ec, x0, x64, ly, py⟩ := dk.ex
    have nd1 : c.1 ≠ d := ints_ne h1 h3
    have nd2 : c.2 ≠ d := fun z => by
      have q := (z ▸ h2).symm.trans h1
      match xs, q with
      | [], q => cases q
      | y :: r, q => cases q
    have n64 : n.natAbs < 2 ^ 64 := by omega
    have l64 : lim.natAbs < 2 ^ 64 := by omega
    refine ⟨.ref d, rfl, d, _, rfl, SqL.of h1, rfl, .ref c.2, _, rfl, .int n, _, rfl, .ref c.1, [], rfl, rfl, ?_⟩
    refine ⟨.int n, rfl, .ref c.2, rfl, c.2, _, rfl, .inl (SqL.of h2), _, _, rfl, rfl, by rw [List.length_map]; omega, ?_⟩
    rw [List.length_map]
    obtain ⟨j, ej, jl⟩ : ∃ j : Nat, n % (xs.length : Int) = j ∧ j < xs.length := ⟨(n % (xs.length : Int)).toNat, (Int.toNat_of_nonneg (Int.emod_nonneg _ (by omega))).symm, by
      have := Int.emod_lt_of_pos n (show (0 : Int) < xs.length by omega)
      have := Int.emod_nonneg n (show (xs.length : Int) ≠ 0 by omega)
      omega⟩
    show gName 5 (V.int (n % (xs.length : Int))) _ _ _
    rw [ej]
    have gx : (xs.map V.int)[j]? = some (.int xs[j]) := by rw [List.getElem?_map, List.getElem?_eq_getElem jl]; rfl
    have jl2 : j < ys.length := by omega
    have gy : (ys.map V.int)[j]? = some (.int ys[j]) := by rw [List.getElem?_map, List.getElem?_eq_getElem jl2]; rfl
    have yp := py _ (List.getElem_mem jl2)
    generalize ys[j] = y at *
    generalize xs[j] = x at *
    refine ⟨.int n, rfl, _, _, rfl, rfl, .ref d, rfl, d, _, 1, 1, rfl, rfl, h1, rfl, ?_⟩
    generalize eH : upd H d (.lst ([V.ref c.2, V.int n, V.ref c.1].set 1 (.int (n + 1)))) = H1
    have d1 : H1 d = some (.lst [.ref c.2, .int (n + 1), .ref c.1]) := by
      rw [← eH, upd_same]
      rfl
    have kp1 : Kp3 d c H H1 := fun b o nb _ e => by
      rw [← eH, upd_ne nb]
      exact e
    have a2 : H1 c.2 = some (.lst (xs.map V.int)) := by rw [← eH, upd_ne nd2]; exact h2
    have a3 : H1 c.1 = some (.lst (ys.map V.int)) := by rw [← eH, upd_ne nd1]; exact h3
    have dk1 : Dk3 H1 d c (n + 1) := ⟨xs, ys, d1, a2, a3, ec, x0, x64, ly, py⟩
    refine ⟨.ref c.1, rfl, .int j, rfl, c.1, _, _, .int y, rfl, rfl, SqL.of a3, atI_nat gy, _, _, rfl, rfl, _, rfl, ite2 (fun e => ?_) (fun e => ?_)⟩
    · refine ⟨.ref c.1, rfl, .int j, rfl, c.1, _, _, .int y, rfl, rfl, SqL.of a3, atI_nat gy, .int lim, rfl, _, _, rfl, rfl, l0, ?_⟩
      refine ⟨.ref c.1, rfl, .int j, rfl, c.1, _, _, .int y, rfl, rfl, SqL.of a3, atI_nat gy, .int lim, rfl, _, _, rfl, rfl, wide_div l0 l64 (by decide) (by decide), .ref c.1, rfl, .int j, rfl, c.1, _, _, j, rfl, rfl, a3, ?_, ?_⟩
      · unfold ixN
        rw [if_pos (by omega), if_pos (by rw [List.length_map]; omega)]
        rfl
      refine ⟨_, rfl, ?_⟩
      refine q _ _ (fun b o nb nc e => ?_) ⟨xs, ys.set j (y / lim), ?_, ?_, ?_, ec, x0, x64, by rw [List.length_set]; exact ly, fun z hz => ?_⟩ (Int.emod_nonneg _ (by omega)) (Int.emod_lt_of_pos _ l0)
      · rw [upd_ne nc]
        exact kp1 b o nb nc e
      · rw [upd_ne nd1.symm]
        exact d1
      · rw [upd_ne ec]
        exact a2
      · rw [upd_same, List.map_set]
      · rcases List.mem_or_eq_of_mem_set hz with hm | he
        · exact py z hm
        · rw [he]
          exact Int.ediv_nonneg yp (by omega)
    · refine ⟨.ref c.2, rfl, .int j, rfl, c.2, _, _, .int x, rfl, rfl, SqL.of a2, atI_nat gx, _, _, rfl, rfl, (by show (0 : Int) < 2147483647; decide), .int n, rfl, _, _, rfl, rfl, wide_mul (a := 17) (b := 64) (by decide) n64 (by decide) (by decide) (by decide), _, _, rfl, rfl, _, _, rfl, rfl, _, _, rfl, rfl, ⟨by decide, by decide, ?_⟩, _, _, rfl, rfl, (by show (0 : Int) < 2147483629; decide), ?_⟩
      · have a0 := Int.emod_nonneg x (show (2147483647 : Int) ≠ 0 by decide)
        have a1 := Int.emod_lt_of_pos x (show (0 : Int) < 2147483647 by decide)
        omega
      generalize (x % 2147483647 + 69621 * n + 30269) ^ (3 : Int).toNat = big
      have b0 := Int.emod_nonneg big (show (2147483629 : Int) ≠ 0 by decide)
      have b1 := Int.emod_lt_of_pos big (show (0 : Int) < 2147483629 by decide)
      have nn : (6007 * n * n).natAbs ≤ 6007 * 1000000 * 1000000 := by
        rw [Int.natAbs_mul, Int.natAbs_mul]
        exact Nat.mul_le_mul (Nat.mul_le_mul (by decide) (by omega)) (by omega)
      have nn0 : 0 ≤ 6007 * n * n := Int.mul_nonneg (Int.mul_nonneg (by decide) n0) n0
      refine ⟨_, rfl, .int n, rfl, _, _, rfl, rfl, wide_mul (a := 17) (b := 64) (by decide) n64 (by decide) (by decide) (by decide), .int n, rfl, _, _, rfl, rfl, wide_mul (a := 100) (b := 64) ?_ n64 (by decide) (by decide) (by decide), _, _, rfl, rfl, _, _, rfl, rfl, _, _, rfl, rfl, ⟨by decide, by decide, ?_⟩, _, _, rfl, rfl, (by show (0 : Int) < 2147483587; decide), ?_⟩
      · have : (6007 * n).natAbs ≤ 6007 * 1000000 := by
          rw [Int.natAbs_mul]
          exact Nat.mul_le_mul (by decide) (by omega)
        omega
      · omega
      generalize (big % 2147483629 + 6007 * n * n + 17) ^ (3 : Int).toNat = big2
      have c0 := Int.emod_nonneg big2 (show (2147483587 : Int) ≠ 0 by decide)
      have c1 := Int.emod_lt_of_pos big2 (show (0 : Int) < 2147483587 by decide)
      refine ⟨_, rfl, _, _, rfl, rfl, wide_mul (a := 40) (b := 40) (by show (big2 % 2147483587).natAbs < _; omega) (by decide) (by decide) (by decide) (by decide), _, rfl, _, _, rfl, rfl, _, _, rfl, rfl, (by show (0 : Int) < 4611686018427387847; decide), .int lim, rfl, _, _, rfl, rfl, l0, ?_⟩
      exact q _ _ kp1 dk1 (Int.emod_nonneg _ (by omega)) (Int.emod_lt_of_pos _ l0)
/-! ### the deck, and the table of code objects of the def that makes a lambda: c.1 the rests, c.2.1 the cells, c.2.2 the table -/
def qLam : Str := (envOfC (Str.ofString "helpful_piece") (defScope s_helpful_piece) 0 0 .none).qual ++ "<lambda>"
abbrev in3 (c : Addr × Addr × Addr) : Addr × Addr := (c.1, c.2.1)
structure Dk (H : Hp) (d : Addr) (c : Addr × Addr × Addr) (n : Int) : Prop where
  deck : Dk3 H d (in3 c) n
  tab : LamX.TabS H c.2.2 qLam
def Kp (d : Addr) (c : Addr × Addr × Addr) (H H' : Hp) : Prop := ∀ b o, b ≠ d → (b ≠ c.1 ∧ b ≠ c.2.2) → H b = some o → H' b = some o
theorem Kp.trans {d : Addr} {c : Addr × Addr × Addr} {H H1 H2 : Hp} (h1 : Kp d c H H1) (h2 : Kp d c H1 H2) : Kp d c H H2 := fun b o n1 n2 e => h2 b o n1 n2 (h1 b o n1 n2 e)
theorem Kp.same {d : Addr} {c : Addr × Addr × Addr} {H H1 : Hp} (h : Same H H1) : Kp d c H H1 := fun b o _ _ e => h b o e
theorem Dk.two {H : Hp} {d : Addr} {c : Addr × Addr × Addr} {n : Int} (h : Dk H d c n) : (∃ us, H d = some (.lst us)) ∧ (∃ us, H c.1 = some (.lst us)) ∧ (∃ us, H c.2.1 = some (.lst us)) ∧ ∃ ps, H c.2.2 = some (.tbl ps) := by
  obtain ⟨h1, h2, h3⟩ := h.deck.two
  obtain ⟨ps, h4, _⟩ := h.tab
  exact ⟨h1, h2, h3, ps, h4⟩
theorem Kp.none {d : Addr} {c : Addr × Addr × Addr} {H H' : Hp} (k : Kp d c H H') {n m : Int} (h : Dk H d c n) (h' : Dk H' d c m) {t : Addr} (e : H' t = none) : H t = none := by
  obtain ⟨⟨u1, e1⟩, ⟨u2, e2⟩, _, ps, e4⟩ := h'.two
  by_cases c1 : t = d
  · rw [c1, e1] at e
    cases e
  · by_cases c2 : t = c.1
    · rw [c2, e2] at e
      cases e
    · by_cases c4 : t = c.2.2
      · rw [c4, e4] at e
        cases e
      · cases q : H t with
        | none => rfl
        | some o =>
          rw [k t o c1 ⟨c2, c4⟩ q] at e
          cases e
theorem Dk.kept {H H' : Hp} {d : Addr} {c : Addr × Addr × Addr} {n : Int} (h : Dk H d c n) (s : Same H H') : Dk H' d c n := ⟨h.deck.kept s, h.tab.ext s⟩
theorem Dk.eq {H : Hp} {d : Addr} {c : Addr × Addr × Addr} {n m : Int} (h : Dk H d c n) (e : n = m) : Dk H d c m := e ▸ h
theorem Dk.but {H H' : Hp} {d : Addr} {c : Addr × Addr × Addr} {n : Int} (h : Dk H d c n) (k : ButAt c.2.2 H H') (t : LamX.TabS H' c.2.2 qLam) : Dk H' d c n := by
  obtain ⟨xs, ys, h1, h2, h3, r⟩ := h.deck.ex
  obtain ⟨ps, h4, _⟩ := h.tab
  have nt : ∀ {a : Addr} {ls : List V}, H a = some (.lst ls) → a ≠ c.2.2 := fun {a ls} e z => by
    rw [z, h4] at e
    cases e
  exact ⟨⟨xs, ys, k _ _ (nt h1) h1, k _ _ (nt h2) h2, k _ _ (nt h3) h3, r⟩, t⟩
/-- p is no part of the deck -/
abbrev Off (d : Addr) (c : Addr × Addr × Addr) (p : Addr) : Prop := p ≠ d ∧ (p ≠ c.1 ∧ p ≠ c.2.2) ∧ p ≠ c.2.1
theorem Kp.keep {d : Addr} {c : Addr × Addr × Addr} {H H' : Hp} (k : Kp d c H H') {a : Addr} {o : HO} (n1 : Off d c a) (h : H a = some o) : H' a = some o := k a o n1.1 n1.2.1 h
theorem Kp.tup {d : Addr} {c : Addr × Addr × Addr} {n : Int} {H H' : Hp} (k : Kp d c H H') (dk : Dk H d c n) {a : Addr} {xs : List V} (h : H a = some (.tup xs)) : H' a = some (.tup xs) := by
  obtain ⟨⟨u1, e1⟩, ⟨u2, e2⟩, _, ps, e4⟩ := dk.two
  exact k a _ (ne_of h e1 (fun z => by cases z)) ⟨ne_of h e2 (fun z => by cases z), ne_of h e4 (fun z => by cases z)⟩ h
theorem Dk.off {H : Hp} {d : Addr} {c : Addr × Addr × Addr} {n : Int} (h : Dk H d c n) {p : Addr} (e : H p = none) : Off d c p := by
  obtain ⟨⟨u1, e1⟩, ⟨u2, e2⟩, ⟨u3, e3⟩, ps, e4⟩ := h.two
  exact ⟨(ne_of_none e1 e).symm, ⟨(ne_of_none e2 e).symm, (ne_of_none e4 e).symm⟩, (ne_of_none e3 e).symm⟩
/-- p holds no code object -/
abbrev NoCode (H : Hp) (p : Addr) : Prop := ∀ q, H p ≠ some (LamX.CodeO p q)
theorem noCode_none {H : Hp} {p : Addr} (h : H p = none) : NoCode H p := fun q e => by
  rw [h] at e
  cases e
theorem noCode_lst {H : Hp} {p : Addr} {xs : List V} (h : H p = some (.lst xs)) : NoCode H p := fun q e => by
  rw [h] at e
  unfold LamX.CodeO at e
  cases e
theorem Dk.upd {H : Hp} {d : Addr} {c : Addr × Addr × Addr} {n : Int} (h : Dk H d c n) {p : Addr} {o : HO} (off : Off d c p) (nc : NoCode H p := by first | exact noCode_none (by assumption) | exact noCode_lst (by assumption)) : Dk (upd H p o) d c n := by
  refine ⟨h.deck.upd ⟨off.1, off.2.1.1, off.2.2⟩, ?_⟩
  obtain ⟨ps, h1, h2, h3⟩ := h.tab
  refine ⟨ps, by rw [upd_ne off.2.1.2.symm]; exact h1, h2, fun pos cv hc => ?_⟩
  obtain ⟨c', e1, e2⟩ := h3 pos cv hc
  refine ⟨c', e1, ?_⟩
  rw [upd_ne (fun z => ?_)]
  · exact e2
  · subst z
    exact nc _ e2
theorem TabS.kp3 {H H' : Hp} {d : Addr} {c : Addr × Addr} {n : Int} {P : Addr} {q : Str} (t : LamX.TabS H P q) (dk : Dk3 H d c n) (k : Kp3 d c H H') : LamX.TabS H' P q := by
  obtain ⟨⟨u1, e1⟩, ⟨u2, e2⟩, _⟩ := dk.two
  obtain ⟨ps, h1, h2, h3⟩ := t
  refine ⟨ps, k _ _ (ne_of h1 e1 (fun z => by cases z)) (ne_of h1 e2 (fun z => by cases z)) h1, h2, fun pos cv hc => ?_⟩
  obtain ⟨c', z1, z2⟩ := h3 pos cv hc
  exact ⟨c', z1, k _ _ (fun z => noCode_lst (z ▸ e1) _ z2) (fun z => noCode_lst (z ▸ e2) _ z2) z2⟩
def sp_law_draws (K : PySem.W.Frag) (pT : Addr) : Sp := fun vs H Q _ => ∃ (a : Addr) (ns : List Int), vs = [.ref a] ∧ SqL K H a (ns.map V.int) ∧ ns.length ≤ 63 ∧ LamX.TabS H pT qLam ∧
  ∀ H' d c, Same H H' → H d = none → c.2.2 = pT → Dk H' d c 0 → Q (.ref d) H'
def sp_law_next : Sp := fun vs H Q _ => ∃ (d : Addr) (c : Addr × Addr × Addr) (n lim : Int), vs = [.ref d, .int lim] ∧ Dk H d c n ∧ 0 ≤ n ∧ n < 1000000 ∧ 0 < lim ∧ lim < 2 ^ 63 ∧
  ∀ H' r, Kp d c H H' → Dk H' d c (n + 1) → 0 ≤ r → r < lim → Q (.int r) H'
theorem ok_law_draws (T : Tx K mg f_depth_changes f_find_blocks f_has_position f_contains f_serves f_conflict f_demands_at_blocks f_is_open f_open_demands f_shadow_target f_decisive_demands f_largest_independent f_unserved_demands f_helpful_piece f_smallest_solution f_row_runs f_rows_of_runs f_tallest_rectangle f_cover_board f_law_draws f_law_next f_law_column f_law_board f_law_is_int f_law_inside f_law_full f_law_is_rectangle f_law_apart f_law_levels f_law_ascends f_law_covered f_law_is_cell f_law_holds f_law_board_cells f_law_number f_law_tallest f_law_fewest f_law_most f_law d_depth_changes d_find_blocks d_has_position d_contains d_serves d_conflict d_demands_at_blocks d_is_open d_open_demands d_shadow_target d_decisive_demands d_largest_independent d_unserved_demands d_helpful_piece d_smallest_solution d_row_runs d_rows_of_runs d_tallest_rectangle d_cover_board d_law_draws d_law_next d_law_column d_law_board d_law_is_int d_law_inside d_law_full d_law_is_rectangle d_law_apart d_law_levels d_law_ascends d_law_covered d_law_is_cell d_law_holds d_law_board_cells d_law_number d_law_tallest d_law_fewest d_law_most d_law) : FnOk P w K mg base CX0 1 f_law_draws d_law_draws ["_law_script"] (sp_law_draws K pT) :=
  (ok3_law_draws T).imp fun vs H Q E h => by
    obtain ⟨a, ns, e, h1, h2, tab, q⟩ := h
    exact ⟨a, ns, e, h1, h2, fun H' d c s nd dk => q H' d (c.1, c.2, pT) s nd rfl ⟨dk, tab.ext s⟩⟩
theorem ok_law_next (T : Tx K mg f_depth_changes f_find_blocks f_has_position f_contains f_serves f_conflict f_demands_at_blocks f_is_open f_open_demands f_shadow_target f_decisive_demands f_largest_independent f_unserved_demands f_helpful_piece f_smallest_solution f_row_runs f_rows_of_runs f_tallest_rectangle f_cover_board f_law_draws f_law_next f_law_column f_law_board f_law_is_int f_law_inside f_law_full f_law_is_rectangle f_law_apart f_law_levels f_law_ascends f_law_covered f_law_is_cell f_law_holds f_law_board_cells f_law_number f_law_tallest f_law_fewest f_law_most f_law d_depth_changes d_find_blocks d_has_position d_contains d_serves d_conflict d_demands_at_blocks d_is_open d_open_demands d_shadow_target d_decisive_demands d_largest_independent d_unserved_demands d_helpful_piece d_smallest_solution d_row_runs d_rows_of_runs d_tallest_rectangle d_cover_board d_law_draws d_law_next d_law_column d_law_board d_law_is_int d_law_inside d_law_full d_law_is_rectangle d_law_apart d_law_levels d_law_ascends d_law_covered d_law_is_cell d_law_holds d_law_board_cells d_law_number d_law_tallest d_law_fewest d_law_most d_law) : FnOk P w K mg base CX0 1 f_law_next d_law_next ["_law_drawn", "_law_many"] sp_law_next :=
  (ok3_law_next T).imp fun vs H Q E h => by
    obtain ⟨d, c, n, lim, e, dk, h1, h2, h3, h4, q⟩ := h
    exact ⟨d, in3 c, n, lim, e, dk.deck, h1, h2, h3, h4, fun H' r kp dk' r0 r1 => q H' r (fun b o n1 n2 e => kp b o n1 n2.1 e) ⟨dk', TabS.kp3 dk.tab dk.deck kp⟩ r0 r1⟩

/-! ### what stays when the heap grows, or the deck is drawn from -/
theorem rd_same {H H' : Hp} (s : Same H H') {a : Addr} {u : HO} (h : Rd H a u) : Rd H' a u := by
  rcases h with h | ⟨o, h⟩
  · exact .inl (s _ _ h)
  · exact .inr ⟨o, s _ _ h⟩
theorem sqT_same {K : PySem.W.Frag} {H H' : Hp} (s : Same H H') {a : Addr} {xs : List V} (h : SqT K H a xs) : SqT K H' a xs := by
  rcases h with h | h
  · exact .inl (rd_same s h)
  · exact .inr h
theorem dp_same {K : PySem.W.Frag} {H H' : Hp} (s : Same H H') {v : V} {d : PyData} (h : Dp K H v d) : Dp K H' v d := by
  refine Dp.rec (K := K) (H := H) (motive_1 := fun v d _ => Dp K H' v d) (motive_2 := fun vs ds _ => DpAll K H' vs ds) .non (fun b => .bl b) (fun i => .int i) (fun x => .str x) (fun hs _ q => .lst (s.seq hs) q) (fun hs _ q => .tup (sqT_same s hs) q) .nil (fun _ _ a b => .cons a b) h
theorem dp2 {K : PySem.W.Frag} {H : Hp} {t : Addr} {x y : Int} (h : H t = some (.tup [.int x, .int y])) : Dp K H (.ref t) (.tuple [.int x, .int y]) := .tup (SqT.of h) (.cons (.int x) (.cons (.int y) .nil))
theorem sm2 {x y : Int} (h1 : x.natAbs < 10 ^ 30) (h2 : y.natAbs < 10 ^ 30) : Sm 202 1 (.tuple [.int x, .int y]) := by
  have h := Sm.tup (n := 100) (dp := 0) (ds := [.int x, .int y]) (fun d hd => by
    rcases List.mem_cons.mp hd with rfl | hd
    · exact Sm.int h1
    · rcases List.mem_cons.mp hd with rfl | hd
      · exact Sm.int h2
      · cases hd)
  exact h
/-- an interval, or None -/
def optD : Option (Int × Int) → PyData
  | none => .none
  | some (x, y) => .tuple [.int x, .int y]
def OV (H : Hp) (v : V) : Option (Int × Int) → Prop
  | none => v = .non
  | some (x, y) => ∃ t, v = .ref t ∧ H t = some (.tup [.int x, .int y])
theorem OV.same {H H' : Hp} (s : Same H H') {v : V} {o : Option (Int × Int)} (h : OV H v o) : OV H' v o := by
  match o, h with
  | none, h => exact h
  | some (x, y), h =>
    obtain ⟨t, e, z⟩ := h
    exact ⟨t, e, s _ _ z⟩
theorem OV.kp {d : Addr} {c : Addr × Addr × Addr} {n : Int} {H H' : Hp} (k : Kp d c H H') (dk : Dk H d c n) {v : V} {o : Option (Int × Int)} (h : OV H v o) : OV H' v o := by
  match o, h with
  | none, h => exact h
  | some (x, y), h =>
    obtain ⟨t, e, z⟩ := h
    exact ⟨t, e, k.tup dk z⟩
theorem OV.dp {K : PySem.W.Frag} {H : Hp} {v : V} {o : Option (Int × Int)} (h : OV H v o) : Dp K H v (optD o) := by
  match o, h with
  | none, h =>
    cases h
    exact .non
  | some (x, y), h =>
    obtain ⟨t, e, z⟩ := h
    subst e
    exact dp2 z

/-! ### rows of intervals -/
inductive Ivs (H : Hp) : List V → List (Int × Int) → Prop
  | nil : Ivs H [] []
  | cons {a : Addr} {x y : Int} {vs : List V} {ps : List (Int × Int)} : H a = some (.tup [.int x, .int y]) → Ivs H vs ps → Ivs H (.ref a :: vs) ((x, y) :: ps)
theorem Ivs.length {H : Hp} {vs : List V} {ps : List (Int × Int)} (h : Ivs H vs ps) : vs.length = ps.length := by
  induction h with
  | nil => rfl
  | cons _ _ ih => rw [List.length_cons, List.length_cons, ih]
theorem Ivs.same {H H' : Hp} (s : Same H H') {vs : List V} {ps : List (Int × Int)} (h : Ivs H vs ps) : Ivs H' vs ps := by
  induction h with
  | nil => exact .nil
  | cons e _ ih => exact .cons (s _ _ e) ih
theorem Ivs.kp {d : Addr} {c : Addr × Addr × Addr} {n : Int} {H H' : Hp} (k : Kp d c H H') (dk : Dk H d c n) {vs : List V} {ps : List (Int × Int)} (h : Ivs H vs ps) : Ivs H' vs ps := by
  induction h with
  | nil => exact .nil
  | cons e _ ih => exact .cons (k.tup dk e) ih
theorem Ivs.get {H : Hp} {vs : List V} {ps : List (Int × Int)} (h : Ivs H vs ps) : ∀ {i : Nat} {v : V}, vs[i]? = some v → ∃ a x y, v = .ref a ∧ ps[i]? = some (x, y) ∧ H a = some (.tup [.int x, .int y]) := by
  induction h with
  | nil =>
    intro i v e
    simp at e
  | cons e _ ih =>
    intro i v q
    cases i with
    | zero =>
      cases q
      exact ⟨_, _, _, rfl, rfl, e⟩
    | succ i => exact ih q
theorem Ivs.snoc {H : Hp} {vs : List V} {ps : List (Int × Int)} {a : Addr} {x y : Int} (h : Ivs H vs ps) (e : H a = some (.tup [.int x, .int y])) : Ivs H (vs ++ [.ref a]) (ps ++ [(x, y)]) := by
  induction h with
  | nil => exact .cons e .nil
  | cons z _ ih => exact .cons z ih
def pairD (p : Int × Int) : PyData := .tuple [.int p.1, .int p.2]
theorem Ivs.dp {K : PySem.W.Frag} {H : Hp} {vs : List V} {ps : List (Int × Int)} (h : Ivs H vs ps) : DpAll K H vs (ps.map pairD) := by
  induction h with
  | nil => exact .nil
  | cons e _ ih => exact .cons (dp2 e) ih

/-! ### comprehensions that change nothing but make new objects -/
/-- the tuples stay -/
def Tps (H H' : Hp) : Prop := ∀ b xs, H b = some (.tup xs) → H' b = some (.tup xs)
theorem Tps.refl (H : Hp) : Tps H H := fun _ _ e => e
theorem Tps.trans {H H1 H2 : Hp} (h : Tps H H1) (h2 : Tps H1 H2) : Tps H H2 := fun b xs e => h2 b xs (h b xs e)
theorem Tps.same {H H1 : Hp} (h : Same H H1) : Tps H H1 := fun b xs e => h b _ e
theorem Kp.tps {d : Addr} {c : Addr × Addr × Addr} {n : Int} {H H' : Hp} (k : Kp d c H H') (dk : Dk H d c n) : Tps H H' := fun _ _ e => k.tup dk e
theorem Tps.lst {H : Hp} {D : Addr} {ws vs : List V} (e : H D = some (.lst ws)) : Tps H (upd H D (.lst vs)) := fun b xs h => by
  rw [upd_ne (ne_of h e (fun z => by cases z))]
  exact h
theorem same_off {H0 H : Hp} {D : Addr} {o : HO} (n : H0 D = none) (s : Same H0 H) : Same H0 (upd H D o) := fun b u e => by
  rw [upd_ne (ne_of_none e n)]
  exact s b u e
theorem few_line {n : Nat} (h : n < 1000) : n < sizeLine := by
  rw [show sizeLine = 16777216 by decide]
  omega
theorem lcL {K : PySem.W.Frag} {a : Addr} {xs : List V} {g : TG} {tt : TT} {te : TE} {vs : List Nat} {σ : L2.St} {H1 : Hp} {D : Addr} {Qd : Hp → Prop} (R : Nat → Hp → List V → Prop) (nD : H1 D = none) (hl : ∀ H', Same H1 H' → SqL K H' a xs) (few : xs.length < 1000)
    (mono : ∀ i H' H'' ws, Tps H' H'' → R i H' ws → R i H'' ws) (len : ∀ i H' ws, R i H' ws → ws.length ≤ i) (r0 : ∀ H', R 0 H' [])
    (hs : ∀ i x H' (N : Hp → Prop) acc, xs[i]? = some x → Same H1 H' → H' D = some (.lst acc) → acc.length < sizeLine → R i H' acc → (∀ H'', Same H' H'' → R (i + 1) H'' acc → N H'') → (∀ H'' y, Same H' H'' → R (i + 1) H'' (acc ++ [y]) → ∃ acc', H'' D = some (.lst acc') ∧ acc'.length < sizeLine ∧ N (upd H'' D (.lst (acc' ++ [y])))) →
      g x (wipe σ vs) H' fun σ2 H2 => wipe σ2 vs = wipe σ vs ∧ tt σ2 H2 fun b H3 => if b = true then te σ2 H3 fun y H4 => ∃ acc, H4 D = some (.lst acc) ∧ acc.length < sizeLine ∧ N (upd H4 D (.lst (acc ++ [y]))) else N H3)
    (hd : ∀ H' ws, Same H1 H' → H' D = some (.lst ws) → R xs.length H' ws → Qd H') :
    ∃ W : Nat → Nat → Hp → Prop, (∃ m, W 0 m (upd H1 D (.lst []))) ∧ ∀ i m H, W i m H →
      ((Itl K a).stop i H ∧ Qd H) ∨ ((Itl K a).go i H ∧ ∃ Nx : Hp → Prop, (∀ H', Nx H' → ∃ m', m' < m ∧ W (i + 1) m' H') ∧ ∀ x H', (Itl K a).yld i H x H' → g x (wipe σ vs) H' fun σ2 H2 => wipe σ2 vs = wipe σ vs ∧ tt σ2 H2 fun b H3 =>
        if b = true then te σ2 H3 fun y H4 => ∃ acc, H4 D = some (.lst acc) ∧ acc.length < sizeLine ∧ Nx (upd H4 D (.lst (acc ++ [y]))) else Nx H3) := by
  refine lc_list (K := K) (a := a) (xs := xs) (fun i H' => Same H1 H' ∧ ∃ ws, H' D = some (.lst ws) ∧ R i H' ws) ⟨same_new nD, [], upd_same, r0 _⟩ (fun i H' _ h => hl H' h.1) ?_ ?_
  · rintro i x H' hi ⟨sm, ws, eD, r⟩
    have lt := (List.getElem?_eq_some_iff.mp hi).1
    have lw := len i H' ws r
    have sz : ws.length < sizeLine := few_line (by omega)
    refine hs i x H' _ ws hi sm eD sz r (fun H'' s r2 => ⟨sm.trans s, ws, s _ _ eD, r2⟩) (fun H'' y s r2 => ?_)
    exact ⟨ws, s _ _ eD, sz, same_off nD (sm.trans s), _, upd_same, mono _ _ _ _ (Tps.lst (s _ _ eD)) r2⟩
  · rintro H' ⟨sm, ws, eD, r⟩
    exact hd H' ws sm eD r
theorem lcT {K : PySem.W.Frag} {a : Addr} {xs : List V} {g : TG} {tt : TT} {te : TE} {vs : List Nat} {σ : L2.St} {H1 : Hp} {D : Addr} {Qd : Hp → Prop} (R : Nat → Hp → List V → Prop) (nD : H1 D = none) (hl : ∀ H', Same H1 H' → SqT K H' a xs) (few : xs.length < 1000)
    (mono : ∀ i H' H'' ws, Tps H' H'' → R i H' ws → R i H'' ws) (len : ∀ i H' ws, R i H' ws → ws.length ≤ i) (r0 : ∀ H', R 0 H' [])
    (hs : ∀ i x H' (N : Hp → Prop) acc, xs[i]? = some x → Same H1 H' → H' D = some (.lst acc) → acc.length < sizeLine → R i H' acc → (∀ H'', Same H' H'' → R (i + 1) H'' acc → N H'') → (∀ H'' y, Same H' H'' → R (i + 1) H'' (acc ++ [y]) → ∃ acc', H'' D = some (.lst acc') ∧ acc'.length < sizeLine ∧ N (upd H'' D (.lst (acc' ++ [y])))) →
      g x (wipe σ vs) H' fun σ2 H2 => wipe σ2 vs = wipe σ vs ∧ tt σ2 H2 fun b H3 => if b = true then te σ2 H3 fun y H4 => ∃ acc, H4 D = some (.lst acc) ∧ acc.length < sizeLine ∧ N (upd H4 D (.lst (acc ++ [y]))) else N H3)
    (hd : ∀ H' ws, Same H1 H' → H' D = some (.lst ws) → R xs.length H' ws → Qd H') :
    ∃ W : Nat → Nat → Hp → Prop, (∃ m, W 0 m (upd H1 D (.lst []))) ∧ ∀ i m H, W i m H →
      ((Itt K a).stop i H ∧ Qd H) ∨ ((Itt K a).go i H ∧ ∃ Nx : Hp → Prop, (∀ H', Nx H' → ∃ m', m' < m ∧ W (i + 1) m' H') ∧ ∀ x H', (Itt K a).yld i H x H' → g x (wipe σ vs) H' fun σ2 H2 => wipe σ2 vs = wipe σ vs ∧ tt σ2 H2 fun b H3 =>
        if b = true then te σ2 H3 fun y H4 => ∃ acc, H4 D = some (.lst acc) ∧ acc.length < sizeLine ∧ Nx (upd H4 D (.lst (acc ++ [y]))) else Nx H3) := by
  refine lc_tup (K := K) (a := a) (xs := xs) (fun i H' => Same H1 H' ∧ ∃ ws, H' D = some (.lst ws) ∧ R i H' ws) ⟨same_new nD, [], upd_same, r0 _⟩ (fun i H' _ h => hl H' h.1) ?_ ?_
  · rintro i x H' hi ⟨sm, ws, eD, r⟩
    have lt := (List.getElem?_eq_some_iff.mp hi).1
    have lw := len i H' ws r
    have sz : ws.length < sizeLine := few_line (by omega)
    refine hs i x H' _ ws hi sm eD sz r (fun H'' s r2 => ⟨sm.trans s, ws, s _ _ eD, r2⟩) (fun H'' y s r2 => ?_)
    exact ⟨ws, s _ _ eD, sz, same_off nD (sm.trans s), _, upd_same, mono _ _ _ _ (Tps.lst (s _ _ eD)) r2⟩
  · rintro H' ⟨sm, ws, eD, r⟩
    exact hd H' ws sm eD r
theorem map_filter_len {α : Type} {ns : List α} {p : α → Bool} {f : α → V} (i : Nat) : (((ns.take i).filter p).map f).length ≤ i := by
  rw [List.length_map]
  exact Nat.le_trans (List.length_filter_le _ _) (List.length_take_le _ _)
theorem take_filter {α : Type} {ns : List α} {i : Nat} {n : α} {p : α → Bool} (h : ns[i]? = some n) : (ns.take (i + 1)).filter p = (ns.take i).filter p ++ (if p n = true then [n] else []) := by
  rw [List.take_add_one, h, List.filter_append]
  congr 1
  show List.filter p [n] = _
  rw [List.filter_cons]
  split <;> rfl
theorem nodup_le {α : Type} [DecidableEq α] : ∀ {l m : List α}, l.Nodup → (∀ x ∈ l, x ∈ m) → l.length ≤ m.length
  | [], _, _, _ => Nat.zero_le _
  | a :: l, m, h, hs => by
    have hm := hs a List.mem_cons_self
    have h' := List.nodup_cons.mp h
    have ih := nodup_le (l := l) (m := m.erase a) h'.2 (fun x hx => (List.mem_erase_of_ne (fun e => h'.1 (by rw [← e]; exact hx))).mpr (hs x (List.mem_cons_of_mem _ hx)))
    rw [List.length_erase_of_mem hm] at ih
    have := List.length_pos_of_mem hm
    rw [List.length_cons]
    omega

/-! ### demands, and rows of them -/
structure Dm (H : Hp) (v : V) (p lo hi : Int) : Prop where
  ex : ∃ u t, v = .ref u ∧ H u = some (.tup [.int p, .ref t]) ∧ H t = some (.tup [.int lo, .int hi])
  low : lo ≤ p
  high : p ≤ hi
theorem Dm.tps {H H' : Hp} (s : Tps H H') {v : V} {p lo hi : Int} (h : Dm H v p lo hi) : Dm H' v p lo hi := by
  obtain ⟨u, t, rfl, e1, e2⟩ := h.ex
  exact ⟨⟨u, t, rfl, s _ _ e1, s _ _ e2⟩, h.low, h.high⟩
theorem Dm.same {H H' : Hp} (s : Same H H') {v : V} {p lo hi : Int} (h : Dm H v p lo hi) : Dm H' v p lo hi := h.tps (Tps.same s)
inductive Dms (H : Hp) : List V → List (Int × Int × Int) → Prop
  | nil : Dms H [] []
  | cons {v : V} {p lo hi : Int} {vs : List V} {ds : List (Int × Int × Int)} : Dm H v p lo hi → Dms H vs ds → Dms H (v :: vs) ((p, lo, hi) :: ds)
theorem Dms.length {H : Hp} {vs : List V} {ds : List (Int × Int × Int)} (h : Dms H vs ds) : vs.length = ds.length := by
  induction h with
  | nil => rfl
  | cons _ _ ih => rw [List.length_cons, List.length_cons, ih]
theorem Dms.tps {H H' : Hp} (s : Tps H H') {vs : List V} {ds : List (Int × Int × Int)} (h : Dms H vs ds) : Dms H' vs ds := by
  induction h with
  | nil => exact .nil
  | cons e _ ih => exact .cons (e.tps s) ih
theorem Dms.same {H H' : Hp} (s : Same H H') {vs : List V} {ds : List (Int × Int × Int)} (h : Dms H vs ds) : Dms H' vs ds := h.tps (Tps.same s)
theorem Dms.get {H : Hp} {vs : List V} {ds : List (Int × Int × Int)} (h : Dms H vs ds) : ∀ {i : Nat} {v : V}, vs[i]? = some v → ∃ p lo hi, ds[i]? = some (p, lo, hi) ∧ Dm H v p lo hi := by
  induction h with
  | nil =>
    intro i v e
    simp at e
  | cons e _ ih =>
    intro i v q
    cases i with
    | zero =>
      cases q
      exact ⟨_, _, _, rfl, e⟩
    | succ i => exact ih q
theorem Dms.append {H : Hp} {vs us : List V} {ds es : List (Int × Int × Int)} (h : Dms H vs ds) (h2 : Dms H us es) : Dms H (vs ++ us) (ds ++ es) := by
  induction h with
  | nil => exact h2
  | cons e _ ih => exact .cons e ih
theorem Dms.snoc {H : Hp} {vs : List V} {ds : List (Int × Int × Int)} {v : V} {p lo hi : Int} (h : Dms H vs ds) (e : Dm H v p lo hi) : Dms H (vs ++ [v]) (ds ++ [(p, lo, hi)]) := h.append (.cons e .nil)
theorem Dms.take {H : Hp} {vs : List V} {ds : List (Int × Int × Int)} (h : Dms H vs ds) : ∀ n : Nat, Dms H (vs.take n) (ds.take n) := by
  induction h with
  | nil =>
    intro n
    rw [List.take_nil, List.take_nil]
    exact .nil
  | cons e _ ih =>
    intro n
    cases n with
    | zero => exact .nil
    | succ n => exact .cons e (ih n)
theorem Dms.reverse {H : Hp} {vs : List V} {ds : List (Int × Int × Int)} (h : Dms H vs ds) : Dms H vs.reverse ds.reverse := by
  induction h with
  | nil => exact .nil
  | cons e _ ih =>
    rw [List.reverse_cons, List.reverse_cons]
    exact ih.snoc e
theorem Dms.isEmpty {H : Hp} {vs : List V} {ds : List (Int × Int × Int)} (h : Dms H vs ds) : vs.isEmpty = ds.isEmpty := by
  cases h <;> rfl
theorem Dms.ok {H : Hp} {vs : List V} {ds : List (Int × Int × Int)} (h : Dms H vs ds) : ∀ q ∈ ds, q.2.1 ≤ q.1 ∧ q.1 ≤ q.2.2 := by
  induction h with
  | nil =>
    intro q hq
    cases hq
  | cons e _ ih =>
    intro q hq
    rcases List.mem_cons.mp hq with rfl | hq
    · exact ⟨e.low, e.high⟩
    · exact ih q hq
/-! ### comprehensions over a range that draw -/
theorem lcK {d : Addr} {c : Addr × Addr × Addr} {n0 per : Int} {lo : Int} {n : Nat} {g : TG} {tt : TT} {te : TE} {vs : List Nat} {σ : L2.St} {H1 : Hp} {D : Addr} {Qd : Hp → Prop} (R : Nat → Hp → List V → Prop) (nD : H1 D = none) (dk : Dk H1 d c n0) (few : n < 1000)
    (mono : ∀ i H' H'' ws, Tps H' H'' → R i H' ws → R i H'' ws) (len : ∀ i H' ws, R i H' ws → ws.length ≤ i) (r0 : ∀ H', R 0 H' [])
    (hs : ∀ i H' (N : Hp → Prop) acc, i < n → Kp d c H1 H' → Dk H' d c (n0 + per * i) → H' D = some (.lst acc) → R i H' acc → (∀ H'' y, Kp d c H' H'' → Dk H'' d c (n0 + per * i + per) → R (i + 1) H'' (acc ++ [y]) → ∃ acc', H'' D = some (.lst acc') ∧ acc'.length < sizeLine ∧ N (upd H'' D (.lst (acc' ++ [y])))) →
      g (.int (lo + i)) (wipe σ vs) H' fun σ2 H2 => wipe σ2 vs = wipe σ vs ∧ tt σ2 H2 fun b H3 => if b = true then te σ2 H3 fun y H4 => ∃ acc, H4 D = some (.lst acc) ∧ acc.length < sizeLine ∧ N (upd H4 D (.lst (acc ++ [y]))) else N H3)
    (hd : ∀ H' ws, Kp d c H1 H' → Dk H' d c (n0 + per * n) → H' D = some (.lst ws) → R n H' ws → Qd H') :
    ∃ W : Nat → Nat → Hp → Prop, (∃ m, W 0 m (upd H1 D (.lst []))) ∧ ∀ i m H, W i m H →
      ((Itr lo n).stop i H ∧ Qd H) ∨ ((Itr lo n).go i H ∧ ∃ Nx : Hp → Prop, (∀ H', Nx H' → ∃ m', m' < m ∧ W (i + 1) m' H') ∧ ∀ x H', (Itr lo n).yld i H x H' → g x (wipe σ vs) H' fun σ2 H2 => wipe σ2 vs = wipe σ vs ∧ tt σ2 H2 fun b H3 =>
        if b = true then te σ2 H3 fun y H4 => ∃ acc, H4 D = some (.lst acc) ∧ acc.length < sizeLine ∧ Nx (upd H4 D (.lst (acc ++ [y]))) else Nx H3) := by
  have off := dk.off nD
  refine lc_range (lo := lo) (n := n) (fun i H' => Kp d c H1 H' ∧ Dk H' d c (n0 + per * i) ∧ ∃ ws, H' D = some (.lst ws) ∧ R i H' ws) ⟨Kp.same (same_new nD), (dk.upd off).eq (by simp), [], upd_same, r0 _⟩ ?_ ?_
  · rintro i H' hi ⟨kp, dk', ws, eD, r⟩
    have lw := len i H' ws r
    have sz : ws.length < sizeLine := few_line (by omega)
    refine hs i H' _ ws hi kp dk' eD r (fun H'' y kp2 dk2 r2 => ?_)
    have eD2 := kp2.keep off eD
    refine ⟨ws, eD2, sz, fun b o n1 n2 e => ?_, (dk2.upd off).eq ?_, _, upd_same, mono _ _ _ _ (Tps.lst eD2) r2⟩
    · rw [upd_ne (ne_of_none e nD)]
      exact kp2 b o n1 n2 (kp b o n1 n2 e)
    · rw [Int.natCast_succ, Int.mul_add, Int.mul_one]
      omega
  · rintro H' ⟨kp, dk', ws, eD, r⟩
    exact hd H' ws kp dk' eD r

theorem Ivs.tps {H H' : Hp} (s : Tps H H') {vs : List V} {ps : List (Int × Int)} (h : Ivs H vs ps) : Ivs H' vs ps := by
  induction h with
  | nil => exact .nil
  | cons e _ ih => exact .cons (s _ _ e) ih
theorem Ivs.append {H : Hp} {vs us : List V} {ps qs : List (Int × Int)} (h : Ivs H vs ps) (h2 : Ivs H us qs) : Ivs H (vs ++ us) (ps ++ qs) := by
  induction h with
  | nil => exact h2
  | cons e _ ih => exact .cons e ih
theorem Ivs.isEmpty {H : Hp} {vs : List V} {ps : List (Int × Int)} (h : Ivs H vs ps) : vs.isEmpty = ps.isEmpty := by
  cases h <;> rfl

/-! ### the program: contains, has_position, serves -/
def inI (x y u v : Int) : Bool := decide (x ≤ u) && decide (v ≤ y)
def atP (x y p : Int) : Bool := decide (x ≤ p) && decide (p ≤ y)
def sp_contains : Sp := fun vs H Q _ => ∃ (a b : Addr) (x y u v : Int), vs = [.ref a, .ref b] ∧ H a = some (.tup [.int x, .int y]) ∧ H b = some (.tup [.int u, .int v]) ∧ Q (.bl (inI x y u v)) H
theorem ok_contains (T : Tx K mg f_depth_changes f_find_blocks f_has_position f_contains f_serves f_conflict f_demands_at_blocks f_is_open f_open_demands f_shadow_target f_decisive_demands f_largest_independent f_unserved_demands f_helpful_piece f_smallest_solution f_row_runs f_rows_of_runs f_tallest_rectangle f_cover_board f_law_draws f_law_next f_law_column f_law_board f_law_is_int f_law_inside f_law_full f_law_is_rectangle f_law_apart f_law_levels f_law_ascends f_law_covered f_law_is_cell f_law_holds f_law_board_cells f_law_number f_law_tallest f_law_fewest f_law_most f_law d_depth_changes d_find_blocks d_has_position d_contains d_serves d_conflict d_demands_at_blocks d_is_open d_open_demands d_shadow_target d_decisive_demands d_largest_independent d_unserved_demands d_helpful_piece d_smallest_solution d_row_runs d_rows_of_runs d_tallest_rectangle d_cover_board d_law_draws d_law_next d_law_column d_law_board d_law_is_int d_law_inside d_law_full d_law_is_rectangle d_law_apart d_law_levels d_law_ascends d_law_covered d_law_is_cell d_law_holds d_law_board_cells d_law_number d_law_tallest d_law_fewest d_law_most d_law) : FnOk P w K mg base CX0 1 f_contains d_contains ["outer", "inner"] sp_contains := by
  refine T.F_contains.ok sc_contains (fun vs H Q E h => ?_) (fun cdv A outer s H vs Q E hr h => ?_)
  · obtain ⟨a, b, x, y, u, v, rfl, _⟩ := h
    rfl
  · obtain ⟨a, b, x, y, u, v, rfl, ha, hb, q⟩ := h
    refine ⟨_, (pss_one (ps_ret (pe_and (pe_cmpR op_le (pe_ix ix_tup (pv 0) pe_int (fun _ _ => rfl)) (pe_ix ix_tup (pv 1) pe_int (fun _ _ => rfl)) (nomark _)) (pe_one (pe_cmpR op_le (pe_ix ix_tup (pv 1) pe_int (fun _ _ => rfl)) (pe_ix ix_tup (pv 0) pe_int (fun _ _ => rfl)) (nomark _)))))), ?_⟩
    unfold inI at q
    refine ⟨.ref a, rfl, a, _, 0, .int x, rfl, rfl, SqT.of ha, rfl, .ref b, rfl, b, _, 0, .int u, rfl, rfl, SqT.of hb, rfl, _, _, rfl, rfl, _, rfl, ite2 (fun e => ?_) (fun e => ?_)⟩
    · refine ⟨.ref b, rfl, b, _, 1, .int v, rfl, rfl, SqT.of hb, rfl, .ref a, rfl, a, _, 1, .int y, rfl, rfl, SqT.of ha, rfl, _, _, rfl, rfl, ?_⟩
      rw [e] at q
      exact q
    · rw [Bool.not_eq_true] at e
      rw [e] at q
      exact q
def sp_has_position : Sp := fun vs H Q _ => ∃ (a : Addr) (x y p : Int), vs = [.ref a, .int p] ∧ H a = some (.tup [.int x, .int y]) ∧ Q (.bl (atP x y p)) H
theorem ok_has_position (T : Tx K mg f_depth_changes f_find_blocks f_has_position f_contains f_serves f_conflict f_demands_at_blocks f_is_open f_open_demands f_shadow_target f_decisive_demands f_largest_independent f_unserved_demands f_helpful_piece f_smallest_solution f_row_runs f_rows_of_runs f_tallest_rectangle f_cover_board f_law_draws f_law_next f_law_column f_law_board f_law_is_int f_law_inside f_law_full f_law_is_rectangle f_law_apart f_law_levels f_law_ascends f_law_covered f_law_is_cell f_law_holds f_law_board_cells f_law_number f_law_tallest f_law_fewest f_law_most f_law d_depth_changes d_find_blocks d_has_position d_contains d_serves d_conflict d_demands_at_blocks d_is_open d_open_demands d_shadow_target d_decisive_demands d_largest_independent d_unserved_demands d_helpful_piece d_smallest_solution d_row_runs d_rows_of_runs d_tallest_rectangle d_cover_board d_law_draws d_law_next d_law_column d_law_board d_law_is_int d_law_inside d_law_full d_law_is_rectangle d_law_apart d_law_levels d_law_ascends d_law_covered d_law_is_cell d_law_holds d_law_board_cells d_law_number d_law_tallest d_law_fewest d_law_most d_law) : FnOk P w K mg base CX0 1 f_has_position d_has_position ["interval", "position"] sp_has_position := by
  refine T.F_has_position.ok sc_has_position (fun vs H Q E h => ?_) (fun cdv A outer s H vs Q E hr h => ?_)
  · obtain ⟨a, x, y, p, rfl, _⟩ := h
    rfl
  · obtain ⟨a, x, y, p, rfl, ha, q⟩ := h
    refine ⟨_, (pss_one (ps_ret (pe_chain op_le op_le (pe_ix ix_tup (pv 0) pe_int (fun _ _ => rfl)) (pv 1) (pe_ix ix_tup (pv 0) pe_int (fun _ _ => rfl))))), ?_⟩
    unfold atP at q
    refine ⟨.ref a, rfl, a, _, 0, .int x, rfl, rfl, SqT.of ha, rfl, .int p, rfl, _, _, rfl, rfl, _, rfl, ite2 (fun e => ?_) (fun e => ?_)⟩
    · refine ⟨.ref a, rfl, a, _, 1, .int y, rfl, rfl, SqT.of ha, rfl, _, _, rfl, rfl, ?_⟩
      rw [e] at q
      exact q
    · rw [Bool.not_eq_true] at e
      rw [e] at q
      exact q
def svI (x y p lo hi : Int) : Bool := inI lo hi x y && atP x y p
def sp_serves : Sp := fun vs H Q _ => ∃ (a u t : Addr) (x y p lo hi : Int), vs = [.ref a, .ref u] ∧ H a = some (.tup [.int x, .int y]) ∧ H u = some (.tup [.int p, .ref t]) ∧ H t = some (.tup [.int lo, .int hi]) ∧ Q (.bl (svI x y p lo hi)) H
theorem ok_serves (T : Tx K mg f_depth_changes f_find_blocks f_has_position f_contains f_serves f_conflict f_demands_at_blocks f_is_open f_open_demands f_shadow_target f_decisive_demands f_largest_independent f_unserved_demands f_helpful_piece f_smallest_solution f_row_runs f_rows_of_runs f_tallest_rectangle f_cover_board f_law_draws f_law_next f_law_column f_law_board f_law_is_int f_law_inside f_law_full f_law_is_rectangle f_law_apart f_law_levels f_law_ascends f_law_covered f_law_is_cell f_law_holds f_law_board_cells f_law_number f_law_tallest f_law_fewest f_law_most f_law d_depth_changes d_find_blocks d_has_position d_contains d_serves d_conflict d_demands_at_blocks d_is_open d_open_demands d_shadow_target d_decisive_demands d_largest_independent d_unserved_demands d_helpful_piece d_smallest_solution d_row_runs d_rows_of_runs d_tallest_rectangle d_cover_board d_law_draws d_law_next d_law_column d_law_board d_law_is_int d_law_inside d_law_full d_law_is_rectangle d_law_apart d_law_levels d_law_ascends d_law_covered d_law_is_cell d_law_holds d_law_board_cells d_law_number d_law_tallest d_law_fewest d_law_most d_law) : FnOk P w K mg base CX0 2 f_serves d_serves ["piece", "demand"] sp_serves := by
  refine T.F_serves.ok sc_serves (fun vs H Q E h => ?_) (fun cdv A outer s H vs Q E hr h => ?_)
  · obtain ⟨a, u, t, x, y, p, lo, hi, rfl, _⟩ := h
    rfl
  · obtain ⟨a, u, t, x, y, p, lo, hi, rfl, ha, hu, ht, q⟩ := h
    refine ⟨_, (pss_cons (ps_asg (pv 1) (pg_tup rfl (pgs_cons (pg_name (i := 2) sc_serves.nd rfl (Or.inl rfl)) (pgs_cons (pg_name (i := 3) sc_serves.nd rfl (Or.inl rfl)) pgs_nil))))
      (pss_one (ps_ret (pe_and (pe_call (ok_contains T) (hr.mono (by decide)) (by rfl) T.g_contains T.F_contains.kp T.b_contains .nil pass0 (pa_cons (pv 3) (pa_cons (pv 0) pa_nil))) (pe_one (pe_call (ok_has_position T) (hr.mono (by decide)) (by rfl) T.g_has_position T.F_has_position.kp T.b_has_position .nil pass0 (pa_cons (pv 0) (pa_cons (pv 2) pa_nil)))))))), ?_⟩
    unfold svI at q
    refine ⟨.ref u, rfl, u, _, rfl, SqT.of hu, rfl, .int p, [.ref t], rfl, .ref t, [], rfl, rfl, ?_⟩
    refine ⟨.ref t, rfl, .ref a, rfl, t, a, lo, hi, x, y, rfl, ht, ha, _, rfl, ite2 (fun e => ?_) (fun e => ?_)⟩
    · refine ⟨.ref a, rfl, .int p, rfl, a, x, y, p, rfl, ha, ?_⟩
      rw [e] at q
      exact q
    · rw [Bool.not_eq_true] at e
      rw [e] at q
      exact q

def strI (f s : Int) (p : Int × Int) : Int × Int := (p.1 * f + s, p.2 * f + f - 1 + s)

/-! ### blocks, position by position -/
def depI (row : List (Int × Int)) (p : Int) : Int := (row.map fun q => if q.1 ≤ p ∧ p ≤ q.2 then (1 : Int) else 0).sum
def delI (row : List (Int × Int)) (p : Int) : Int := (row.map fun q => (if q.1 = p then (1 : Int) else 0) - (if q.2 + 1 = p then 1 else 0)).sum
def Bd (row : List (Int × Int)) (p : Int) : Prop := ∃ q ∈ row, q.1 = p ∨ q.2 + 1 = p
def Good (row : List (Int × Int)) : Prop := ∀ q ∈ row, 0 ≤ q.1 ∧ q.1 ≤ q.2
instance (row : List (Int × Int)) (p : Int) : Decidable (Bd row p) := by
  unfold Bd
  infer_instance
theorem Good.tail {q : Int × Int} {row : List (Int × Int)} (g : Good (q :: row)) : Good row := fun x hx => g x (List.mem_cons_of_mem _ hx)
theorem dep_step : ∀ {row : List (Int × Int)}, Good row → ∀ p : Int, depI row p = depI row (p - 1) + delI row p
  | [], _, _ => rfl
  | q :: row, g, p => by
    have ih := dep_step g.tail p
    have z := g q List.mem_cons_self
    unfold depI delI at *
    simp only [List.map_cons, List.sum_cons]
    rw [ih]
    split <;> split <;> split <;> split <;> omega
theorem del_zero : ∀ {row : List (Int × Int)} {p : Int}, ¬ Bd row p → delI row p = 0
  | [], _, _ => rfl
  | q :: row, p, h => by
    have ih := del_zero (row := row) (p := p) fun ⟨x, hx, e⟩ => h ⟨x, List.mem_cons_of_mem _ hx, e⟩
    have n1 : ¬ q.1 = p := fun e => h ⟨q, List.mem_cons_self, .inl e⟩
    have n2 : ¬ q.2 + 1 = p := fun e => h ⟨q, List.mem_cons_self, .inr e⟩
    unfold delI at *
    simp only [List.map_cons, List.sum_cons]
    rw [ih, if_neg n1, if_neg n2]
    rfl
theorem dep_nonneg : ∀ (row : List (Int × Int)) (p : Int), 0 ≤ depI row p
  | [], _ => Int.le_refl _
  | q :: row, p => by
    have ih := dep_nonneg row p
    unfold depI at *
    simp only [List.map_cons, List.sum_cons]
    split <;> omega
theorem dep_pos : ∀ {row : List (Int × Int)} {p : Int}, 0 < depI row p ↔ ∃ q ∈ row, q.1 ≤ p ∧ p ≤ q.2
  | [], p => by
    constructor
    · intro h
      exact absurd h (by show ¬ (0 : Int) < 0; decide)
    · rintro ⟨q, h, _⟩
      cases h
  | q :: row, p => by
    have ih := dep_pos (row := row) (p := p)
    have nn := dep_nonneg row p
    have e : depI (q :: row) p = (if q.1 ≤ p ∧ p ≤ q.2 then (1 : Int) else 0) + depI row p := by
      unfold depI
      rw [List.map_cons, List.sum_cons]
    rw [e]
    by_cases h : q.1 ≤ p ∧ p ≤ q.2
    · rw [if_pos h]
      constructor
      · intro _
        exact ⟨q, List.mem_cons_self, h⟩
      · intro _
        omega
    · rw [if_neg h]
      constructor
      · intro z
        obtain ⟨x, hx, w⟩ := ih.mp (by omega)
        exact ⟨x, List.mem_cons_of_mem _ hx, w⟩
      · rintro ⟨x, hx, w⟩
        rcases List.mem_cons.mp hx with rfl | hx
        · exact absurd w h
        · have := ih.mpr ⟨x, hx, w⟩
          omega
theorem dep_zero {row : List (Int × Int)} {p : Int} (h : ∀ q ∈ row, p < q.1 ∨ q.2 < p) : depI row p = 0 := by
  have nn := dep_nonneg row p
  by_cases z : 0 < depI row p
  · obtain ⟨q, hq, w⟩ := dep_pos.mp z
    have := h q hq
    omega
  · omega
theorem dep_const {row : List (Int × Int)} (g : Good row) {a : Int} : ∀ k : Nat, (∀ j : Int, a < j → j ≤ a + k → ¬ Bd row j) → depI row (a + k) = depI row a
  | 0, _ => by
    rw [show a + ((0 : Nat) : Int) = a by omega]
  | k + 1, h => by
    have ih := dep_const g k fun j h1 h2 => h j h1 (by omega)
    rw [dep_step g, del_zero (h _ (by omega) (Int.le_refl _)), show a + ((k + 1 : Nat) : Int) - 1 = a + (k : Int) by omega, ih]
    omega
def extl (l : List (Int × Int)) (p : Int) : List (Int × Int) := l.dropLast ++ (l.getLast?.map fun q => (q.1, p)).toList
theorem extl_snoc (l : List (Int × Int)) (q : Int × Int) (p : Int) : extl (l ++ [q]) p = l ++ [(q.1, p)] := by
  unfold extl
  rw [List.dropLast_concat, List.getLast?_concat]
  rfl
theorem extl_nil (p : Int) : extl [] p = [] := rfl
theorem extl_extl (l : List (Int × Int)) (p r : Int) : extl (extl l p) r = extl l r := by
  rcases List.eq_nil_or_concat l with rfl | ⟨m, q, rfl⟩
  · rfl
  · rw [List.concat_eq_append, extl_snoc, extl_snoc, extl_snoc]
theorem extl_ne {l : List (Int × Int)} (h : l ≠ []) (p : Int) : extl l p ≠ [] := by
  rcases List.eq_nil_or_concat l with rfl | ⟨m, q, rfl⟩
  · exact absurd rfl h
  · rw [List.concat_eq_append, extl_snoc]
    exact List.append_ne_nil_of_right_ne_nil _ (List.cons_ne_nil _ _)
theorem extl_map (f : Int × Int → Int × Int) {l : List (Int × Int)} {p r : Int} (h : ∀ q : Int × Int, f (q.1, p) = ((f q).1, r)) : extl (l.map f) r = (extl l p).map f := by
  rcases List.eq_nil_or_concat l with rfl | ⟨m, q, rfl⟩
  · rfl
  · rw [List.concat_eq_append, extl_snoc, List.map_append, List.map_singleton, extl_snoc, List.map_append, List.map_singleton, h]
/-- the blocks of the positions below n -/
def Cb (row : List (Int × Int)) : Nat → List (Int × Int)
  | 0 => []
  | n + 1 => if 0 < depI row n then (if Bd row n then Cb row n ++ [((n : Int), (n : Int))] else extl (Cb row n) n) else Cb row n
theorem Cb_succ (row : List (Int × Int)) (n : Nat) : Cb row (n + 1) = if 0 < depI row n then (if Bd row n then Cb row n ++ [((n : Int), (n : Int))] else extl (Cb row n) n) else Cb row n := rfl
theorem Cb_seg {row : List (Int × Int)} (g : Good row) {a : Nat} : ∀ k : Nat, (∀ j : Int, (a : Int) < j → j ≤ a + k → ¬ Bd row j) →
    Cb row (a + k + 1) = if 0 < depI row a then (if Bd row a then Cb row a ++ [((a : Int), (a : Int) + k)] else extl (Cb row a) (a + k)) else Cb row a
  | 0, _ => by
    rw [Nat.add_zero, Cb_succ, show (a : Int) + ((0 : Nat) : Int) = a by omega]
  | k + 1, h => by
    have ih := Cb_seg g k fun j h1 h2 => h j h1 (by omega)
    have dc := dep_const g (k + 1) h
    have cast : (((a + (k + 1)) : Nat) : Int) = (a : Int) + ((k + 1 : Nat) : Int) := by omega
    rw [Cb_succ, cast, dc]
    by_cases hd : 0 < depI row a
    · rw [if_pos hd, if_neg (h _ (by omega) (Int.le_refl _)), show a + (k + 1) = a + k + 1 by omega, ih, if_pos hd]
      by_cases hb : Bd row a
      · rw [if_pos hb, if_pos hb, if_pos hd, extl_snoc]
      · rw [if_neg hb, if_neg hb, if_pos hd, extl_extl]
    · rw [if_neg hd, if_neg hd, show a + (k + 1) = a + k + 1 by omega, ih, if_neg hd]
theorem Cb_top {row : List (Int × Int)} {N : Nat} (h : ∀ q ∈ row, q.2 + 1 ≤ N) : ∀ k : Nat, Cb row (N + k) = Cb row N
  | 0 => rfl
  | k + 1 => by
    have z : depI row ((N + k : Nat) : Int) = 0 := dep_zero fun q hq => by
      have := h q hq
      omega
    rw [show N + (k + 1) = (N + k) + 1 by omega, Cb_succ, z, if_neg (by omega)]
    exact Cb_top h k
theorem Cb_low {row : List (Int × Int)} : ∀ {N : Nat}, (∀ q ∈ row, (N : Int) ≤ q.1) → Cb row N = []
  | 0, _ => rfl
  | N + 1, h => by
    have z : depI row (N : Int) = 0 := dep_zero fun q hq => by
      have := h q hq
      omega
    rw [Cb_succ, z, if_neg (by omega)]
    exact Cb_low fun q hq => by
      have := h q hq
      omega
def topN : List (Int × Int) → Nat
  | [] => 0
  | q :: r => max (q.2 + 1).toNat (topN r)
theorem topN_le : ∀ {row : List (Int × Int)} {q : Int × Int}, q ∈ row → q.2 + 1 ≤ topN row
  | r :: row, q, h => by
    rcases List.mem_cons.mp h with rfl | h
    · show q.2 + 1 ≤ ((max (q.2 + 1).toNat (topN row) : Nat) : Int)
      omega
    · have := topN_le h
      show q.2 + 1 ≤ ((max (r.2 + 1).toNat (topN row) : Nat) : Int)
      omega
def blocksOf (row : List (Int × Int)) : List (Int × Int) := Cb row (topN row)
theorem Cb_all {row : List (Int × Int)} {N : Nat} (h : ∀ q ∈ row, q.2 + 1 ≤ N) : Cb row N = blocksOf row := by
  unfold blocksOf
  rcases Nat.le_total N (topN row) with z | z
  · obtain ⟨k, e⟩ := Nat.le.dest z
    rw [← e, Cb_top h k]
  · obtain ⟨k, e⟩ := Nat.le.dest z
    rw [← e, Cb_top (fun q hq => topN_le hq) k]
theorem Cb_ne {row : List (Int × Int)} (g : Good row) : ∀ n : Nat, 0 < depI row n → Cb row (n + 1) ≠ []
  | 0, h => by
    obtain ⟨q, hq, w⟩ := dep_pos.mp h
    have z := g q hq
    have hb : Bd row ((0 : Nat) : Int) := ⟨q, hq, .inl (by omega)⟩
    rw [Cb_succ, if_pos h, if_pos hb]
    exact List.append_ne_nil_of_right_ne_nil _ (List.cons_ne_nil _ _)
  | n + 1, h => by
    rw [Cb_succ, if_pos h]
    by_cases hb : Bd row ((n + 1 : Nat) : Int)
    · rw [if_pos hb]
      exact List.append_ne_nil_of_right_ne_nil _ (List.cons_ne_nil _ _)
    · rw [if_neg hb]
      have e := dep_step g ((n + 1 : Nat) : Int)
      rw [del_zero hb, show ((n + 1 : Nat) : Int) - 1 = (n : Int) by omega] at e
      exact extl_ne (Cb_ne g n (by omega)) _
/-- the blocks of stretched intervals -/
theorem bd_str {row : List (Int × Int)} {f s : Int} {j : Int} : Bd (row.map (strI f s)) j ↔ ∃ b, Bd row b ∧ j = b * f + s := by
  constructor
  · rintro ⟨q, hq, h⟩
    obtain ⟨r, hr, rfl⟩ := List.mem_map.mp hq
    rcases h with h | h
    · exact ⟨r.1, ⟨r, hr, .inl rfl⟩, h.symm⟩
    · refine ⟨r.2 + 1, ⟨r, hr, .inr rfl⟩, ?_⟩
      rw [← h, Int.add_mul]
      show r.2 * f + f - 1 + s + 1 = r.2 * f + 1 * f + s
      omega
  · rintro ⟨b, ⟨r, hr, h⟩, rfl⟩
    refine ⟨strI f s r, List.mem_map.mpr ⟨r, hr, rfl⟩, ?_⟩
    rcases h with h | h
    · exact .inl (by rw [← h]; rfl)
    · refine .inr ?_
      rw [← h, Int.add_mul]
      show r.2 * f + f - 1 + s + 1 = r.2 * f + 1 * f + s
      omega
theorem mul_le_iff {a b f : Int} (hf : 0 < f) : a * f ≤ b * f ↔ a ≤ b := ⟨fun h => Int.le_of_mul_le_mul_right h hf, fun h => Int.mul_le_mul_of_nonneg_right h (by omega)⟩
theorem dep_str {f s : Int} (hf : 0 < f) : ∀ {row : List (Int × Int)} {N : Int}, depI (row.map (strI f s)) (N * f + s) = depI row N
  | [], _ => rfl
  | q :: row, N => by
    have ih := dep_str (s := s) hf (row := row) (N := N)
    have e1 := mul_le_iff (a := q.1) (b := N) hf
    have e2 := mul_le_iff (a := N) (b := q.2) hf
    have e3 : N * f ≤ q.2 * f + f - 1 ↔ N ≤ q.2 := by
      constructor
      · intro h
        by_cases z : N ≤ q.2
        · exact z
        · have w := (mul_le_iff (a := q.2 + 1) (b := N) hf).mpr (by omega)
          rw [Int.add_mul] at w
          omega
      · intro h
        have := e2.mpr h
        omega
    have c : (q.1 * f + s ≤ N * f + s ∧ N * f + s ≤ q.2 * f + f - 1 + s) ↔ (q.1 ≤ N ∧ N ≤ q.2) := by
      rw [← e1, ← e3]
      constructor
      · rintro ⟨h1, h2⟩
        exact ⟨by omega, by omega⟩
      · rintro ⟨h1, h2⟩
        exact ⟨by omega, by omega⟩
    unfold depI at *
    simp only [List.map_cons, List.sum_cons]
    rw [ih]
    congr 1
    show (if q.1 * f + s ≤ N * f + s ∧ N * f + s ≤ q.2 * f + f - 1 + s then (1 : Int) else 0) = _
    by_cases z : q.1 ≤ N ∧ N ≤ q.2
    · rw [if_pos z, if_pos (c.mpr z)]
    · rw [if_neg z, if_neg (fun w => z (c.mp w))]
theorem good_str {row : List (Int × Int)} (g : Good row) {f s : Int} (hf : 0 < f) (hs : 0 ≤ s) : Good (row.map (strI f s)) := by
  intro q hq
  obtain ⟨r, hr, rfl⟩ := List.mem_map.mp hq
  have z := g r hr
  have m1 := (mul_le_iff (a := 0) (b := r.1) hf).mpr z.1
  have m2 := (mul_le_iff (a := r.1) (b := r.2) hf).mpr z.2
  constructor
  · show 0 ≤ r.1 * f + s
    omega
  · show r.1 * f + s ≤ r.2 * f + f - 1 + s
    omega
theorem Cb_str {row : List (Int × Int)} (g : Good row) {f s : Int} (hf : 0 < f) (hs : 0 ≤ s) : ∀ N : Nat, Cb (row.map (strI f s)) ((N : Int) * f + s).toNat = (Cb row N).map (strI f s)
  | 0 => by
    have e : ((0 : Nat) : Int) * f + s = s := by
      rw [show ((0 : Nat) : Int) = 0 from rfl, Int.zero_mul]
      omega
    rw [e, Cb_low]
    · rfl
    · intro q hq
      obtain ⟨r, hr, rfl⟩ := List.mem_map.mp hq
      have z := g r hr
      have m1 := (mul_le_iff (a := 0) (b := r.1) hf).mpr z.1
      show ((s.toNat : Nat) : Int) ≤ r.1 * f + s
      omega
  | N + 1 => by
    have ih := Cb_str g hf hs N
    have nn := (mul_le_iff (a := 0) (b := N) hf).mpr (by omega)
    have cast : (((N : Int) * f + s).toNat : Int) = (N : Int) * f + s := by omega
    have e : (((N + 1 : Nat) : Int) * f + s).toNat = ((N : Int) * f + s).toNat + (f - 1).toNat + 1 := by
      have : ((N + 1 : Nat) : Int) * f = (N : Int) * f + f := by
        rw [show ((N + 1 : Nat) : Int) = (N : Int) + 1 by omega, Int.add_mul, Int.one_mul]
      omega
    have seg := Cb_seg (good_str g hf hs) (a := ((N : Int) * f + s).toNat) (f - 1).toNat (fun j h1 h2 hb => by
      obtain ⟨b, _, ej⟩ := bd_str.mp hb
      rw [cast] at h1 h2
      have l1 : (N : Int) < b := by
        by_cases z : b ≤ N
        · have := (mul_le_iff (a := b) (b := N) hf).mpr z
          omega
        · omega
      have := (mul_le_iff (a := (N : Int) + 1) (b := b) hf).mpr (by omega)
      rw [Int.add_mul] at this
      omega)
    have eb : Bd (row.map (strI f s)) ((N : Int) * f + s) ↔ Bd row N := by
      constructor
      · intro h
        obtain ⟨b, hb, ej⟩ := bd_str.mp h
        have : b = N := by
          rcases Int.lt_trichotomy b N with z | z | z
          · have := (mul_le_iff (a := b + 1) (b := N) hf).mpr (by omega)
            rw [Int.add_mul] at this
            omega
          · exact z
          · have := (mul_le_iff (a := (N : Int) + 1) (b := b) hf).mpr (by omega)
            rw [Int.add_mul] at this
            omega
        rw [← this]
        exact hb
      · intro h
        exact bd_str.mpr ⟨N, h, rfl⟩
    rw [e, seg, cast, dep_str hf, ih, Cb_succ]
    by_cases hd : 0 < depI row N
    · rw [if_pos hd, if_pos hd]
      have last : (N : Int) * f + s + ((f - 1).toNat : Int) = (N : Int) * f + f - 1 + s := by omega
      by_cases hb : Bd row N
      · rw [if_pos hb, if_pos (eb.mpr hb), List.map_append, List.map_singleton, last]
        rfl
      · rw [if_neg hb, if_neg (fun z => hb (eb.mp z)), last]
        exact extl_map (strI f s) fun q => rfl
    · rw [if_neg hd, if_neg hd]
theorem blocks_str {row : List (Int × Int)} (g : Good row) {f s : Int} (hf : 0 < f) (hs : 0 ≤ s) : blocksOf (row.map (strI f s)) = (blocksOf row).map (strI f s) := by
  rw [← Cb_all (row := row.map (strI f s)) (N := ((topN row : Int) * f + s).toNat)]
  · exact Cb_str g hf hs _
  · intro q hq
    obtain ⟨r, hr, rfl⟩ := List.mem_map.mp hq
    have z := topN_le hr
    have m := (mul_le_iff (a := r.2 + 1) (b := topN row) hf).mpr z
    have nn := (mul_le_iff (a := 0) (b := topN row) hf).mpr (by omega)
    rw [Int.add_mul] at m
    show r.2 * f + f - 1 + s + 1 ≤ ((((topN row : Int) * f + s).toNat : Nat) : Int)
    omega

/-! ### what the blocks are: ascending, apart, covering, begun at the borders that are covered -/
theorem extl_fst (l : List (Int × Int)) (p : Int) : (extl l p).map (·.1) = l.map (·.1) := by
  rcases List.eq_nil_or_concat l with rfl | ⟨m, q, rfl⟩
  · rfl
  · rw [List.concat_eq_append, extl_snoc, List.map_append, List.map_append]
    rfl
def stB (row : List (Int × Int)) (p : Nat) : Bool := decide (0 < depI row p) && decide (Bd row p)
structure Bl (row : List (Int × Int)) (N : Nat) (l : List (Int × Int)) : Prop where
  asc : l.Pairwise (fun a b => a.2 < b.1)
  ok : ∀ q ∈ l, 0 ≤ q.1 ∧ q.1 ≤ q.2 ∧ q.2 < N
  cov : ∀ p : Nat, p < N → (0 < depI row p ↔ ∃ q ∈ l, q.1 ≤ p ∧ (p : Int) ≤ q.2)
  fst : l.map (·.1) = ((List.range N).filter (stB row)).map (fun n : Nat => (n : Int))
theorem Cb_bl {row : List (Int × Int)} (g : Good row) : ∀ N : Nat, Bl row N (Cb row N)
  | 0 => ⟨.nil, (fun q hq => nomatch hq), (fun p hp => absurd hp (Nat.not_lt_zero p)), rfl⟩
  | n + 1 => by
    have ih := Cb_bl g n
    have fr : ((List.range (n + 1)).filter (stB row)).map (fun n : Nat => (n : Int)) = ((List.range n).filter (stB row)).map (fun n : Nat => (n : Int)) ++ (if stB row n then [(n : Int)] else []) := by
      rw [List.range_succ, List.filter_append, List.map_append]
      congr 1
      cases h : stB row n <;> simp [List.filter_cons, h]
    rw [Cb_succ]
    by_cases hd : 0 < depI row n
    · rw [if_pos hd]
      by_cases hb : Bd row n
      · rw [if_pos hb]
        refine ⟨?_, fun q hq => ?_, fun p hp => ?_, ?_⟩
        · refine List.pairwise_append.mpr ⟨ih.asc, List.pairwise_singleton _ _, fun a ha b hb2 => ?_⟩
          rw [List.mem_singleton.mp hb2]
          exact (ih.ok a ha).2.2
        · rcases List.mem_append.mp hq with hq | hq
          · have := ih.ok q hq
            exact ⟨this.1, this.2.1, by omega⟩
          · rw [List.mem_singleton.mp hq]
            refine ⟨?_, ?_, ?_⟩
            · show (0 : Int) ≤ (n : Int)
              omega
            · show (n : Int) ≤ (n : Int)
              omega
            · show (n : Int) < ((n + 1 : Nat) : Int)
              omega
        · rcases Nat.lt_or_ge p n with h | h
          · rw [ih.cov p h]
            constructor
            · rintro ⟨q, hq, w⟩
              exact ⟨q, List.mem_append_left _ hq, w⟩
            · rintro ⟨q, hq, w⟩
              rcases List.mem_append.mp hq with hq | hq
              · exact ⟨q, hq, w⟩
              · rw [List.mem_singleton.mp hq] at w
                have w1 : (n : Int) ≤ (p : Int) := w.1
                omega
          · have e : p = n := by omega
            subst e
            exact ⟨fun _ => ⟨((p : Int), (p : Int)), List.mem_append_right _ (List.mem_singleton.mpr rfl), Int.le_refl _, Int.le_refl _⟩, fun _ => hd⟩
        · rw [List.map_append, ih.fst, fr]
          have : stB row n = true := Bool.and_eq_true_iff.mpr ⟨decide_eq_true hd, decide_eq_true hb⟩
          rw [this]
          rfl
      · rw [if_neg hb]
        have sf : stB row n = false := by
          unfold stB
          rw [decide_eq_false hb, Bool.and_false]
        -- the last block ends just before n
        have e := dep_step g (n : Int)
        rw [del_zero hb] at e
        have n0 : 0 < n := by
          rcases Nat.eq_zero_or_pos n with z | z
          · subst z
            obtain ⟨q, hq, w⟩ := dep_pos.mp hd
            have := g q hq
            exact absurd ⟨q, hq, .inl (by omega)⟩ hb
          · exact z
        obtain ⟨k, rfl⟩ : ∃ k, n = k + 1 := ⟨n - 1, by omega⟩
        have dk : 0 < depI row k := by
          rw [show ((k + 1 : Nat) : Int) - 1 = (k : Int) by omega] at e
          omega
        obtain ⟨q, hq, w1, w2⟩ := (ih.cov k (by omega)).mp dk
        have oq := ih.ok q hq
        generalize Cb row (k + 1) = l at *
        rcases List.eq_nil_or_concat l with rfl | ⟨m, z, rfl⟩
        · cases hq
        · rw [List.concat_eq_append] at *
          rw [extl_snoc]
          have pa := List.pairwise_append.mp ih.asc
          have oz := ih.ok z (List.mem_append_right _ (List.mem_singleton.mpr rfl))
          have qz : q = z := by
            rcases List.mem_append.mp hq with h | h
            · have := pa.2.2 q h z (List.mem_singleton.mpr rfl)
              omega
            · exact List.mem_singleton.mp h
          subst qz
          have q2 : q.2 = (k : Int) := by omega
          refine ⟨?_, fun r hr => ?_, fun p hp => ?_, ?_⟩
          · refine List.pairwise_append.mpr ⟨pa.1, List.pairwise_singleton _ _, fun a ha b hb2 => ?_⟩
            rw [List.mem_singleton.mp hb2]
            exact pa.2.2 a ha q (List.mem_singleton.mpr rfl)
          · rcases List.mem_append.mp hr with hr | hr
            · have := ih.ok r (List.mem_append_left _ hr)
              exact ⟨this.1, this.2.1, by omega⟩
            · rw [List.mem_singleton.mp hr]
              refine ⟨oq.1, ?_, ?_⟩
              · show q.1 ≤ ((k + 1 : Nat) : Int)
                omega
              · show ((k + 1 : Nat) : Int) < ((k + 1 + 1 : Nat) : Int)
                omega
          · rcases Nat.lt_or_ge p (k + 1) with h | h
            · rw [ih.cov p h]
              constructor
              · rintro ⟨r, hr, w⟩
                rcases List.mem_append.mp hr with hr | hr
                · exact ⟨r, List.mem_append_left _ hr, w⟩
                · rw [List.mem_singleton.mp hr] at w
                  refine ⟨_, List.mem_append_right _ (List.mem_singleton.mpr rfl), w.1, ?_⟩
                  show (p : Int) ≤ ((k + 1 : Nat) : Int)
                  omega
              · rintro ⟨r, hr, w⟩
                rcases List.mem_append.mp hr with hr | hr
                · exact ⟨r, List.mem_append_left _ hr, w⟩
                · rw [List.mem_singleton.mp hr] at w
                  exact ⟨q, List.mem_append_right _ (List.mem_singleton.mpr rfl), w.1, by omega⟩
            · have e : p = k + 1 := by omega
              subst e
              refine ⟨fun _ => ⟨_, List.mem_append_right _ (List.mem_singleton.mpr rfl), ?_, ?_⟩, fun _ => hd⟩
              · show q.1 ≤ ((k + 1 : Nat) : Int)
                omega
              · exact Int.le_refl _
          · rw [fr, sf, ← ih.fst, List.map_append, List.map_append]
            simp
    · rw [if_neg hd]
      have sf : stB row n = false := by
        unfold stB
        rw [decide_eq_false hd, Bool.false_and]
      refine ⟨ih.asc, fun q hq => ?_, fun p hp => ?_, ?_⟩
      · have := ih.ok q hq
        exact ⟨this.1, this.2.1, by omega⟩
      · rcases Nat.lt_or_ge p n with h | h
        · exact ih.cov p h
        · have e : p = n := by omega
          subst e
          refine ⟨fun z => absurd z hd, ?_⟩
          rintro ⟨q, hq, w⟩
          have := (ih.ok q hq).2.2
          omega
      · rw [fr, sf, ih.fst]
        simp
theorem blocks_bl {row : List (Int × Int)} (g : Good row) : Bl row (topN row) (blocksOf row) := Cb_bl g _
def lowsOf (row : List (Int × Int)) : List Int := (blocksOf row).map (·.1)
def ixI (row : List (Int × Int)) (pos : Int) : Int := (((lowsOf row).filter fun c => decide (c ≤ pos)).length : Int) - 1
theorem cnt_at {pos : Int} : ∀ {l : List (Int × Int)} {j : Nat} {q : Int × Int}, l.Pairwise (fun a b => a.2 < b.1) → (∀ q ∈ l, q.1 ≤ q.2) → l[j]? = some q → q.1 ≤ pos → pos ≤ q.2 → ((l.map (·.1)).filter fun c => decide (c ≤ pos)).length = j + 1
  | [], _, _, _, _, e, _, _ => by simp at e
  | x :: r, 0, q, asc, ok, e, h1, h2 => by
    cases e
    have p := List.pairwise_cons.mp asc
    rw [List.map_cons, List.filter_cons, if_pos (decide_eq_true h1), List.length_cons]
    have nil : (r.map (·.1)).filter (fun c => decide (c ≤ pos)) = [] := by
      apply List.filter_eq_nil_iff.mpr
      intro c hc
      obtain ⟨y, hy, rfl⟩ := List.mem_map.mp hc
      have := p.1 y hy
      rw [decide_eq_true_eq]
      omega
    rw [nil]
    rfl
  | x :: r, j + 1, q, asc, ok, e, h1, h2 => by
    have p := List.pairwise_cons.mp asc
    have e' : r[j]? = some q := e
    have := p.1 q (List.mem_of_getElem? e')
    have := ok x List.mem_cons_self
    rw [List.map_cons, List.filter_cons, if_pos (decide_eq_true (by omega)), List.length_cons, cnt_at p.2 (fun z hz => ok z (List.mem_cons_of_mem _ hz)) e' h1 h2]
theorem ix_at {row : List (Int × Int)} (g : Good row) {pos : Int} {j : Nat} {q : Int × Int} (e : (blocksOf row)[j]? = some q) (h1 : q.1 ≤ pos) (h2 : pos ≤ q.2) : ixI row pos = j ∧ 0 < depI row pos := by
  have B := blocks_bl g
  have mq := List.mem_of_getElem? e
  have oq := B.ok q mq
  refine ⟨?_, ?_⟩
  · unfold ixI lowsOf
    rw [cnt_at B.asc (fun z hz => (B.ok z hz).2.1) e h1 h2]
    omega
  · obtain ⟨p, rfl⟩ : ∃ p : Nat, pos = p := ⟨pos.toNat, by omega⟩
    exact (B.cov p (by omega)).mpr ⟨q, mq, h1, h2⟩
theorem dep_in {row : List (Int × Int)} (g : Good row) {pos : Int} (h : 0 < depI row pos) : ∃ q ∈ blocksOf row, q.1 ≤ pos ∧ pos ≤ q.2 := by
  obtain ⟨r, hr, w⟩ := dep_pos.mp h
  have := g r hr
  have := topN_le hr
  obtain ⟨p, rfl⟩ : ∃ p : Nat, pos = p := ⟨pos.toNat, by omega⟩
  exact ((blocks_bl g).cov p (by omega)).mp h
theorem Bl.idx {row : List (Int × Int)} {N : Nat} {l : List (Int × Int)} (B : Bl row N l) {i j : Nat} {a b : Int × Int} (ij : i < j) (ea : l[i]? = some a) (eb : l[j]? = some b) : a.2 < b.1 := by
  obtain ⟨hi, rfl⟩ := List.getElem?_eq_some_iff.mp ea
  obtain ⟨hj, rfl⟩ := List.getElem?_eq_some_iff.mp eb
  exact List.pairwise_iff_getElem.mp B.asc i j hi hj ij
theorem low_at {row : List (Int × Int)} (g : Good row) {q : Int × Int} (hq : q ∈ row) : ∃ (j : Nat) (b : Int × Int), (blocksOf row)[j]? = some b ∧ b.1 = q.1 := by
  have B := blocks_bl g
  have gq := g q hq
  have tq := topN_le hq
  have d : 0 < depI row q.1 := dep_pos.mpr ⟨q, hq, Int.le_refl _, gq.2⟩
  have bd : Bd row q.1 := ⟨q, hq, .inl rfl⟩
  have m : q.1 ∈ (blocksOf row).map (·.1) := by
    rw [B.fst]
    refine List.mem_map.mpr ⟨q.1.toNat, List.mem_filter.mpr ⟨List.mem_range.mpr (by omega), ?_⟩, by omega⟩
    have c : ((q.1.toNat : Nat) : Int) = q.1 := by omega
    unfold stB
    rw [c]
    exact Bool.and_eq_true_iff.mpr ⟨decide_eq_true d, decide_eq_true bd⟩
  obtain ⟨b, hb, e⟩ := List.mem_map.mp m
  obtain ⟨j, ej⟩ := List.getElem?_of_mem hb
  exact ⟨j, b, ej, e⟩
/-- no border lies within a block -/
theorem Bl.inner {row : List (Int × Int)} {N : Nat} {l : List (Int × Int)} (B : Bl row N l) {q : Int × Int} (hq : q ∈ l) {p : Int} (h1 : q.1 < p) (h2 : p ≤ q.2) : ¬ Bd row p := by
  intro bd
  have oq := B.ok q hq
  have c : ((p.toNat : Nat) : Int) = p := by omega
  have d : 0 < depI row p := by
    have z := (B.cov p.toNat (by omega)).mpr ⟨q, hq, by omega, by omega⟩
    rw [c] at z
    exact z
  have m : p ∈ l.map (·.1) := by
    rw [B.fst]
    refine List.mem_map.mpr ⟨p.toNat, List.mem_filter.mpr ⟨List.mem_range.mpr (by omega), ?_⟩, by omega⟩
    unfold stB
    rw [c]
    exact Bool.and_eq_true_iff.mpr ⟨decide_eq_true d, decide_eq_true bd⟩
  obtain ⟨r, hr, e⟩ := List.mem_map.mp m
  obtain ⟨i, ei⟩ := List.getElem?_of_mem hq
  obtain ⟨j, ej⟩ := List.getElem?_of_mem hr
  rcases Nat.lt_trichotomy i j with z | z | z
  · have := B.idx z ei ej
    omega
  · subst z
    rw [ei] at ej
    cases ej
    omega
  · have := B.idx z ej ei
    have := B.ok r hr
    omega
theorem high_at {row : List (Int × Int)} (g : Good row) {q : Int × Int} (hq : q ∈ row) : ∃ (j : Nat) (b : Int × Int), (blocksOf row)[j]? = some b ∧ b.2 = q.2 ∧ b.1 ≤ q.2 := by
  have B := blocks_bl g
  have gq := g q hq
  obtain ⟨b, hb, w1, w2⟩ := dep_in g (dep_pos.mpr ⟨q, hq, gq.2, Int.le_refl _⟩)
  obtain ⟨j, ej⟩ := List.getElem?_of_mem hb
  refine ⟨j, b, ej, ?_, w1⟩
  rcases Int.lt_or_le q.2 b.2 with z | z
  · exact absurd ⟨q, hq, .inr rfl⟩ (B.inner hb (p := q.2 + 1) (by omega) (by omega))
  · omega
theorem nodup_sub {α : Type} [DecidableEq α] : ∀ {l m : List α}, l.Nodup → (∀ x ∈ l, x ∈ m) → l.length ≤ m.length
  | [], _, _, _ => Nat.zero_le _
  | a :: l, m, h, hs => by
    have hm := hs a List.mem_cons_self
    have h' := List.nodup_cons.mp h
    have ih := nodup_sub (l := l) (m := m.erase a) h'.2 (fun x hx => (List.mem_erase_of_ne (fun e => h'.1 (by rw [← e]; exact hx))).mpr (hs x (List.mem_cons_of_mem _ hx)))
    rw [List.length_erase_of_mem hm] at ih
    have := List.length_pos_of_mem hm
    rw [List.length_cons]
    omega
theorem blocks_few {row : List (Int × Int)} (g : Good row) : (blocksOf row).length ≤ 2 * row.length := by
  have B := blocks_bl g
  have nd : ((blocksOf row).map (·.1)).Nodup := by
    rw [B.fst]
    refine List.Pairwise.map _ (fun a b h e => h (Int.ofNat.inj e)) ((List.nodup_range).filter _)
  have z := nodup_sub (m := row.map (·.1) ++ row.map (fun q => q.2 + 1)) nd (fun c hc => by
    rw [B.fst] at hc
    obtain ⟨n, hn, rfl⟩ := List.mem_map.mp hc
    obtain ⟨q, hq, w⟩ := of_decide_eq_true (Bool.and_eq_true_iff.mp (List.mem_filter.mp hn).2).2
    rcases w with w | w
    · exact List.mem_append_left _ (List.mem_map.mpr ⟨q, hq, w⟩)
    · exact List.mem_append_right _ (List.mem_map.mpr ⟨q, hq, w⟩))
  rw [List.length_map, List.length_append, List.length_map, List.length_map] at z
  omega


/-! ### the program's find_blocks -/
structure Dd (row : List (Int × Int)) (kvs : List (Key × V)) : Prop where
  val : ∀ k : Int, valV kvs (Sum.inl k) = if Bd row k then some (.int (delI row k)) else none
  nd : (kvs.map (·.1)).Nodup
  keys : ∃ ks : List Int, kvs.map (·.1) = ks.map Sum.inl
  len : kvs.length ≤ 2 * row.length
theorem keys_put (kvs : List (Key × V)) (k : Key) (v : V) : ((putK kvs k v).map (·.1) = kvs.map (·.1) ∧ k ∈ kvs.map (·.1)) ∨ ((putK kvs k v).map (·.1) = kvs.map (·.1) ++ [k] ∧ k ∉ kvs.map (·.1)) := by
  cases e : valV kvs k with
  | none =>
    refine .inr ⟨?_, valV_not e⟩
    rw [putK_new v e, List.map_append]
    rfl
  | some u =>
    refine .inl ⟨?_, valV_in e⟩
    have h : (kvs.any fun kv => decide (kv.1 = k)) = true := by
      rw [valV_any, e]
      rfl
    unfold putK
    rw [if_pos h, List.map_map]
    apply List.map_congr_left
    intro p _
    show (if p.1 = k then (p.1, v) else p).1 = p.1
    split <;> rfl
theorem put_parts {kvs : List (Key × V)} {k : Int} {v : V} (nd : (kvs.map (·.1)).Nodup) (keys : ∃ ks : List Int, kvs.map (·.1) = ks.map Sum.inl) :
    ((putK kvs (Sum.inl k) v).map (·.1)).Nodup ∧ (∃ ks : List Int, (putK kvs (Sum.inl k) v).map (·.1) = ks.map Sum.inl) ∧ (putK kvs (Sum.inl k) v).length ≤ kvs.length + 1 := by
  obtain ⟨ks, ek⟩ := keys
  rcases keys_put kvs (Sum.inl k) v with ⟨e, _⟩ | ⟨e, hn⟩
  · refine ⟨by rw [e]; exact nd, ⟨ks, by rw [e, ek]⟩, ?_⟩
    have l := congrArg List.length e
    rw [List.length_map, List.length_map] at l
    omega
  · refine ⟨?_, ⟨ks ++ [k], by rw [e, ek, List.map_append]; rfl⟩, ?_⟩
    · rw [e]
      exact List.nodup_append.mpr ⟨nd, by simp, fun a ha b hb z => hn (by rw [List.mem_singleton.mp hb] at z; rw [← z]; exact ha)⟩
    · have l := congrArg List.length e
      rw [List.length_map, List.length_append, List.length_map] at l
      simp at l
      omega
theorem bd_snoc {row : List (Int × Int)} {q : Int × Int} {k : Int} : Bd (row ++ [q]) k ↔ Bd row k ∨ q.1 = k ∨ q.2 + 1 = k := by
  constructor
  · rintro ⟨x, hx, h⟩
    rcases List.mem_append.mp hx with hx | hx
    · exact .inl ⟨x, hx, h⟩
    · rw [List.mem_singleton.mp hx] at h
      exact .inr h
  · rintro (⟨x, hx, h⟩ | h)
    · exact ⟨x, List.mem_append_left _ hx, h⟩
    · exact ⟨q, List.mem_append_right _ (List.mem_singleton.mpr rfl), h⟩
theorem del_snoc (row : List (Int × Int)) (q : Int × Int) (k : Int) : delI (row ++ [q]) k = delI row k + ((if q.1 = k then (1 : Int) else 0) - (if q.2 + 1 = k then 1 else 0)) := by
  unfold delI
  rw [List.map_append, List.sum_append, List.map_singleton, List.sum_singleton]
theorem Dd.get {row : List (Int × Int)} {kvs : List (Key × V)} (h : Dd row kvs) (k : Int) : (valV kvs (Sum.inl k)).getD (.int 0) = .int (delI row k) := by
  rw [h.val]
  by_cases b : Bd row k
  · rw [if_pos b]
    rfl
  · rw [if_neg b, del_zero b]
    rfl
theorem Dd.step {row : List (Int × Int)} {kvs : List (Key × V)} (h : Dd row kvs) {x y : Int} (xy : x ≤ y) :
    Dd (row ++ [(x, y)]) (putK (putK kvs (Sum.inl x) (.int (delI row x + 1))) (Sum.inl (y + 1)) (.int (delI row (y + 1) - 1))) := by
  obtain ⟨n1, k1, l1⟩ := put_parts (k := x) (v := .int (delI row x + 1)) h.nd h.keys
  obtain ⟨n2, k2, l2⟩ := put_parts (k := y + 1) (v := .int (delI row (y + 1) - 1)) n1 k1
  refine ⟨fun k => ?_, n2, k2, ?_⟩
  · rw [valV_put, valV_put, h.val]
    by_cases e1 : k = y + 1
    · have b : Bd (row ++ [(x, y)]) k := bd_snoc.mpr (.inr (.inr e1.symm))
      rw [if_pos (by rw [e1]), if_pos b, del_snoc, e1, if_neg (show ¬ x = y + 1 by omega), if_pos rfl]
      congr 2
    · rw [if_neg (fun z => e1 (Sum.inl.inj z))]
      by_cases e2 : k = x
      · have b : Bd (row ++ [(x, y)]) k := bd_snoc.mpr (.inr (.inl e2.symm))
        rw [if_pos (by rw [e2]), if_pos b, del_snoc, e2, if_pos rfl, if_neg (show ¬ y + 1 = x by omega)]
        congr 2
      · rw [if_neg (fun z => e2 (Sum.inl.inj z))]
        have same : delI (row ++ [(x, y)]) k = delI row k := by
          rw [del_snoc, if_neg (fun z => e2 z.symm), if_neg (fun z => e1 z.symm)]
          omega
        by_cases b : Bd row k
        · rw [if_pos b, if_pos (bd_snoc.mpr (.inl b)), same]
        · rw [if_neg b, if_neg (fun z => (bd_snoc.mp z).elim b (fun w => w.elim (fun w => e2 w.symm) (fun w => e1 w.symm)))]
  · rw [List.length_append, List.length_singleton]
    have := h.len
    omega
def sp_depth_changes : Sp := fun vs H Q _ => ∃ (a : Addr) (us : List V) (row : List (Int × Int)), vs = [.ref a] ∧ H a = some (.tup us) ∧ Ivs H us row ∧ (∀ q ∈ row, q.1 ≤ q.2) ∧ row.length ≤ 100 ∧
  ∀ H' p kvs, Same H H' → H p = none → H' p = some (.dK kvs) → Dd row kvs → Q (.ref p) H'
theorem ok_depth_changes (T : Tx K mg f_depth_changes f_find_blocks f_has_position f_contains f_serves f_conflict f_demands_at_blocks f_is_open f_open_demands f_shadow_target f_decisive_demands f_largest_independent f_unserved_demands f_helpful_piece f_smallest_solution f_row_runs f_rows_of_runs f_tallest_rectangle f_cover_board f_law_draws f_law_next f_law_column f_law_board f_law_is_int f_law_inside f_law_full f_law_is_rectangle f_law_apart f_law_levels f_law_ascends f_law_covered f_law_is_cell f_law_holds f_law_board_cells f_law_number f_law_tallest f_law_fewest f_law_most f_law d_depth_changes d_find_blocks d_has_position d_contains d_serves d_conflict d_demands_at_blocks d_is_open d_open_demands d_shadow_target d_decisive_demands d_largest_independent d_unserved_demands d_helpful_piece d_smallest_solution d_row_runs d_rows_of_runs d_tallest_rectangle d_cover_board d_law_draws d_law_next d_law_column d_law_board d_law_is_int d_law_inside d_law_full d_law_is_rectangle d_law_apart d_law_levels d_law_ascends d_law_covered d_law_is_cell d_law_holds d_law_board_cells d_law_number d_law_tallest d_law_fewest d_law_most d_law) : FnOk P w K mg base CX0 1 f_depth_changes d_depth_changes ["intervals"] sp_depth_changes := by
  refine T.F_depth_changes.ok sc_depth_changes (fun vs H Q E h => ?_) (fun cdv A outer s H vs Q E hr h => ?_)
  · obtain ⟨a, us, row, rfl, _⟩ := h
    rfl
  · obtain ⟨a, us, row, rfl, ha, iv, xy, few, q⟩ := h
    refine ⟨_, (pss_cons (ps_set (i := 1) sc_depth_changes.nd rfl (Or.inl rfl) pe_dnewK)
      (pss_cons (ps_for PassesOwn.never rfl (pi_tup (pv 0)) (pg_tup rfl (pgs_cons (pg_name (i := 2) sc_depth_changes.nd rfl (Or.inl rfl)) (pgs_cons (pg_name (i := 3) sc_depth_changes.nd rfl (Or.inl rfl)) pgs_nil)))
      (pss_cons (ps_dput (hu_of hr) (pv 1) (pv 2) (pe_op op_add (pe_dget2 (hu_of hr) (pv 1) (pv 2) pe_int ⟨rfl, rfl, rfl, rfl⟩) pe_int) rfl)
      (pss_one (ps_dput (hu_of hr) (pv 1) (pe_op op_add (pv 3) pe_int) (pe_op op_sub (pe_dget2 (hu_of hr) (pv 1) (pe_op op_add (pv 3) pe_int) pe_int ⟨rfl, rfl, rfl, rfl⟩) pe_int) rfl))))
      (pss_one (ps_ret (pv 1))))), ?_⟩
    refine fun p np => ?_
    refine ⟨.ref a, rfl, a, rfl, ⟨_, SqT.of (same_new np _ _ ha)⟩, for_tup (K := K) (a := a) (xs := us) (fun i σ H' => Same H H' ∧ (∃ kvs, H' p = some (.dK kvs) ∧ Dd (row.take i) kvs) ∧ ∃ y2 y3, σ = [some (.ref a), some (.ref p), y2, y3])
      ⟨same_new np, ⟨[], upd_same, ⟨fun k => rfl, List.nodup_nil, ⟨[], rfl⟩, Nat.zero_le _⟩⟩, _, _, rfl⟩ (fun i σ H' _ h => SqT.of (h.1 _ _ ha)) ?_ ?_⟩
    · rintro i v σ H1 hi ⟨sm, ⟨kvs, ep, dd⟩, y2, y3, rfl⟩
      obtain ⟨b, x, y, rfl, er, eb⟩ := iv.get hi
      have le := xy _ (List.mem_of_getElem? er)
      have lt := List.length_take_le' i row
      have len := dd.len
      refine ⟨b, _, rfl, SqT.of (sm _ _ eb), rfl, .int x, [.int y], rfl, .int y, [], rfl, rfl, ?_⟩
      refine ⟨.ref p, rfl, p, rfl, .inl ⟨kvs, .inl ep⟩, .int x, rfl, _, DGet.k (k := Sum.inl x) ep, _, _, dd.get x, rfl, .ref p, rfl, .int x, rfl, p, _, rfl, DPut.k (k := Sum.inl x) ep (small1000 (by omega)), ?_⟩
      have e1 := upd_same (H := H1) (a := p) (o := .dK (putK kvs (Sum.inl x) (.int (delI (row.take i) x + 1))))
      have g1 : (valV (putK kvs (Sum.inl x) (.int (delI (row.take i) x + 1))) (Sum.inl (y + 1))).getD (.int 0) = .int (delI (row.take i) (y + 1)) := by
        rw [valV_put, if_neg (fun z => by
          have z' := Sum.inl.inj z
          have le' : x ≤ y := le
          omega)]
        exact dd.get (y + 1)
      obtain ⟨_, _, l1⟩ := put_parts (k := x) (v := .int (delI (row.take i) x + 1)) dd.nd dd.keys
      refine ⟨.ref p, rfl, p, rfl, .inl ⟨_, .inl e1⟩, .int y, rfl, _, _, rfl, rfl, _, DGet.k (k := Sum.inl (y + 1)) e1, _, _, g1, rfl, .ref p, rfl, .int y, rfl, _, _, rfl, rfl, p, _, rfl, DPut.k (k := Sum.inl (y + 1)) e1 (small1000 (by omega)), ?_⟩
      refine ⟨fun b' o eb' => ?_, ⟨_, upd_same, ?_⟩, _, _, rfl⟩
      · have nb := ne_of_none eb' np
        rw [upd_ne nb, upd_ne nb]
        exact sm _ _ eb'
      · rw [List.take_add_one, er]
        exact dd.step le
    · rintro σ H1 ⟨sm, ⟨kvs, ep, dd⟩, y2, y3, rfl⟩
      rw [iv.length, List.take_length] at dd
      exact ⟨.ref p, rfl, q _ p kvs sm np ep dd⟩

structure Bs (row : List (Int × Int)) (bs : List Int) : Prop where
  mem : ∀ k, k ∈ bs ↔ Bd row k
  srt : bs.Pairwise (· < ·)
theorem Bs.lt {row : List (Int × Int)} {bs : List Int} (h : Bs row bs) {i j : Nat} {a b : Int} (ij : i < j) (ea : bs[i]? = some a) (eb : bs[j]? = some b) : a < b := by
  obtain ⟨hi, rfl⟩ := List.getElem?_eq_some_iff.mp ea
  obtain ⟨hj, rfl⟩ := List.getElem?_eq_some_iff.mp eb
  exact List.pairwise_iff_getElem.mp h.srt i j hi hj ij
theorem Bs.gap {row : List (Int × Int)} {bs : List Int} (h : Bs row bs) {i : Nat} {a b : Int} (ea : bs[i]? = some a) (eb : bs[i + 1]? = some b) : ∀ j : Int, a < j → j < b → ¬ Bd row j := by
  intro j h1 h2 hb
  obtain ⟨m, hm⟩ := List.getElem?_of_mem ((h.mem j).mpr hb)
  rcases Nat.lt_trichotomy m i with z | z | z
  · have := h.lt z hm ea
    omega
  · subst z
    rw [ea] at hm
    cases hm
    omega
  · rcases Nat.lt_or_ge (i + 1) m with z2 | z2
    · have := h.lt z2 eb hm
      omega
    · have z3 : m = i + 1 := by omega
      subst z3
      rw [eb] at hm
      cases hm
      omega
theorem Bs.first {row : List (Int × Int)} {bs : List Int} (h : Bs row bs) {a : Int} (ea : bs[0]? = some a) {k : Int} (hb : Bd row k) : a ≤ k := by
  obtain ⟨m, hm⟩ := List.getElem?_of_mem ((h.mem k).mpr hb)
  rcases Nat.lt_or_ge 0 m with z | z
  · have := h.lt z ea hm
    omega
  · have z2 : m = 0 := by omega
    subst z2
    rw [ea] at hm
    cases hm
    exact Int.le_refl _
theorem Bs.last {row : List (Int × Int)} {bs : List Int} (h : Bs row bs) {i : Nat} {a : Int} (ea : bs[i]? = some a) (hi : i + 1 = bs.length) {k : Int} (hb : Bd row k) : k ≤ a := by
  obtain ⟨m, hm⟩ := List.getElem?_of_mem ((h.mem k).mpr hb)
  have hl := (List.getElem?_eq_some_iff.mp hm).1
  rcases Nat.lt_or_ge m i with z | z
  · have := h.lt z hm ea
    omega
  · have z2 : m = i := by omega
    subst z2
    rw [ea] at hm
    cases hm
    exact Int.le_refl _
theorem Dd.bs {row : List (Int × Int)} {kvs : List (Key × V)} (dd : Dd row kvs) {ks bs : List Int} (ek : kvs.map (·.1) = ks.map Sum.inl) (perm : bs.Perm ks) (srt : bs.Pairwise (· ≤ ·)) : Bs row bs := by
  have ndk : ks.Nodup := by
    have z := dd.nd
    rw [ek] at z
    exact List.Pairwise.of_map Sum.inl (fun a b h e => h (by rw [e])) z
  have ndb : bs.Nodup := perm.nodup_iff.mpr ndk
  refine ⟨fun k => ?_, ?_⟩
  · rw [perm.mem_iff]
    constructor
    · intro hk
      have hm : (Sum.inl k : Key) ∈ kvs.map (·.1) := by
        rw [ek]
        exact List.mem_map.mpr ⟨k, hk, rfl⟩
      by_cases b : Bd row k
      · exact b
      · have v := dd.val k
        rw [if_neg b] at v
        exact absurd hm (valV_not v)
    · intro b
      have v := dd.val k
      rw [if_pos b] at v
      have hm := valV_in v
      rw [ek] at hm
      obtain ⟨j, hj, e⟩ := List.mem_map.mp hm
      rw [← Sum.inl.inj e]
      exact hj
  · refine (srt.and ndb).imp fun {a b} h => ?_
    have h1 := h.1
    have h2 := h.2
    omega
theorem Cb_next {row : List (Int × Int)} (g : Good row) {bs : List Int} (h : Bs row bs) {i : Nat} {a b : Int} (ea : bs[i]? = some a) (eb : bs[i + 1]? = some b) (a0 : 0 ≤ a) :
    Cb row b.toNat = (if 0 < depI row a then Cb row a.toNat ++ [(a, b - 1)] else Cb row a.toNat) ∧ depI row (b - 1) = depI row a := by
  have ab := h.lt (Nat.lt_succ_self i) ea eb
  have gap := h.gap ea eb
  have hb : Bd row a := (h.mem a).mp (List.mem_of_getElem? ea)
  have ca : ((a.toNat : Nat) : Int) = a := by omega
  have seg := Cb_seg g (a := a.toNat) (b - a - 1).toNat (fun j h1 h2 => gap j (by omega) (by omega))
  have e : a.toNat + (b - a - 1).toNat + 1 = b.toNat := by omega
  rw [e, ca, if_pos hb, show a + ((b - a - 1).toNat : Int) = b - 1 by omega] at seg
  refine ⟨seg, ?_⟩
  have dc := dep_const g (a := a) (b - a - 1).toNat (fun j h1 h2 => gap j h1 (by omega))
  rw [show a + ((b - a - 1).toNat : Int) = b - 1 by omega] at dc
  exact dc
def atB (row : List (Int × Int)) (bs : List Int) (i : Nat) : List (Int × Int) := match bs[i]? with
  | some b => Cb row b.toNat
  | none => []
def depB (row : List (Int × Int)) (bs : List Int) (i : Nat) : Int := match bs[i]? with
  | some b => depI row (b - 1)
  | none => 0
theorem atB_some {row : List (Int × Int)} {bs : List Int} {i : Nat} {b : Int} (e : bs[i]? = some b) : atB row bs i = Cb row b.toNat := by
  unfold atB
  rw [e]
theorem depB_some {row : List (Int × Int)} {bs : List Int} {i : Nat} {b : Int} (e : bs[i]? = some b) : depB row bs i = depI row (b - 1) := by
  unfold depB
  rw [e]
theorem atB_start {row : List (Int × Int)} (g : Good row) {bs : List Int} (h : Bs row bs) : atB row bs 0 = [] ∧ depB row bs 0 = 0 := by
  cases e : bs[0]? with
  | none =>
    unfold atB depB
    rw [e]
    exact ⟨rfl, rfl⟩
  | some b =>
    rw [atB_some e, depB_some e]
    have low : ∀ q ∈ row, b ≤ q.1 := fun q hq => h.first e ⟨q, hq, .inl rfl⟩
    have b0 : 0 ≤ b := by
      obtain ⟨q, hq, w⟩ := (h.mem b).mp (List.mem_of_getElem? e)
      have := g q hq
      omega
    refine ⟨Cb_low fun q hq => ?_, dep_zero fun q hq => .inl ?_⟩
    · have := low q hq
      omega
    · have := low q hq
      omega
theorem atB_end {row : List (Int × Int)} (g : Good row) {bs : List Int} (h : Bs row bs) {i : Nat} (hi : i = bs.length - 1) : atB row bs i = blocksOf row := by
  cases e : bs[i]? with
  | none =>
    have le := List.getElem?_eq_none_iff.mp e
    have nil : bs = [] := by
      cases bs with
      | nil => rfl
      | cons x r =>
        rw [List.length_cons] at hi le
        omega
    have rn : row = [] := by
      cases row with
      | nil => rfl
      | cons q r =>
        have z := (h.mem q.1).mpr ⟨q, List.mem_cons_self, .inl rfl⟩
        rw [nil] at z
        cases z
    unfold atB
    rw [e, rn]
    rfl
  | some b =>
    have lt := (List.getElem?_eq_some_iff.mp e).1
    rw [atB_some e]
    apply Cb_all
    intro q hq
    have := h.last e (by omega) ⟨q, hq, .inr rfl⟩
    omega
/-- few enough keys -/
def FewK (row : List (Int × Int)) : Prop := row.length ≤ 31 ∨ (row.length ≤ 60 ∧ ∃ L : List Int, L.length < 64 ∧ ∀ q ∈ row, q.1 ∈ L ∧ q.2 + 1 ∈ L)
theorem FewK.le {row : List (Int × Int)} (h : FewK row) : row.length ≤ 60 := by
  rcases h with h | h
  · omega
  · exact h.1
theorem FewK.ks {row : List (Int × Int)} (h : FewK row) {kvs : List (Key × V)} (dd : Dd row kvs) {ks : List Int} (ek : kvs.map (·.1) = ks.map Sum.inl) : ks.length < 64 := by
  rcases h with h | ⟨_, L, hl, h⟩
  · have dl := dd.len
    have z := congrArg List.length ek
    rw [List.length_map, List.length_map] at z
    omega
  · have ndk : ks.Nodup := by
      have z := dd.nd
      rw [ek] at z
      exact List.Pairwise.of_map Sum.inl (fun a b h e => h (by rw [e])) z
    refine Nat.lt_of_le_of_lt (nodup_le ndk fun k hk => ?_) hl
    have hm : (Sum.inl k : Key) ∈ kvs.map (·.1) := by
      rw [ek]
      exact List.mem_map.mpr ⟨k, hk, rfl⟩
    by_cases b : Bd row k
    · obtain ⟨q, hq, e⟩ := b
      rcases e with e | e
      · rw [← e]
        exact (h q hq).1
      · rw [← e]
        exact (h q hq).2
    · have v := dd.val k
      rw [if_neg b] at v
      exact absurd hm (valV_not v)
def sp_find_blocks : Sp := fun vs H Q _ => ∃ (a : Addr) (us : List V) (row : List (Int × Int)), vs = [.ref a] ∧ H a = some (.tup us) ∧ Ivs H us row ∧ Good row ∧ FewK row ∧
  ∀ H' p ws, Same H H' → H' p = some (.tup ws) → Ivs H' ws (blocksOf row) → Q (.ref p) H'
theorem cutFrom1 (xs : List V) : cutV xs (some 1) none = xs.drop 1 := by
  unfold cutV
  rw [show HT.sIx xs.length 0 (some 1) = min 1 xs.length from HT.sIx_nat xs.length 0 1, HT.sIx_none]
  cases xs with
  | nil => rfl
  | cons x r =>
    rw [List.length_cons, show min 1 (r.length + 1) = 1 by omega]
    show List.take (r.length + 1 - 1) r = r
    rw [Nat.add_sub_cancel]
    exact List.take_length
theorem ok_find_blocks (T : Tx K mg f_depth_changes f_find_blocks f_has_position f_contains f_serves f_conflict f_demands_at_blocks f_is_open f_open_demands f_shadow_target f_decisive_demands f_largest_independent f_unserved_demands f_helpful_piece f_smallest_solution f_row_runs f_rows_of_runs f_tallest_rectangle f_cover_board f_law_draws f_law_next f_law_column f_law_board f_law_is_int f_law_inside f_law_full f_law_is_rectangle f_law_apart f_law_levels f_law_ascends f_law_covered f_law_is_cell f_law_holds f_law_board_cells f_law_number f_law_tallest f_law_fewest f_law_most f_law d_depth_changes d_find_blocks d_has_position d_contains d_serves d_conflict d_demands_at_blocks d_is_open d_open_demands d_shadow_target d_decisive_demands d_largest_independent d_unserved_demands d_helpful_piece d_smallest_solution d_row_runs d_rows_of_runs d_tallest_rectangle d_cover_board d_law_draws d_law_next d_law_column d_law_board d_law_is_int d_law_inside d_law_full d_law_is_rectangle d_law_apart d_law_levels d_law_ascends d_law_covered d_law_is_cell d_law_holds d_law_board_cells d_law_number d_law_tallest d_law_fewest d_law_most d_law) : FnOk P w K mg base CX0 2 f_find_blocks d_find_blocks ["intervals"] sp_find_blocks := by
  refine T.F_find_blocks.ok sc_find_blocks (fun vs H Q E h => ?_) (fun cdv A outer s H vs Q E hr h => ?_)
  · obtain ⟨a, us, row, rfl, _⟩ := h
    rfl
  · obtain ⟨a, us, row, rfl, ha, iv, good, few, q⟩ := h
    refine ⟨_, (pss_cons (ps_set (i := 1) sc_find_blocks.nd rfl (Or.inl rfl) (pe_call (ok_depth_changes T) (hr.mono (by decide)) (by rfl) T.g_depth_changes T.F_depth_changes.kp T.b_depth_changes .nil pass0 (pa_cons (pv 0) pa_nil)))
      (pss_cons (ps_set (i := 2) sc_find_blocks.nd rfl (Or.inl rfl) (pe_callB (call_sortedDI rfl) (by rfl) T.z_sorted (by decide +kernel) (pa_cons (pv 1) pa_nil)))
      (pss_cons (ps_set (i := 3) sc_find_blocks.nd rfl (Or.inl rfl) (pe_lst pa_nil))
      (pss_cons (ps_set (i := 4) sc_find_blocks.nd rfl (Or.inl rfl) pe_int)
      (pss_cons (ps_for PassesOwn.never rfl (pi_zip (by rfl) T.z_zip (pa_cons (pv 2) (pa_cons (pe_slice sl_list (pv 2) (po_some pe_int) po_none) pa_nil))) (pg_tup rfl (pgs_cons (pg_name (i := 5) sc_find_blocks.nd rfl (Or.inl rfl)) (pgs_cons (pg_name (i := 6) sc_find_blocks.nd rfl (Or.inl rfl)) pgs_nil)))
      (pss_cons (ps_aug (i := 4) sc_find_blocks.nd rfl (Or.inl rfl) (pe_dget (hu_of hr) (pv 1) (pv 5) (fun _ _ => rfl)) ip_add)
      (pss_one (ps_if (pt_cmpR op_gt (pv 4) pe_int (nomark _))
      (pss_one (ps_expr (pe_bm PySem.F.plainAttrs_list PySem.F.slot_list_append PySem.F.type_list_append mt_append (pv 3) (pa_cons (pe_tup (pa_cons (pv 5) (pa_cons (pe_op op_sub (pv 6) pe_int) pa_nil))) pa_nil))))
      pss_nil))))
      (pss_one (ps_ret (pe_callTy call_tuple_of (by rfl) T.z_tuple (by decide +kernel) (pa_cons (pv 3) pa_nil))))))))), ?_⟩
    refine ⟨.ref a, rfl, a, us, row, rfl, ha, iv, fun x hx => (good x hx).2, Nat.le_trans few.le (by decide), fun H1 pc kvs s1 npc ec dd => ?_⟩
    obtain ⟨ks, ek⟩ := dd.keys
    have lk : kvs.length = ks.length := by
      have z := congrArg List.length ek
      rw [List.length_map, List.length_map] at z
      exact z
    have dl := dd.len
    have few60 := few.le
    refine ⟨.ref pc, rfl, pc, kvs, ks, rfl, .inl ec, ek, few.ks dd ek, fun bs pb perm srt npb => ?_⟩
    have hB := dd.bs ek perm srt
    have lb : bs.length = ks.length := perm.length_eq
    have s2 := same_new (o := .lst (bs.map V.int)) npb
    have eb := upd_same (H := H1) (a := pb) (o := .lst (bs.map V.int))
    generalize upd H1 pb (.lst (bs.map V.int)) = H2 at *
    refine ⟨by show 0 ≤ sizeLine; decide, fun pl npl => ?_⟩
    have nbl : pb ≠ pl := ne_of_none eb npl
    have ncl : pc ≠ pl := ne_of_none (s2 _ _ ec) npl
    have npl0 : H pl = none := (s1.trans s2).free npl
    have s3 := same_new (o := .lst []) npl
    have el := upd_same (H := H2) (a := pl) (o := .lst [])
    generalize upd H2 pl (.lst []) = H3 at *
    refine ⟨.ref pb, rfl, .ref pb, rfl, 1, rfl, pb, _, rfl, SqL.of (s3 _ _ eb), fun pz npz => ?_⟩
    rw [cutFrom1]
    have nlz : pl ≠ pz := ne_of_none el npz
    have s4 := same_new (o := .lst ((bs.map V.int).drop 1)) npz
    have ez := upd_same (H := H3) (a := pz) (o := .lst ((bs.map V.int).drop 1))
    generalize upd H3 pz (.lst ((bs.map V.int).drop 1)) = H4 at *
    replace eb := s4 _ _ (s3 _ _ eb)
    replace ec := s4 _ _ (s3 _ _ (s2 _ _ ec))
    replace el := s4 _ _ el
    have sm4 : Same H H4 := s1.trans (s2.trans (s3.trans s4))
    obtain ⟨st1, st2⟩ := atB_start good hB
    refine ⟨pb, pz, bs.map V.int, (bs.map V.int).drop 1, rfl, SqL.of eb, SqL.of ez, ?_⟩
    refine ⟨fun i m σ H' => i + m = bs.length - 1 ∧ Same H H' ∧ H' pb = some (.lst (bs.map V.int)) ∧ H' pz = some (.lst ((bs.map V.int).drop 1)) ∧ H' pc = some (.dK kvs) ∧ (∃ ws, H' pl = some (.lst ws) ∧ ws.length ≤ i ∧ Ivs H' ws (atB row bs i)) ∧
        ∃ y5 y6, σ = [some (.ref a), some (.ref pc), some (.ref pb), some (.ref pl), some (.int (depB row bs i)), y5, y6],
      ⟨bs.length - 1, by omega, sm4, eb, ez, ec, ⟨[], el, Nat.zero_le _, by rw [st1]; exact .nil⟩, none, none, by rw [st2]; rfl⟩, fun i m σ H5 hW => ?_⟩
    obtain ⟨em, sm, fb, fz, fc, ⟨ws, fl, wl, ivw⟩, y5, y6, rfl⟩ := hW
    by_cases hi : i < bs.length - 1
    · obtain ⟨x, ex⟩ : ∃ x, bs[i]? = some x := ⟨bs[i], List.getElem?_eq_getElem (by omega)⟩
      obtain ⟨y, ey⟩ : ∃ y, bs[i + 1]? = some y := ⟨bs[i + 1], List.getElem?_eq_getElem (by omega)⟩
      have g1 : (bs.map V.int)[i]? = some (.int x) := by
        rw [List.getElem?_map, ex]
        rfl
      have g2 : ((bs.map V.int).drop 1)[i]? = some (.int y) := by
        rw [List.getElem?_drop, Nat.add_comm 1 i, List.getElem?_map, ey]
        rfl
      have hbx : Bd row x := (hB.mem x).mp (List.mem_of_getElem? ex)
      have x0 : 0 ≤ x := by
        obtain ⟨r, hr1, w1⟩ := hbx
        have := good r hr1
        omega
      obtain ⟨cn, dn⟩ := Cb_next good hB ex ey x0
      have hval : valV kvs (Sum.inl x) = some (.int (delI row x)) := by
        rw [dd.val, if_pos hbx]
      refine .inr ⟨⟨_, _, _, _, SqL.of fb, SqL.of fz, g1, g2⟩, fun σ' H' => Same H H' ∧ H' pb = some (.lst (bs.map V.int)) ∧ H' pz = some (.lst ((bs.map V.int).drop 1)) ∧ H' pc = some (.dK kvs) ∧ (∃ ws, H' pl = some (.lst ws) ∧ ws.length ≤ i + 1 ∧ Ivs H' ws (atB row bs (i + 1))) ∧
          ∃ y5 y6, σ' = [some (.ref a), some (.ref pc), some (.ref pb), some (.ref pl), some (.int (depB row bs (i + 1))), y5, y6], fun σ' H' hN => ?_, fun z H' hy => ?_⟩
      · obtain ⟨n1, n2, n3, n4, n5, n6⟩ := hN
        exact ⟨m - 1, by omega, by omega, n1, n2, n3, n4, n5, n6⟩
      · obtain ⟨tt, x1, x2, rfl, nT, rfl, f1, f2⟩ := hy
        have ex1 : x1 = .int x := Option.some.inj ((f1 _ (SqL.of fb)).symm.trans g1)
        have ex2 : x2 = .int y := Option.some.inj ((f2 _ (SqL.of fz)).symm.trans g2)
        subst ex1 ex2
        have sT := same_new (o := .tup [.int x, .int y]) nT
        have eT := upd_same (H := H5) (a := tt) (o := .tup [.int x, .int y])
        generalize upd H5 tt (.tup [.int x, .int y]) = H6 at *
        refine ⟨tt, _, rfl, SqT.of eT, rfl, .int x, [.int y], rfl, .int y, [], rfl, rfl, ?_⟩
        have dg := DGet.k (k := Sum.inl x) (sT _ _ fc)
        rw [hval] at dg
        refine ⟨_, rfl, .ref pc, rfl, .int x, rfl, pc, _, rfl, dg, _, _, rfl, rfl, ?_⟩
        have ed : depB row bs i + delI row x = depI row x := by
          rw [depB_some ex]
          exact (dep_step good x).symm
        have ed2 : depB row bs (i + 1) = depI row x := by
          rw [depB_some ey]
          exact dn
        have ea2 : atB row bs (i + 1) = if 0 < depI row x then atB row bs i ++ [(x, y - 1)] else atB row bs i := by
          rw [atB_some ey, atB_some ex]
          exact cn
        refine ⟨_, rfl, _, _, rfl, rfl, _, rfl, ite2 (fun e => ?_) (fun e => ?_)⟩
        · have e1 : 0 < depB row bs i + delI row x := of_decide_eq_true e
          rw [ed] at e1
          refine ⟨.ref pl, rfl, .inl ⟨rfl, _, SqL.of (sT _ _ fl)⟩, .int x, rfl, .int y, rfl, _, _, rfl, rfl, by show 2 ≤ sizeLine; decide, fun t nt => ?_⟩
          have st := same_new (o := .tup [.int x, .int (y - 1)]) nt
          have et := upd_same (H := H6) (a := t) (o := .tup [.int x, .int (y - 1)])
          generalize upd H6 t (.tup [.int x, .int (y - 1)]) = H7 at *
          have fl7 := st _ _ (sT _ _ fl)
          refine ⟨pl, ws, _, rfl, rfl, fl7, small1000 (by omega), ?_⟩
          have up : ∀ {b' : Addr} {o' : HO}, b' ≠ pl → H5 b' = some o' → (upd H7 pl (.lst (ws ++ [.ref t]))) b' = some o' := fun nb e' => by
            rw [upd_ne nb]
            exact st _ _ (sT _ _ e')
          have upI : ∀ {vs : List V} {qs : List (Int × Int)}, Ivs H5 vs qs → Ivs (upd H7 pl (.lst (ws ++ [.ref t]))) vs qs := by
            intro vs qs hv
            induction hv with
            | nil => exact .nil
            | cons e' _ ih => exact .cons (up (ne_of e' fl (fun z => by cases z)) e') ih
          refine ⟨fun b' o' e' => up (ne_of_none e' npl0) (sm _ _ e'), up nbl fb, up nlz.symm fz, up ncl fc, ⟨_, upd_same, ?_, ?_⟩, some (.int x), some (.int y), ?_⟩
          · rw [List.length_append, List.length_singleton]
            omega
          · rw [ea2, if_pos e1]
            refine (upI ivw).snoc ?_
            rw [upd_ne (ne_of et fl7 (fun z => by cases z))]
            exact et
          · rw [ed2, ← ed]
            rfl
        · have e1 : ¬ 0 < depI row x := fun z => e (by
            rw [← ed] at z
            exact decide_eq_true z)
          refine ⟨sm.trans sT, sT _ _ fb, sT _ _ fz, sT _ _ fc, ⟨ws, sT _ _ fl, by omega, ?_⟩, some (.int x), some (.int y), ?_⟩
          · rw [ea2, if_neg e1]
            exact ivw.same sT
          · rw [ed2, ← ed]
            rfl
    · refine .inl ⟨⟨_, _, SqL.of fb, SqL.of fz, .inr ?_⟩, ?_⟩
      · rw [List.length_drop, List.length_map]
        omega
      · have ei : i = bs.length - 1 := by omega
        rw [atB_end good hB ei] at ivw
        refine ⟨.ref pl, rfl, pl, ws, rfl, .inl ⟨SqL.of fl, fun p np => ?_⟩⟩
        exact q _ p ws (sm.trans (same_new np)) upd_same (ivw.same (same_new np))

/-! ### tuples joined and cut, whichever object comes out -/
theorem catA_any {K : PySem.W.Frag} {H : Hp} {a b : Addr} {xs ys : List V} {Q : VK} (h1 : H a = some (.tup xs)) (h2 : H b = some (.tup ys)) (sz : xs.length + ys.length ≤ sizeLine) (k : ∀ H' p, Same H H' → H' p = some (.tup (xs ++ ys)) → Q (.ref p) H') : rCatA K (.ref a) (.ref b) H Q := by
  refine ⟨a, b, xs, ys, rfl, rfl, SqT.of h1, SqT.of h2, sz, fun e => k H b (Same.refl _) ?_, fun _ e => k H a (Same.refl _) ?_, fun _ _ p np => k _ p (same_new np) upd_same⟩
  · rw [e]
    exact h2
  · rw [e, List.append_nil]
    exact h1
theorem slA_any {K : PySem.W.Frag} {H : Hp} {a : Addr} {xs : List V} {lo hi : Option Int} {Q : VK} (h1 : H a = some (.tup xs)) (k : ∀ H' p, Same H H' → H' p = some (.tup (cutV xs lo hi)) → Q (.ref p) H') : rSlA K (.ref a) lo hi H Q := by
  refine ⟨a, xs, rfl, SqT.of h1, fun e => k H a (Same.refl _) ?_, fun _ p np => k _ p (same_new np) upd_same⟩
  have e2 : cutV xs lo hi = xs := by
    unfold cutV
    rw [e.1, e.2]
    simp
  rw [e2]
  exact h1
theorem Ivs.take {H : Hp} {vs : List V} {ps : List (Int × Int)} (h : Ivs H vs ps) : ∀ n : Nat, Ivs H (vs.take n) (ps.take n) := by
  induction h with
  | nil =>
    intro n
    rw [List.take_nil, List.take_nil]
    exact .nil
  | cons e _ ih =>
    intro n
    cases n with
    | zero => exact .nil
    | succ n => exact .cons e (ih n)

/-! ### demands at the beginnings of blocks; open demands -/
def dabT (ts : List (Int × Int)) (x : Int) : List (Int × Int × Int) := (ts.filter fun t => atP t.1 t.2 x).map fun t => (x, t.1, t.2)
def dab (ts bs : List (Int × Int)) : List (Int × Int × Int) := bs.flatMap fun b => dabT ts b.1
theorem dab_snoc {ts bs : List (Int × Int)} {b : Int × Int} : dab ts (bs ++ [b]) = dab ts bs ++ dabT ts b.1 := by
  unfold dab
  rw [List.flatMap_append]
  simp
theorem dab_len {ts : List (Int × Int)} : ∀ {bs : List (Int × Int)}, (dab ts bs).length ≤ bs.length * ts.length
  | [] => Nat.zero_le _
  | b :: bs => by
    have ih := dab_len (ts := ts) (bs := bs)
    unfold dab at ih ⊢
    rw [List.flatMap_cons, List.length_append, List.length_cons, Nat.add_mul]
    have : (dabT ts b.1).length ≤ ts.length := by
      unfold dabT
      rw [List.length_map]
      exact List.length_filter_le _ _
    omega
def sp_demands_at_blocks : Sp := fun vs H Q _ => ∃ (a b : Addr) (us ws : List V) (ts bs : List (Int × Int)), vs = [.ref a, .ref b] ∧ H a = some (.tup us) ∧ H b = some (.tup ws) ∧ Ivs H us ts ∧ Ivs H ws bs ∧ ts.length ≤ 30 ∧ bs.length ≤ 200 ∧
  ∀ H' p zs, Same H H' → H' p = some (.lst zs) → Dms H' zs (dab ts bs) → Q (.ref p) H'
theorem ok_demands_at_blocks (T : Tx K mg f_depth_changes f_find_blocks f_has_position f_contains f_serves f_conflict f_demands_at_blocks f_is_open f_open_demands f_shadow_target f_decisive_demands f_largest_independent f_unserved_demands f_helpful_piece f_smallest_solution f_row_runs f_rows_of_runs f_tallest_rectangle f_cover_board f_law_draws f_law_next f_law_column f_law_board f_law_is_int f_law_inside f_law_full f_law_is_rectangle f_law_apart f_law_levels f_law_ascends f_law_covered f_law_is_cell f_law_holds f_law_board_cells f_law_number f_law_tallest f_law_fewest f_law_most f_law d_depth_changes d_find_blocks d_has_position d_contains d_serves d_conflict d_demands_at_blocks d_is_open d_open_demands d_shadow_target d_decisive_demands d_largest_independent d_unserved_demands d_helpful_piece d_smallest_solution d_row_runs d_rows_of_runs d_tallest_rectangle d_cover_board d_law_draws d_law_next d_law_column d_law_board d_law_is_int d_law_inside d_law_full d_law_is_rectangle d_law_apart d_law_levels d_law_ascends d_law_covered d_law_is_cell d_law_holds d_law_board_cells d_law_number d_law_tallest d_law_fewest d_law_most d_law) : FnOk P w K mg base CX0 2 f_demands_at_blocks d_demands_at_blocks ["targets", "blocks"] sp_demands_at_blocks := by
  refine T.F_demands_at_blocks.ok sc_demands_at_blocks (fun vs H Q E h => ?_) (fun cdv A outer s H vs Q E hr h => ?_)
  · obtain ⟨a, b, us, ws, ts, bs, rfl, _⟩ := h
    rfl
  · obtain ⟨a, b, us, ws, ts, bs, rfl, ha, hb, ivt, ivb, lt, lb, q⟩ := h
    have lu := ivt.length
    have lw := ivb.length
    refine ⟨_, (pss_one (ps_ret (pe_lc2 (own := [("low", 2), ("high", 3), ("target", 4)]) (vs1 := [4]) (g := (gTup K 2 (gCons (gName 2) (gCons (gName 3) gNil)))) (g1 := (gName 4)) (tt := tYes) (by rfl) sc_demands_at_blocks.nd (pi_tup (pv 1)) (blkOk_by (own := [("low", 2), ("high", 3), ("target", 4)]) (N := N_demands_at_blocks) (sc := defScope s_demands_at_blocks) (by decide +kernel)) (by decide) (fun _ _ _ _ _ => (pg_tup rfl (pgs_cons (pg_name (i := 2) sc_demands_at_blocks.nd rfl (Or.inl rfl)) (pgs_cons (pg_name (i := 3) sc_demands_at_blocks.nd rfl (Or.inl rfl)) pgs_nil)))) (fun _ _ _ _ _ => pts_nil) (fun _ _ _ _ _ => (pi_tupK (K := K) rfl (pv 0))) (fun _ _ _ _ _ => (pg_name (i := 4) sc_demands_at_blocks.nd rfl (Or.inl rfl))) (fun _ _ _ _ _ => pts_one (pt_val (pe_call (ok_has_position T) (hr.mono (by decide)) (by rfl) T.g_has_position T.F_has_position.kp T.b_has_position .nil pass0 (pa_cons (pv 4) (pa_cons (pv 2) pa_nil))))) (fun _ _ _ _ _ => (pe_tup (pa_cons (pv 2) (pa_cons (pv 4) pa_nil))))))), ?_⟩
    refine ⟨.ref b, rfl, b, rfl, ⟨_, SqT.of hb⟩, fun D nD => ?_⟩
    refine walkT (K := K) (a := b) (xs := ws) (fun i H' => Same H H' ∧ ∃ zs, H' D = some (.lst zs) ∧ Dms H' zs (dab ts (bs.take i))) ⟨same_new nD, [], upd_same, .nil⟩ (fun i H' _ h => SqT.of (h.1 _ _ hb)) ?_ ?_
    · rintro i v H1 hi ⟨s1, zs, eD, dm⟩
      obtain ⟨bb, x, y, rfl, ep, hbb⟩ := ivb.get hi
      have hil := (List.getElem?_eq_some_iff.mp ep).1
      refine ⟨bb, _, rfl, SqT.of (s1 _ _ hbb), rfl, .int x, [.int y], rfl, .int y, [], rfl, rfl, rfl, ?_⟩
      refine ⟨.ref a, rfl, a, rfl, ⟨_, SqT.of (s1 _ _ ha)⟩, ?_⟩
      refine walkT (K := K) (a := a) (xs := us) (fun j H' => Same H H' ∧ ∃ zs, H' D = some (.lst zs) ∧ Dms H' zs (dab ts (bs.take i) ++ dabT (ts.take j) x)) ⟨s1, zs, eD, by show Dms H1 zs (_ ++ []); rw [List.append_nil]; exact dm⟩ (fun j H' _ h => SqT.of (h.1 _ _ ha)) ?_ ?_
      · rintro j v H2 hj ⟨s2, zs2, eD2, dm2⟩
        obtain ⟨tt, lo, hi2, rfl, et, htt⟩ := ivt.get hj
        have hjl := (List.getElem?_eq_some_iff.mp et).1
        have sz : zs2.length < sizeLine := by
          have h1 := dm2.length
          have h2 := dab_len (ts := ts) (bs := bs.take i)
          have h3 : (dabT (ts.take j) x).length ≤ 30 := by
            unfold dabT
            rw [List.length_map]
            exact Nat.le_trans (List.length_filter_le _ _) (Nat.le_trans (List.length_take_le' _ _) lt)
          have h4 : (bs.take i).length ≤ 200 := Nat.le_trans (List.length_take_le' _ _) lb
          have h5 : (bs.take i).length * ts.length ≤ 200 * 30 := Nat.mul_le_mul h4 lt
          rw [List.length_append] at h1
          rw [show sizeLine = 16777216 by decide]
          omega
        refine ⟨rfl, .ref tt, rfl, .int x, rfl, tt, lo, hi2, x, rfl, s2 _ _ htt, _, rfl, ite2 (fun c => ?_) (fun c => ?_)⟩
        · refine ⟨.int x, rfl, .ref tt, rfl, by show 2 ≤ sizeLine; decide, fun t nt => ?_⟩
          have s3 := same_new (o := .tup [.int x, .ref tt]) nt
          have et3 := upd_same (H := H2) (a := t) (o := .tup [.int x, .ref tt])
          have eD3 := s3 _ _ eD2
          have dm3 := dm2.same s3
          have s23 := s2.trans s3
          generalize upd H2 t (.tup [.int x, .ref tt]) = H3 at *
          refine ⟨zs2, eD3, sz, same_off nD s23, _, upd_same, ?_⟩
          have cc : lo ≤ x ∧ x ≤ hi2 := by
            have z := Bool.and_eq_true_iff.mp c
            exact ⟨of_decide_eq_true z.1, of_decide_eq_true z.2⟩
          have e : dabT (ts.take (j + 1)) x = dabT (ts.take j) x ++ [(x, lo, hi2)] := by
            unfold dabT
            rw [take_filter et, if_pos c, List.map_append]
            rfl
          rw [e, ← List.append_assoc]
          exact (dm3.snoc ⟨⟨t, tt, rfl, et3, s23 _ _ htt⟩, cc.1, cc.2⟩).tps (Tps.lst eD3)
        · refine ⟨s2, zs2, eD2, ?_⟩
          have e : dabT (ts.take (j + 1)) x = dabT (ts.take j) x := by
            unfold dabT
            rw [take_filter et, if_neg c, List.append_nil]
          rw [e]
          exact dm2
      · rintro H2 ⟨s2, zs2, eD2, dm2⟩
        refine ⟨s2, zs2, eD2, ?_⟩
        rw [lu, List.take_length] at dm2
        rw [List.take_add_one, ep]
        show Dms H2 zs2 (dab ts (bs.take i ++ [(x, y)]))
        rw [dab_snoc]
        exact dm2
    · rintro H1 ⟨s1, zs, eD, dm⟩
      rw [lw, List.take_length] at dm
      exact q H1 D zs s1 eD dm
def opB (ps : List (Int × Int)) (d : Int × Int × Int) : Bool := !((ps.map fun q => svI q.1 q.2 d.1 d.2.1 d.2.2).any id)
def sp_is_open : Sp := fun vs H Q _ => ∃ (a : Addr) (v : V) (us : List V) (ps : List (Int × Int)) (p lo hi : Int), vs = [.ref a, v] ∧ H a = some (.tup us) ∧ Ivs H us ps ∧ ps.length < 1000 ∧ Dm H v p lo hi ∧
  ∀ H', Same H H' → Q (.bl (opB ps (p, lo, hi))) H'
theorem ok_is_open (T : Tx K mg f_depth_changes f_find_blocks f_has_position f_contains f_serves f_conflict f_demands_at_blocks f_is_open f_open_demands f_shadow_target f_decisive_demands f_largest_independent f_unserved_demands f_helpful_piece f_smallest_solution f_row_runs f_rows_of_runs f_tallest_rectangle f_cover_board f_law_draws f_law_next f_law_column f_law_board f_law_is_int f_law_inside f_law_full f_law_is_rectangle f_law_apart f_law_levels f_law_ascends f_law_covered f_law_is_cell f_law_holds f_law_board_cells f_law_number f_law_tallest f_law_fewest f_law_most f_law d_depth_changes d_find_blocks d_has_position d_contains d_serves d_conflict d_demands_at_blocks d_is_open d_open_demands d_shadow_target d_decisive_demands d_largest_independent d_unserved_demands d_helpful_piece d_smallest_solution d_row_runs d_rows_of_runs d_tallest_rectangle d_cover_board d_law_draws d_law_next d_law_column d_law_board d_law_is_int d_law_inside d_law_full d_law_is_rectangle d_law_apart d_law_levels d_law_ascends d_law_covered d_law_is_cell d_law_holds d_law_board_cells d_law_number d_law_tallest d_law_fewest d_law_most d_law) : FnOk P w K mg base CX0 3 f_is_open d_is_open ["pieces", "demand"] sp_is_open := by
  refine T.F_is_open.ok sc_is_open (fun vs H Q E h => ?_) (fun cdv A outer s H vs Q E hr h => ?_)
  · obtain ⟨a, v, us, ps, p, lo, hi, rfl, _⟩ := h
    rfl
  · obtain ⟨a, v, us, ps, p, lo, hi, rfl, ha, iv, few, dm, q⟩ := h
    have lu := iv.length
    obtain ⟨u, t, rfl, e1, e2⟩ := dm.ex
    refine ⟨_, (pss_one (ps_ret (pe_not (pe_callB (cr_any rfl) (by rfl) T.z_any (by decide +kernel) (pa_cons (pe_lc (own := [("piece", 2)]) (g := (gName 2)) (tt := tYes) (by rfl) sc_is_open.nd (pi_tup (pv 0)) (blkOk_by (own := [("piece", 2)]) (N := N_is_open) (sc := defScope s_is_open) (by decide +kernel)) (fun _ _ _ _ _ => (pg_name (i := 2) sc_is_open.nd rfl (Or.inl rfl))) (fun _ _ _ _ _ => pts_nil) (fun _ _ _ _ _ => (pe_call (ok_serves T) (hr.mono (by decide)) (by rfl) T.g_serves T.F_serves.kp T.b_serves .nil pass0 (pa_cons (pv 2) (pa_cons (pv 1) pa_nil))))) pa_nil))))), ?_⟩
    refine ⟨.ref a, rfl, a, rfl, ⟨_, SqT.of ha⟩, fun D nD => ?_⟩
    refine lcT (K := K) (a := a) (xs := us) (fun i H' ws => ws = ((ps.take i).map fun q : Int × Int => svI q.1 q.2 p lo hi).map V.bl) nD (fun H' s => SqT.of (s _ _ ha)) (by omega) (fun _ _ _ _ _ r => r) (fun i H' ws r => by rw [r, List.length_map, List.length_map]; exact List.length_take_le _ _) (fun _ => rfl) ?_ ?_
    · rintro i z H' N acc hi2 sm eD sz r no yes
      obtain ⟨bb, x, y, rfl, ep, hb⟩ := iv.get hi2
      refine ⟨rfl, .ref bb, rfl, .ref u, rfl, bb, u, t, x, y, p, lo, hi, rfl, sm _ _ hb, sm _ _ e1, sm _ _ e2, yes H' _ (Same.refl _) ?_⟩
      rw [r, List.take_add_one, ep, List.map_append, List.map_append]
      rfl
    · intro H1 ws s1 eD r
      rw [lu, List.take_length] at r
      subst r
      exact ⟨D, _, rfl, SqL.of eD, _, rfl, q H1 s1⟩
def sp_open_demands : Sp := fun vs H Q _ => ∃ (a b : Addr) (us ws : List V) (ts ps : List (Int × Int)), vs = [.ref a, .ref b] ∧ H a = some (.tup us) ∧ H b = some (.tup ws) ∧ Ivs H us ts ∧ Ivs H ws ps ∧ Good (ts ++ ps) ∧ ts.length ≤ 30 ∧ FewK (ts ++ ps) ∧
  ∀ H' p zs, Same H H' → H' p = some (.tup zs) → Dms H' zs ((dab ts (blocksOf (ts ++ ps))).filter (opB ps)) → Q (.ref p) H'
theorem ok_open_demands (T : Tx K mg f_depth_changes f_find_blocks f_has_position f_contains f_serves f_conflict f_demands_at_blocks f_is_open f_open_demands f_shadow_target f_decisive_demands f_largest_independent f_unserved_demands f_helpful_piece f_smallest_solution f_row_runs f_rows_of_runs f_tallest_rectangle f_cover_board f_law_draws f_law_next f_law_column f_law_board f_law_is_int f_law_inside f_law_full f_law_is_rectangle f_law_apart f_law_levels f_law_ascends f_law_covered f_law_is_cell f_law_holds f_law_board_cells f_law_number f_law_tallest f_law_fewest f_law_most f_law d_depth_changes d_find_blocks d_has_position d_contains d_serves d_conflict d_demands_at_blocks d_is_open d_open_demands d_shadow_target d_decisive_demands d_largest_independent d_unserved_demands d_helpful_piece d_smallest_solution d_row_runs d_rows_of_runs d_tallest_rectangle d_cover_board d_law_draws d_law_next d_law_column d_law_board d_law_is_int d_law_inside d_law_full d_law_is_rectangle d_law_apart d_law_levels d_law_ascends d_law_covered d_law_is_cell d_law_holds d_law_board_cells d_law_number d_law_tallest d_law_fewest d_law_most d_law) : FnOk P w K mg base CX0 4 f_open_demands d_open_demands ["targets", "pieces"] sp_open_demands := by
  refine T.F_open_demands.ok sc_open_demands (fun vs H Q E h => ?_) (fun cdv A outer s H vs Q E hr h => ?_)
  · obtain ⟨a, b, us, ws, ts, ps, rfl, _⟩ := h
    rfl
  · obtain ⟨a, b, us, ws, ts, ps, rfl, ha, hb, ivt, ivp, g, lt, fk, q⟩ := h
    have lu := ivt.length
    have lw := ivp.length
    have ll : (ts ++ ps).length ≤ 60 := fk.le
    have ll2 : ts.length + ps.length ≤ 60 := by rw [← List.length_append]; exact ll
    refine ⟨_, (pss_cons (ps_set (i := 2) sc_open_demands.nd rfl (Or.inl rfl) (pe_call (ok_demands_at_blocks T) (hr.mono (by decide)) (by rfl) T.g_demands_at_blocks T.F_demands_at_blocks.kp T.b_demands_at_blocks .nil pass0 (pa_cons (pv 0) (pa_cons (pe_call (ok_find_blocks T) (hr.mono (by decide)) (by rfl) T.g_find_blocks T.F_find_blocks.kp T.b_find_blocks .nil pass0 (pa_cons (pe_op op_catA (pv 0) (pv 1)) pa_nil)) pa_nil))))
      (pss_one (ps_ret (pe_callTy call_tuple_of (by rfl) T.z_tuple (by decide +kernel) (pa_cons (pe_lc (own := [("demand", 3)]) (g := (gName 3)) (by rfl) sc_open_demands.nd (pi_list (pv 2)) (blkOk_by (own := [("demand", 3)]) (N := N_open_demands) (sc := defScope s_open_demands) (by decide +kernel)) (fun _ _ _ _ _ => (pg_name (i := 3) sc_open_demands.nd rfl (Or.inl rfl))) (fun _ _ _ _ _ => pts_one (pt_val (pe_call (ok_is_open T) (hr.mono (by decide)) (by rfl) T.g_is_open T.F_is_open.kp T.b_is_open .nil pass0 (pa_cons (pv 1) (pa_cons (pv 3) pa_nil))))) (fun _ _ _ _ _ => (pv 3))) pa_nil))))), ?_⟩
    refine ⟨.ref a, rfl, .ref a, rfl, .ref b, rfl, catA_any ha hb (by rw [show sizeLine = 16777216 by decide]; omega) (fun H1 c s1 ec => ?_)⟩
    refine ⟨c, us ++ ws, ts ++ ps, rfl, ec, (ivt.same s1).append (ivp.same s1), g, fk, fun H2 bl bws s2 ebl ivb => ?_⟩
    have s12 := s1.trans s2
    have few := blocks_few g
    refine ⟨a, bl, us, bws, ts, _, rfl, s12 _ _ ha, ebl, ivt.same s12, ivb, by omega, by omega, fun H3 D zs s3 eD dm => ?_⟩
    have s13 := s12.trans s3
    obtain ⟨ds, eds⟩ : ∃ ds, ds = dab ts (blocksOf (ts ++ ps)) := ⟨_, rfl⟩
    rw [← eds] at dm q
    have lds : ds.length ≤ 6000 := by
      have h1 := dab_len (ts := ts) (bs := blocksOf (ts ++ ps))
      have h2 : (blocksOf (ts ++ ps)).length * ts.length ≤ 200 * 30 := Nat.mul_le_mul (by omega) (by omega)
      rw [eds]
      omega
    have lz := dm.length
    refine ⟨.ref D, rfl, D, rfl, ⟨_, SqL.of eD⟩, fun D2 nD2 => ?_⟩
    refine lc_list (K := K) (a := D) (xs := zs) (fun i H' => Same H3 H' ∧ ∃ ys, H' D2 = some (.lst ys) ∧ Dms H' ys ((ds.take i).filter (opB ps))) ⟨same_new nD2, [], upd_same, .nil⟩ (fun i H' _ h => SqL.of (h.1 _ _ eD)) ?_ ?_
    · rintro i v H4 hi ⟨s4, ys, eD2, dmy⟩
      obtain ⟨p, lo, hi2, ed, dmv⟩ := dm.get hi
      have hb4 := s4 _ _ (s13 _ _ hb)
      have dv4 := dmv.same s4
      refine ⟨rfl, .ref b, rfl, v, rfl, b, v, ws, ps, p, lo, hi2, rfl, hb4, ivp.same (s13.trans s4), by omega, dv4, fun H5 s5 => ?_⟩
      have ly : ys.length < sizeLine := by
        have h1 := dmy.length
        have h2 := List.length_filter_le (opB ps) (ds.take i)
        have h3 := List.length_take_le' i ds
        rw [show sizeLine = 16777216 by decide]
        omega
      refine ⟨_, rfl, ite2 (fun c => ?_) (fun c => ?_)⟩
      · refine ⟨v, rfl, ys, s5 _ _ eD2, ly, same_off nD2 (s4.trans s5), _, upd_same, ?_⟩
        rw [take_filter ed, if_pos c]
        exact ((dmy.same s5).snoc (dv4.same s5)).tps (Tps.lst (s5 _ _ eD2))
      · refine ⟨s4.trans s5, ys, s5 _ _ eD2, ?_⟩
        rw [take_filter ed, if_neg c, List.append_nil]
        exact dmy.same s5
    · rintro H4 ⟨s4, ys, eD2, dmy⟩
      rw [lz, List.take_length] at dmy
      refine ⟨D2, ys, rfl, .inl ⟨SqL.of eD2, fun l nl => ?_⟩⟩
      have s5 := same_new (o := .tup ys) nl
      exact q _ l ys (s13.trans (s4.trans s5)) upd_same (dmy.same s5)

abbrev lgN : Nat := 192
theorem cutFrom (xs : List V) (j : Nat) : cutV xs (some (j : Int)) none = xs.drop j := by
  unfold cutV
  rw [show HT.sIx xs.length 0 (some (j : Int)) = min j xs.length from HT.sIx_nat xs.length 0 j, HT.sIx_none]
  rcases Nat.le_total j xs.length with h | h
  · rw [Nat.min_eq_left h]
    exact List.take_of_length_le (by rw [List.length_drop]; exact Nat.le_refl _)
  · rw [Nat.min_eq_right h, List.drop_of_length_le (Nat.le_refl _), List.drop_of_length_le h]
    exact List.take_nil

/-! ### {e for x in xs}, e an int -/
section
variable {X : Cx}
/-- D: the new set; it holds S, n of them -/
def tScI (w : World) (wi : TI) (g : TG) (tt : TT) (te : TE) (us : List Nat) : TE := fun σ H Q => wi σ H fun J Ha => ∀ D, Ha D = none → ∃ W : Nat → Nat → Hp → Prop, (∃ k, W 0 k (upd Ha D (SetO w D (fun _ => false) 0))) ∧ ∀ j k Hb, W j k Hb →
  (J.stop j Hb ∧ Q (.ref D) Hb) ∨ (J.go j Hb ∧ ∃ Nx : Hp → Prop, (∀ Hc, Nx Hc → ∃ k', k' < k ∧ W (j + 1) k' Hc) ∧ ∀ x Hc, J.yld j Hb x Hc → g x (wipe σ us) Hc fun τ Hd => wipe τ us = wipe σ us ∧ tt τ Hd fun b He =>
    if b = true then te τ He fun y Hf => ∃ (c : Int) (S : Int → Bool) (n : Nat), y = .int c ∧ Hf D = some (SetO w D S n) ∧ n + 1 < scanBound ∧ Nx (upd Hf D (SetO w D (fun i => S i || decide (i = c)) (if S c = true then n else n + 1))) else Nx He)
theorem addI_ok {ps : List (Addr × Obj)} {τ : L2.St} {H : Hp} {s : Shared} {E : Value → Shared → Prop} {D : Addr} {S : Int → Bool} {n : Nat} {y : Int} {t : Tok} {Z : Value → Shared → Prop} (J : Inv X ps τ H s) (eD : H D = some (SetO X.w D S n)) (few : n + 1 < scanBound)
    (nx : ∀ s', Inv X ps τ (upd H D (SetO X.w D (fun i => S i || decide (i = y)) (if S y = true then n else n + 1))) s' → Z .none s') : wpAny (model X.prog X.w) X.A (call (.builtin "set.add") [.ref D, .int y t]) Z E s := by
  refine setR_add (setO_get J eD) few fun h' sb new => nx _ ?_
  obtain ⟨o, r1, r2, r3, eo, r4⟩ := id new
  exact J.write (e := D) (t' := s.toks + 1) (by rw [eD]; trivial) (.inl rfl) (fun b u hb hu => (sb.2 b hb).trans hu) ⟨o, eo⟩ (setO_new new)
theorem scI_core {ps : List (Addr × Obj)} {s : Shared} {σ : L2.St} {H : Hp} {Q : VK} {elt tg iter : Expr} {ifs : List Expr} {sc : Scope} {own : List (PySem.Str × Nat)} {pos pos' : Pos} {wi : TI} {g : TG} {tt : TT} {te : TE} {Qf : Value → Shared → Prop}
    (calm : X.calm = true) (nd : X.N.Nodup) (I : Inv X ps σ H s) (hi : PI X tg iter wi) (ok : BlkOk X.N X.env.scope sc own)
    (hg : ∀ (s : Shared) (H : Hp) (C : Addr) (cl : List (Str × Addr)) (fp : List Addr), PG (X.blk s H sc (compEnvC sc cl C X.env) fp) tg g)
    (ht : ∀ (s : Shared) (H : Hp) (C : Addr) (cl : List (Str × Addr)) (fp : List Addr), PTs (X.blk s H sc (compEnvC sc cl C X.env) fp) ifs tt)
    (he : ∀ (s : Shared) (H : Hp) (C : Addr) (cl : List (Str × Addr)) (fp : List Addr), PE (X.blk s H sc (compEnvC sc cl C X.env) fp) elt te) (hs : ∀ x, foldedSetIterable iter X.env x = pure x)
    (h : tScI X.w wi g tt te (own.map (·.2)) σ H Q)
    (back : ∀ D C s' m H', Inv X ps σ H' s' → Q (.ref D) H' → s'.heap.Ns C m → FpOk X ps H' C → compPost (model X.prog X.w) X.A X.xe none Qf (.ref D) C (.ok .next) s') :
    wpAny (model X.prog X.w) X.A (comprehension (.SetComp elt [⟨tg, iter, ifs, 0⟩] sc pos) sc X.env pos' (newSet (.type "set")) false (eval iter X.env) none) Qf X.xe s := by
  have frees : ∀ y ∈ sc.names, y.2 = .free → ∃ c, X.env.cells.lookup y.1 = some c := fun y hy e => (ok.free y hy e).elim (fun k => I.ok.has _ (.inl k)) (fun k => I.ok.has _ (.inr k))
  refine wpAny_comprehension_free (use := none) rfl hs (closure_ok frees) ok.kind (fun y hy e => by rw [ok.uniq y hy, e]) ?_
  refine thn (hi.run ps s σ H _ I h) fun xv sa ha => thn ha fun itv sb hb => ?_
  obtain ⟨it, fp, tn, J, Hb, rfl, Ib, T, stb, fb, q⟩ := hb
  refine PpSet.newSet_ok (newEnv_comp ?_)
  have Dn : Hb sb.heap.objs.size = none := Ib.hok.fresh (Nat.le_refl _)
  obtain ⟨W, ⟨k0, w0⟩, turn⟩ := q _ Dn
  have old : ∀ b ∈ fp, b < sb.heap.objs.size := fun b hb => let ⟨_, e, _⟩ := T.obj _ _ stb b hb; Heap.lt_size e
  obtain ⟨Hc, eHc⟩ : ∃ Hc, upd Hb sb.heap.objs.size (SetO X.w sb.heap.objs.size (fun _ => false) 0) = Hc := ⟨_, rfl⟩
  obtain ⟨sc3, es3⟩ : ∃ s3 : Shared, ({ sb with heap := sb.heap.push { cls := .type "set", dict := none, data := .set #[] 0 (.fresh 0 0 (!X.w.params.followText "set-order")) } } : Shared) = s3 := ⟨_, rfl⟩
  have Ic : Inv X ps σ Hc sc3 := by
    rw [← es3, ← eHc]
    exact Ib.laid (t' := sb.toks) (fun b o e => Heap.get?_push_of_some _ e) (Nat.le_refl _) (setO_new (setR_fresh X.w))
  have grown : ∀ b o, sb.heap.get? b = some o → sc3.heap.get? b = some o := fun b o e => by
    rw [← es3]
    exact Heap.get?_push_of_some _ e
  have fc : ∀ b ∈ fp, FpOk X ps Hc b ∧ b < sc3.heap.objs.size := fun b hb => by
    refine ⟨⟨?_, (fb b hb).2⟩, ?_⟩
    · rw [← eHc, upd_ne (Nat.ne_of_lt (old b hb))]
      exact (fb b hb).1
    · obtain ⟨_, e, _⟩ := T.obj _ _ stb b hb
      exact Heap.lt_size (grown _ _ e)
  have stc : tn 0 sc3.heap := T.keep _ _ _ stb fun b _ o e => grown b o e
  have Id := block_start Ic ok nd fc
  rw [eHc] at w0
  generalize eD : sb.heap.objs.size = D at *
  rw [es3]
  generalize eC : sc3.heap.objs.size = C at *
  have pg := hg sc3 Hc C (cellsFrom (C + 1) sc.names (cloFrom X.env.cells sc.names [])) fp
  have pt := ht sc3 Hc C (cellsFrom (C + 1) sc.names (cloFrom X.env.cells sc.names [])) fp
  have pe := he sc3 Hc C (cellsFrom (C + 1) sc.names (cloFrom X.env.cells sc.names [])) fp
  have cL : (compEnvC sc (cellsFrom (C + 1) sc.names (cloFrom X.env.cells sc.names [])) C X.env).locals = C := rfl
  show codeAny _ _ (.compStart (.SetComp elt [⟨tg, iter, ifs, 0⟩] sc pos) 0 (.ref it) (.ref D) (compEnvC sc (cellsFrom (C + 1) sc.names (cloFrom X.env.cells sc.names [])) C X.env)) (compPost (model X.prog X.w) X.A X.xe none Qf (.ref D) C) { sc3 with heap := pushCells (sc3.heap.push { cls := .type "dict", data := .dict #[] }) sc.names }
  generalize compEnvC sc (cellsFrom (C + 1) sc.names (cloFrom X.env.cells sc.names [])) C X.env = ce at *
  have ste : tn 0 ({ sc3 with heap := pushCells (sc3.heap.push { cls := .type "dict", data := .dict #[] }) sc.names } : Shared).heap := T.keep _ _ _ stc fun b _ o e => pushCells_keeps _ _ _ _ (Heap.get?_push_of_some _ e)
  generalize ({ sc3 with heap := pushCells (sc3.heap.push { cls := .type "dict", data := .dict #[] }) sc.names } : Shared) = se at *
  have Id : Inv (X.blk sc3 Hc sc ce fp) [] (wipe σ (own.map (·.2))) Hc se := Id
  have stat : ∀ {τ : L2.St} {H' : Hp} {s' : Shared}, Inv (X.blk sc3 Hc sc ce fp) [] τ H' s' → (∀ b ∈ fp, H' b = none) → ∀ b ∈ fp, FpOk (X.blk sc3 Hc sc ce fp) [] H' b := fun {τ H' s'} J hn b hb =>
    ⟨hn b hb, (J.ok.exf b hb).1, J.ok.exfs b hb, .inl hb, (J.ok.exf b hb).2, fun p hp => absurd (show p ∈ ([] : List (Addr × Obj)) ++ [] from hp) (by simp)⟩
  have loop : codeAny (model X.prog X.w) X.A (.compLoop (.SetComp elt [⟨tg, iter, ifs, 0⟩] sc pos) 0 (.ref it) (.ref D) ce) (compPost (model X.prog X.w) X.A X.xe none Qf (.ref D) C) se := by
    refine PpSet.compLoopS_any (fun k s' => ∃ j H', Inv (X.blk sc3 Hc sc ce fp) [] (wipe σ (own.map (·.2))) H' s' ∧ tn j s'.heap ∧ (∀ b ∈ fp, H' b = none) ∧ W j k H') ?_ k0 ⟨0, Hc, Id, ste, fun b hb => (fc b hb).1.1, w0⟩
    rintro k s5 ⟨j, H5, I5, st5, n5, w5⟩
    rcases turn j k H5 w5 with ⟨stop, qq⟩ | ⟨go, Nx, less, step⟩
    · refine thnF (T.done (X.blk sc3 Hc sc ce fp) rfl rfl rfl calm j [] s5 _ H5 (fun _ _ => False) I5 (stat I5 n5) st5 stop) fun r s6 ⟨er, I6⟩ => ?_
      subst er
      have I7 : Inv X ps σ H5 s6 := Ic.call' (ch := fp) I6.os I6.base I6.hok I6.bare fun b hb => ⟨(fc b hb).1.2.2.2.1, (fc b hb).1.2.1, (fc b hb).1.2.2.2.2.1, (fc b hb).1.2.2.2.2.2⟩
      have nC : H5 C = none := by
        have z : H5 ce.locals = none := I6.free
        rwa [cL] at z
      obtain ⟨m, hn, _⟩ := I6.loc
      have hn : s6.heap.Ns ce.locals m := hn
      rw [cL] at hn
      exact back D C s6 m H5 I7 qq hn (Ic.fpOk (Nat.le_of_eq eC) nC)
    · refine thnF (T.item (X.blk sc3 Hc sc ce fp) rfl rfl rfl calm j [] s5 _ H5 (fun _ _ => False) I5 (stat I5 n5) st5 go) fun r s6 ⟨u, er, h6⟩ => ?_
      subst er
      refine thnF h6 fun _ s7 ⟨x, H7, I7, r7, y7, st7, n7⟩ => ?_
      have P7 := I7.pinned (stat I7 n7) (T.obj _ _ st7)
      refine thnF (pg.run _ s7 _ H7 x u _ P7 r7 (step x H7 y7)) fun _ s8 ⟨τ, H8, I8, hw, q8⟩ => thnF (pt.run _ s8 τ H8 _ I8 q8) fun b s9 ⟨H9, I9, q9⟩ => ?_
      have next : ∀ {s' : Shared} {H' : Hp}, Inv (X.blk sc3 Hc sc ce fp) ([] ++ pinsAt fp s7.heap) τ H' s' → Nx H' → ∃ m, m < k ∧ ∃ j H', Inv (X.blk sc3 Hc sc ce fp) [] (wipe σ (own.map (·.2))) H' s' ∧ tn j s'.heap ∧ (∀ b ∈ fp, H' b = none) ∧ W j m H' := fun {s' H'} J nx => by
        obtain ⟨m', lt, w'⟩ := less H' nx
        have kept : ∀ b ∈ fp, ∀ o, s7.heap.get? b = some o → s'.heap.get? b = some o ∧ H' b = none := fun b hb o e =>
          let z := J.pin (b, o) (List.mem_append_right _ (List.mem_append_right _ (mem_pinsAt hb e)))
          ⟨z.1, z.2.1⟩
        refine ⟨m', lt, j + 1, H', (J.unpinned (pins := [])).weak (by rw [← hw, wipe_length]) (fun i v e => (wipe_some (by rw [hw]; exact e)).1), T.keep _ _ _ st7 fun b hb o e => (kept b hb o e).1, fun b hb => ?_, w'⟩
        obtain ⟨o, e, _⟩ := T.obj _ _ st7 b hb
        exact (kept b hb o e).2
      cases b with
      | false =>
        simp only [Bool.false_eq_true, if_false] at q9 ⊢
        exact next I9 q9
      | true =>
        simp only [if_true] at q9 ⊢
        refine thnF (pe.run _ s9 τ H9 _ I9 q9) fun z s10 ⟨yv, H10, I10, r10, c, S, n, ey, eS, few, nx⟩ => ?_
        subst ey
        obtain ⟨t, rfl⟩ := (show ∃ t, z = Value.int c t from r10)
        exact addI_ok (X := X.blk sc3 Hc sc ce fp) I10 eS few fun s11 I11 => next I11 nx
  exact PpSet.codeAny_compStart_set loop (T.self X.A 0 _ _ _ ste loop)
theorem pe_scI {elt tg iter : Expr} {ifs : List Expr} {sc : Scope} {own : List (PySem.Str × Nat)} {pos : Pos} {wi : TI} {g : TG} {tt : TT} {te : TE} (calm : X.calm = true) (nd : X.N.Nodup) (hi : PI X tg iter wi) (ok : BlkOk X.N X.env.scope sc own)
    (hg : ∀ (s : Shared) (H : Hp) (C : Addr) (cl : List (Str × Addr)) (fp : List Addr), PG (X.blk s H sc (compEnvC sc cl C X.env) fp) tg g)
    (ht : ∀ (s : Shared) (H : Hp) (C : Addr) (cl : List (Str × Addr)) (fp : List Addr), PTs (X.blk s H sc (compEnvC sc cl C X.env) fp) ifs tt)
    (he : ∀ (s : Shared) (H : Hp) (C : Addr) (cl : List (Str × Addr)) (fp : List Addr), PE (X.blk s H sc (compEnvC sc cl C X.env) fp) elt te) (hs : ∀ x, foldedSetIterable iter X.env x = pure x := by intro _; rfl) :
    PE X (.SetComp elt [⟨tg, iter, ifs, 0⟩] sc pos) (tScI X.w wi g tt te (own.map (·.2))) := by
  refine ⟨fun ps s σ H Q I h => ?_⟩
  rw [PpSet.eval_SetComp]
  refine scI_core calm nd I hi ok hg ht he hs h fun D C s' m H' J q hn f => ⟨m, hn, fun h'' sb => ?_⟩
  obtain ⟨f0, f1, f2, f3, f4, f5⟩ := f
  exact ⟨.ref D, H', J.turned (t' := s'.toks) (fun b o hb e => (sb.2 b hb).trans e) f0 f1 f3 f4 f5, rfl, q⟩
end
/-! ### len(s), s a set of ints -/
def rLenSet (w : World) : List V → Hp → VK → Prop := fun xs H Q => ∃ (a : Addr) (S : Int → Bool) (n : Nat), xs = [.ref a] ∧ H a = some (SetO w a S n) ∧ Q (.int n) H
theorem cr_lenSet {X : Cx} : CallR X (.builtin "len") (rLenSet X.w) := by
  intro ps s σ H xs us Q I r h
  obtain ⟨a, S, n, rfl, ha, q⟩ := h
  rw [Vals.ref1 r]
  obtain ⟨o, es, ep, t, ho, hex, hd, _, _, _, lim, fits, rfl, _⟩ := setO_get I ha
  refine call_len_set ho hex hd fits ?_ ⟨.int es.size, H, I.tok _, ⟨_, rfl⟩, q⟩
  unfold scanBound at lim
  omega
def kinds (l : List Int) : List Int := l.foldl (fun acc x => if x ∈ acc then acc else acc ++ [x]) []
theorem kinds_snoc (l : List Int) (a : Int) : kinds (l ++ [a]) = if a ∈ kinds l then kinds l else kinds l ++ [a] := by
  unfold kinds
  rw [List.foldl_append]
  rfl
theorem mem_kinds {l : List Int} : ∀ {x : Int}, x ∈ l → x ∈ kinds l := by
  have h : ∀ n, ∀ l : List Int, l.length = n → ∀ x ∈ l, x ∈ kinds l := by
    intro n
    induction n with
    | zero =>
      intro l e x hx
      rw [List.length_eq_zero_iff.mp e] at hx
      cases hx
    | succ n ih =>
      intro l e x hx
      rcases List.eq_nil_or_concat l with rfl | ⟨m, a, rfl⟩
      · cases hx
      · rw [List.concat_eq_append] at *
        rw [kinds_snoc]
        rw [List.length_append, List.length_singleton] at e
        rcases List.mem_append.mp hx with h | h
        · have := ih m (by omega) x h
          split
          · exact this
          · exact List.mem_append_left _ this
        · rw [List.mem_singleton.mp h]
          split
          · assumption
          · exact List.mem_append_right _ (List.mem_singleton.mpr rfl)
  exact fun {x} hx => h _ l rfl x hx
theorem kinds_len (l : List Int) : (kinds l).length ≤ l.length := by
  have h : ∀ n, ∀ l : List Int, l.length = n → (kinds l).length ≤ n := by
    intro n
    induction n with
    | zero =>
      intro l e
      rw [List.length_eq_zero_iff.mp e]
      exact Nat.le_refl _
    | succ n ih =>
      intro l e
      rcases List.eq_nil_or_concat l with rfl | ⟨m, a, rfl⟩
      · exact Nat.zero_le _
      · rw [List.concat_eq_append] at *
        rw [kinds_snoc]
        rw [List.length_append, List.length_singleton] at e
        have := ih m (by omega)
        split
        · omega
        · rw [List.length_append, List.length_singleton]
          omega
  exact h _ l rfl
/-- over a list: the set of the made ints, and how many they are -/
theorem scL {w : World} {K : PySem.W.Frag} {a : Addr} {xs : List V} {g : TG} {tt : TT} {te : TE} {us : List Nat} {σ : L2.St} {Ha : Hp} {D : Addr} {Qd : Hp → Prop} (ns : List Int) (nD : Ha D = none) (hl : ∀ H', Same Ha H' → SqL K H' a xs) (ln : xs.length = ns.length) (few : ns.length < 1000)
    (hs : ∀ (i : Nat) (x : V) (y : Int) (H' : Hp) (N : Hp → Prop) (S : Int → Bool) (n : Nat), xs[i]? = some x → ns[i]? = some y → Same Ha H' → H' D = some (SetO w D S n) → n + 1 < scanBound → N (upd H' D (SetO w D (fun i => S i || decide (i = y)) (if S y = true then n else n + 1))) → g x (wipe σ us) H' fun τ Hd => wipe τ us = wipe σ us ∧ tt τ Hd fun b He =>
      if b = true then te τ He fun v Hf => ∃ (c : Int) (S : Int → Bool) (n : Nat), v = .int c ∧ Hf D = some (SetO w D S n) ∧ n + 1 < scanBound ∧ N (upd Hf D (SetO w D (fun i => S i || decide (i = c)) (if S c = true then n else n + 1))) else N He)
    (hd : ∀ H' (S : Int → Bool), Same Ha H' → H' D = some (SetO w D S (kinds ns).length) → Qd H') :
    ∃ W : Nat → Nat → Hp → Prop, (∃ k, W 0 k (upd Ha D (SetO w D (fun _ => false) 0))) ∧ ∀ j k Hb, W j k Hb →
      ((Itl K a).stop j Hb ∧ Qd Hb) ∨ ((Itl K a).go j Hb ∧ ∃ Nx : Hp → Prop, (∀ Hc, Nx Hc → ∃ k', k' < k ∧ W (j + 1) k' Hc) ∧ ∀ x Hc, (Itl K a).yld j Hb x Hc → g x (wipe σ us) Hc fun τ Hd => wipe τ us = wipe σ us ∧ tt τ Hd fun b He =>
        if b = true then te τ He fun y Hf => ∃ (c : Int) (S : Int → Bool) (n : Nat), y = .int c ∧ Hf D = some (SetO w D S n) ∧ n + 1 < scanBound ∧ Nx (upd Hf D (SetO w D (fun i => S i || decide (i = c)) (if S c = true then n else n + 1))) else Nx He) := by
  refine ⟨fun j k H => k = xs.length - j ∧ j ≤ xs.length ∧ Same Ha H ∧ ∃ S, H D = some (SetO w D S (kinds (ns.take j)).length) ∧ ∀ i, S i = true ↔ i ∈ kinds (ns.take j), ⟨xs.length, by simp, Nat.zero_le _, same_new nD, _, upd_same, fun i => by simp [kinds]⟩, ?_⟩
  rintro j k Hb ⟨rfl, hj, sm, S, eD, hS⟩
  have q := hl Hb sm
  by_cases lt : j < xs.length
  · refine .inr ⟨⟨xs, xs[j], q, by simp [lt]⟩, fun H => j + 1 ≤ xs.length ∧ Same Ha H ∧ ∃ S, H D = some (SetO w D S (kinds (ns.take (j + 1))).length) ∧ ∀ i, S i = true ↔ i ∈ kinds (ns.take (j + 1)), fun H' p => ⟨xs.length - (j + 1), by omega, rfl, p⟩, fun x Hc yl => ?_⟩
    obtain ⟨e, yl⟩ := yl
    subst e
    have ey : ns[j]? = some (ns[j]'(by omega)) := List.getElem?_eq_getElem _
    generalize ns[j]'(by omega) = y at ey
    have ek : kinds (ns.take (j + 1)) = if y ∈ kinds (ns.take j) then kinds (ns.take j) else kinds (ns.take j) ++ [y] := by
      rw [List.take_add_one, ey]
      exact kinds_snoc _ _
    have kl := kinds_len (ns.take j)
    have tl := List.length_take_le' j ns
    refine hs j x y Hc _ S _ (yl xs q) ey sm eD (by unfold scanBound; omega) ⟨lt, same_off nD sm, fun i => S i || decide (i = y), upd_same.trans ?_, fun i => ?_⟩
    · have : (if S y = true then (kinds (ns.take j)).length else (kinds (ns.take j)).length + 1) = (kinds (ns.take (j + 1))).length := by
        rw [ek]
        by_cases c : y ∈ kinds (ns.take j)
        · rw [if_pos c, if_pos ((hS y).mpr c)]
        · rw [if_neg c, if_neg (fun z => c ((hS y).mp z)), List.length_append]
          rfl
      rw [this]
    · rw [ek, Bool.or_eq_true, hS i, decide_eq_true_eq]
      by_cases c : y ∈ kinds (ns.take j)
      · rw [if_pos c]
        exact ⟨fun h => h.elim id fun e => e ▸ c, .inl⟩
      · rw [if_neg c, List.mem_append, List.mem_singleton]
  · have e : j = xs.length := by omega
    subst e
    rw [ln, List.take_length] at eD
    exact .inl ⟨⟨xs, q, by omega⟩, hd Hb S sm eD⟩

/-! ### a largest selection: what the program's search returns -/
def lg : Nat → List Dem → List Dem
  | 0, _ => []
  | _ + 1, [] => []
  | n + 1, d :: R =>
    if (kinds (R.map (·.1))).length ≤ (d :: lg n (R.filter fun e => !cf d e)).length then d :: lg n (R.filter fun e => !cf d e)
    else if (d :: lg n (R.filter fun e => !cf d e)).length < (lg n R).length then lg n R else d :: lg n (R.filter fun e => !cf d e)
theorem lg_cons (n : Nat) (d : Dem) (R : List Dem) : lg (n + 1) (d :: R) = if (kinds (R.map (·.1))).length ≤ (d :: lg n (R.filter fun e => !cf d e)).length then d :: lg n (R.filter fun e => !cf d e)
    else if (d :: lg n (R.filter fun e => !cf d e)).length < (lg n R).length then lg n R else d :: lg n (R.filter fun e => !cf d e) := rfl
theorem lg_same : ∀ (n m : Nat) (L : List Dem), L.length ≤ n → L.length ≤ m → lg n L = lg m L
  | 0, 0, _, _, _ => rfl
  | 0, m + 1, L, h, _ => by
    rw [List.length_eq_zero_iff.mp (Nat.le_zero.mp h)]
    rfl
  | n + 1, 0, L, _, h => by
    rw [List.length_eq_zero_iff.mp (Nat.le_zero.mp h)]
    rfl
  | n + 1, m + 1, [], _, _ => rfl
  | n + 1, m + 1, d :: R, h1, h2 => by
    have f := List.length_filter_le (fun e => !cf d e) R
    rw [List.length_cons] at h1 h2
    rw [lg_cons, lg_cons, lg_same n m R (by omega) (by omega), lg_same n m (R.filter fun e => !cf d e) (by omega) (by omega)]
theorem lg_sub : ∀ (n : Nat) (L : List Dem), (lg n L).Sublist L
  | 0, _ => List.nil_sublist _
  | _ + 1, [] => List.Sublist.refl _
  | n + 1, d :: R => by
    have h1 : (d :: lg n (R.filter fun e => !cf d e)).Sublist (d :: R) := ((lg_sub n _).trans List.filter_sublist).cons_cons d
    rw [lg_cons]
    split
    · exact h1
    · split
      · exact (lg_sub n R).cons d
      · exact h1
theorem lg_ind : ∀ (n : Nat) (L : List Dem), Ind (lg n L)
  | 0, _ => List.Pairwise.nil
  | _ + 1, [] => List.Pairwise.nil
  | n + 1, d :: R => by
    have h1 : Ind (d :: lg n (R.filter fun e => !cf d e)) := by
      refine List.pairwise_cons.mpr ⟨fun e he => ?_, lg_ind n _⟩
      have := (List.mem_filter.mp ((lg_sub n _).mem he)).2
      rwa [Bool.not_eq_true'] at this
    rw [lg_cons]
    split
    · exact h1
    · split
      · exact lg_ind n R
      · exact h1
theorem lg_max : ∀ (n : Nat) (L : List Dem), (∀ d ∈ L, Vd d) → L.length ≤ n → ∀ I, Ind I → (∀ d ∈ I, d ∈ L) → I.length ≤ (lg n L).length
  | n, [], _, _, I, _, hI => by
    cases I with
    | nil => exact Nat.zero_le _
    | cons d I => exact absurd (hI d List.mem_cons_self) (fun z => nomatch z)
  | 0, d :: R, _, h, _, _, _ => absurd h (by simp)
  | n + 1, d :: R, hv, hn, I, ii, hI => by
    have f := List.length_filter_le (fun e => !cf d e) R
    rw [List.length_cons] at hn
    have vd := hv d List.mem_cons_self
    have vR : ∀ e ∈ R, Vd e := fun e he => hv e (List.mem_cons_of_mem _ he)
    rw [lg_cons]
    by_cases hd : d ∈ I
    · have pm := List.perm_cons_erase hd
      have ij : Ind (d :: I.erase d) := (pm.pairwise_iff (fun {a b} h => by rw [cf_comm]; exact h)).mp ii
      have pj := List.pairwise_cons.mp ij
      have le := lg_max n (R.filter fun e => !cf d e) (fun e he => vR e (List.mem_filter.mp he).1) (by omega) (I.erase d) pj.2 fun e he => by
        have no := pj.1 e he
        have me := hI e (List.mem_of_mem_erase he)
        rcases List.mem_cons.mp me with rfl | me
        · rw [cf_self vd] at no
          cases no
        · exact List.mem_filter.mpr ⟨me, by rw [no]; rfl⟩
      have l1 := pm.length_eq
      rw [List.length_cons] at l1
      split
      · rw [List.length_cons]
        omega
      · next c =>
        rw [List.length_cons] at *
        split <;> (try rw [List.length_cons]) <;> omega
    · have sub : ∀ e ∈ I, e ∈ R := fun e he => by
        rcases List.mem_cons.mp (hI e he) with rfl | h
        · exact absurd he hd
        · exact h
      split
      · next c =>
        refine Nat.le_trans ?_ c
        have nd : (I.map (·.1)).Nodup := by
          rw [List.Nodup, List.pairwise_map]
          refine List.Pairwise.imp_of_mem (fun {a b} ha hb no e => ?_) ii
          have va := vR a (sub a ha)
          have vb := vR b (sub b hb)
          unfold Vd at va vb
          have : cf a b = true := cf_iff.mpr (by omega)
          rw [this] at no
          cases no
        have := nodup_le nd (m := kinds (R.map (·.1))) fun x hx => by
          obtain ⟨e, he, rfl⟩ := List.mem_map.mp hx
          exact mem_kinds (List.mem_map.mpr ⟨e, sub e he, rfl⟩)
        rwa [List.length_map] at this
      · have le := lg_max n R vR (by omega) I ii sub
        split <;> omega

def sp_conflict : Sp := fun vs H Q _ => ∃ (v1 v2 : V) (p1 lo1 hi1 p2 lo2 hi2 : Int), vs = [v1, v2] ∧ Dm H v1 p1 lo1 hi1 ∧ Dm H v2 p2 lo2 hi2 ∧ Q (.bl (cf (p1, lo1, hi1) (p2, lo2, hi2))) H
theorem cf_at {p1 lo1 hi1 p2 lo2 hi2 : Int} : cf (p1, lo1, hi1) (p2, lo2, hi2) = (atP lo2 hi2 p1 && atP lo1 hi1 p2) := by
  rw [Bool.eq_iff_iff, cf_iff, Bool.and_eq_true]
  unfold atP
  rw [Bool.and_eq_true, Bool.and_eq_true, decide_eq_true_eq, decide_eq_true_eq, decide_eq_true_eq, decide_eq_true_eq]
theorem ok_conflict (T : Tx K mg f_depth_changes f_find_blocks f_has_position f_contains f_serves f_conflict f_demands_at_blocks f_is_open f_open_demands f_shadow_target f_decisive_demands f_largest_independent f_unserved_demands f_helpful_piece f_smallest_solution f_row_runs f_rows_of_runs f_tallest_rectangle f_cover_board f_law_draws f_law_next f_law_column f_law_board f_law_is_int f_law_inside f_law_full f_law_is_rectangle f_law_apart f_law_levels f_law_ascends f_law_covered f_law_is_cell f_law_holds f_law_board_cells f_law_number f_law_tallest f_law_fewest f_law_most f_law d_depth_changes d_find_blocks d_has_position d_contains d_serves d_conflict d_demands_at_blocks d_is_open d_open_demands d_shadow_target d_decisive_demands d_largest_independent d_unserved_demands d_helpful_piece d_smallest_solution d_row_runs d_rows_of_runs d_tallest_rectangle d_cover_board d_law_draws d_law_next d_law_column d_law_board d_law_is_int d_law_inside d_law_full d_law_is_rectangle d_law_apart d_law_levels d_law_ascends d_law_covered d_law_is_cell d_law_holds d_law_board_cells d_law_number d_law_tallest d_law_fewest d_law_most d_law) : FnOk P w K mg base CX0 2 f_conflict d_conflict ["first", "second"] sp_conflict := by
  refine T.F_conflict.ok sc_conflict (fun vs H Q E h => ?_) (fun cdv A outer s H vs Q E hr h => ?_)
  · obtain ⟨v1, v2, p1, lo1, hi1, p2, lo2, hi2, rfl, _⟩ := h
    rfl
  · obtain ⟨v1, v2, p1, lo1, hi1, p2, lo2, hi2, rfl, d1, d2, q⟩ := h
    refine ⟨_, (pss_one (ps_ret (pe_and (pe_call (ok_has_position T) (hr.mono (by decide)) (by rfl) T.g_has_position T.F_has_position.kp T.b_has_position .nil pass0 (pa_cons (pe_ix ix_tup (pv 1) pe_int (fun _ _ => rfl)) (pa_cons (pe_ix ix_tup (pv 0) pe_int (fun _ _ => rfl)) pa_nil))) (pe_one (pe_call (ok_has_position T) (hr.mono (by decide)) (by rfl) T.g_has_position T.F_has_position.kp T.b_has_position .nil pass0 (pa_cons (pe_ix ix_tup (pv 0) pe_int (fun _ _ => rfl)) (pa_cons (pe_ix ix_tup (pv 1) pe_int (fun _ _ => rfl)) pa_nil))))))), ?_⟩
    obtain ⟨u1, t1, rfl, e11, e12⟩ := d1.ex
    obtain ⟨u2, t2, rfl, e21, e22⟩ := d2.ex
    rw [cf_at] at q
    refine ⟨.ref u2, rfl, u2, _, 1, .ref t2, rfl, rfl, SqT.of e21, rfl, .ref u1, rfl, u1, _, 0, .int p1, rfl, rfl, SqT.of e11, rfl, t2, lo2, hi2, p1, rfl, e22, _, rfl, ite2 (fun c => ?_) (fun c => ?_)⟩
    · refine ⟨.ref u1, rfl, u1, _, 1, .ref t1, rfl, rfl, SqT.of e11, rfl, .ref u2, rfl, u2, _, 0, .int p2, rfl, rfl, SqT.of e21, rfl, t1, lo1, hi1, p2, rfl, e12, ?_⟩
      rw [c] at q
      exact q
    · rw [Bool.not_eq_true] at c
      rw [c] at q
      exact q
def sp_lg (n : Nat) : Sp := fun vs H Q _ => ∃ (D : Addr) (zs : List V) (ds : List Dem), vs = [.ref D] ∧ H D = some (.lst zs) ∧ Dms H zs ds ∧ ds.length ≤ n ∧ ds.length < 1000 ∧
  ∀ H' p ws, Same H H' → H' p = some (.tup ws) → Dms H' ws (lg ds.length ds) → Q (.ref p) H'
def sp_lgP : Nat → Sp
  | 0 => fun _ _ _ _ => False
  | n + 1 => sp_lg n
theorem Dms.sub {H : Hp} {vs : List V} {ds : List Dem} (h : Dms H vs ds) : ∀ {v : V} {d : Dem} {us : List V} {es : List Dem}, vs = v :: us → ds = d :: es → Dm H v d.1 d.2.1 d.2.2 ∧ Dms H us es := by
  intro v d us es e1 e2
  cases h with
  | nil => cases e1
  | cons x y =>
    cases e1
    cases e2
    exact ⟨x, y⟩
theorem lg_step (T : Tx K mg f_depth_changes f_find_blocks f_has_position f_contains f_serves f_conflict f_demands_at_blocks f_is_open f_open_demands f_shadow_target f_decisive_demands f_largest_independent f_unserved_demands f_helpful_piece f_smallest_solution f_row_runs f_rows_of_runs f_tallest_rectangle f_cover_board f_law_draws f_law_next f_law_column f_law_board f_law_is_int f_law_inside f_law_full f_law_is_rectangle f_law_apart f_law_levels f_law_ascends f_law_covered f_law_is_cell f_law_holds f_law_board_cells f_law_number f_law_tallest f_law_fewest f_law_most f_law d_depth_changes d_find_blocks d_has_position d_contains d_serves d_conflict d_demands_at_blocks d_is_open d_open_demands d_shadow_target d_decisive_demands d_largest_independent d_unserved_demands d_helpful_piece d_smallest_solution d_row_runs d_rows_of_runs d_tallest_rectangle d_cover_board d_law_draws d_law_next d_law_column d_law_board d_law_is_int d_law_inside d_law_full d_law_is_rectangle d_law_apart d_law_levels d_law_ascends d_law_covered d_law_is_cell d_law_holds d_law_board_cells d_law_number d_law_tallest d_law_fewest d_law_most d_law) (n : Nat) (ih : FnOk P w K mg base CX0 (n + 3) f_largest_independent d_largest_independent ["demands"] (sp_lgP n)) : FnOk P w K mg base CX0 (n + 4) f_largest_independent d_largest_independent ["demands"] (sp_lg n) := by
  refine T.F_largest_independent.ok sc_largest_independent (fun vs H Q E h => ?_) (fun cdv A outer s H vs Q E hr h => ?_)
  · obtain ⟨D, zs, ds, rfl, _⟩ := h
    rfl
  · obtain ⟨D, zs, ds, rfl, hD, dm, ln, few, q⟩ := h
    refine ⟨_, (pss_cons (ps_if (pt_not (pt_truth (pv 0) (by intro _; rfl)))
      (pss_one (ps_ret (pe_tup pa_nil)))
      pss_nil)
      (pss_cons (ps_asg (pe_tup (pa_cons (pe_ix ix_list (pv 0) pe_int (fun _ _ => rfl)) (pa_cons (pe_slice sl_list (pv 0) (po_some pe_int) po_none) pa_nil))) (pg_tup rfl (pgs_cons (pg_name (i := 1) sc_largest_independent.nd rfl (Or.inr rfl)) (pgs_cons (pg_name (i := 2) sc_largest_independent.nd rfl (Or.inl rfl)) pgs_nil))))
      (pss_cons (ps_set (i := 3) sc_largest_independent.nd rfl (Or.inl rfl) (pe_op op_catA (pe_tup (pa_cons (pv 1) pa_nil)) (pe_call ih (hr.mono (by omega)) (by rfl) T.g_largest_independent T.F_largest_independent.kp T.b_largest_independent .nil pass0 (pa_cons (pe_lc (own := [("demand", 4)]) (g := (gName 4)) (by rfl) sc_largest_independent.nd (pi_list (pv 2)) (blkOk_by (own := [("demand", 4)]) (N := N_largest_independent) (sc := defScope s_largest_independent) (by decide +kernel)) (fun _ _ _ _ _ => (pg_name (i := 4) sc_largest_independent.nd rfl (Or.inl rfl))) (fun _ _ _ _ _ => pts_one (pt_not (pt_val (pe_call (ok_conflict T) (hr.mono (by omega)) (by rfl) T.g_conflict T.F_conflict.kp T.b_conflict .nil pass0 (pa_cons (pv 1) (pa_cons (pv 4) pa_nil)))))) (fun _ _ _ _ _ => (pv 4))) pa_nil))))
      (pss_cons (ps_if (pt_cmpR op_ge (pe_callB call_len_seq (by rfl) T.z_len PySem.boot_len (pa_cons (pv 3) pa_nil)) (pe_callB cr_lenSet (by rfl) T.z_len PySem.boot_len (pa_cons (pe_scI (own := [("position", 5), ("target", 6)]) (g := (gTup K 2 (gCons (gName 5) (gCons (gName 6) gNil)))) (tt := tYes) (by rfl) sc_largest_independent.nd (pi_list (pv 2)) (blkOk_by (own := [("position", 5), ("target", 6)]) (N := N_largest_independent) (sc := defScope s_largest_independent) (by decide +kernel)) (fun _ _ _ _ _ => (pg_tup rfl (pgs_cons (pg_name (i := 5) sc_largest_independent.nd rfl (Or.inl rfl)) (pgs_cons (pg_name (i := 6) sc_largest_independent.nd rfl (Or.inl rfl)) pgs_nil)))) (fun _ _ _ _ _ => pts_nil) (fun _ _ _ _ _ => (pv 5))) pa_nil)) (nomark _))
      (pss_one (ps_ret (pv 3)))
      pss_nil)
      (pss_one (ps_ret (pe_maxLen rfl (by rfl) T.z_max (by rfl) T.z_len (pa_cons (pe_lst (pa_cons (pv 3) (pa_cons (pe_call ih (hr.mono (by omega)) (by rfl) T.g_largest_independent T.F_largest_independent.kp T.b_largest_independent .nil pass0 (pa_cons (pv 2) pa_nil)) pa_nil))) pa_nil)))))))), ?_⟩
    have lz := dm.length
    refine ⟨.ref D, rfl, !zs.isEmpty, .inl ⟨_, SqL.of hD, rfl⟩, ?_⟩
    match zs, ds, dm with
    | [], [], _ =>
      refine iteT ⟨by show 0 ≤ sizeLine; decide, fun p np => ?_⟩
      exact q _ p [] (same_new np) upd_same .nil
    | v :: zs, d :: ds, dm =>
    obtain ⟨dv, dr⟩ := dm.sub rfl rfl
    refine iteF ?_
    rw [List.length_cons] at ln few
    obtain ⟨m, rfl⟩ : ∃ m, n = m + 1 := ⟨n - 1, by omega⟩
    have lz2 := dr.length
    refine ⟨.ref D, rfl, D, _, 0, v, rfl, rfl, SqL.of hD, (show atI (v :: zs) ((0 : Nat) : Int) = some v from atI_nat rfl), .ref D, rfl, 1, rfl, D, _, rfl, SqL.of hD, fun R nR => ?_⟩
    rw [show cutV (v :: zs) (some 1) none = zs from cutFrom (v :: zs) 1]
    have s1 := same_new (o := .lst zs) nR
    have eR := upd_same (H := H) (a := R) (o := .lst zs)
    generalize upd H R (.lst zs) = H1 at *
    refine ⟨by show 2 ≤ sizeLine; decide, fun tp ntp => ?_⟩
    have s2 := same_new (o := .tup [v, .ref R]) ntp
    have etp := upd_same (H := H1) (a := tp) (o := .tup [v, .ref R])
    generalize upd H1 tp (.tup [v, .ref R]) = H2 at *
    refine ⟨tp, _, rfl, SqT.of etp, rfl, v, [.ref R], rfl, .ref R, [], rfl, rfl, ?_⟩
    have s12 := s1.trans s2
    have eR2 := s2 _ _ eR
    have dv2 := dv.same s12
    have dr2 := dr.same s12
    -- (first,)
    refine ⟨v, rfl, by show 1 ≤ sizeLine; decide, fun u nu => ?_⟩
    have s3 := same_new (o := .tup [v]) nu
    have eu := upd_same (H := H2) (a := u) (o := .tup [v])
    generalize upd H2 u (.tup [v]) = H3 at *
    have eR3 := s3 _ _ eR2
    have dv3 := dv2.same s3
    have dr3 := dr2.same s3
    refine ⟨.ref R, rfl, R, rfl, ⟨_, SqL.of eR3⟩, fun D2 nD2 => ?_⟩
    refine lcL (K := K) (a := R) (xs := zs) (fun j H' ws => Dms H' ws ((ds.take j).filter fun e => !cf d e)) nD2 (fun H' s => SqL.of (s _ _ (eR3))) (by omega) (fun _ _ _ _ t r => r.tps t) (fun j H' ws r => (by rw [r.length]; exact Nat.le_trans (List.length_filter_le _ _) (List.length_take_le _ _))) (fun _ => .nil) ?_ ?_
    · rintro j z H' N acc hj sj eA sz r no yes
      obtain ⟨p, lo, hi, ed, dz⟩ := dr3.get hj
      refine ⟨rfl, v, rfl, z, rfl, v, z, d.1, d.2.1, d.2.2, p, lo, hi, rfl, dv3.same sj, dz.same sj, _, rfl, ite2 (fun c => ?_) (fun c => ?_)⟩
      · refine ⟨z, rfl, yes H' _ (Same.refl _) ?_⟩
        rw [take_filter ed, if_pos c]
        exact r.snoc (dz.same sj)
      · refine no H' (Same.refl _) ?_
        rw [take_filter ed, if_neg c, List.append_nil]
        exact r
    intro H4 ws s4 eD2 r
    rw [lz2, List.take_length] at r
    have fl := List.length_filter_le (fun e => !cf d e) ds
    refine ⟨D2, ws, _, rfl, eD2, r, Nat.le_trans fl (by omega), Nat.lt_of_le_of_lt fl (by omega), fun H5 cp cws s5 ecp dmc => ?_⟩
    rw [lg_same _ ds.length _ (Nat.le_refl _) fl] at dmc
    have s35 := s4.trans s5
    have llg := (lg_sub ds.length (ds.filter fun e => !cf d e)).length_le
    have lcw := dmc.length
    refine catA_any (s35 _ _ eu) ecp (by rw [show sizeLine = 16777216 by decide]; show 1 + _ ≤ _; omega) (fun H6 ch s6 ech => ?_)
    have s36 := s35.trans s6
    have dch : Dms H6 ([v] ++ cws) (d :: lg ds.length (ds.filter fun e => !cf d e)) := .cons (dv3.same s36) (dmc.same s6)
    have eR6 := s36 _ _ eR3
    have dr6 := dr3.same s36
    have s06 := s12.trans (s3.trans s36)
    have lch := dch.length
    generalize [v] ++ cws = vch at *
    have eq := lg_cons ds.length d ds
    generalize hch : d :: lg ds.length (ds.filter fun e => !cf d e) = och at *
    refine ⟨.ref ch, rfl, ch, vch, rfl, .inr (SqT.of ech), ?_⟩
    refine ⟨.ref R, rfl, R, rfl, ⟨_, SqL.of eR6⟩, fun D3 nD3 => ?_⟩
    refine scL (K := K) (a := R) (xs := zs) (ds.map (·.1)) nD3 (fun H' s => SqL.of (s _ _ eR6)) (by rw [List.length_map]; exact lz2) (by rw [List.length_map]; omega) ?_ ?_
    · rintro i z y H' N S k hz hy sj eS lim nx
      obtain ⟨p, lo, hi, ed, dz⟩ := dr6.get hz
      rw [List.getElem?_map, ed] at hy
      cases hy
      obtain ⟨uz, tz, rfl, h1, h2⟩ := (dz.same sj).ex
      exact ⟨uz, _, rfl, SqT.of h1, rfl, .int p, [.ref tz], rfl, .ref tz, [], rfl, rfl, rfl, .int p, rfl, p, S, k, rfl, eS, lim, nx⟩
    intro H7 S s7 eD3
    dsimp only [tNil]
    refine ⟨D3, S, _, rfl, eD3, ?_⟩
    have s07 := s06.trans s7
    refine ⟨_, _, rfl, rfl, _, rfl, ite2 (fun c => ?_) (fun c => ?_)⟩
    · have c := of_decide_eq_true c
      have c2 : (kinds (ds.map (·.1))).length ≤ och.length := by
        rw [← lch]
        exact Int.ofNat_le.mp c
      refine ⟨.ref ch, rfl, ?_⟩
      refine q H7 ch vch s07 (s7 _ _ ech) ?_
      show Dms H7 vch (lg (ds.length + 1) (d :: ds))
      rw [eq, if_pos c2]
      exact dch.same s7
    · have c := of_decide_eq_false (Bool.not_eq_true _ ▸ c)
      have c2 : ¬ (kinds (ds.map (·.1))).length ≤ och.length := fun z => c (by
        rw [← lch] at z
        exact Int.ofNat_le.mpr z)
      refine ⟨.ref ch, rfl, .ref R, rfl, R, zs, ds, rfl, s7 _ _ eR6, dr6.same s7, by omega, by omega, fun H8 o wo s8 eo dmo => ?_⟩
      have lo2 := dmo.length
      refine ⟨by show 2 ≤ sizeLine; decide, fun ml nml => ?_⟩
      have s9 := same_new (o := .lst [.ref ch, .ref o]) nml
      have eml := upd_same (H := H8) (a := ml) (o := .lst [.ref ch, .ref o])
      generalize upd H8 ml (.lst [.ref ch, .ref o]) = H9 at *
      dsimp only [tNil]
      have s79 := s8.trans s9
      refine ⟨ml, ch, o, vch, wo, rfl, SqL.of eml, SqT.of (s79 _ _ (s7 _ _ ech)), SqT.of (s9 _ _ eo), ?_⟩
      have fin : Dms H9 (if vch.length < wo.length then wo else vch) (lg (ds.length + 1) (d :: ds)) := by
        rw [eq, if_neg c2, lch, lo2]
        split
        · exact dmo.same s9
        · exact dch.same (s7.trans s79)
      refine q H9 _ _ (s07.trans s79) ?_ fin
      split
      · exact s9 _ _ eo
      · exact s79 _ _ (s7 _ _ ech)
theorem lg_all (T : Tx K mg f_depth_changes f_find_blocks f_has_position f_contains f_serves f_conflict f_demands_at_blocks f_is_open f_open_demands f_shadow_target f_decisive_demands f_largest_independent f_unserved_demands f_helpful_piece f_smallest_solution f_row_runs f_rows_of_runs f_tallest_rectangle f_cover_board f_law_draws f_law_next f_law_column f_law_board f_law_is_int f_law_inside f_law_full f_law_is_rectangle f_law_apart f_law_levels f_law_ascends f_law_covered f_law_is_cell f_law_holds f_law_board_cells f_law_number f_law_tallest f_law_fewest f_law_most f_law d_depth_changes d_find_blocks d_has_position d_contains d_serves d_conflict d_demands_at_blocks d_is_open d_open_demands d_shadow_target d_decisive_demands d_largest_independent d_unserved_demands d_helpful_piece d_smallest_solution d_row_runs d_rows_of_runs d_tallest_rectangle d_cover_board d_law_draws d_law_next d_law_column d_law_board d_law_is_int d_law_inside d_law_full d_law_is_rectangle d_law_apart d_law_levels d_law_ascends d_law_covered d_law_is_cell d_law_holds d_law_board_cells d_law_number d_law_tallest d_law_fewest d_law_most d_law) : ∀ n : Nat, FnOk P w K mg base CX0 (n + 4) f_largest_independent d_largest_independent ["demands"] (sp_lg n)
  | 0 => lg_step T 0 ⟨fun _ _ _ _ h => h.elim, fun _ _ _ _ _ _ _ _ _ _ _ _ _ h => h.elim⟩
  | n + 1 => lg_step T (n + 1) (lg_all T n)
theorem ok_largest_independent (T : Tx K mg f_depth_changes f_find_blocks f_has_position f_contains f_serves f_conflict f_demands_at_blocks f_is_open f_open_demands f_shadow_target f_decisive_demands f_largest_independent f_unserved_demands f_helpful_piece f_smallest_solution f_row_runs f_rows_of_runs f_tallest_rectangle f_cover_board f_law_draws f_law_next f_law_column f_law_board f_law_is_int f_law_inside f_law_full f_law_is_rectangle f_law_apart f_law_levels f_law_ascends f_law_covered f_law_is_cell f_law_holds f_law_board_cells f_law_number f_law_tallest f_law_fewest f_law_most f_law d_depth_changes d_find_blocks d_has_position d_contains d_serves d_conflict d_demands_at_blocks d_is_open d_open_demands d_shadow_target d_decisive_demands d_largest_independent d_unserved_demands d_helpful_piece d_smallest_solution d_row_runs d_rows_of_runs d_tallest_rectangle d_cover_board d_law_draws d_law_next d_law_column d_law_board d_law_is_int d_law_inside d_law_full d_law_is_rectangle d_law_apart d_law_levels d_law_ascends d_law_covered d_law_is_cell d_law_holds d_law_board_cells d_law_number d_law_tallest d_law_fewest d_law_most d_law) : FnOk P w K mg base CX0 (lgN + 4) f_largest_independent d_largest_independent ["demands"] (sp_lg lgN) := lg_all T lgN

theorem find_step {f : Int × Int → Bool} {ps : List (Int × Int)} {i : Nat} {q : Int × Int} (e : ps[i]? = some q) : (ps.drop i).find? f = if f q = true then some q else (ps.drop (i + 1)).find? f := by
  obtain ⟨hi, rfl⟩ := List.getElem?_eq_some_iff.mp e
  rw [List.drop_eq_getElem_cons hi, List.find?_cons]
  cases f ps[i] <;> rfl
theorem eqv_pair (x y u v : Int) : PyData.eqv (.tuple [.int x, .int y]) (.tuple [.int u, .int v]) = decide ((x, y) = (u, v)) := by
  show ((x == u) && ((y == v) && true)) = decide ((x, y) = (u, v))
  rw [Bool.and_true, Bool.eq_iff_iff, Bool.and_eq_true, beq_iff_eq, beq_iff_eq, decide_eq_true_eq, Prod.mk.injEq]
def shB (p lo hi : Int) (q : Int × Int) : Bool := !decide (q = (lo, hi)) && (inI lo hi q.1 q.2 && atP q.1 q.2 p)
def sp_shadow_target : Sp := fun vs H Q _ => ∃ (a : Addr) (us : List V) (ps : List (Int × Int)) (v : V) (p lo hi : Int), vs = [.ref a, v] ∧ H a = some (.tup us) ∧ Ivs H us ps ∧ Dm H v p lo hi ∧ ∀ r, OV H r (ps.find? (shB p lo hi)) → Q r H
theorem ok_shadow_target (T : Tx K mg f_depth_changes f_find_blocks f_has_position f_contains f_serves f_conflict f_demands_at_blocks f_is_open f_open_demands f_shadow_target f_decisive_demands f_largest_independent f_unserved_demands f_helpful_piece f_smallest_solution f_row_runs f_rows_of_runs f_tallest_rectangle f_cover_board f_law_draws f_law_next f_law_column f_law_board f_law_is_int f_law_inside f_law_full f_law_is_rectangle f_law_apart f_law_levels f_law_ascends f_law_covered f_law_is_cell f_law_holds f_law_board_cells f_law_number f_law_tallest f_law_fewest f_law_most f_law d_depth_changes d_find_blocks d_has_position d_contains d_serves d_conflict d_demands_at_blocks d_is_open d_open_demands d_shadow_target d_decisive_demands d_largest_independent d_unserved_demands d_helpful_piece d_smallest_solution d_row_runs d_rows_of_runs d_tallest_rectangle d_cover_board d_law_draws d_law_next d_law_column d_law_board d_law_is_int d_law_inside d_law_full d_law_is_rectangle d_law_apart d_law_levels d_law_ascends d_law_covered d_law_is_cell d_law_holds d_law_board_cells d_law_number d_law_tallest d_law_fewest d_law_most d_law) : FnOk P w K mg base CX0 2 f_shadow_target d_shadow_target ["targets", "demand"] sp_shadow_target := by
  refine T.F_shadow_target.ok sc_shadow_target (fun vs H Q E h => ?_) (fun cdv A outer s H vs Q E hr h => ?_)
  · obtain ⟨a, us, ps, v, p, lo, hi, rfl, _⟩ := h
    rfl
  · obtain ⟨a, us, ps, v, p, lo, hi, rfl, ha, iv, dm, q⟩ := h
    obtain ⟨u, t, rfl, e1, e2⟩ := dm.ex
    refine ⟨_, (pss_cons (ps_asg (pv 1) (pg_tup rfl (pgs_cons (pg_name (i := 2) sc_shadow_target.nd rfl (Or.inl rfl)) (pgs_cons (pg_name (i := 3) sc_shadow_target.nd rfl (Or.inl rfl)) pgs_nil))))
      (pss_cons (ps_for PassesOwn.never rfl (pi_tup (pv 0)) (pg_name (i := 4) sc_shadow_target.nd rfl (Or.inl rfl))
      (pss_one (ps_if (PW.pt (pw_and (pt_cmpR (op_neD hr.units) (pv 4) (pv 3) (nomark _)) (pw_and (pt_val (pe_call (ok_contains T) (hr.mono (by decide)) (by rfl) T.g_contains T.F_contains.kp T.b_contains .nil pass0 (pa_cons (pv 3) (pa_cons (pv 4) pa_nil)))) (pw_and1 (pt_val (pe_call (ok_has_position T) (hr.mono (by decide)) (by rfl) T.g_has_position T.F_has_position.kp T.b_has_position .nil pass0 (pa_cons (pv 4) (pa_cons (pv 2) pa_nil))))))))
      (pss_one (ps_ret (pv 4)))
      pss_nil)))
      (pss_one (ps_ret pe_non)))), ?_⟩
    refine ⟨.ref u, rfl, u, _, rfl, SqT.of e1, rfl, .int p, [.ref t], rfl, .ref t, [], rfl, rfl, ?_⟩
    refine ⟨.ref a, rfl, a, rfl, ⟨_, SqT.of ha⟩, for_tup (K := K) (a := a) (xs := us) (fun i σ H' => H' = H ∧ ps.find? (shB p lo hi) = (ps.drop i).find? (shB p lo hi) ∧ ∃ y, σ = [some (.ref a), some (.ref u), some (.int p), some (.ref t), y]) ⟨rfl, rfl, _, rfl⟩ (fun i σ H' _ h => by rw [h.1]; exact SqT.of ha) ?_ ?_⟩
    · rintro i x σ H' hi2 ⟨rfl, ef, y, rfl⟩
      obtain ⟨b, x, z, rfl, ep, hb⟩ := iv.get hi2
      rw [find_step ep] at ef
      have no : ¬ shB p lo hi (x, z) = true → ps.find? (shB p lo hi) = (ps.drop (i + 1)).find? (shB p lo hi) := fun e => by
        rw [if_neg e] at ef
        exact ef
      refine ⟨.ref b, rfl, .ref t, rfl, _, _, dp2 hb, dp2 e2, rfl, rfl, _, rfl, ?_⟩
      rw [eqv_pair]
      refine ite2 (fun c1 => ?_) (fun c1 => ?_)
      · refine ⟨.ref t, rfl, .ref b, rfl, t, b, lo, hi, x, z, rfl, e2, hb, _, rfl, ite2 (fun c2 => ?_) (fun c2 => ?_)⟩
        · refine ⟨.ref b, rfl, .int p, rfl, b, x, z, p, rfl, hb, _, rfl, ite2 (fun c3 => ?_) (fun c3 => ?_)⟩
          · refine ⟨.ref b, rfl, q _ ?_⟩
            have e : shB p lo hi (x, z) = true := by
              unfold shB
              rw [c1, c2, c3]
              rfl
            rw [ef, if_pos e]
            exact ⟨b, rfl, hb⟩
          · refine ⟨rfl, no fun e => c3 ?_, _, rfl⟩
            unfold shB at e
            exact (Bool.and_eq_true_iff.mp (Bool.and_eq_true_iff.mp e).2).2
        · refine iteF ⟨rfl, no fun e => c2 ?_, _, rfl⟩
          unfold shB at e
          exact (Bool.and_eq_true_iff.mp (Bool.and_eq_true_iff.mp e).2).1
      · refine iteF ⟨rfl, no fun e => c1 ?_, _, rfl⟩
        unfold shB at e
        exact (Bool.and_eq_true_iff.mp e).1
    · rintro σ H' ⟨rfl, ef, y, rfl⟩
      refine q _ ?_
      rw [ef, iv.length, List.drop_length]
      rfl

/-! ### the demands that decide -/
def decO (ts ps : List (Int × Int)) : List Dem := ((dab ts (blocksOf (ts ++ ps))).filter (opB ps)).filter fun d => (ts.find? (shB d.1 d.2.1 d.2.2)).isNone
def needO (ts ps : List (Int × Int)) : Nat := (lg (decO ts ps).length (decO ts ps)).length
theorem OV.isN {H : Hp} {r : V} {o : Option (Int × Int)} (h : OV H r o) : decide (r = .non) = o.isNone := by
  match o, h with
  | none, h =>
    cases h
    rfl
  | some (x, y), h =>
    obtain ⟨t, e, _⟩ := h
    rw [e]
    exact decide_eq_false (fun z => by cases z)
theorem decO_len {ts ps : List (Int × Int)} : (decO ts ps).length ≤ (blocksOf (ts ++ ps)).length * ts.length := by
  unfold decO
  exact Nat.le_trans (List.length_filter_le _ _) (Nat.le_trans (List.length_filter_le _ _) dab_len)
def sp_decisive : Sp := fun vs H Q _ => ∃ (a b : Addr) (us ws : List V) (ts ps : List (Int × Int)), vs = [.ref a, .ref b] ∧ H a = some (.tup us) ∧ H b = some (.tup ws) ∧ Ivs H us ts ∧ Ivs H ws ps ∧ Good (ts ++ ps) ∧ ts.length ≤ 30 ∧ FewK (ts ++ ps) ∧ (blocksOf (ts ++ ps)).length ≤ 8 ∧
  ∀ H' p zs, Same H H' → H p = none → H' p = some (.lst zs) → Dms H' zs (decO ts ps) → Q (.ref p) H'
theorem ok_decisive_demands (T : Tx K mg f_depth_changes f_find_blocks f_has_position f_contains f_serves f_conflict f_demands_at_blocks f_is_open f_open_demands f_shadow_target f_decisive_demands f_largest_independent f_unserved_demands f_helpful_piece f_smallest_solution f_row_runs f_rows_of_runs f_tallest_rectangle f_cover_board f_law_draws f_law_next f_law_column f_law_board f_law_is_int f_law_inside f_law_full f_law_is_rectangle f_law_apart f_law_levels f_law_ascends f_law_covered f_law_is_cell f_law_holds f_law_board_cells f_law_number f_law_tallest f_law_fewest f_law_most f_law d_depth_changes d_find_blocks d_has_position d_contains d_serves d_conflict d_demands_at_blocks d_is_open d_open_demands d_shadow_target d_decisive_demands d_largest_independent d_unserved_demands d_helpful_piece d_smallest_solution d_row_runs d_rows_of_runs d_tallest_rectangle d_cover_board d_law_draws d_law_next d_law_column d_law_board d_law_is_int d_law_inside d_law_full d_law_is_rectangle d_law_apart d_law_levels d_law_ascends d_law_covered d_law_is_cell d_law_holds d_law_board_cells d_law_number d_law_tallest d_law_fewest d_law_most d_law) : FnOk P w K mg base CX0 5 f_decisive_demands d_decisive_demands ["targets", "pieces"] sp_decisive := by
  refine T.F_decisive_demands.ok sc_decisive_demands (fun vs H Q E h => ?_) (fun cdv A outer s H vs Q E hr h => ?_)
  · obtain ⟨a, b, us, ws, ts, ps, rfl, _⟩ := h
    rfl
  · obtain ⟨a, b, us, ws, ts, ps, rfl, ha, hb, ivt, ivp, g, lt, fk, few, q⟩ := h
    refine ⟨_, (pss_one (ps_ret (pe_lc (own := [("demand", 2)]) (g := (gName 2)) (by rfl) sc_decisive_demands.nd (pi_tup (pe_call (ok_open_demands T) (hr.mono (by decide)) (by rfl) T.g_open_demands T.F_open_demands.kp T.b_open_demands .nil pass0 (pa_cons (pv 0) (pa_cons (pv 1) pa_nil)))) (blkOk_by (own := [("demand", 2)]) (N := N_decisive_demands) (sc := defScope s_decisive_demands) (by decide +kernel)) (fun _ _ _ _ _ => (pg_name (i := 2) sc_decisive_demands.nd rfl (Or.inl rfl))) (fun _ _ _ _ _ => pts_one (pt_cmpR op_isN (pe_call (ok_shadow_target T) (hr.mono (by decide)) (by rfl) T.g_shadow_target T.F_shadow_target.kp T.b_shadow_target .nil pass0 (pa_cons (pv 0) (pa_cons (pv 2) pa_nil))) pe_non (nomark _))) (fun _ _ _ _ _ => (pv 2))))), ?_⟩
    have lu := ivt.length
    refine ⟨.ref a, rfl, .ref b, rfl, a, b, us, ws, ts, ps, rfl, ha, hb, ivt, ivp, g, lt, fk, fun H1 D zs s1 eD dm => ?_⟩
    have lo : ((dab ts (blocksOf (ts ++ ps))).filter (opB ps)).length < 1000 := by
      have h1 := dab_len (ts := ts) (bs := blocksOf (ts ++ ps))
      have h2 := List.length_filter_le (opB ps) (dab ts (blocksOf (ts ++ ps)))
      have h3 : (blocksOf (ts ++ ps)).length * ts.length ≤ 8 * 30 := Nat.mul_le_mul few (by omega)
      omega
    unfold decO at q
    generalize (dab ts (blocksOf (ts ++ ps))).filter (opB ps) = ds at *
    have lz := dm.length
    refine ⟨D, rfl, ⟨_, SqT.of eD⟩, fun D2 nD2 => ?_⟩
    refine lcT (K := K) (a := D) (xs := zs) (fun j H' ws => Dms H' ws ((ds.take j).filter fun d => (ts.find? (shB d.1 d.2.1 d.2.2)).isNone)) nD2 (fun H' s => SqT.of (s _ _ (eD))) (by omega) (fun _ _ _ _ t r => r.tps t) (fun j H' ws r => (by rw [r.length]; exact Nat.le_trans (List.length_filter_le _ _) (List.length_take_le _ _))) (fun _ => .nil) ?_ ?_
    · rintro j z H' N acc hj sj eA sz r no yes
      obtain ⟨p, lo, hi, ed, dz⟩ := dm.get hj
      have s1j := s1.trans sj
      refine ⟨rfl, .ref a, rfl, z, rfl, a, us, ts, z, p, lo, hi, rfl, s1j _ _ ha, ivt.same s1j, dz.same sj, fun rv ov => ?_⟩
      refine ⟨rfl, ?_⟩
      rw [ov.isN]
      refine ⟨_, rfl, ?_⟩
      refine ite2 (fun c => ?_) (fun c => ?_)
      · refine ⟨z, rfl, yes H' _ (Same.refl _) ?_⟩
        rw [take_filter ed, if_pos c]
        exact r.snoc (dz.same sj)
      · refine no H' (Same.refl _) ?_
        rw [take_filter ed, if_neg c, List.append_nil]
        exact r
    intro H2 ws2 s2 eD2 r
    rw [lz, List.take_length] at r
    exact q H2 D2 ws2 (s1.trans s2) (s1.free nD2) eD2 r
def sp_few : Sp := fun vs H Q _ => ∃ (a : Addr) (us : List V) (row : List (Int × Int)), vs = [.ref a] ∧ H a = some (.tup us) ∧ Ivs H us row ∧ Good row ∧ FewK row ∧ (blocksOf row).length ≤ 8 ∧ ∀ H', Same H H' → Q .non H'
def sp_count : Sp := fun vs H Q _ => ∃ (a b : Addr) (us ws : List V) (ts ps : List (Int × Int)), vs = [.ref a, .ref b] ∧ H a = some (.tup us) ∧ H b = some (.tup ws) ∧ Ivs H us ts ∧ Ivs H ws ps ∧ Good (ts ++ ps) ∧ ts.length ≤ 30 ∧ FewK (ts ++ ps) ∧ (blocksOf (ts ++ ps)).length ≤ 8 ∧ 8 * ts.length ≤ lgN ∧
  ∀ H', Same H H' → Q (.int (needO ts ps)) H'
theorem mem_dab {ts bs : List (Int × Int)} {d : (Int × Int × Int)} : d ∈ dab ts bs ↔ ∃ t ∈ ts, ∃ x ∈ bs.map (·.1), atP t.1 t.2 x = true ∧ d = (x, t.1, t.2) := by
  unfold dab dabT
  rw [List.mem_flatMap]
  constructor
  · rintro ⟨b, hb, h⟩
    obtain ⟨t, ht, e⟩ := List.mem_map.mp h
    have z := List.mem_filter.mp ht
    exact ⟨t, z.1, b.1, List.mem_map.mpr ⟨b, hb, rfl⟩, z.2, e.symm⟩
  · rintro ⟨t, ht, x, hx, c, e⟩
    obtain ⟨b, hb, rfl⟩ := List.mem_map.mp hx
    exact ⟨b, hb, List.mem_map.mpr ⟨t, List.mem_filter.mpr ⟨ht, c⟩, e.symm⟩⟩

/-! ### what the targets need: the program's number is right -/
def Com (ts ps S : List (Int × Int)) : Prop := ∀ t ∈ ts, ∀ p, t.1 ≤ p → p ≤ t.2 → ∃ q ∈ ps ++ S, t.1 ≤ q.1 ∧ q.1 ≤ p ∧ p ≤ q.2 ∧ q.2 ≤ t.2
def OpenD (ts ps : List (Int × Int)) (d : Dem) : Prop := d.2 ∈ ts ∧ Vd d ∧ ∀ q ∈ ps, sv q d = false
theorem sv_svI (q : Int × Int) (d : Dem) : svI q.1 q.2 d.1 d.2.1 d.2.2 = sv q d := by
  rw [Bool.eq_iff_iff, sv_iff']
  unfold svI inI atP
  simp only [Bool.and_eq_true, decide_eq_true_eq]
  omega
theorem opB_iff {ps : List (Int × Int)} {d : Dem} : opB ps d = true ↔ ∀ q ∈ ps, sv q d = false := by
  unfold opB
  rw [Bool.not_eq_true', List.any_eq_false]
  constructor
  · intro h q hq
    have := h _ (List.mem_map.mpr ⟨q, hq, rfl⟩)
    rw [← sv_svI, ← Bool.not_eq_true]
    exact this
  · intro h b hb
    obtain ⟨q, hq, rfl⟩ := List.mem_map.mp hb
    have := h q hq
    rw [← sv_svI] at this
    rw [Bool.not_eq_true]
    exact this
def Shd (d : Dem) (t : Int × Int) : Prop := t ≠ d.2 ∧ d.2.1 ≤ t.1 ∧ t.2 ≤ d.2.2 ∧ t.1 ≤ d.1 ∧ d.1 ≤ t.2
theorem mem_dec {ts ps : List (Int × Int)} {d : Dem} : d ∈ decO ts ps ↔ OpenD ts ps d ∧ d.1 ∈ lowsOf (ts ++ ps) ∧ ∀ t ∈ ts, ¬ Shd d t := by
  unfold decO
  rw [List.mem_filter, List.mem_filter, opB_iff, mem_dab, Option.isNone_iff_eq_none, List.find?_eq_none]
  have sh : (∀ t ∈ ts, ¬ shB d.1 d.2.1 d.2.2 t = true) ↔ ∀ t ∈ ts, ¬ Shd d t := by
    have : ∀ t : Int × Int, shB d.1 d.2.1 d.2.2 t = true ↔ Shd d t := fun t => by
      unfold shB inI atP Shd
      simp only [Bool.and_eq_true, decide_eq_true_eq, Bool.not_eq_true', decide_eq_false_iff_not]
      constructor
      · rintro ⟨a, ⟨b, c⟩, e, f⟩
        exact ⟨a, b, c, e, f⟩
      · rintro ⟨a, b, c, e, f⟩
        exact ⟨a, ⟨b, c⟩, e, f⟩
    exact ⟨fun h t ht s => h t ht ((this t).mpr s), fun h t ht s => h t ht ((this t).mp s)⟩
  rw [sh]
  constructor
  · rintro ⟨⟨⟨t, ht, x, hx, at1, rfl⟩, op⟩, n⟩
    have z := Bool.and_eq_true_iff.mp at1
    exact ⟨⟨ht, ⟨of_decide_eq_true z.1, of_decide_eq_true z.2⟩, op⟩, hx, n⟩
  · rintro ⟨⟨ht, v, op⟩, hx, n⟩
    exact ⟨⟨⟨d.2, ht, d.1, hx, Bool.and_eq_true_iff.mpr ⟨decide_eq_true v.1, decide_eq_true v.2⟩, rfl⟩, op⟩, n⟩
theorem dec_fam {ts ps : List (Int × Int)} (g : Good (ts ++ ps)) : Fam (decO ts ps) := by
  refine ⟨fun d hd => ?_, fun d hd e he h1 h2 h3 c => ?_, fun d hd e he c => ?_⟩
  · have m := mem_dec.mp hd
    exact ⟨(g _ (List.mem_append_left _ m.1.1)).1, m.1.2.1⟩
  · have md := mem_dec.mp hd
    have me := mem_dec.mp he
    have c := cf_iff.mp c
    have vd := md.1.2.1
    have ve := me.1.2.1
    unfold Vd at vd ve
    have ex : ∀ q ∈ ps, sv q (d.1, e.2) = false ∧ sv q (e.1, d.2) = false := fun q hq => by
      have x := sv_exch (z := q) h1 h2 h3 (cf_iff.mpr c)
      rw [md.1.2.2 q hq, me.1.2.2 q hq] at x
      simp at x
      exact x
    constructor
    · refine mem_dec.mpr ⟨⟨me.1.1, ⟨c.1.1, c.1.2⟩, fun q hq => (ex q hq).1⟩, md.2.1, fun t ht s => ?_⟩
      obtain ⟨s1, s2, s3, s4, s5⟩ := s
      have s1 : t ≠ e.2 := s1
      have s2 : e.2.1 ≤ t.1 := s2
      have s3 : t.2 ≤ e.2.2 := s3
      have s4 : t.1 ≤ d.1 := s4
      have s5 : d.1 ≤ t.2 := s5
      by_cases k : e.1 ≤ t.2
      · exact me.2.2 t ht ⟨s1, s2, s3, by omega, k⟩
      · exact md.2.2 t ht ⟨fun z => by rw [z] at s2; omega, by omega, by omega, s4, s5⟩
    · refine mem_dec.mpr ⟨⟨md.1.1, ⟨c.2.1, c.2.2⟩, fun q hq => (ex q hq).2⟩, me.2.1, fun t ht s => ?_⟩
      obtain ⟨s1, s2, s3, s4, s5⟩ := s
      have s1 : t ≠ d.2 := s1
      have s2 : d.2.1 ≤ t.1 := s2
      have s3 : t.2 ≤ d.2.2 := s3
      have s4 : t.1 ≤ e.1 := s4
      have s5 : e.1 ≤ t.2 := s5
      by_cases k : t.1 ≤ d.1
      · exact md.2.2 t ht ⟨s1, s2, s3, k, by omega⟩
      · exact me.2.2 t ht ⟨fun z => by rw [z] at s3; omega, by omega, by omega, s4, s5⟩
  · have md := mem_dec.mp hd
    have me := mem_dec.mp he
    have c := cf_iff.mp c
    by_cases q : d.2 = e.2
    · exact .inl q
    · have n1 := md.2.2 e.2 me.1.1
      have n2 := me.2.2 d.2 md.1.1
      unfold Shd at n1 n2
      have q' : ¬ e.2 = d.2 := fun z => q z.symm
      have n1 : ¬ (d.2.1 ≤ e.2.1 ∧ e.2.2 ≤ d.2.2) := fun z => n1 ⟨q', z.1, z.2, c.1.1, c.1.2⟩
      have n2 : ¬ (e.2.1 ≤ d.2.1 ∧ d.2.2 ≤ e.2.2) := fun z => n2 ⟨q, z.1, z.2, c.2.1, c.2.2⟩
      have w := (mem_dec.mp hd).1.2.1
      omega
theorem sum_served {S : List (Int × Int)} : ∀ {D : List Dem}, (∀ d ∈ D, ∃ z ∈ S, sv z d = true) → D.length ≤ (S.map fun z => cov D z).sum := by
  intro D
  induction D with
  | nil => exact fun _ => Nat.zero_le _
  | cons d D ih =>
    intro h
    have r := ih fun e he => h e (List.mem_cons_of_mem _ he)
    obtain ⟨z, hz, s⟩ := h d List.mem_cons_self
    have step : ∀ T : List (Int × Int), (T.map fun z => cov (d :: D) z).sum = (T.map fun z => cov D z).sum + T.countP (fun z => sv z d) := by
      intro T
      induction T with
      | nil => rfl
      | cons w T it =>
        rw [List.map_cons, List.map_cons, List.sum_cons, List.sum_cons, it, cov_cons, List.countP_cons]
        omega
    rw [step, List.length_cons]
    have : 0 < S.countP (fun z => sv z d) := List.countP_pos_iff.mpr ⟨z, hz, s⟩
    omega
theorem sum_one {α : Type} {f : α → Nat} : ∀ {S : List α}, (∀ x ∈ S, f x ≤ 1) → (S.map f).sum ≤ S.length
  | [], _ => Nat.le_refl _
  | x :: S, h => by
    have r := sum_one (S := S) fun y hy => h y (List.mem_cons_of_mem _ hy)
    have := h x List.mem_cons_self
    rw [List.map_cons, List.sum_cons, List.length_cons]
    omega
/-- no fewer pieces than independent open demands -/
theorem weak_dual {ts ps S : List (Int × Int)} {D : List Dem} (c : Com ts ps S) (i : Ind D) (o : ∀ d ∈ D, OpenD ts ps d) : D.length ≤ S.length := by
  refine Nat.le_trans (sum_served (S := S) fun d hd => ?_) (sum_one fun z _ => i.cov_le z)
  obtain ⟨h1, h2, h3⟩ := o d hd
  obtain ⟨q, hq, k1, k2, k3, k4⟩ := c d.2 h1 d.1 h2.1 h2.2
  have s : sv q d = true := sv_iff'.mpr ⟨k1, k2, k3, k4⟩
  rcases List.mem_append.mp hq with hq | hq
  · rw [h3 q hq] at s
    cases s
  · exact ⟨q, hq, s⟩
theorem block_const {row : List (Int × Int)} (g : Good row) {b q : Int × Int} (hb : b ∈ blocksOf row) (hq : q ∈ row) {x : Int} (h1 : b.1 ≤ x) (h2 : x ≤ b.2) : (q.1 ≤ x ∧ x ≤ q.2) ↔ (q.1 ≤ b.1 ∧ b.2 ≤ q.2) := by
  have B := blocks_bl g
  have gq := g q hq
  constructor
  · rintro ⟨k1, k2⟩
    constructor
    · by_cases z : q.1 ≤ b.1
      · exact z
      · exact absurd ⟨q, hq, .inl rfl⟩ (B.inner hb (p := q.1) (by omega) (by omega))
    · by_cases z : b.2 ≤ q.2
      · exact z
      · exact absurd ⟨q, hq, .inr rfl⟩ (B.inner hb (p := q.2 + 1) (by omega) (by omega))
  · omega
theorem need_ok {ts ps : List (Int × Int)} (g : Good (ts ++ ps)) : (∃ D, Ind D ∧ (∀ d ∈ D, OpenD ts ps d) ∧ D.length = needO ts ps) ∧
    ∃ S, S.length ≤ needO ts ps ∧ Com ts ps S ∧ ∀ z ∈ S, ∃ t ∈ ts, t.1 ≤ z.1 ∧ z.1 ≤ z.2 ∧ z.2 ≤ t.2 := by
  have fam := dec_fam g
  have sub := lg_sub (decO ts ps).length (decO ts ps)
  refine ⟨⟨_, lg_ind _ _, fun d hd => (mem_dec.mp (sub.mem hd)).1, rfl⟩, ?_⟩
  obtain ⟨S, s1, s2⟩ := min_max (needO ts ps) fam fun I i1 i2 => lg_max _ _ (fun d hd => (fam.ok d hd).2) (Nat.le_refl _) I i1 i2
  have inn : ∀ d ∈ decO ts ps, d.2 ∈ ts ++ ps := fun d hd => List.mem_append_left _ (mem_dec.mp hd).1.1
  -- stretched to whole blocks
  have wide : ∀ z : Int × Int, (∃ d ∈ decO ts ps, sv z d = true) → ∃ w : Int × Int, (∀ d ∈ decO ts ps, sv z d = true → sv w d = true) ∧ ∃ b ∈ blocksOf (ts ++ ps), w.2 = b.2 := by
    rintro z ⟨d, hd, s⟩
    have s := sv_iff'.mp s
    have p1 : 0 < depI (ts ++ ps) z.1 := dep_pos.mpr ⟨d.2, inn d hd, s.1, by omega⟩
    have p2 : 0 < depI (ts ++ ps) z.2 := dep_pos.mpr ⟨d.2, inn d hd, by omega, s.2.2.2⟩
    obtain ⟨b, hb, b1, b2⟩ := dep_in g p1
    obtain ⟨c, hc, c1, c2⟩ := dep_in g p2
    refine ⟨(b.1, c.2), fun e he se => ?_, c, hc, rfl⟩
    have se := sv_iff'.mp se
    have k1 := (block_const g hb (inn e he) b1 b2).mp ⟨se.1, by omega⟩
    have k2 := (block_const g hc (inn e he) c1 c2).mp ⟨by omega, se.2.2.2⟩
    refine sv_iff'.mpr ⟨k1.1, ?_, ?_, k2.2⟩
    · show b.1 ≤ e.1
      omega
    · show e.1 ≤ c.2
      omega
  have ch : ∀ z : Int × Int, ∃ w : Int × Int, (∃ d ∈ decO ts ps, sv z d = true) → (∀ d ∈ decO ts ps, sv z d = true → sv w d = true) ∧ ∃ b ∈ blocksOf (ts ++ ps), w.2 = b.2 := fun z => by
    by_cases h : ∃ d ∈ decO ts ps, sv z d = true
    · obtain ⟨w, hw⟩ := wide z h
      exact ⟨w, fun _ => hw⟩
    · exact ⟨z, fun k => absurd k h⟩
  obtain ⟨f, hf⟩ := Classical.axiomOfChoice ch
  let use : Int × Int → Bool := fun z => (decO ts ps).any fun d => sv z d
  have useI : ∀ z, use z = true ↔ ∃ d ∈ decO ts ps, sv z d = true := fun z => List.any_eq_true
  refine ⟨(S.filter use).map f, ?_, fun t ht p h1 h2 => ?_, fun w hw => ?_⟩
  · rw [List.length_map]
    exact Nat.le_trans (List.length_filter_le _ _) s1
  · by_cases pc : ∃ q ∈ ps, t.1 ≤ q.1 ∧ q.1 ≤ p ∧ p ≤ q.2 ∧ q.2 ≤ t.2
    · obtain ⟨q, hq, k⟩ := pc
      exact ⟨q, List.mem_append_left _ hq, k⟩
    · have mt : t ∈ ts ++ ps := List.mem_append_left _ ht
      obtain ⟨b, hb, b1, b2⟩ := dep_in g (dep_pos.mpr ⟨t, mt, h1, h2⟩)
      have kt := (block_const g hb mt b1 b2).mp ⟨h1, h2⟩
      have bb : b.1 ≤ b.2 := by omega
      -- a shortest target inside t that contains the block
      have short : ∀ (n : Nat) (u : Int × Int), u ∈ ts → t.1 ≤ u.1 → u.2 ≤ t.2 → u.1 ≤ b.1 → b.1 ≤ u.2 → (u.2 - u.1).toNat ≤ n → ∃ v ∈ ts, t.1 ≤ v.1 ∧ v.2 ≤ t.2 ∧ v.1 ≤ b.1 ∧ b.1 ≤ v.2 ∧ ∀ x ∈ ts, ¬ Shd (b.1, v) x := by
        intro n
        induction n with
        | zero =>
          intro u hu a1 a2 a3 a4 a5
          refine ⟨u, hu, a1, a2, a3, a4, fun x hx s => ?_⟩
          obtain ⟨z1, z2, z3, z4, z5⟩ := s
          have z2 : u.1 ≤ x.1 := z2
          have z3 : x.2 ≤ u.2 := z3
          have z4 : x.1 ≤ b.1 := z4
          have z5 : b.1 ≤ x.2 := z5
          exact z1 (Prod.ext (by show x.1 = u.1; omega) (by show x.2 = u.2; omega))
        | succ n ih =>
          intro u hu a1 a2 a3 a4 a5
          by_cases k : ∀ x ∈ ts, ¬ Shd (b.1, u) x
          · exact ⟨u, hu, a1, a2, a3, a4, k⟩
          · have ⟨x, hx, s⟩ : ∃ x ∈ ts, Shd (b.1, u) x := Classical.byContradiction fun z => k fun x hx s => z ⟨x, hx, s⟩
            obtain ⟨z1, z2, z3, z4, z5⟩ := s
            have z2 : u.1 ≤ x.1 := z2
            have z3 : x.2 ≤ u.2 := z3
            have z4 : x.1 ≤ b.1 := z4
            have z5 : b.1 ≤ x.2 := z5
            have ne : ¬ (x.1 = u.1 ∧ x.2 = u.2) := fun e => z1 (Prod.ext e.1 e.2)
            exact ih x hx (by omega) (by omega) z4 z5 (by omega)
      obtain ⟨v, hv, v1, v2, v3, v4, v5⟩ := short _ t ht (Int.le_refl _) (Int.le_refl _) kt.1 (by omega) (Nat.le_refl _)
      have md : (b.1, v) ∈ decO ts ps := by
        refine mem_dec.mpr ⟨⟨hv, ⟨v3, v4⟩, fun q hq => ?_⟩, List.mem_map.mpr ⟨b, hb, rfl⟩, v5⟩
        rw [← Bool.not_eq_true]
        intro s
        have s := sv_iff'.mp s
        have s1 : v.1 ≤ q.1 := s.1
        have s2 : q.1 ≤ b.1 := s.2.1
        have s3 : b.1 ≤ q.2 := s.2.2.1
        have s4 : q.2 ≤ v.2 := s.2.2.2
        have kq := (block_const g hb (List.mem_append_right _ hq) (Int.le_refl _) bb).mp ⟨s2, s3⟩
        exact pc ⟨q, hq, by omega, by omega, by omega, by omega⟩
      obtain ⟨z, hz, sz⟩ := s2 _ md
      obtain ⟨fw, c, hc, ec⟩ := hf z ⟨_, md, sz⟩
      have sw := sv_iff'.mp (fw _ md sz)
      have w1 : v.1 ≤ (f z).1 := sw.1
      have w2 : (f z).1 ≤ b.1 := sw.2.1
      have w3 : b.1 ≤ (f z).2 := sw.2.2.1
      have w4 : (f z).2 ≤ v.2 := sw.2.2.2
      refine ⟨f z, List.mem_append_right _ (List.mem_map.mpr ⟨z, List.mem_filter.mpr ⟨hz, (useI z).mpr ⟨_, md, sz⟩⟩, rfl⟩), by omega, by omega, ?_, by omega⟩
      obtain ⟨i, ei⟩ := List.getElem?_of_mem hb
      obtain ⟨j, ej⟩ := List.getElem?_of_mem hc
      have B := blocks_bl g
      have cc : c.1 ≤ c.2 := by
        have := B.ok c hc
        omega
      rcases Nat.lt_trichotomy i j with l | l | l
      · have := B.idx l ei ej
        omega
      · subst l
        rw [ei] at ej
        cases ej
        omega
      · have := B.idx l ej ei
        omega
  · obtain ⟨z, hz, rfl⟩ := List.mem_map.mp hw
    obtain ⟨d, hd, s⟩ := (useI z).mp (List.mem_filter.mp hz).2
    have sw := sv_iff'.mp ((hf z ⟨d, hd, s⟩).1 d hd s)
    exact ⟨d.2, (mem_dec.mp hd).1.1, sw.1, by omega, sw.2.2.2⟩

/-! ### sorted(set(pairs)) -/
def ltP (a b : Int × Int) : Prop := a.1 < b.1 ∨ (a.1 = b.1 ∧ a.2 < b.2)
def prL (q : Int × Int) : List Int := [q.1, q.2]
theorem prL_inj {a b : Int × Int} (h : prL a = prL b) : a = b := by
  unfold prL at h
  cases a
  cases b
  simp at h
  rw [h.1, h.2]
theorem mem_prL {q : Int × Int} {ps : List (Int × Int)} : prL q ∈ ps.map prL ↔ q ∈ ps := by
  rw [List.mem_map]
  exact ⟨fun ⟨a, ha, e⟩ => prL_inj e ▸ ha, fun h => ⟨q, h, rfl⟩⟩
theorem Ivs.keys {H : Hp} {us : List V} {ps : List (Int × Int)} (h : Ivs H us ps) : ∃ ks : List (Addr × List Int), us = ks.map (fun p => V.ref p.1) ∧ ks.map (·.2) = ps.map prL ∧ ∀ p ∈ ks, ∃ x y : Int, p.2 = [x, y] ∧ H p.1 = some (.tup [.int x, .int y]) := by
  induction h with
  | nil => exact ⟨[], rfl, rfl, fun p hp => nomatch hp⟩
  | cons e _ ih =>
    obtain ⟨ks, e1, e2, e3⟩ := ih
    refine ⟨(_, [_, _]) :: ks, by rw [List.map_cons, e1], by rw [List.map_cons, List.map_cons, e2]; rfl, fun p hp => ?_⟩
    rcases List.mem_cons.mp hp with rfl | hp
    · exact ⟨_, _, rfl, e⟩
    · exact e3 p hp
theorem Ivs.ofKeys {H : Hp} : ∀ {L : List (Addr × List Int)}, (∀ p ∈ L, ∃ x y : Int, p.2 = [x, y] ∧ H p.1 = some (.tup [.int x, .int y])) → ∃ ps, Ivs H (L.map fun p => V.ref p.1) ps ∧ L.map (·.2) = ps.map prL
  | [], _ => ⟨[], .nil, rfl⟩
  | p :: L, h => by
    obtain ⟨x, y, e, e1⟩ := h p List.mem_cons_self
    obtain ⟨ps, i, e2⟩ := Ivs.ofKeys (L := L) fun q hq => h q (List.mem_cons_of_mem _ hq)
    exact ⟨(x, y) :: ps, .cons e1 i, by rw [List.map_cons, List.map_cons, e2, e]; rfl⟩
theorem Ivs.tpsMem {H : Hp} {us : List V} {ps : List (Int × Int)} (h : Ivs H us ps) {q : Int × Int} (hq : q ∈ ps) : ∃ a, V.ref a ∈ us ∧ H a = some (.tup [.int q.1, .int q.2]) := by
  induction h with
  | nil => cases hq
  | cons e _ ih =>
    rcases List.mem_cons.mp hq with rfl | hq
    · exact ⟨_, List.mem_cons_self, e⟩
    · obtain ⟨a, h1, h2⟩ := ih hq
      exact ⟨a, List.mem_cons_of_mem _ h1, h2⟩
theorem sorted_keys {K : PySem.W.Frag} {P : Program} {w : World} {H : Hp} {ps : List (Int × Int)} {Q : VK} {ks L : List (Addr × List Int)} {a : Addr} (e2 : ks.map (·.2) = ps.map prL) (e3 : ∀ p ∈ ks, ∃ x y : Int, p.2 = [x, y] ∧ H p.1 = some (.tup [.int x, .int y])) (na : H a = none) (h1 : ∀ p ∈ L, p ∈ ks) (h2 : ∀ p ∈ ks, p.2 ∈ L.map (·.2)) (bd : ∀ q ∈ ps, (0 ≤ q.1 ∧ q.1 < 10 ^ 13) ∧ 0 ≤ q.2 ∧ q.2 < 10 ^ 13)
    (fin : ∀ H' p us' ps', Same H H' → H p = none → H' p = some (.lst us') → Ivs H' us' ps' → ps'.Pairwise ltP → (∀ q, q ∈ ps' ↔ q ∈ ps) → Q (.ref p) H') :
    rSortedT K P w [.ref a] (upd H a (SetTO P w a L)) Q := by
  have s1 : Same H (upd H a (SetTO P w a L)) := same_new na
  refine ⟨a, L, 2, 10 ^ 13, rfl, upd_same, fun p hp => ?_, by decide, fun p hp => ?_, fun L' p pm nd fw pw np => ?_⟩
  · obtain ⟨x, y, e, e1⟩ := e3 p (h1 p hp)
    rw [e]
    exact SqT.of (s1 _ _ e1)
  · have m : p.2 ∈ ks.map (·.2) := List.mem_map.mpr ⟨p, h1 p hp, rfl⟩
    rw [e2] at m
    obtain ⟨q, hq, e⟩ := List.mem_map.mp m
    have b := bd q hq
    rw [← e]
    refine ⟨rfl, fun m hm => ?_⟩
    unfold prL at hm
    rcases List.mem_cons.mp hm with rfl | hm
    · exact b.1
    · rw [List.mem_singleton.mp hm]
      exact b.2
  · have s2 : Same (upd H a (SetTO P w a L)) (upd (upd H a (SetTO P w a L)) p (.lst (L'.map fun q => V.ref q.1))) := same_new np
    obtain ⟨ps', i, e4⟩ := Ivs.ofKeys (H := H) (L := L') fun q hq => e3 q (h1 q (pm.mem_iff.mp hq))
    have mem : ∀ q, q ∈ ps' ↔ q ∈ ps := fun q => by
      rw [← mem_prL, ← e4, ← mem_prL (ps := ps), ← e2, (pm.map (·.2)).mem_iff]
      constructor
      · intro h
        obtain ⟨p, hp, e⟩ := List.mem_map.mp h
        exact List.mem_map.mpr ⟨p, h1 p hp, e⟩
      · intro h
        obtain ⟨p, hp, e⟩ := List.mem_map.mp h
        rw [← e]
        exact h2 p hp
    refine fin _ p _ ps' (s1.trans s2) (s1.free np) upd_same (i.same (s1.trans s2)) ?_ mem
    have pw2 : (L'.map (·.2)).Pairwise (fun q r => TS.code (10 ^ 13) q ≤ TS.code (10 ^ 13) r) := List.pairwise_map.mpr pw
    have both := pw2.and nd
    rw [e4] at both
    refine (List.pairwise_map.mp both).imp_of_mem fun {x y} hx hy h => ?_
    have bx := bd x ((mem x).mp hx)
    have bY := bd y ((mem y).mp hy)
    have tb : ∀ {z : Int × Int}, ((0 ≤ z.1 ∧ z.1 < 10 ^ 13) ∧ 0 ≤ z.2 ∧ z.2 < 10 ^ 13) → TS.Bd (10 ^ 13) [z.1, z.2] := fun b m hm => by
      rcases List.mem_cons.mp hm with rfl | hm
      · exact b.1
      · rw [List.mem_singleton.mp hm]
        exact b.2
    rcases code_lex (tb bx) (tb bY) h.1 with c | ⟨c1, c2⟩
    · exact .inl c
    · refine .inr ⟨c1, ?_⟩
      rcases Int.lt_or_eq_of_le c2 with z | z
      · exact z
      · exact absurd (show prL x = prL y by unfold prL; rw [c1, z]) h.2
theorem sorted_set_pairs {K : PySem.W.Frag} {P : Program} {w : World} {H : Hp} {l : Addr} {us : List V} {ps : List (Int × Int)} {Q : VK} (hl : SqL K H l us) (iv : Ivs H us ps) (few : ps.length < 64) (bd : ∀ q ∈ ps, (0 ≤ q.1 ∧ q.1 < 10 ^ 13) ∧ 0 ≤ q.2 ∧ q.2 < 10 ^ 13)
    (fin : ∀ H' p us' ps', Same H H' → H p = none → H' p = some (.lst us') → Ivs H' us' ps' → ps'.Pairwise ltP → (∀ q, q ∈ ps' ↔ q ∈ ps) → Q (.ref p) H') :
    rSetOfT K P w [.ref l] H (fun x H1 => rSortedT K P w [x] H1 Q) := by
  obtain ⟨ks, rfl, e2, e3⟩ := iv.keys
  have lk : ks.length = ps.length := by
    have z := congrArg List.length e2
    rw [List.length_map, List.length_map] at z
    exact z
  refine ⟨l, ks, rfl, hl, fun p hp => ?_, by omega, fun a L na h1 h2 => ?_⟩
  · obtain ⟨x, y, e, e1⟩ := e3 p hp
    rw [e]
    exact SqT.of e1
  exact sorted_keys e2 e3 na h1 h2 bd fin

def leP (a b : Int × Int) : Prop := a.1 < b.1 ∨ (a.1 = b.1 ∧ a.2 ≤ b.2)
theorem leP_of_lt {ps : List (Int × Int)} (h : ps.Pairwise ltP) : ps.Pairwise leP := h.imp fun {a b} h => by
  rcases h with h | h
  · exact .inl h
  · exact .inr ⟨h.1, by omega⟩
theorem leP_uniq {ps qs : List (Int × Int)} (h1 : ps.Pairwise leP) (h2 : qs.Pairwise leP) (pm : ps.Perm qs) : ps = qs := by
  refine pm.eq_of_pairwise (le := leP) (fun a b _ _ x y => ?_) h1 h2
  have : a.1 = b.1 ∧ a.2 = b.2 := by
    unfold leP at x y
    omega
  exact Prod.ext this.1 this.2

theorem sorted_set_pairsT {K : PySem.W.Frag} {P : Program} {w : World} {H : Hp} {l : Addr} {us : List V} {ps : List (Int × Int)} {Q : VK} (hl : H l = some (.tup us)) (iv : Ivs H us ps) (few : ps.length < 64) (bd : ∀ q ∈ ps, (0 ≤ q.1 ∧ q.1 < 10 ^ 13) ∧ 0 ≤ q.2 ∧ q.2 < 10 ^ 13)
    (fin : ∀ H' p us' ps', Same H H' → H p = none → H' p = some (.lst us') → Ivs H' us' ps' → ps'.Pairwise ltP → (∀ q, q ∈ ps' ↔ q ∈ ps) → Q (.ref p) H') :
    rSetOfTT K P w [.ref l] H (fun x H1 => rSortedT K P w [x] H1 Q) := by
  obtain ⟨ks, rfl, e2, e3⟩ := iv.keys
  -- the same keys, in a list that nobody holds: what follows is as there
  have lk : ks.length = ps.length := by
    have z := congrArg List.length e2
    rw [List.length_map, List.length_map] at z
    exact z
  refine ⟨l, ks, rfl, SqT.of hl, fun p hp => ?_, by omega, fun a L na h1 h2 => ?_⟩
  · obtain ⟨x, y, e, e1⟩ := e3 p hp
    rw [e]
    exact SqT.of e1
  exact sorted_keys e2 e3 na h1 h2 bd fin

/-! ### sorted(t), t a tuple of pairs of ints -/
section
variable {prog : Program} {w : World} {A : Around} {E : Value → Shared → Prop} {s : Shared}
/-- the items of a tuple, gathered in a new list -/
theorem collectT {Q : List Value → Shared → Prop} {t : Addr} {o : Obj} {xs : Array Value} {n : Nat} (ho : s.heap.get? t = some o) (hc : o.cls = .type "tuple") (hd : o.data = .seq xs n) (sz : xs.size ≤ sizeLine)
    (fin : ∀ g, s.heap.objs.size ≤ g.objs.size → (∀ b u, s.heap.get? b = some u → g.get? b = some u) → Q xs.toList { s with heap := g }) : wpAny (model prog w) A (collect (.ref t)) Q E s := by
  obtain ⟨g0, eg0⟩ : ∃ g0, s.heap.push { cls := .type "list", data := .seq ([] : List Value).toArray } = g0 := ⟨_, rfl⟩
  have n0 : g0.get? s.heap.objs.size = some { cls := .type "list", data := .seq #[] 0 } := by
    rw [← eg0]
    exact Heap.get?_push_size _ rfl
  have z0 : g0.objs.size = s.heap.objs.size + 1 := by
    rw [← eg0]
    exact Heap.size_push ..
  have k0 : ∀ b u, s.heap.get? b = some u → g0.get? b = some u := fun b u e => by
    rw [← eg0]
    exact Heap.get?_push_of_some _ e
  have n1 := Heap.get?_update_self (Obj.mapSeq (· ++ xs)) n0 rfl
  have last : ∀ s' : Shared, s' = { s with heap := g0.update s.heap.objs.size (Obj.mapSeq (· ++ xs)) } → wpAny (model prog w) A (match Value.ref s.heap.objs.size with
      | Value.ref a => do
        match (← load a).data with
          | Data.seq ys _ => pure ys.toList
          | _ => unsupported "internal:collect"
      | _ => unsupported "internal:collect") Q E s' := fun s' es => by
    rw [es]
    refine wpAny_bind (m := load s.heap.objs.size) (wpAny_load n1 (wpAny_pure ?_))
    show Q ((#[] : Array Value) ++ xs).toList _
    rw [show ((#[] : Array Value) ++ xs).toList = xs.toList by simp]
    refine fin _ (by rw [Heap.size_update, z0]; omega) fun b u e => ?_
    exact (Heap.get?_update_other _ _ (Nat.ne_of_gt (Heap.lt_size e))).trans (k0 b u e)
  unfold collect
  refine wpAny_bind (wpAny_runValue (codeAny_builtin (b := _) F.entry_proto_collect ?_))
  rw [Around.under_plainId (F.plain_proto_collect) _]
  show wpAny _ A.in1 (newList [] >>= fun l => again (.builtin "list.__iadd__" ⟨[l, .ref t], []⟩)) _ _ s
  refine wpAny_bind (wpAny_newObj_type (wpAny_pure ⟨plainId_quiet (F.plain_list_iadd) _, codeAny_builtin (b := _) F.entry_list_iadd ?_⟩))
  rw [Around.under_plainId (F.plain_list_iadd) _, eg0]
  show wpAny _ A.in1 (Builtin.List.listExtendWith (Value.ref s.heap.objs.size) (.ref t) (.ref s.heap.objs.size)) _ _ _
  refine wpAny_mono (wpAny_extend_seq (hsz := sz) (A := A) (R := fun r s' => r = .ok (.ret (.ref s.heap.objs.size)) ∧ s' = { s with heap := g0.update s.heap.objs.size (Obj.mapSeq (· ++ xs)) }) (s := { s with heap := g0 }) _ t _ 0 (.inr rfl) n0 (k0 _ _ ho) hc hd ⟨rfl, rfl⟩) (fun f s' h => ?_) (fun e s' h => absurd h.1 (by simp))
  cases f with
  | done f =>
    obtain ⟨e, h2⟩ := h
    cases e
    exact last s' h2
  | again c => exact ⟨h.1, codeAny_mono h.2 fun r s2 hr => by obtain ⟨rfl, h2⟩ := hr; exact last s2 h2⟩
theorem sortedTup {l : Addr} {vs : List Value} {k : Value → Int × Int} {Q : Value → Shared → Prop} (isT : IsTup s.heap l vs.toArray) (sz : vs.length ≤ sizeLine) (prs : ∀ v ∈ vs, Srt.IsPair s.heap v (k v).1 (k v).2)
    (fin : ∀ (h' : Heap) (d : Addr) (out : List Value), SrtO.Srtd (fun v u => SrtO.lexB (k v) (k u)) out → out.Perm vs → (∀ b o, s.heap.get? b = some o → h'.get? b = some o) → s.heap.objs.size ≤ d → (∃ n, h'.get? d = some (seqObj "list" out.toArray n)) → Q (.ref d) { s with heap := h' }) :
    wpAny (model prog w) A (call (.builtin "sorted") [.ref l]) Q E s := by
  refine Calls.call_function_entry kind_sorted (plain_sorted) entry_sorted (args_sorted1 _) ?_
  unfold Builtin.«sorted»
  refine wpAny_bind (m := checkCount "sorted" 1 1 _) (wpAny_pure (wpAny_bind ?_))
  obtain ⟨o, ho, hc, n, hd⟩ := isT
  refine collectT ho hc hd (by rw [List.size_toArray]; exact sz) (fun h1 big k1 => ?_)
  rw [List.toList_toArray]
  refine wpAny_bind (wpAny_newList ?_ sz)
  have own : (h1.push (seqObj "list" vs.toArray 0)).get? h1.objs.size = some (seqObj "list" vs.toArray 0) := Heap.get?_push_size _ rfl
  have keep : ∀ b o, s.heap.get? b = some o → b ≠ h1.objs.size ∧ b < (h1.push (seqObj "list" vs.toArray 0)).objs.size ∧ (h1.push (seqObj "list" vs.toArray 0)).get? b = some o := fun b o e => by
    have lt : b < h1.objs.size := Heap.lt_size (k1 b o e)
    exact ⟨Nat.ne_of_lt lt, by rw [Heap.size_push]; exact Nat.lt_succ_of_lt lt, Heap.get?_push_of_some _ (k1 b o e)⟩
  show wpAny _ _ _ _ _ { s with heap := h1.push (seqObj "list" vs.toArray 0) }
  refine wpAny_bind (wpAny_holding (wpAny_call_entry slot_list_sort ⟨_, own, rfl⟩ entry_list_sort (SrtO.list_sort_ord (SrtO.swo_lex k) own sz (fun h2 => ?_) fun out hs hb => ⟨_, rfl, ?_⟩) (args_list_sort _)))
  · refine SrtO.pairs_sortableO (s := { s with heap := h1.push (seqObj "list" vs.toArray 0) }) (by omega) (fun v hm => (prs v hm).keeps fun b o e _ => (keep b o e).2.2) fun o' e' => ?_
    have z : some o' = some (seqObj "list" vs.toArray 0) := e'.symm.trans own
    cases z
    exact fun c => absurd (Value.type.inj c) (by decide)
  · refine wpAny_pure ⟨_, rfl, fin _ _ out hs hb.perm (fun b o e => ?_) big (sortedHeap_at own)⟩
    have z := keep b o e
    rw [sortedHeap_old z.1 z.2.1]
    exact z.2.2
end
def rSortTP (K : PySem.W.Frag) : List V → Hp → VK → Prop := fun vs H Q => ∃ (a : Addr) (us : List V) (ps : List (Int × Int)), vs = [V.ref a] ∧ SqT K H a us ∧ Ivs H us ps ∧
  ∀ H' p us' ps', Same H H' → H p = none → H' p = some (.lst us') → Ivs H' us' ps' → ps'.Pairwise leP → ps'.Perm ps → Q (.ref p) H'
theorem Ivs.mem1 {H : Hp} {vs : List V} {ps : List (Int × Int)} (h : Ivs H vs ps) {v : V} (hv : v ∈ vs) : ∃ a q, q ∈ ps ∧ v = .ref a ∧ H a = some (.tup [.int q.1, .int q.2]) := by
  obtain ⟨i, ei⟩ := List.getElem?_of_mem hv
  obtain ⟨a, x, y, e, ep, ea⟩ := h.get ei
  exact ⟨a, (x, y), List.mem_of_getElem? ep, e, ea⟩
noncomputable def pairAt (H : Hp) (v : V) : Int × Int := Classical.epsilon fun q => ∃ a, v = .ref a ∧ H a = some (.tup [.int q.1, .int q.2])
theorem pairAt_eq {H : Hp} {a : Addr} {x y : Int} (h : H a = some (.tup [.int x, .int y])) : pairAt H (.ref a) = (x, y) := by
  have e : ∃ q : Int × Int, ∃ b, V.ref a = .ref b ∧ H b = some (.tup [.int q.1, .int q.2]) := ⟨(x, y), a, rfl, h⟩
  obtain ⟨b, e1, e2⟩ := Classical.epsilon_spec e
  cases e1
  have e2 : H a = some (.tup [.int (pairAt H (.ref a)).1, .int (pairAt H (.ref a)).2]) := e2
  rw [h] at e2
  have z := Option.some.inj e2
  injection z with z
  injection z with z1 z2
  injection z2 with z2 _
  injection z1 with z1
  injection z2 with z2
  exact Prod.ext z1.symm z2.symm
theorem Ivs.pairAt {H : Hp} {vs : List V} {ps : List (Int × Int)} (h : Ivs H vs ps) : vs.map (pairAt H) = ps := by
  induction h with
  | nil => rfl
  | cons e _ ih => rw [List.map_cons, ih, pairAt_eq e]
theorem Ivs.perm1 {H : Hp} {xs ys : List V} (pm : ys.Perm xs) : ∀ {ps : List (Int × Int)}, Ivs H xs ps → ∃ ps', Ivs H ys ps' ∧ ps'.Perm ps := by
  induction pm with
  | nil =>
    intro ps h
    exact ⟨ps, h, .refl _⟩
  | cons x _ ih =>
    intro ps h
    cases h with
    | cons e h =>
      obtain ⟨ps', h', p'⟩ := ih h
      exact ⟨_ :: ps', .cons e h', p'.cons _⟩
  | swap x y l =>
    intro ps h
    cases h with
    | cons e h =>
      cases h with
      | cons e2 h => exact ⟨_, .cons e2 (.cons e h), .swap _ _ _⟩
  | trans _ _ ih1 ih2 =>
    intro ps h
    obtain ⟨p2, h2, q2⟩ := ih2 h
    obtain ⟨p1, h1, q1⟩ := ih1 h2
    exact ⟨p1, h1, q1.trans q2⟩
theorem cr_sortTP {X : Cx} : CallR X (.builtin "sorted") (rSortTP X.K) := by
  intro pins s σ H vs us0 Q I r h
  obtain ⟨a, us, ps, rfl, hs, iv, q⟩ := h
  obtain ⟨its, rv, isT, sz⟩ := I.tuple hs
  obtain ⟨u, rfl, ru⟩ := vals1 r
  obtain rfl : u = Value.ref a := ru
  obtain ⟨e1, e2⟩ := refs_back rv fun x m => by
    obtain ⟨t, q, _, e, _⟩ := iv.mem1 m
    exact ⟨t, e⟩
  refine sortedTup (k := fun u => pairAt H (backV u)) isT (by rw [← rv.length]; exact sz) (fun v hv => ?_) fun h' d out h1 pmo kp hd hn => ?_
  · obtain ⟨t, rfl⟩ := e2 v hv
    have hm : V.ref t ∈ us := by rw [e1]; exact List.mem_map.mpr ⟨_, hv, rfl⟩
    obtain ⟨t', pq, _, e, ht⟩ := iv.mem1 hm
    cases e
    obtain ⟨_, its2, r2, o, ho, hc, n, hd⟩ := I.hok _ _ ht
    obtain ⟨u1, u2, rfl, ri, rj⟩ := vals2 r2
    obtain ⟨t1, rfl⟩ := ri
    obtain ⟨t2, rfl⟩ := rj
    show Srt.IsPair _ _ (pairAt H (.ref t)).1 (pairAt H (.ref t)).2
    rw [pairAt_eq ht]
    exact ⟨t, o, t1, t2, n, rfl, ho, hc, hd⟩
  · have h3 : ∀ u ∈ out, ∃ a, u = Value.ref a := fun u hu => e2 u (pmo.mem_iff.mp hu)
    obtain ⟨n, hn⟩ := hn
    have pm : (out.map backV).Perm us := by
      rw [e1]
      exact pmo.map backV
    obtain ⟨qs, ivq, pmq⟩ := Ivs.perm1 pm iv
    have fr : H d = none := I.hok.fresh hd
    have s1 : Same H (upd H d (.lst (out.map backV))) := same_new fr
    have asc : qs.Pairwise leP := by
      rw [← ivq.pairAt]
      refine List.pairwise_map.mpr (List.pairwise_map.mpr (List.Pairwise.imp (fun {x y} z => ?_) h1))
      have z := SrtO.lexB_no.mp z
      unfold leP
      omega
    refine ⟨.ref d, upd H d (.lst (out.map backV)), I.laid (t' := s.toks) kp hd ⟨?_, out, n, vals_back h3, hn⟩, rfl, q _ d _ qs s1 fr upd_same (ivq.same s1) asc pmq⟩
    rw [pm.length_eq]
    exact sz

/-! ### sorted(d), d a dict whose keys are pairs of ints -/
section
variable {prog : Program} {w : World} {A : Around} {E : Value → Shared → Prop} {s : Shared}
theorem sortedRaw {P : Nat → Value → Prop} {OK : Heap → Prop} {T : String} {a d : Addr} {n : Nat} {k : Value → Int × Int} {Q : Value → Shared → Prop} (K : PySem.W.KdlSrc prog w T a d n P OK) (hh : A.handled = none) (hok : OK s.heap) (hn : n ≤ sizeLine)
    (prs : ∀ i v, P i v → Srt.IsPair s.heap v (k v).1 (k v).2)
    (fin : ∀ (h1 h' : Heap) (tk : Nat) (d : Addr) (acc out : List Value), acc.length = n → (∀ j v, acc[j]? = some v → P j v) → SrtO.Srtd (fun v u => SrtO.lexB (k v) (k u)) out → out.Perm acc → (∀ b o, s.heap.get? b = some o → h1.get? b = some o) → (∀ b o, h1.get? b = some o → h'.get? b = some o) → h1.objs.size ≤ d → (∃ n, h'.get? d = some (seqObj "list" out.toArray n)) → Q (.ref d) { s with heap := h', toks := tk }) :
    wpAny (model prog w) A (call (.builtin "sorted") [.ref a]) Q E s := by
  refine Calls.call_function_entry kind_sorted (plain_sorted) entry_sorted (args_sorted1 _) ?_
  unfold Builtin.«sorted»
  refine wpAny_bind (m := checkCount "sorted" 1 1 _) (wpAny_pure (wpAny_bind ?_))
  refine PySem.W.kdu_collect (A := A.in1) K hh hok hn fun h1 tk acc k1 hacc => ?_
  have al : acc.toList.length = n := by rw [Array.length_toList, hacc.1]
  have ap : ∀ j v, acc.toList[j]? = some v → P j v := fun j v e => hacc.2 j v (by rw [← Array.getElem?_toList]; exact e)
  generalize acc.toList = vs at *
  refine wpAny_bind (wpAny_newList ?_ (by omega))
  have own : (h1.push (seqObj "list" vs.toArray 0)).get? h1.objs.size = some (seqObj "list" vs.toArray 0) := Heap.get?_push_size _ rfl
  have keep : ∀ b o, h1.get? b = some o → b ≠ h1.objs.size ∧ b < (h1.push (seqObj "list" vs.toArray 0)).objs.size ∧ (h1.push (seqObj "list" vs.toArray 0)).get? b = some o := fun b o e => by
    have lt : b < h1.objs.size := Heap.lt_size e
    exact ⟨Nat.ne_of_lt lt, by rw [Heap.size_push]; exact Nat.lt_succ_of_lt lt, Heap.get?_push_of_some _ e⟩
  show wpAny _ _ _ _ _ { s with heap := h1.push (seqObj "list" vs.toArray 0), toks := tk }
  refine wpAny_bind (wpAny_holding (wpAny_call_entry slot_list_sort ⟨_, own, rfl⟩ entry_list_sort (SrtO.list_sort_ord (SrtO.swo_lex k) own (by omega) (fun h2 => ?_) fun out hs hb => ⟨_, rfl, ?_⟩) (args_list_sort _)))
  · refine SrtO.pairs_sortableO (s := { s with heap := h1.push (seqObj "list" vs.toArray 0), toks := tk }) (by omega) (fun v hm => ?_) fun o' e' => ?_
    · obtain ⟨j, ej⟩ := List.getElem?_of_mem hm
      exact (prs j v (ap j v ej)).keeps fun b o e _ => (keep b o (k1 b o e)).2.2
    · have z : some o' = some (seqObj "list" vs.toArray 0) := e'.symm.trans own
      cases z
      exact fun c => absurd (Value.type.inj c) (by decide)
  · refine wpAny_pure ⟨_, rfl, fin h1 _ _ _ vs out al ap hs hb.perm k1 (fun b o e => ?_) (Nat.le_refl _) (sortedHeap_at own)⟩
    have z := keep b o e
    rw [sortedHeap_old z.1 z.2.1]
    exact z.2.2
end
/-- a pair as a key -/
def kP (q : Int × Int) : List Key := [Sum.inl q.1, Sum.inl q.2]
theorem kP_inj {a b : Int × Int} (h : kP a = kP b) : a = b := by
  injection h with h1 h2
  injection h2 with h2 _
  injection h1 with h1
  injection h2 with h2
  exact Prod.ext h1 h2
def rSortDT : List V → Hp → VK → Prop := fun vs H Q => ∃ (a : Addr) (kvs : List (List Key × V)) (ps : List (Int × Int)), vs = [V.ref a] ∧ Rd H a (.dT kvs) ∧ kvs.map (·.1) = ps.map kP ∧
  ∀ H' p us' ps', Same H H' → H p = none → H' p = some (.lst us') → Ivs H' us' ps' → ps'.Pairwise leP → ps'.Perm ps → Q (.ref p) H'
theorem ivs_keys {H : Hp} : ∀ {kvs : List (List Key × V)} {xs : List (List Key × Addr × Value)} {ps : List (Int × Int)}, KT H kvs xs → kvs.map (·.1) = ps.map kP → Ivs H (xs.map fun x => V.ref x.2.1) ps := by
  intro kvs xs ps r
  unfold KT at r
  induction r generalizing ps with
  | nil =>
    intro e
    cases ps with
    | nil => exact .nil
    | cons q ps => cases e
  | @cons p q ks qs h t ih =>
    intro e
    cases ps with
    | nil => cases e
    | cons z ps =>
      rw [List.map_cons, List.map_cons] at e
      injection e with e1 e2
      rw [List.map_cons]
      have hh := h.2.1
      rw [e1] at hh
      exact .cons hh (ih e2)
theorem cr_sortDT {X : Cx} (hc : X.calm = true) : CallR X (.builtin "sorted") rSortDT := by
  intro pins s σ H vs us0 Q I r h
  obtain ⟨a, kvs, ps, rfl, hd, ek, q⟩ := h
  obtain ⟨u, rfl, ru⟩ := vals1 r
  obtain rfl : u = Value.ref a := ru
  obtain ⟨z, hs, ks, pr, o, es, ep, ho, hx, hdt, he, hn⟩ := (show ObjOk X.prog X.w H s.heap a (.dT kvs) from hd.ok I.hok)
  have l1 : es.size = ks.length := size_of_entries he
  have l2 : kvs.length = ks.length := Paired.length pr
  have iv := ivs_keys pr ek
  have item : ∀ i v, (∃ en : DictEntry, es[i]? = some en ∧ v = en.key) → ∃ x : List Key × Addr × Value, ks[i]? = some x ∧ v = Value.ref x.2.1 := fun i v hv => by
    obtain ⟨en, hen, hv⟩ := hv
    have qe := entry_at he i
    rw [hen] at qe
    cases hb : ks[i]? with
    | none =>
      rw [hb] at qe
      exact nomatch (show some en = none from qe)
    | some b =>
      rw [hb] at qe
      have e2 : en = entryOfKey (tupleKind (mixKind X.prog X.w)) b := Option.some.inj qe
      exact ⟨b, hb, by rw [hv, e2]; rfl⟩
  refine sortedRaw (k := fun u => pairAt H (backV u)) (kdl_raw hs hx hdt) (I.ok.hd hc) ho (by omega) (fun i v hv => ?_) fun g1 h' tk d acc out al ap h1 pmo kp1 kp hd' hn' => ?_
  · obtain ⟨x, ex, rfl⟩ := item i v hv
    obtain ⟨t, p1, p2, et, ep', ht⟩ := iv.get (by rw [List.getElem?_map, ex]; rfl : (ks.map fun x => V.ref x.2.1)[i]? = some (V.ref x.2.1))
    cases et
    obtain ⟨_, its2, r2, o2, ho2, hc2, n2, hd2⟩ := I.hok _ _ ht
    obtain ⟨u1, u2, rfl, ri, rj⟩ := vals2 r2
    obtain ⟨t1, rfl⟩ := ri
    obtain ⟨t2, rfl⟩ := rj
    show Srt.IsPair _ _ (pairAt H (.ref x.2.1)).1 (pairAt H (.ref x.2.1)).2
    rw [pairAt_eq ht]
    exact ⟨x.2.1, o2, t1, t2, n2, rfl, ho2, hc2, hd2⟩
  · have ea : acc = (ks.map fun x => V.ref x.2.1).map fun v => match v with | .ref a => Value.ref a | _ => Value.none := by
      apply List.ext_getElem?
      intro j
      rw [List.map_map, List.getElem?_map]
      cases hj : acc[j]? with
      | none =>
        have h1 := List.getElem?_eq_none_iff.mp hj
        rw [List.getElem?_eq_none (by omega)]
        rfl
      | some v =>
        obtain ⟨x, ex, rfl⟩ := item j v (ap j v hj)
        rw [ex]
        rfl
    have h3a : ∀ u ∈ acc, ∃ a, u = Value.ref a := fun u hu => by
      obtain ⟨j, ej⟩ := List.getElem?_of_mem hu
      obtain ⟨x, _, e⟩ := item j u (ap j u ej)
      exact ⟨_, e⟩
    have h3 : ∀ u ∈ out, ∃ a, u = Value.ref a := fun u hu => h3a u (pmo.mem_iff.mp hu)
    have eb : acc.map backV = ks.map fun x => V.ref x.2.1 := by
      rw [ea, List.map_map, List.map_map]
      rfl
    obtain ⟨n, hn'⟩ := hn'
    have pm : (out.map backV).Perm (ks.map fun x => V.ref x.2.1) := by
      rw [← eb]
      exact pmo.map backV
    obtain ⟨qs, ivq, pmq⟩ := Ivs.perm1 pm iv
    have I1 : Inv X pins σ H { s with heap := g1, toks := tk } := I.kept kp1
    have fr : H d = none := I1.hok.fresh hd'
    have s1 : Same H (upd H d (.lst (out.map backV))) := same_new fr
    have asc : qs.Pairwise leP := by
      rw [← ivq.pairAt]
      refine List.pairwise_map.mpr (List.pairwise_map.mpr (List.Pairwise.imp (fun {x y} z => ?_) h1))
      have z := SrtO.lexB_no.mp z
      unfold leP
      omega
    refine ⟨.ref d, upd H d (.lst (out.map backV)), I1.laid (t' := tk) kp hd' ⟨?_, out, n, vals_back h3, hn'⟩, rfl, q _ d _ qs s1 fr upd_same (ivq.same s1) asc pmq⟩
    rw [List.length_map, pmo.length_eq, al]
    omega

/-! ### comprehensions over a range that change nothing but make new objects -/
theorem lcR {lo : Int} {n : Nat} {g : TG} {tt : TT} {te : TE} {vs : List Nat} {σ : L2.St} {H1 : Hp} {D : Addr} {Qd : Hp → Prop} (R : Nat → Hp → List V → Prop) (nD : H1 D = none) (few : n < 1000)
    (mono : ∀ i H' H'' ws, Tps H' H'' → R i H' ws → R i H'' ws) (len : ∀ i H' ws, R i H' ws → ws.length ≤ i) (r0 : ∀ H', R 0 H' [])
    (hs : ∀ i H' (N : Hp → Prop) acc, i < n → Same H1 H' → H' D = some (.lst acc) → acc.length < sizeLine → R i H' acc → (∀ H'', Same H' H'' → R (i + 1) H'' acc → N H'') → (∀ H'' y, Same H' H'' → R (i + 1) H'' (acc ++ [y]) → ∃ acc', H'' D = some (.lst acc') ∧ acc'.length < sizeLine ∧ N (upd H'' D (.lst (acc' ++ [y])))) →
      g (.int (lo + i)) (wipe σ vs) H' fun σ2 H2 => wipe σ2 vs = wipe σ vs ∧ tt σ2 H2 fun b H3 => if b = true then te σ2 H3 fun y H4 => ∃ acc, H4 D = some (.lst acc) ∧ acc.length < sizeLine ∧ N (upd H4 D (.lst (acc ++ [y]))) else N H3)
    (hd : ∀ H' ws, Same H1 H' → H' D = some (.lst ws) → R n H' ws → Qd H') :
    ∃ W : Nat → Nat → Hp → Prop, (∃ m, W 0 m (upd H1 D (.lst []))) ∧ ∀ i m H, W i m H →
      ((Itr lo n).stop i H ∧ Qd H) ∨ ((Itr lo n).go i H ∧ ∃ Nx : Hp → Prop, (∀ H', Nx H' → ∃ m', m' < m ∧ W (i + 1) m' H') ∧ ∀ x H', (Itr lo n).yld i H x H' → g x (wipe σ vs) H' fun σ2 H2 => wipe σ2 vs = wipe σ vs ∧ tt σ2 H2 fun b H3 =>
        if b = true then te σ2 H3 fun y H4 => ∃ acc, H4 D = some (.lst acc) ∧ acc.length < sizeLine ∧ Nx (upd H4 D (.lst (acc ++ [y]))) else Nx H3) := by
  refine lc_range (lo := lo) (n := n) (fun i H' => Same H1 H' ∧ ∃ ws, H' D = some (.lst ws) ∧ R i H' ws) ⟨same_new nD, [], upd_same, r0 _⟩ ?_ ?_
  · rintro i H' hi ⟨sm, ws, eD, r⟩
    have lw := len i H' ws r
    have sz : ws.length < sizeLine := few_line (by omega)
    refine hs i H' _ ws hi sm eD sz r (fun H'' s r2 => ⟨sm.trans s, ws, s _ _ eD, r2⟩) (fun H'' y s r2 => ?_)
    exact ⟨ws, s _ _ eD, sz, same_off nD (sm.trans s), _, upd_same, mono _ _ _ _ (Tps.lst (s _ _ eD)) r2⟩
  · rintro H' ⟨sm, ws, eD, r⟩
    exact hd H' ws sm eD r

/-! ### more of tuples: t == (), and one pair > another -/
section
variable {X : Cx}
def rEqE (K : PySem.W.Frag) : R2 := fun x y H Q => ∃ (a b : Addr) (xs : List V), x = .ref a ∧ y = .ref b ∧ SqT K H a xs ∧ SqT K H b [] ∧ Q (.bl xs.isEmpty) H
theorem op_eqE (units : X.A.units < cLine) : OpR X (compareOp .Eq) (rEqE X.K) := by
  intro pins s σ H x y v u Q I rx ry h
  obtain ⟨a, b, xs, rfl, rfl, ha, hb, q⟩ := h
  cases rx
  cases ry
  obtain ⟨its, r1, p1, _⟩ := I.tuple ha
  obtain ⟨its2, r2, p2, _⟩ := I.tuple hb
  cases r2
  apply SeqAt.eq_tupleAt (e := fun _ => true) (show s.heap.IsTuple a its.toArray from p1) (show s.heap.IsTuple b ([] : List Value).toArray from p2) units
  · intro j h1 h2
    exact absurd h2 (Nat.not_lt_zero j)
  · refine ⟨.bl xs.isEmpty, H, I, ?_, q⟩
    cases r1 with
    | nil => rfl
    | cons r t => rfl
def gtP (p q : Int × Int) : Bool := decide (q.1 < p.1 ∨ (p.1 = q.1 ∧ q.2 < p.2))
def rGtP (K : PySem.W.Frag) : R2 := fun x y H Q => ∃ (a b : Addr) (p q : Int × Int), x = .ref a ∧ y = .ref b ∧ SqT K H a [.int p.1, .int p.2] ∧ SqT K H b [.int q.1, .int q.2] ∧ Q (.bl (gtP p q)) H
theorem op_gtP (units : X.A.units < cLine) : OpR X (compareOp .Gt) (rGtP X.K) := by
  intro pins s σ H x y v u Q I rx ry h
  obtain ⟨a, b, p, q, rfl, rfl, ha, hb, k⟩ := h
  cases rx
  cases ry
  obtain ⟨us, r1, p1, _⟩ := I.tuple ha
  obtain ⟨ws, r2, p2, _⟩ := I.tuple hb
  obtain ⟨x1, x2, rfl, ⟨t1, rfl⟩, ⟨t2, rfl⟩⟩ := vals2 r1
  obtain ⟨y1, y2, rfl, ⟨u1, rfl⟩, ⟨u2, rfl⟩⟩ := vals2 r2
  have R := Ob.RcOp.tuples_gt (A := X.A) (s := s) (l := a) (b := b) (e := fun j => if j = 0 then p.1 == q.1 else p.2 == q.2) (r := fun j => if j = 0 then decide (q.1 < p.1) else decide (q.2 < p.2)) p1 p2 units
    (fun j j1 j2 => by
      match j, j1, j2 with
      | 0, _, _ => exact SeqAt.EqAt.int_int _ _ _ _
      | 1, _, _ => exact SeqAt.EqAt.int_int _ _ _ _)
    (fun j j1 j2 _ => by
      match j, j1, j2 with
      | 0, _, _ => exact Ob.RcOp.gt_int _ _ _ _
      | 1, _, _ => exact Ob.RcOp.gt_int _ _ _ _)
  have e : Ob.lexAt (fun j => if j = 0 then p.1 == q.1 else p.2 == q.2) (fun j => if j = 0 then decide (q.1 < p.1) else decide (q.2 < p.2)) (decide ((#[Value.int p.1 t1, Value.int p.2 t2]).size > (#[Value.int q.1 u1, Value.int q.2 u2]).size)) 0 (min (#[Value.int p.1 t1, Value.int p.2 t2]).size (#[Value.int q.1 u1, Value.int q.2 u2]).size) = gtP p q := by
    show (if (p.1 == q.1) = true then (if (p.2 == q.2) = true then false else decide (q.2 < p.2)) else decide (q.1 < p.1)) = _
    unfold gtP
    by_cases c : p.1 = q.1
    · rw [if_pos (beq_iff_eq.mpr c)]
      by_cases c2 : p.2 = q.2
      · rw [if_pos (beq_iff_eq.mpr c2)]
        exact (decide_eq_false (by omega)).symm
      · rw [if_neg (fun h => c2 (beq_iff_eq.mp h))]
        exact decide_eq_decide.mpr (by omega)
    · rw [if_neg (fun h => c (beq_iff_eq.mp h))]
      exact decide_eq_decide.mpr (by omega)
  rw [e] at R
  exact R X.prog X.w X.xe (EP X pins σ Q) ⟨.bl _, H, I, rfl, k⟩
end

/-! ### the number needed depends on the members alone -/
theorem need_le_of {ts ps ts' ps' : List (Int × Int)} (g : Good (ts ++ ps)) (g' : Good (ts' ++ ps')) (h1 : ∀ t ∈ ts, t ∈ ts') (h2 : ∀ p ∈ ps', p ∈ ps) : needO ts ps ≤ needO ts' ps' := by
  obtain ⟨⟨D, d1, d2, d3⟩, _⟩ := need_ok g
  obtain ⟨_, S, s1, s2, _⟩ := need_ok g'
  have c : Com ts ps S := fun t ht p k1 k2 => by
    obtain ⟨q, hq, k⟩ := s2 t (h1 t ht) p k1 k2
    rcases List.mem_append.mp hq with hq | hq
    · exact ⟨q, List.mem_append_left _ (h2 q hq), k⟩
    · exact ⟨q, List.mem_append_right _ hq, k⟩
  have := weak_dual c d1 d2
  omega
theorem need_mem {ts ps ts' ps' : List (Int × Int)} (g : Good (ts ++ ps)) (h1 : ∀ t, t ∈ ts ↔ t ∈ ts') (h2 : ∀ p, p ∈ ps ↔ p ∈ ps') : needO ts ps = needO ts' ps' := by
  have g' : Good (ts' ++ ps') := fun q hq => g q (by
    rcases List.mem_append.mp hq with hq | hq
    · exact List.mem_append_left _ ((h1 q).mpr hq)
    · exact List.mem_append_right _ ((h2 q).mpr hq))
  exact Nat.le_antisymm (need_le_of g g' (fun t => (h1 t).mp) (fun p => (h2 p).mpr)) (need_le_of g' g (fun t => (h1 t).mpr) (fun p => (h2 p).mp))
theorem good0 {ts : List (Int × Int)} (g : Good ts) : Good (ts ++ []) := by
  rw [List.append_nil]
  exact g

/-! ### one further interval -/
def helpB (ts ps : List (Int × Int)) (q : Int × Int) : Bool := decide (((needO ts (ps ++ [q]) : Nat) : Int) < ((needO ts ps : Nat) : Int))
theorem good_left {ts ps : List (Int × Int)} {q : Int × Int} (g : Good (ts ++ (ps ++ [q]))) : Good (ts ++ ps) := fun r hr => g r (by
  rcases List.mem_append.mp hr with hr | hr
  · exact List.mem_append_left _ hr
  · exact List.mem_append_right _ (List.mem_append_left _ hr))
theorem com_mono {ts ps S qs T : List (Int × Int)} (c : Com ts ps S) (h : ∀ q, q ∈ ps ++ S → q ∈ qs ++ T) : Com ts qs T := fun t ht p h1 h2 => by
  obtain ⟨q, hq, k⟩ := c t ht p h1 h2
  exact ⟨q, h q hq, k⟩
theorem need_add {ts ps : List (Int × Int)} {z : Int × Int} (g : Good (ts ++ (ps ++ [z]))) : needO ts (ps ++ [z]) ≤ needO ts ps ∧ needO ts ps ≤ needO ts (ps ++ [z]) + 1 := by
  obtain ⟨⟨D, d1, d2, d3⟩, S, s1, s2, _⟩ := need_ok (good_left g)
  obtain ⟨⟨D', e1, e2, e3⟩, S', t1, t2, _⟩ := need_ok g
  constructor
  · have := weak_dual (com_mono (qs := ps ++ [z]) (T := S) s2 (fun q hq => by
      rcases List.mem_append.mp hq with hq | hq
      · exact List.mem_append_left _ (List.mem_append_left _ hq)
      · exact List.mem_append_right _ hq)) e1 e2
    omega
  · have := weak_dual (com_mono (qs := ps) (T := z :: S') t2 (fun q hq => by
      rcases List.mem_append.mp hq with hq | hq
      · rcases List.mem_append.mp hq with hq | hq
        · exact List.mem_append_left _ hq
        · rw [List.mem_singleton.mp hq]
          exact List.mem_append_right _ List.mem_cons_self
      · exact List.mem_append_right _ (List.mem_cons_of_mem _ hq))) d1 d2
    rw [List.length_cons] at this
    omega
theorem need_zero {ts ps : List (Int × Int)} (g : Good (ts ++ ps)) (h : needO ts ps = 0) : Com ts ps [] := by
  obtain ⟨_, S, s1, s2, _⟩ := need_ok g
  rw [h] at s1
  rw [List.length_eq_zero_iff.mp (Nat.le_zero.mp s1)] at s2
  exact s2
theorem need_of_com {ts ps : List (Int × Int)} (g : Good (ts ++ ps)) {S : List (Int × Int)} (h : Com ts ps S) : needO ts ps ≤ S.length := by
  obtain ⟨⟨D, d1, d2, d3⟩, _⟩ := need_ok g
  have := weak_dual h d1 d2
  omega
theorem com_self (ts ps : List (Int × Int)) : Com ts ps ts := fun t ht p h1 h2 => ⟨t, List.mem_append_right _ ht, Int.le_refl _, h1, h2, Int.le_refl _⟩
theorem need_help {ts ps : List (Int × Int)} {w : Int} (g : Good (ts ++ ps)) (ht : ∀ q ∈ ts, 0 ≤ q.1 ∧ q.1 ≤ q.2 ∧ q.2 < w) (h : 0 < needO ts ps) : ∃ z : Int × Int, (0 ≤ z.1 ∧ z.1 ≤ z.2 ∧ z.2 < w) ∧ helpB ts ps z = true := by
  obtain ⟨⟨D, d1, d2, d3⟩, S, s1, s2, s3⟩ := need_ok g
  cases S with
  | nil =>
    have := weak_dual s2 d1 d2
    simp at this
    rw [this] at d3
    simp at d3
    omega
  | cons z S =>
    obtain ⟨t, mt, a1, a2, a3⟩ := s3 z List.mem_cons_self
    have ot := ht t mt
    have oz : 0 ≤ z.1 ∧ z.1 ≤ z.2 ∧ z.2 < w := by omega
    have g2 : Good (ts ++ (ps ++ [z])) := fun q hq => by
      rcases List.mem_append.mp hq with hq | hq
      · exact g q (List.mem_append_left _ hq)
      · rcases List.mem_append.mp hq with hq | hq
        · exact g q (List.mem_append_right _ hq)
        · rw [List.mem_singleton.mp hq]
          exact ⟨oz.1, oz.2.1⟩
    have := need_of_com g2 (S := S) (com_mono s2 (fun q hq => by
      rcases List.mem_append.mp hq with hq | hq
      · exact List.mem_append_left _ (List.mem_append_left _ hq)
      · rcases List.mem_cons.mp hq with rfl | hq
        · exact List.mem_append_left _ (List.mem_append_right _ (List.mem_singleton.mpr rfl))
        · exact List.mem_append_right _ hq))
    rw [List.length_cons] at s1
    exact ⟨z, oz, decide_eq_true (by omega)⟩

theorem fewk_str {row : List (Int × Int)} {w f s : Int} (h : ∀ q ∈ row, 0 ≤ q.1 ∧ q.1 ≤ q.2 ∧ q.2 < w) (hw : w ≤ 60) (l : row.length ≤ 60) : FewK (row.map (strI f s)) := by
  refine .inr ⟨by rw [List.length_map]; exact l, (List.range (w.toNat + 1)).map fun k : Nat => (k : Int) * f + s, by rw [List.length_map, List.length_range]; omega, fun q hq => ?_⟩
  obtain ⟨p, hp, rfl⟩ := List.mem_map.mp hq
  have o := h p hp
  constructor
  · refine List.mem_map.mpr ⟨p.1.toNat, List.mem_range.mpr (by omega), ?_⟩
    show ((p.1.toNat : Nat) : Int) * f + s = p.1 * f + s
    rw [Int.toNat_of_nonneg o.1]
  · refine List.mem_map.mpr ⟨(p.2 + 1).toNat, List.mem_range.mpr (by omega), ?_⟩
    show (((p.2 + 1).toNat : Nat) : Int) * f + s = p.2 * f + f - 1 + s + 1
    rw [Int.toNat_of_nonneg (by omega), Int.add_mul]
    omega
theorem fewk_in {row : List (Int × Int)} {w : Int} (h : ∀ q ∈ row, 0 ≤ q.1 ∧ q.1 ≤ q.2 ∧ q.2 < w) (hw : w ≤ 60) (l : row.length ≤ 60) : FewK row := by
  have := fewk_str (f := 1) (s := 0) h hw l
  rw [show row.map (strI 1 0) = row by
    conv => rhs; rw [← List.map_id row]
    refine List.map_congr_left fun q _ => ?_
    show (q.1 * 1 + 0, q.2 * 1 + 1 - 1 + 0) = q
    exact Prod.ext (by show q.1 * 1 + 0 = q.1; omega) (by show q.2 * 1 + 1 - 1 + 0 = q.2; omega)] at this
  exact this

theorem any_pair (x y : Int) : ∀ ps : List (Int × Int), ((ps.map pairD).any fun z => PyData.eqv z (.tuple [.int x, .int y])) = decide ((x, y) ∈ ps)
  | [] => rfl
  | q :: ps => by
    rw [List.map_cons, List.any_cons, any_pair x y ps]
    show (PyData.eqv (.tuple [.int q.1, .int q.2]) (.tuple [.int x, .int y]) || _) = _
    rw [eqv_pair, Bool.eq_iff_iff, Bool.or_eq_true, decide_eq_true_iff, decide_eq_true_iff, decide_eq_true_iff, List.mem_cons]
    exact ⟨fun h => h.imp (fun z => z.symm) id, fun h => h.imp (fun z => z.symm) id⟩

/-! ### what a block is; blocks under changes of the row -/
structure IsBlk (row : List (Int × Int)) (b : Int × Int) : Prop where
  dep : ∃ q ∈ row, q.1 ≤ b.1 ∧ b.1 ≤ q.2
  le : b.1 ≤ b.2
  lo : Bd row b.1
  hi : Bd row (b.2 + 1)
  gap : ∀ k, b.1 < k → k ≤ b.2 → ¬ Bd row k
theorem bl_one {row : List (Int × Int)} {N : Nat} {l : List (Int × Int)} (B : Bl row N l) {p q : Int × Int} (hp : p ∈ l) (hq : q ∈ l) {x : Int} (p1 : p.1 ≤ x) (p2 : x ≤ p.2) (q1 : q.1 ≤ x) (q2 : x ≤ q.2) : p = q := by
  obtain ⟨i, ei⟩ := List.getElem?_of_mem hp
  obtain ⟨j, ej⟩ := List.getElem?_of_mem hq
  rcases Nat.lt_trichotomy i j with h | h | h
  · have := B.idx h ei ej
    omega
  · subst h
    rw [ei] at ej
    cases ej
    rfl
  · have := B.idx h ej ei
    omega
theorem blk_of {row : List (Int × Int)} (g : Good row) {b : Int × Int} (h : b ∈ blocksOf row) : IsBlk row b := by
  have B := blocks_bl g
  have ok := B.ok b h
  have st : b.1 ∈ ((List.range (topN row)).filter (stB row)).map (fun n : Nat => (n : Int)) := by
    rw [← B.fst]
    exact List.mem_map.mpr ⟨b, h, rfl⟩
  obtain ⟨n, hn, en⟩ := List.mem_map.mp st
  have z := Bool.and_eq_true_iff.mp (List.mem_filter.mp hn).2
  have z1 := of_decide_eq_true z.1
  have z2 := of_decide_eq_true z.2
  rw [en] at z1 z2
  have gap : ∀ k, b.1 < k → k ≤ b.2 → ¬ Bd row k := fun k k1 k2 => B.inner h k1 k2
  refine ⟨dep_pos.mp z1, ok.2.1, z2, ?_, gap⟩
  refine Decidable.byContradiction fun nb => ?_
  have d2 : 0 < depI row b.2 := by
    have := (B.cov b.2.toNat (by omega)).mpr ⟨b, h, by omega, by omega⟩
    rw [show ((b.2.toNat : Nat) : Int) = b.2 by omega] at this
    exact this
  have e := dep_step g (b.2 + 1)
  rw [del_zero nb, show b.2 + 1 - 1 = b.2 by omega] at e
  obtain ⟨q, hq, q1, q2⟩ := dep_in g (pos := b.2 + 1) (by omega)
  have ne : q.1 ≠ b.2 + 1 := by
    intro z
    have st : q.1 ∈ ((List.range (topN row)).filter (stB row)).map (fun n : Nat => (n : Int)) := by
      rw [← B.fst]
      exact List.mem_map.mpr ⟨q, hq, rfl⟩
    obtain ⟨n, hn, en⟩ := List.mem_map.mp st
    have z2 := of_decide_eq_true (Bool.and_eq_true_iff.mp (List.mem_filter.mp hn).2).2
    rw [en, z] at z2
    exact nb z2
  have := bl_one B hq h (x := b.2) (by omega) (by omega) (by omega) (by omega)
  rw [this] at q2
  omega
theorem blk_mem {row : List (Int × Int)} (g : Good row) {b : Int × Int} (h : IsBlk row b) : b ∈ blocksOf row := by
  have B := blocks_bl g
  obtain ⟨q, hq, q1, q2⟩ := dep_in g (dep_pos.mpr h.dep)
  have k := blk_of g hq
  have e1 : q.1 = b.1 := by
    rcases Int.lt_or_eq_of_le q1 with z | z
    · exact absurd h.lo (k.gap b.1 z q2)
    · exact z
  have e2 : q.2 = b.2 := by
    have := h.le
    rcases Int.lt_trichotomy q.2 b.2 with z | z | z
    · exact absurd k.hi (h.gap (q.2 + 1) (by omega) (by omega))
    · exact z
    · exact absurd h.hi (k.gap (b.2 + 1) (by omega) (by omega))
  have : q = b := by
    obtain ⟨x, y⟩ := q
    obtain ⟨u, v⟩ := b
    cases e1
    cases e2
    rfl
  rw [← this]
  exact hq
theorem blk_iff {row : List (Int × Int)} (g : Good row) {b : Int × Int} : b ∈ blocksOf row ↔ IsBlk row b := ⟨blk_of g, blk_mem g⟩
theorem asc_uniq : ∀ {l m : List (Int × Int)}, l.Pairwise (fun a b => a.1 < b.1) → m.Pairwise (fun a b => a.1 < b.1) → (∀ x, x ∈ l ↔ x ∈ m) → l = m
  | [], [], _, _, _ => rfl
  | [], b :: m, _, _, h => nomatch (h b).mpr List.mem_cons_self
  | a :: l, [], _, _, h => nomatch (h a).mp List.mem_cons_self
  | a :: l, b :: m, h1, h2, h => by
    have p1 := List.pairwise_cons.mp h1
    have p2 := List.pairwise_cons.mp h2
    have ab : a = b := by
      rcases List.mem_cons.mp ((h a).mp List.mem_cons_self) with e | e
      · exact e
      · rcases List.mem_cons.mp ((h b).mpr List.mem_cons_self) with f | f
        · exact f.symm
        · have := p1.1 b f
          have := p2.1 a e
          omega
    subst ab
    congr 1
    refine asc_uniq p1.2 p2.2 fun x => ⟨fun hx => ?_, fun hx => ?_⟩
    · rcases List.mem_cons.mp ((h x).mp (List.mem_cons_of_mem _ hx)) with e | e
      · subst e
        have := p1.1 x hx
        omega
      · exact e
    · rcases List.mem_cons.mp ((h x).mpr (List.mem_cons_of_mem _ hx)) with e | e
      · subst e
        have := p2.1 x hx
        omega
      · exact e
theorem blk_asc {row : List (Int × Int)} (g : Good row) : (blocksOf row).Pairwise (fun a b => a.1 < b.1) :=
  (blocks_bl g).asc.imp_of_mem fun {a b} ha hb h => by
    have := (blk_of g ha).le
    omega
theorem blk_eq {r1 r2 : List (Int × Int)} (g1 : Good r1) (g2 : Good r2) (h : ∀ b, IsBlk r1 b ↔ IsBlk r2 b) : blocksOf r1 = blocksOf r2 :=
  asc_uniq (blk_asc g1) (blk_asc g2) fun x => by rw [blk_iff g1, blk_iff g2, h]
theorem bd_mem {r1 r2 : List (Int × Int)} (h : ∀ q, q ∈ r1 ↔ q ∈ r2) (k : Int) : Bd r1 k ↔ Bd r2 k :=
  ⟨fun ⟨q, hq, e⟩ => ⟨q, (h q).mp hq, e⟩, fun ⟨q, hq, e⟩ => ⟨q, (h q).mpr hq, e⟩⟩
theorem isBlk_mem {r1 r2 : List (Int × Int)} (h : ∀ q, q ∈ r1 ↔ q ∈ r2) {b : Int × Int} (k : IsBlk r1 b) : IsBlk r2 b := by
  obtain ⟨q, hq, e⟩ := k.dep
  exact ⟨⟨q, (h q).mp hq, e⟩, k.le, (bd_mem h _).mp k.lo, (bd_mem h _).mp k.hi, fun x x1 x2 z => k.gap x x1 x2 ((bd_mem h x).mpr z)⟩
/-- order and repetitions do not matter -/
theorem blocks_mem {r1 r2 : List (Int × Int)} (g1 : Good r1) (g2 : Good r2) (h : ∀ q, q ∈ r1 ↔ q ∈ r2) : blocksOf r1 = blocksOf r2 :=
  blk_eq g1 g2 fun _ => ⟨isBlk_mem h, isBlk_mem fun q => (h q).symm⟩
/-- one of the blocks as one more interval changes nothing -/
theorem blocks_own {row : List (Int × Int)} (g : Good row) {b : Int × Int} (hb : b ∈ blocksOf row) : blocksOf (row ++ [b]) = blocksOf row := by
  have k := blk_of g hb
  have b0 := ((blocks_bl g).ok b hb)
  have g2 : Good (row ++ [b]) := fun q hq => by
    rcases List.mem_append.mp hq with hq | hq
    · exact g q hq
    · rw [List.mem_singleton.mp hq]
      exact ⟨b0.1, b0.2.1⟩
  have bd : ∀ x, Bd (row ++ [b]) x ↔ Bd row x := fun x => by
    constructor
    · rintro ⟨q, hq, e⟩
      rcases List.mem_append.mp hq with hq | hq
      · exact ⟨q, hq, e⟩
      · rw [List.mem_singleton.mp hq] at e
        rcases e with e | e
        · rw [← e]
          exact k.lo
        · rw [← e]
          exact k.hi
    · rintro ⟨q, hq, e⟩
      exact ⟨q, List.mem_append_left _ hq, e⟩
  refine blk_eq g2 g fun c => ⟨fun h => ?_, fun h => ?_⟩
  · refine ⟨?_, h.le, (bd _).mp h.lo, (bd _).mp h.hi, fun x x1 x2 z => h.gap x x1 x2 ((bd x).mpr z)⟩
    obtain ⟨q, hq, e⟩ := h.dep
    rcases List.mem_append.mp hq with hq | hq
    · exact ⟨q, hq, e⟩
    · rw [List.mem_singleton.mp hq] at e
      have p : 0 < depI row c.1 := by
        have := ((blocks_bl g).cov c.1.toNat (by omega)).mpr ⟨b, hb, by omega, by omega⟩
        rw [show ((c.1.toNat : Nat) : Int) = c.1 by omega] at this
        exact this
      exact dep_pos.mp p
  · obtain ⟨q, hq, e⟩ := h.dep
    exact ⟨⟨q, List.mem_append_left _ hq, e⟩, h.le, (bd _).mpr h.lo, (bd _).mpr h.hi, fun x x1 x2 z => h.gap x x1 x2 ((bd x).mp z)⟩
/-- reflected -/
def refI (L : Int) (q : Int × Int) : Int × Int := (L - 1 - q.2, L - 1 - q.1)
theorem refI_refI (L : Int) (q : Int × Int) : refI L (refI L q) = q := by
  unfold refI
  ext
  · show L - 1 - (L - 1 - q.1) = q.1
    omega
  · show L - 1 - (L - 1 - q.2) = q.2
    omega
theorem bd_ref {L : Int} {row : List (Int × Int)} {k : Int} : Bd (row.map (refI L)) k ↔ Bd row (L - k) := by
  constructor
  · rintro ⟨q, hq, e⟩
    obtain ⟨r, hr, rfl⟩ := List.mem_map.mp hq
    rcases e with e | e
    · have e : L - 1 - r.2 = k := e
      exact ⟨r, hr, .inr (by omega)⟩
    · have e : L - 1 - r.1 + 1 = k := e
      exact ⟨r, hr, .inl (by omega)⟩
  · rintro ⟨r, hr, e⟩
    refine ⟨refI L r, List.mem_map.mpr ⟨r, hr, rfl⟩, ?_⟩
    rcases e with e | e
    · exact .inr (by show L - 1 - r.1 + 1 = k; omega)
    · exact .inl (by show L - 1 - r.2 = k; omega)
theorem good_ref {L : Int} {row : List (Int × Int)} (g : Good row) (h : ∀ q ∈ row, q.2 < L) : Good (row.map (refI L)) := fun q hq => by
  obtain ⟨r, hr, rfl⟩ := List.mem_map.mp hq
  have := g r hr
  have := h r hr
  exact ⟨by show 0 ≤ L - 1 - r.2; omega, by show L - 1 - r.2 ≤ L - 1 - r.1; omega⟩
theorem isBlk_ref {L : Int} {row : List (Int × Int)} (g : Good row) {b : Int × Int} (k : IsBlk row b) : IsBlk (row.map (refI L)) (refI L b) := by
  have kl := k.le
  refine ⟨?_, by show L - 1 - b.2 ≤ L - 1 - b.1; omega, bd_ref.mpr ?_, bd_ref.mpr ?_, fun x x1 x2 => ?_⟩
  · -- the last position is covered too
    have hb := blk_mem g k
    have ok := (blocks_bl g).ok b hb
    have d2 : 0 < depI row b.2 := by
      have := ((blocks_bl g).cov b.2.toNat (by omega)).mpr ⟨b, hb, by omega, by omega⟩
      rw [show ((b.2.toNat : Nat) : Int) = b.2 by omega] at this
      exact this
    obtain ⟨q, hq, e⟩ := dep_pos.mp d2
    exact ⟨refI L q, List.mem_map.mpr ⟨q, hq, rfl⟩, by show L - 1 - q.2 ≤ L - 1 - b.2; omega, by show L - 1 - b.2 ≤ L - 1 - q.1; omega⟩
  · show Bd row (L - (L - 1 - b.2))
    rw [show L - (L - 1 - b.2) = b.2 + 1 by omega]
    exact k.hi
  · show Bd row (L - (L - 1 - b.1 + 1))
    rw [show L - (L - 1 - b.1 + 1) = b.1 by omega]
    exact k.lo
  · have x1 : L - 1 - b.2 < x := x1
    have x2 : x ≤ L - 1 - b.1 := x2
    rw [bd_ref]
    exact k.gap (L - x) (by omega) (by omega)
theorem blocks_ref {L : Int} {row : List (Int × Int)} (g : Good row) (h : ∀ q ∈ row, q.2 < L) : blocksOf (row.map (refI L)) = ((blocksOf row).reverse).map (refI L) := by
  have g2 := good_ref g h
  refine asc_uniq (blk_asc g2) ?_ fun x => ?_
  · refine List.pairwise_map.mpr (List.pairwise_reverse.mpr ((blocks_bl g).asc.imp_of_mem fun {a b} ha hb ab => ?_))
    have := (blk_of g hb).le
    show L - 1 - b.2 < L - 1 - a.2
    omega
  · rw [blk_iff g2, List.mem_map]
    constructor
    · intro k
      have z := isBlk_ref (L := L) g2 k
      have e : (row.map (refI L)).map (refI L) = row := by
        rw [List.map_map]
        have : ∀ l : List (Int × Int), l.map (refI L ∘ refI L) = l := fun l => by
          induction l with
          | nil => rfl
          | cons q r ih =>
            rw [List.map_cons, ih]
            show refI L (refI L q) :: r = _
            rw [refI_refI]
        exact this row
      rw [e] at z
      exact ⟨refI L x, List.mem_reverse.mpr (blk_mem g z), refI_refI L x⟩
    · rintro ⟨b, hb, rfl⟩
      exact isBlk_ref g (blk_of g (List.mem_reverse.mp hb))
/-- with one more interval each block lies inside an old one or outside all -/
theorem blocks_more {row : List (Int × Int)} (g : Good row) {p : Int × Int} (gp : 0 ≤ p.1 ∧ p.1 ≤ p.2) {b c : Int × Int} (hb : b ∈ blocksOf (row ++ [p])) (hc : c ∈ blocksOf row) (m1 : c.1 ≤ b.2) (m2 : b.1 ≤ c.2) : c.1 ≤ b.1 ∧ b.2 ≤ c.2 := by
  have g2 : Good (row ++ [p]) := fun q hq => by
    rcases List.mem_append.mp hq with hq | hq
    · exact g q hq
    · rw [List.mem_singleton.mp hq]
      exact gp
  have k := blk_of g2 hb
  have z := blk_of g hc
  have up : ∀ x, Bd row x → Bd (row ++ [p]) x := fun x ⟨q, hq, e⟩ => ⟨q, List.mem_append_left _ hq, e⟩
  constructor
  · refine Int.not_lt.mp fun lt => k.gap c.1 lt m1 (up _ z.lo)
  · refine Int.not_lt.mp fun lt => k.gap (c.2 + 1) (by omega) (by omega) (up _ z.hi)

/-! ### sorted(list of pairs) -/
theorem Ivs.perm {H : Hp} {xs ys : List V} (pm : ys.Perm xs) : ∀ {ps : List (Int × Int)}, Ivs H xs ps → ∃ ps', Ivs H ys ps' ∧ ps'.Perm ps := by
  induction pm with
  | nil =>
    intro ps h
    exact ⟨ps, h, .refl _⟩
  | cons x _ ih =>
    intro ps h
    cases h with
    | cons e h =>
      obtain ⟨ps', h', p'⟩ := ih h
      exact ⟨_ :: ps', .cons e h', p'.cons _⟩
  | swap x y l =>
    intro ps h
    cases h with
    | cons e h =>
      cases h with
      | cons e2 h => exact ⟨_, .cons e2 (.cons e h), .swap _ _ _⟩
  | trans _ _ ih1 ih2 =>
    intro ps h
    obtain ⟨p2, h2, q2⟩ := ih2 h
    obtain ⟨p1, h1, q1⟩ := ih1 h2
    exact ⟨p1, h1, q1.trans q2⟩
theorem Ivs.pair {H : Hp} {R : V → V → Prop} {S : Int × Int → Int × Int → Prop} (rs : ∀ a b x y u v, H a = some (.tup [.int x, .int y]) → H b = some (.tup [.int u, .int v]) → R (.ref a) (.ref b) → S (x, y) (u, v)) {vs : List V} {ps : List (Int × Int)} (h : Ivs H vs ps) (pw : vs.Pairwise R) : ps.Pairwise S := by
  induction h with
  | nil => exact .nil
  | cons e h ih =>
    have p := List.pairwise_cons.mp pw
    refine List.pairwise_cons.mpr ⟨fun q hq => ?_, ih p.2⟩
    obtain ⟨b, hb, eb⟩ := h.tpsMem hq
    exact rs _ b _ _ q.1 q.2 e eb (p.1 _ hb)
theorem Ivs.mem {H : Hp} {vs : List V} {ps : List (Int × Int)} (h : Ivs H vs ps) {v : V} (hv : v ∈ vs) : ∃ a q, q ∈ ps ∧ v = .ref a ∧ H a = some (.tup [.int q.1, .int q.2]) := by
  obtain ⟨i, ei⟩ := List.getElem?_of_mem hv
  obtain ⟨a, x, y, e, ep, ea⟩ := h.get ei
  exact ⟨a, (x, y), List.mem_of_getElem? ep, e, ea⟩
theorem bd2 {z : Int × Int} (b : (0 ≤ z.1 ∧ z.1 < 10 ^ 13) ∧ 0 ≤ z.2 ∧ z.2 < 10 ^ 13) : TS.Bd (10 ^ 13) [z.1, z.2] := fun m hm => by
  rcases List.mem_cons.mp hm with rfl | hm
  · exact b.1
  · rw [List.mem_singleton.mp hm]
    exact b.2
theorem sort_pairs {K : PySem.W.Frag} {H : Hp} {l : Addr} {us : List V} {ps : List (Int × Int)} {Q : VK} (hl : SqL K H l us) (iv : Ivs H us ps) (few : ps.length < 64) (bd : ∀ q ∈ ps, (0 ≤ q.1 ∧ q.1 < 10 ^ 13) ∧ 0 ≤ q.2 ∧ q.2 < 10 ^ 13)
    (fin : ∀ H' p us' ps', Same H H' → H p = none → H' p = some (.lst us') → Ivs H' us' ps' → ps'.Pairwise leP → ps'.Perm ps → Q (.ref p) H') :
    rSortU K 2 (10 ^ 13) [.ref l] H Q := by
  refine ⟨l, us, rfl, hl, by rw [iv.length]; exact few, fun x hx => ?_, fun ys p2 pm pw np2 => ?_⟩
  · obtain ⟨b, qq, hqq, e, eb⟩ := iv.mem hx
    exact ⟨[qq.1, qq.2], ⟨b, e, SqT.of eb⟩, rfl, bd2 (bd qq hqq)⟩
  obtain ⟨gs, ivg, pmg⟩ := Ivs.perm pm iv
  have z : gs.Pairwise (fun a b => TS.code (10 ^ 13) [a.1, a.2] ≤ TS.code (10 ^ 13) [b.1, b.2]) := Ivs.pair (S := fun a b => TS.code (10 ^ 13) [a.1, a.2] ≤ TS.code (10 ^ 13) [b.1, b.2]) (fun a b x y u v ea eb h => h [x, y] [u, v] ⟨a, rfl, SqT.of ea⟩ ⟨b, rfl, SqT.of eb⟩) ivg pw
  have s2 := same_new (o := .lst ys) np2
  refine fin _ p2 ys gs s2 np2 upd_same (ivg.same s2) (z.imp_of_mem fun {x y} hx hy h => ?_) pmg
  exact code_lex (bd2 (bd x (pmg.mem_iff.mp hx))) (bd2 (bd y (pmg.mem_iff.mp hy))) h

/-! ### a smallest solution: the mathematics -/
/-- q begins and ends where blocks do, within an interval of the row -/
structure Fits (row : List (Int × Int)) (q : Int × Int) : Prop where
  lo : Bd row q.1
  hi : Bd row (q.2 + 1)
  le : q.1 ≤ q.2
  inn : ∃ t ∈ row, t.1 ≤ q.1 ∧ q.2 ≤ t.2
theorem Fits.good {row : List (Int × Int)} (g : Good row) {q : Int × Int} (f : Fits row q) : Good (row ++ [q]) := fun z hz => by
  rcases List.mem_append.mp hz with h | h
  · exact g z h
  · rw [List.mem_singleton.mp h]
    obtain ⟨t, ht, h1, h2⟩ := f.inn
    have := g t ht
    exact ⟨by omega, f.le⟩
theorem bd_fit {row : List (Int × Int)} {q : Int × Int} (f : Fits row q) (x : Int) : Bd (row ++ [q]) x ↔ Bd row x := by
  constructor
  · rintro ⟨z, hz, e⟩
    rcases List.mem_append.mp hz with h | h
    · exact ⟨z, h, e⟩
    · rw [List.mem_singleton.mp h] at e
      rcases e with e | e
      · exact e ▸ f.lo
      · exact e ▸ f.hi
  · rintro ⟨z, hz, e⟩
    exact ⟨z, List.mem_append_left _ hz, e⟩
theorem blocks_fit {row : List (Int × Int)} (g : Good row) {q : Int × Int} (f : Fits row q) : blocksOf (row ++ [q]) = blocksOf row := by
  have bd := bd_fit f
  refine blk_eq (f.good g) g fun c => ⟨fun h => ?_, fun h => ?_⟩
  · refine ⟨?_, h.le, (bd _).mp h.lo, (bd _).mp h.hi, fun x x1 x2 z => h.gap x x1 x2 ((bd x).mpr z)⟩
    obtain ⟨z, hz, e1, e2⟩ := h.dep
    rcases List.mem_append.mp hz with hz | hz
    · exact ⟨z, hz, e1, e2⟩
    · rw [List.mem_singleton.mp hz] at e1 e2
      obtain ⟨t, ht, k1, k2⟩ := f.inn
      exact ⟨t, ht, by omega, by omega⟩
  · obtain ⟨z, hz, e⟩ := h.dep
    exact ⟨⟨z, List.mem_append_left _ hz, e⟩, h.le, (bd _).mpr h.lo, (bd _).mpr h.hi, fun x x1 x2 z => h.gap x x1 x2 ((bd x).mp z)⟩
theorem opB_snoc (ps : List (Int × Int)) (q : Int × Int) (d : Dem) : opB (ps ++ [q]) d = (opB ps d && !sv q d) := by
  unfold opB
  rw [List.map_append, List.any_append, Bool.not_or, ← sv_svI]
  simp
theorem dec_fit {ts ps : List (Int × Int)} (g : Good (ts ++ ps)) {q : Int × Int} (f : Fits (ts ++ ps) q) : decO ts (ps ++ [q]) = (decO ts ps).filter fun d => !sv q d := by
  have e : blocksOf (ts ++ (ps ++ [q])) = blocksOf (ts ++ ps) := by
    rw [← List.append_assoc]
    exact blocks_fit g f
  unfold decO
  rw [e, List.filter_filter, List.filter_filter, List.filter_filter]
  congr 1
  funext d
  rw [opB_snoc]
  cases opB ps d <;> cases sv q d <;> cases (ts.find? (shB d.1 d.2.1 d.2.2)).isNone <;> rfl
/-- the pieces that helpful_piece looks at -/
def candI (bs : List (Int × Int)) (d : Dem) : List (Int × Int) := bs.flatMap fun b => (bs.map fun e => (b.1, e.2)).filter fun z => sv z d
theorem mem_cand {bs : List (Int × Int)} {d : Dem} {q : Int × Int} : q ∈ candI bs d ↔ (∃ b ∈ bs, q.1 = b.1) ∧ (∃ e ∈ bs, q.2 = e.2) ∧ sv q d = true := by
  unfold candI
  rw [List.mem_flatMap]
  constructor
  · rintro ⟨b, hb, h⟩
    obtain ⟨h1, h2⟩ := List.mem_filter.mp h
    obtain ⟨e, he, rfl⟩ := List.mem_map.mp h1
    exact ⟨⟨b, hb, rfl⟩, ⟨e, he, rfl⟩, h2⟩
  · rintro ⟨⟨b, hb, e1⟩, ⟨e, he, e2⟩, h⟩
    refine ⟨b, hb, List.mem_filter.mpr ⟨List.mem_map.mpr ⟨e, he, ?_⟩, h⟩⟩
    exact Prod.ext e1.symm e2.symm
theorem cand_fits {row : List (Int × Int)} (g : Good row) {d : Dem} {q : Int × Int} (h : q ∈ candI (blocksOf row) d) (ht : d.2 ∈ row) : Fits row q := by
  obtain ⟨⟨b, hb, e1⟩, ⟨e, he, e2⟩, s⟩ := mem_cand.mp h
  have s := sv_iff'.mp s
  refine ⟨?_, ?_, by omega, d.2, ht, s.1, s.2.2.2⟩
  · rw [e1]
    exact (blk_of g hb).lo
  · rw [e2]
    exact (blk_of g he).hi
theorem least_low : ∀ {L : List (Int × Int)} {x : Int}, (∃ c ∈ L, x ≤ c.1) → ∃ b ∈ L, x ≤ b.1 ∧ ∀ c ∈ L, x ≤ c.1 → b.1 ≤ c.1
  | [], _, h => by
    obtain ⟨c, hc, _⟩ := h
    cases hc
  | a :: L, x, h => by
    by_cases r : ∃ c ∈ L, x ≤ c.1
    · obtain ⟨b, hb, b1, b2⟩ := least_low r
      by_cases z : x ≤ a.1 ∧ a.1 ≤ b.1
      · refine ⟨a, List.mem_cons_self, z.1, fun c hc c1 => ?_⟩
        rcases List.mem_cons.mp hc with rfl | hc
        · exact Int.le_refl _
        · exact Int.le_trans z.2 (b2 c hc c1)
      · refine ⟨b, List.mem_cons_of_mem _ hb, b1, fun c hc c1 => ?_⟩
        rcases List.mem_cons.mp hc with rfl | hc
        · omega
        · exact b2 c hc c1
    · obtain ⟨c, hc, c1⟩ := h
      rcases List.mem_cons.mp hc with rfl | hc
      · refine ⟨c, List.mem_cons_self, c1, fun e he e1 => ?_⟩
        rcases List.mem_cons.mp he with rfl | he
        · exact Int.le_refl _
        · exact absurd ⟨e, he, e1⟩ r
      · exact absurd ⟨c, hc, c1⟩ r
theorem good_snoc {ts ps : List (Int × Int)} (g : Good (ts ++ ps)) {q : Int × Int} (f : Fits (ts ++ ps) q) : Good (ts ++ (ps ++ [q])) := by
  rw [← List.append_assoc]
  exact f.good g
/-- one of these pieces helps -/
theorem help_ex {ts ps : List (Int × Int)} (g : Good (ts ++ ps)) {d0 : Dem} (h0 : d0 ∈ decO ts ps) : ∃ q ∈ candI (blocksOf (ts ++ ps)) d0, needO ts (ps ++ [q]) + 1 ≤ needO ts ps := by
  obtain ⟨_, S, s1, com, _⟩ := need_ok g
  obtain ⟨⟨tm, vd, op⟩, low, _⟩ := mem_dec.mp h0
  have tmr : d0.2 ∈ ts ++ ps := List.mem_append_left _ tm
  obtain ⟨s, hs, k1, k2, k3, k4⟩ := com d0.2 tm d0.1 vd.1 vd.2
  have s0 : sv s d0 = true := sv_iff'.mpr ⟨k1, k2, k3, k4⟩
  have hS : s ∈ S := by
    rcases List.mem_append.mp hs with h | h
    · rw [op s h] at s0
      cases s0
    · exact h
  obtain ⟨e, he, e1, e2⟩ := dep_in g (dep_pos.mpr ⟨d0.2, tmr, show d0.2.1 ≤ s.2 by omega, k4⟩)
  obtain ⟨c0, hc0, ec0⟩ := List.mem_map.mp low
  obtain ⟨b, hb, b1, b2⟩ := least_low (x := s.1) ⟨c0, hc0, by omega⟩
  have up : ∀ d : Dem, d.2 ∈ ts → d.1 ∈ lowsOf (ts ++ ps) → sv s d = true → sv (b.1, e.2) d = true := by
    intro d hd hl hsv
    obtain ⟨c, hc, ec⟩ := List.mem_map.mp hl
    have ec : c.1 = d.1 := ec
    have z := sv_iff'.mp hsv
    have z1 := b2 c hc (by omega)
    have z2 := (block_const g he (List.mem_append_left ps hd) e1 e2).mp ⟨by omega, z.2.2.2⟩
    exact sv_iff'.mpr ⟨by show d.2.1 ≤ b.1; omega, by show b.1 ≤ d.1; omega, by show d.1 ≤ e.2; omega, z2.2⟩
  have hq : (b.1, e.2) ∈ candI (blocksOf (ts ++ ps)) d0 := mem_cand.mpr ⟨⟨b, hb, rfl⟩, ⟨e, he, rfl⟩, up d0 tm low s0⟩
  have f := cand_fits g hq tmr
  refine ⟨_, hq, ?_⟩
  have le : needO ts (ps ++ [(b.1, e.2)]) ≤ (S.erase s).length := by
    refine Nat.le_trans (sum_served (S := S.erase s) (D := lg (decO ts (ps ++ [(b.1, e.2)])).length (decO ts (ps ++ [(b.1, e.2)]))) fun d hd => ?_) (sum_one fun z _ => (lg_ind _ _).cov_le z)
    have hd := (lg_sub _ _).mem hd
    rw [dec_fit g f] at hd
    obtain ⟨h1, h2⟩ := List.mem_filter.mp hd
    obtain ⟨⟨dm, dv, dop⟩, dlow, _⟩ := mem_dec.mp h1
    obtain ⟨z, hz, m1, m2, m3, m4⟩ := com d.2 dm d.1 dv.1 dv.2
    have zs : sv z d = true := sv_iff'.mpr ⟨m1, m2, m3, m4⟩
    rcases List.mem_append.mp hz with h | h
    · rw [dop z h] at zs
      cases zs
    · refine ⟨z, (List.mem_erase_of_ne fun w => ?_).mpr h, zs⟩
      subst w
      rw [up d dm dlow zs] at h2
      cases h2
  rw [List.length_erase_of_mem hS] at le
  have := List.length_pos_of_mem hS
  omega
/-! ### the first of the least -/
def argm {α : Type} (kf : α → Nat) : List α → Option α
  | [] => none
  | x :: xs => match argm kf xs with
    | none => some x
    | some y => if kf y < kf x then some y else some x
theorem argm_ne {α : Type} {kf : α → Nat} {x : α} {xs : List α} : argm kf (x :: xs) ≠ none := by
  unfold argm
  split
  · simp
  · split <;> simp
theorem argm_ok {α : Type} {kf : α → Nat} : ∀ {l : List α} {y : α}, argm kf l = some y → y ∈ l ∧ ∀ z ∈ l, kf y ≤ kf z
  | [], y, h => nomatch h
  | x :: xs, y, h => by
    unfold argm at h
    split at h
    · rename_i e
      cases h
      have : xs = [] := by
        cases xs with
        | nil => rfl
        | cons a b => exact absurd e argm_ne
      subst this
      exact ⟨List.mem_cons_self, fun z hz => by rw [List.mem_singleton.mp hz]; exact Nat.le_refl _⟩
    · rename_i w e
      have ih := argm_ok e
      split at h
      · rename_i c
        cases h
        refine ⟨List.mem_cons_of_mem _ ih.1, fun z hz => ?_⟩
        rcases List.mem_cons.mp hz with rfl | hz
        · omega
        · exact ih.2 z hz
      · rename_i c
        cases h
        refine ⟨List.mem_cons_self, fun z hz => ?_⟩
        rcases List.mem_cons.mp hz with rfl | hz
        · exact Nat.le_refl _
        · have := ih.2 z hz
          omega
theorem argm_low {α : Type} {kf : α → Nat} : ∀ {l : List α} {j : Nat} {y : α}, l[j]? = some y → (∀ i z, l[i]? = some z → kf y ≤ kf z ∧ (i < j → kf y < kf z)) → argm kf l = some y
  | [], j, y, e, _ => by simp at e
  | x :: xs, 0, y, e, h => by
    cases e
    unfold argm
    split
    · rfl
    · rename_i w ew
      have m := (argm_ok ew).1
      obtain ⟨i, ei⟩ := List.getElem?_of_mem m
      have := (h (i + 1) w ei).1
      rw [if_neg (by omega)]
  | x :: xs, j + 1, y, e, h => by
    have ih := argm_low (l := xs) (j := j) (y := y) e fun i z ez => ⟨(h (i + 1) z ez).1, fun c => (h (i + 1) z ez).2 (by omega)⟩
    have h0 := (h 0 x rfl).2 (by omega)
    unfold argm
    rw [ih]
    exact if_pos h0
/-! ### what the program picks -/
def keyO (ds : List Dem) (q : Int × Int) : Nat := (lg ds.length (ds.filter fun d => !sv q d)).length
def pickO (bs : List (Int × Int)) : List Dem → Int × Int
  | [] => (0, 0)
  | d :: ds => (argm (keyO (d :: ds)) (candI bs d)).getD (0, 0)
def runO (bs : List (Int × Int)) : Nat → List Dem → List (Int × Int)
  | 0, _ => []
  | _ + 1, [] => []
  | n + 1, d :: ds => pickO bs (d :: ds) :: runO bs n ((d :: ds).filter fun e => !sv (pickO bs (d :: ds)) e)
/-- the pieces that are added for targets and pieces, in the order in which they are found -/
def addO (ts ps : List (Int × Int)) : List (Int × Int) := runO (blocksOf (ts ++ ps)) (decO ts ps).length (decO ts ps)
theorem key_need {ts ps : List (Int × Int)} (g : Good (ts ++ ps)) {q : Int × Int} (f : Fits (ts ++ ps) q) : keyO (decO ts ps) q = needO ts (ps ++ [q]) := by
  unfold keyO needO
  rw [dec_fit g f, lg_same _ _ _ (List.length_filter_le _ _) (Nat.le_refl _)]
theorem pick_ok {ts ps : List (Int × Int)} (g : Good (ts ++ ps)) {d : Dem} {ds : List Dem} (e : decO ts ps = d :: ds) : pickO (blocksOf (ts ++ ps)) (decO ts ps) ∈ candI (blocksOf (ts ++ ps)) d ∧ Fits (ts ++ ps) (pickO (blocksOf (ts ++ ps)) (decO ts ps)) ∧
    needO ts (ps ++ [pickO (blocksOf (ts ++ ps)) (decO ts ps)]) + 1 = needO ts ps := by
  have h0 : d ∈ decO ts ps := by
    rw [e]
    exact List.mem_cons_self
  have tm : d.2 ∈ ts ++ ps := List.mem_append_left _ (mem_dec.mp h0).1.1
  obtain ⟨z, hz, hl⟩ := help_ex g h0
  have pe : pickO (blocksOf (ts ++ ps)) (decO ts ps) = (argm (keyO (decO ts ps)) (candI (blocksOf (ts ++ ps)) d)).getD (0, 0) := by
    rw [e]
    rfl
  rw [pe]
  cases ea : argm (keyO (decO ts ps)) (candI (blocksOf (ts ++ ps)) d) with
  | none =>
    cases ec : candI (blocksOf (ts ++ ps)) d with
    | nil =>
      rw [ec] at hz
      cases hz
    | cons a b =>
      rw [ec] at ea
      exact absurd ea argm_ne
  | some y =>
    obtain ⟨m, least⟩ := argm_ok ea
    have f := cand_fits g m tm
    have fz := cand_fits g hz tm
    have k := least z hz
    rw [key_need g f, key_need g fz] at k
    refine ⟨m, f, ?_⟩
    have := (need_add (good_snoc g f)).2
    show needO ts (ps ++ [y]) + 1 = needO ts ps
    omega
theorem filter_len {α : Type} {p : α → Bool} {x : α} {xs : List α} (h : p x = false) : ((x :: xs).filter p).length ≤ xs.length := by
  rw [List.filter_cons, if_neg (by rw [h]; exact Bool.false_ne_true)]
  exact List.length_filter_le _ _
/-- what was added: as many as are needed, they complete the pieces; each fits, is new, and they differ -/
structure AddOk (ts ps A : List (Int × Int)) : Prop where
  len : A.length = needO ts ps
  com : Com ts ps A
  inn : ∀ q ∈ A, Fits (ts ++ ps) q ∧ ∃ t ∈ ts, t.1 ≤ q.1 ∧ q.2 ≤ t.2
  new : ∀ q ∈ A, q ∉ ps
  nd : A.Nodup
theorem run_ok {ts : List (Int × Int)} : ∀ (n : Nat) (ps : List (Int × Int)), Good (ts ++ ps) → (decO ts ps).length ≤ n → AddOk ts ps (runO (blocksOf (ts ++ ps)) n (decO ts ps)) := by
  have base : ∀ ps, Good (ts ++ ps) → decO ts ps = [] → AddOk ts ps [] := fun ps g e => by
    have z : needO ts ps = 0 := by
      unfold needO
      rw [e]
      rfl
    exact ⟨z.symm, need_zero g z, (fun q hq => nomatch hq), (fun q hq => nomatch hq), .nil⟩
  intro n
  induction n with
  | zero =>
    intro ps g l
    exact base ps g (List.length_eq_zero_iff.mp (by omega))
  | succ n ih =>
    intro ps g l
    cases e : decO ts ps with
    | nil => exact base ps g e
    | cons d ds =>
      obtain ⟨pm, pf, pn⟩ := pick_ok g e
      have h0 : d ∈ decO ts ps := by
        rw [e]
        exact List.mem_cons_self
      have tm := (mem_dec.mp h0).1
      show AddOk ts ps (pickO (blocksOf (ts ++ ps)) (d :: ds) :: runO (blocksOf (ts ++ ps)) n ((d :: ds).filter fun e => !sv (pickO (blocksOf (ts ++ ps)) (d :: ds)) e))
      have e' := e
      rw [← e']
      generalize eq : pickO (blocksOf (ts ++ ps)) (decO ts ps) = q at *
      have s0 := (mem_cand.mp pm).2.2
      have g' := good_snoc g pf
      have df := dec_fit g pf
      have bf : blocksOf (ts ++ (ps ++ [q])) = blocksOf (ts ++ ps) := by
        rw [← List.append_assoc]
        exact blocks_fit g pf
      have ll : (decO ts (ps ++ [q])).length ≤ n := by
        rw [df, e]
        have := filter_len (p := fun d => !sv q d) (x := d) (xs := ds) (by rw [s0]; rfl)
        rw [e, List.length_cons] at l
        omega
      have r := ih (ps ++ [q]) g' ll
      rw [bf, df] at r
      have qs := sv_iff'.mp s0
      have qin : ∃ t ∈ ts, t.1 ≤ q.1 ∧ q.2 ≤ t.2 := ⟨d.2, tm.1, qs.1, qs.2.2.2⟩
      have qn : q ∉ ps := fun z => by
        rw [tm.2.2 q z] at s0
        cases s0
      refine ⟨?_, ?_, fun z hz => ?_, fun z hz => ?_, ?_⟩
      · rw [List.length_cons, r.len]
        exact pn
      · refine com_mono r.com fun z hz => ?_
        rcases List.mem_append.mp hz with h | h
        · rcases List.mem_append.mp h with h | h
          · exact List.mem_append_left _ h
          · rw [List.mem_singleton.mp h]
            exact List.mem_append_right _ List.mem_cons_self
        · exact List.mem_append_right _ (List.mem_cons_of_mem _ h)
      · rcases List.mem_cons.mp hz with rfl | hz
        · exact ⟨pf, qin⟩
        · obtain ⟨f2, t, ht, t1, t2⟩ := r.inn z hz
          have bd := bd_fit pf
          rw [← List.append_assoc] at f2
          exact ⟨⟨(bd _).mp f2.lo, (bd _).mp f2.hi, f2.le, t, List.mem_append_left _ ht, t1, t2⟩, t, ht, t1, t2⟩
      · rcases List.mem_cons.mp hz with rfl | hz
        · exact qn
        · exact fun w => r.new z hz (List.mem_append_left _ w)
      · refine List.nodup_cons.mpr ⟨fun z => r.new q z (List.mem_append_right _ (List.mem_singleton.mpr rfl)), r.nd⟩
theorem add_ok {ts ps : List (Int × Int)} (g : Good (ts ++ ps)) : AddOk ts ps (addO ts ps) := run_ok _ ps g (Nat.le_refl _)

def rLenS (K : PySem.W.Frag) : List V → Hp → VK → Prop := fun xs H Q => ∃ p ys, xs = [.ref p] ∧ (SqL K H p ys ∨ SqT K H p ys) ∧ Q (.int (ys.length : Nat)) H
theorem call_lenS {X : Cx} : CallR X (.builtin "len") (rLenS X.K) := call_len_seq
theorem pe_bmK {X : Cx} {K : PySem.W.Frag} {e : Expr} {T : String} {r : V → List V → Hp → VK → Prop} {to : TE} {t : TA} (hK : X.K = K) (h : PE X e (tBM X.K T r to t)) : PE X e (tBM K T r to t) := hK ▸ h

/-! ### the program's search for a piece that helps -/
def sp_unserved : Sp := fun vs H Q _ => ∃ (D q : Addr) (zs : List V) (ds : List Dem) (x y : Int), vs = [.ref D, .ref q] ∧ H D = some (.lst zs) ∧ Dms H zs ds ∧ ds.length < 1000 ∧ H q = some (.tup [.int x, .int y]) ∧
  ∀ H' E es, Same H H' → H E = none → H' E = some (.lst es) → Dms H' es (ds.filter fun d => !sv (x, y) d) → Q (.ref E) H'
theorem ok_unserved_demands (T : Tx K mg f_depth_changes f_find_blocks f_has_position f_contains f_serves f_conflict f_demands_at_blocks f_is_open f_open_demands f_shadow_target f_decisive_demands f_largest_independent f_unserved_demands f_helpful_piece f_smallest_solution f_row_runs f_rows_of_runs f_tallest_rectangle f_cover_board f_law_draws f_law_next f_law_column f_law_board f_law_is_int f_law_inside f_law_full f_law_is_rectangle f_law_apart f_law_levels f_law_ascends f_law_covered f_law_is_cell f_law_holds f_law_board_cells f_law_number f_law_tallest f_law_fewest f_law_most f_law d_depth_changes d_find_blocks d_has_position d_contains d_serves d_conflict d_demands_at_blocks d_is_open d_open_demands d_shadow_target d_decisive_demands d_largest_independent d_unserved_demands d_helpful_piece d_smallest_solution d_row_runs d_rows_of_runs d_tallest_rectangle d_cover_board d_law_draws d_law_next d_law_column d_law_board d_law_is_int d_law_inside d_law_full d_law_is_rectangle d_law_apart d_law_levels d_law_ascends d_law_covered d_law_is_cell d_law_holds d_law_board_cells d_law_number d_law_tallest d_law_fewest d_law_most d_law) : FnOk P w K mg base CX0 3 f_unserved_demands d_unserved_demands ["demands", "piece"] sp_unserved := by
  refine T.F_unserved_demands.ok sc_unserved_demands (fun vs H Q E h => ?_) (fun cdv A outer s H vs Q E hr h => ?_)
  · obtain ⟨D, q, zs, ds, x, y, rfl, _⟩ := h
    rfl
  · obtain ⟨D, q, zs, ds, x, y, rfl, hD, dm, few, hq, k⟩ := h
    refine ⟨_, (pss_one (ps_ret (pe_lc (own := [("demand", 2)]) (g := (gName 2)) (by rfl) sc_unserved_demands.nd (pi_list (pv 0)) (blkOk_by (own := [("demand", 2)]) (N := N_unserved_demands) (sc := defScope s_unserved_demands) (by decide +kernel)) (fun _ _ _ _ _ => (pg_name (i := 2) sc_unserved_demands.nd rfl (Or.inl rfl))) (fun _ _ _ _ _ => pts_one (pt_not (pt_val (pe_call (ok_serves T) (hr.mono (by decide)) (by rfl) T.g_serves T.F_serves.kp T.b_serves .nil pass0 (pa_cons (pv 1) (pa_cons (pv 2) pa_nil)))))) (fun _ _ _ _ _ => (pv 2))))), ?_⟩
    have lz := dm.length
    refine ⟨.ref D, rfl, D, rfl, ⟨_, SqL.of hD⟩, fun E nE => ?_⟩
    refine lcL (K := K) (a := D) (xs := zs) (fun j H' ws => Dms H' ws ((ds.take j).filter fun d => !sv (x, y) d)) nE (fun H' s => SqL.of (s _ _ (hD))) (by omega) (fun _ _ _ _ t r => r.tps t) (fun j H' ws r => (by rw [r.length]; exact Nat.le_trans (List.length_filter_le _ _) (List.length_take_le _ _))) (fun _ => .nil) ?_ ?_
    · rintro j z H' N acc hj sj eA sz r no yes
      obtain ⟨p, lo, hi, ed, dz⟩ := dm.get hj
      have dz2 := dz.same sj
      obtain ⟨uz, tz, rfl, h1, h2⟩ := dz2.ex
      refine ⟨rfl, .ref q, rfl, .ref uz, rfl, q, uz, tz, x, y, p, lo, hi, rfl, sj _ _ hq, h1, h2, _, rfl, ?_⟩
      rw [show svI x y p lo hi = sv (x, y) (p, lo, hi) from sv_svI (x, y) (p, lo, hi)]
      refine ite2 (fun c => ?_) (fun c => ?_)
      · refine ⟨.ref uz, rfl, yes H' _ (Same.refl _) ?_⟩
        rw [take_filter ed, if_pos c]
        exact r.snoc dz2
      · refine no H' (Same.refl _) ?_
        rw [take_filter ed, if_neg c, List.append_nil]
        exact r
    intro H1 ws s1 eE r
    rw [lz, List.take_length] at r
    exact k H1 E ws s1 nE eE r
def candJ (as bs : List (Int × Int)) (d : Dem) : List (Int × Int) := as.flatMap fun b => (bs.map fun e => (b.1, e.2)).filter fun z => sv z d
theorem candJ_snoc (as bs : List (Int × Int)) (b : Int × Int) (d : Dem) : candJ (as ++ [b]) bs d = candJ as bs d ++ (bs.map fun e => (b.1, e.2)).filter fun z => sv z d := by
  unfold candJ
  rw [List.flatMap_append]
  simp
theorem candJ_len {bs : List (Int × Int)} {d : Dem} : ∀ {as : List (Int × Int)}, (candJ as bs d).length ≤ as.length * bs.length
  | [] => Nat.zero_le _
  | b :: as => by
    have ih := candJ_len (bs := bs) (d := d) (as := as)
    have h := List.length_filter_le (fun z => sv z d) (bs.map fun e => (b.1, e.2))
    rw [List.length_map] at h
    show (((bs.map fun e => (b.1, e.2)).filter fun z => sv z d) ++ candJ as bs d).length ≤ (as.length + 1) * bs.length
    rw [List.length_append, Nat.add_mul]
    omega
theorem Ivs.refs {H : Hp} {vs : List V} {ps : List (Int × Int)} (h : Ivs H vs ps) : ∃ as : List Addr, vs = as.map V.ref ∧ as.length = ps.length ∧ ∀ (j : Nat) (a : Addr), as[j]? = some a → ∃ q, ps[j]? = some q ∧ H a = some (.tup [.int q.1, .int q.2]) := by
  induction h with
  | nil => exact ⟨[], rfl, rfl, fun j a e => by simp at e⟩
  | cons e _ ih =>
    obtain ⟨as, e1, e2, e3⟩ := ih
    refine ⟨_ :: as, by rw [List.map_cons, e1], by rw [List.length_cons, List.length_cons, e2], fun j a ej => ?_⟩
    cases j with
    | zero =>
      cases ej
      exact ⟨_, rfl, e⟩
    | succ j => exact e3 j a ej
def sp_helpful (pT : Addr) : Sp := fun vs H Q _ => ∃ (d : Addr) (c : Addr × Addr × Addr) (n : Int) (D b : Addr) (zs ws : List V) (d0 : Dem) (ds : List Dem) (bs : List (Int × Int)), vs = [.ref D, .ref b] ∧ c.2.2 = pT ∧ Dk H d c n ∧ H D = some (.lst zs) ∧ Dms H zs (d0 :: ds) ∧ H b = some (.tup ws) ∧ Ivs H ws bs ∧ bs.length ≤ 16 ∧ (d0 :: ds).length ≤ lgN ∧ (d0 :: ds).length < 1000 ∧ 0 < (candI bs d0).length ∧
  ∀ H' r, Kp d c H H' → Dk H' d c n → H' r = some (.tup [.int (pickO bs (d0 :: ds)).1, .int (pickO bs (d0 :: ds)).2]) → Q (.ref r) H'
theorem ok_helpful_piece (T : Tx K mg f_depth_changes f_find_blocks f_has_position f_contains f_serves f_conflict f_demands_at_blocks f_is_open f_open_demands f_shadow_target f_decisive_demands f_largest_independent f_unserved_demands f_helpful_piece f_smallest_solution f_row_runs f_rows_of_runs f_tallest_rectangle f_cover_board f_law_draws f_law_next f_law_column f_law_board f_law_is_int f_law_inside f_law_full f_law_is_rectangle f_law_apart f_law_levels f_law_ascends f_law_covered f_law_is_cell f_law_holds f_law_board_cells f_law_number f_law_tallest f_law_fewest f_law_most f_law d_depth_changes d_find_blocks d_has_position d_contains d_serves d_conflict d_demands_at_blocks d_is_open d_open_demands d_shadow_target d_decisive_demands d_largest_independent d_unserved_demands d_helpful_piece d_smallest_solution d_row_runs d_rows_of_runs d_tallest_rectangle d_cover_board d_law_draws d_law_next d_law_column d_law_board d_law_is_int d_law_inside d_law_full d_law_is_rectangle d_law_apart d_law_levels d_law_ascends d_law_covered d_law_is_cell d_law_holds d_law_board_cells d_law_number d_law_tallest d_law_fewest d_law_most d_law) (hT : TabH base mg d_helpful_piece pT) : FnOk P w K mg base CX0 (lgN+9) f_helpful_piece d_helpful_piece ["demands", "blocks"] (sp_helpful pT) := by
  obtain ⟨c0, TB, hc0⟩ := hT
  refine okC T.F_helpful_piece sc_helpful_piece (fun vs H Q E h => ?_) (fun cdv hcd A outer s H vs Q E hr h => ?_)
  · obtain ⟨d, c, n, D, b, zs, ws, d0, ds, bs, rfl, _⟩ := h
    rfl
  · obtain ⟨d, c, n, D, b, zs, ws, d0, ds, bs, rfl, ct, dk, hD, dm, hb, ivb, lb, ln, few, some1, k⟩ := h
    refine ⟨_, (pss_cons (ps_setLc2 (i := 2) (own := [("low", 3), ("end", 4), ("start", 5), ("high", 6)]) (vs1 := [5, 6]) (g := (gTup K 2 (gCons (gName 3) (gCons (gName 4) gNil)))) (g1 := (gTup K 2 (gCons (gName 5) (gCons (gName 6) gNil)))) (tt := tYes) (by rfl) sc_helpful_piece.nd rfl rfl (sw_true rfl rfl rfl (by decide +kernel)) (pi_tup (pv 1)) (blkOk_by (own := [("low", 3), ("end", 4), ("start", 5), ("high", 6)]) (N := N_helpful_piece) (sc := defScope s_helpful_piece) (by decide +kernel)) (by decide) (fun _ _ _ _ _ => (pg_tup rfl (pgs_cons (pg_name (i := 3) sc_helpful_piece.nd rfl (Or.inl rfl)) (pgs_cons (pg_name (i := 4) sc_helpful_piece.nd rfl (Or.inl rfl)) pgs_nil)))) (fun _ _ _ _ _ => pts_nil) (fun _ _ _ _ _ => (pi_tupK (K := K) rfl (pv 1))) (fun _ _ _ _ _ => (pg_tup rfl (pgs_cons (pg_name (i := 5) sc_helpful_piece.nd rfl (Or.inl rfl)) (pgs_cons (pg_name (i := 6) sc_helpful_piece.nd rfl (Or.inl rfl)) pgs_nil)))) (fun _ _ _ _ _ => pts_one (pt_val (pe_call (ok_serves T) (hr.mono (by decide)) (by rfl) T.g_serves T.F_serves.kp T.b_serves .nil pass0 (pa_cons (pe_tup (pa_cons (pv 3) (pa_cons (pv 6) pa_nil))) (pa_cons (pe_ix (show IxR _ (rIxL K) from ix_list) (pv 0) pe_int (fun _ _ => rfl)) pa_nil))))) (fun _ _ _ _ _ => (pe_tup (pa_cons (pv 3) (pa_cons (pv 6) pa_nil)))))
      (pss_one (ps_ret (pe_minLam (cap := "demands") (par := "piece") (P := pT) 0 rfl (by rfl) T.z_min hr TB (hcd.symm.trans hc0) (lam1_by (sc := defScope s_helpful_piece) (by decide +kernel)) rfl rfl (fun _ _ _ _ _ _ => rfl) (pa_cons (pv 2) pa_nil) (fun _ _ _ _ _ hr => (pe_callB (show CallR _ (.builtin "len") (rLenS K) from call_lenS) (by rfl) T.z_len PySem.boot_len (pa_cons (pe_call (ok_largest_independent T) (hr.mono (by decide)) (by rfl) T.g_largest_independent T.F_largest_independent.kp T.b_largest_independent .nil pass0 (pa_cons (pe_call (ok_unserved_demands T) (hr.mono (by decide)) (by rfl) T.g_unserved_demands T.F_unserved_demands.kp T.b_unserved_demands .nil pass0 (pa_cons (pv 0) (pa_cons (pv 1) pa_nil))) pa_nil)) pa_nil))))))), ?_⟩
    have lz := dm.length
    have lw := ivb.length
    obtain ⟨v0, zr, rfl⟩ : ∃ v r, zs = v :: r := by
      cases dm
      exact ⟨_, _, rfl⟩
    obtain ⟨dv, _⟩ := dm.sub rfl rfl
    obtain ⟨u0, t0, rfl, h1, h2⟩ := dv.ex
    refine ⟨.ref b, rfl, b, rfl, ⟨_, SqT.of hb⟩, fun L nL => ?_⟩
    refine walkT (K := K) (a := b) (xs := ws) (fun i H' => Same H H' ∧ ∃ cs, H' L = some (.lst cs) ∧ Ivs H' cs (candJ (bs.take i) bs d0)) ⟨same_new nL, [], upd_same, .nil⟩ (fun i H' _ h => SqT.of (h.1 _ _ hb)) ?_ ?_
    · rintro i v H1 hi ⟨s1, cs, eL, iv⟩
      obtain ⟨bb, x, x9, rfl, ep, hbb⟩ := ivb.get hi
      refine ⟨bb, _, rfl, SqT.of (s1 _ _ hbb), rfl, .int x, [.int x9], rfl, .int x9, [], rfl, rfl, rfl, ?_⟩
      refine ⟨.ref b, rfl, b, rfl, ⟨_, SqT.of (s1 _ _ hb)⟩, ?_⟩
      refine walkT (K := K) (a := b) (xs := ws) (fun j H' => Same H H' ∧ ∃ cs, H' L = some (.lst cs) ∧ Ivs H' cs (candJ (bs.take i) bs d0 ++ ((bs.take j).map fun e => (x, e.2)).filter fun z => sv z d0)) ⟨s1, cs, eL, by show Ivs H1 cs (_ ++ []); rw [List.append_nil]; exact iv⟩ (fun j H' _ h => SqT.of (h.1 _ _ hb)) ?_ ?_
      · rintro j v H2 hj ⟨s2, cs2, eL2, iv2⟩
        obtain ⟨b2, y9, y, rfl, et, hb2⟩ := ivb.get hj
        have step : ((bs.take (j + 1)).map fun e => (x, e.2)).filter (fun z => sv z d0) = ((bs.take j).map fun e => (x, e.2)).filter (fun z => sv z d0) ++ if sv (x, y) d0 = true then [(x, y)] else [] := by
          rw [List.take_add_one, et, List.map_append, List.filter_append]
          congr 1
          show ([(x, y)].filter fun z => sv z d0) = _
          by_cases z : sv (x, y) d0 = true
          · rw [if_pos z, List.filter_cons, if_pos z]
            rfl
          · rw [if_neg z, List.filter_cons, if_neg z]
            rfl
        have sz : cs2.length < sizeLine := by
          have h1 := iv2.length
          have h2 := candJ_len (bs := bs) (d := d0) (as := bs.take i)
          have h3 : (((bs.take j).map fun e => (x, e.2)).filter fun z => sv z d0).length ≤ 16 := by
            refine Nat.le_trans (List.length_filter_le _ _) ?_
            rw [List.length_map]
            exact Nat.le_trans (List.length_take_le' _ _) lb
          have h4 : (bs.take i).length ≤ 16 := Nat.le_trans (List.length_take_le' _ _) lb
          have h5 : (bs.take i).length * bs.length ≤ 16 * 16 := Nat.mul_le_mul h4 lb
          rw [List.length_append] at h1
          rw [show sizeLine = 16777216 by decide]
          omega
        refine ⟨b2, _, rfl, SqT.of (s2 _ _ hb2), rfl, .int y9, [.int y], rfl, .int y, [], rfl, rfl, rfl, ?_⟩
        refine ⟨.int x, rfl, .int y, rfl, by show 2 ≤ sizeLine; decide, fun t1 nt1 => ?_⟩
        have s3 := same_new (o := .tup [.int x, .int y]) nt1
        have et1 := upd_same (H := H2) (a := t1) (o := .tup [.int x, .int y])
        generalize upd H2 t1 (.tup [.int x, .int y]) = H3 at *
        have s23 := s2.trans s3
        refine ⟨.ref D, rfl, D, _, 0, .ref u0, rfl, rfl, SqL.of (s23 _ _ hD), (show atI (V.ref u0 :: zr) ((0 : Nat) : Int) = some (.ref u0) from atI_nat rfl), t1, u0, t0, x, y, d0.1, d0.2.1, d0.2.2, rfl, et1, s23 _ _ h1, s23 _ _ h2, _, rfl, ?_⟩
        rw [show svI x y d0.1 d0.2.1 d0.2.2 = sv (x, y) d0 from sv_svI (x, y) d0]
        refine ite2 (fun cc => ?_) (fun cc => ?_)
        · refine ⟨.int x, rfl, .int y, rfl, by show 2 ≤ sizeLine; decide, fun t nt => ?_⟩
          have s4 := same_new (o := .tup [.int x, .int y]) nt
          have et4 := upd_same (H := H3) (a := t) (o := .tup [.int x, .int y])
          generalize upd H3 t (.tup [.int x, .int y]) = H4 at *
          have s24 := s23.trans s4
          have eL4 := (s3.trans s4) _ _ eL2
          refine ⟨cs2, eL4, sz, same_off nL s24, _, upd_same, ?_⟩
          rw [step, if_pos cc, ← List.append_assoc]
          exact ((iv2.same (s3.trans s4)).snoc et4).tps (Tps.lst eL4)
        · refine ⟨s23, cs2, s3 _ _ eL2, ?_⟩
          rw [step, if_neg cc, List.append_nil]
          exact iv2.same s3
      · rintro H2 ⟨s2, cs2, eL2, iv2⟩
        refine ⟨s2, cs2, eL2, ?_⟩
        rw [lw, List.take_length] at iv2
        rw [List.take_add_one, ep]
        show Ivs H2 cs2 (candJ (bs.take i ++ [(x, x9)]) bs d0)
        rw [candJ_snoc]
        exact iv2
    rintro H2 ⟨s2, cs, eL, iv⟩
    rw [lw, List.take_length] at iv
    have iv : Ivs H2 cs (candI bs d0) := iv
    obtain ⟨as, rfl, la, at_⟩ := iv.refs
    have dk2 := dk.kept s2
    refine ⟨.ref L, rfl, L, as, fun j => keyO (d0 :: ds) ((candI bs d0).getD j (0, 0)), .ref D, rfl, eL, by rw [la]; exact some1, ct ▸ dk2.tab, rfl, fun H3 but tab3 => ⟨fun j a H4 ea s4 => ?_, fun j a H4 ea low s4 => ?_⟩⟩
    · obtain ⟨q, eq, hq⟩ := at_ j a ea
      have kp4 : Kp d c H2 H4 := Kp.trans (fun b o _ n2 e => but b o (fun z => n2.2 (z.trans ct.symm)) e) (Kp.same s4)
      have tp4 : Tps H H4 := (Tps.same s2).trans (kp4.tps dk2)
      have hD4 : H4 D = some (.lst (V.ref u0 :: zr)) := s4 _ _ (but _ _ (fun z => by
        obtain ⟨ps, h4, _⟩ := dk.tab
        rw [ct, ← z, hD] at h4
        cases h4) (s2 _ _ hD))
      refine ⟨.ref D, rfl, .ref a, rfl, D, a, _, _, q.1, q.2, rfl, hD4, dm.tps tp4, few, kp4.tup dk2 hq, fun H5 E es s5 nE eE dmE => ?_⟩
      have fl := List.length_filter_le (fun d => !sv (q.1, q.2) d) (d0 :: ds)
      refine ⟨E, es, _, rfl, eE, dmE, Nat.le_trans fl ln, Nat.lt_of_le_of_lt fl few, fun H6 p ws6 s6 ep dmp => ?_⟩
      refine ⟨p, ws6, rfl, .inr (SqT.of ep), ?_, s5.trans s6⟩
      rw [dmp.length, lg_same _ (d0 :: ds).length _ (Nat.le_refl _) fl]
      have gd : (candI bs d0).getD j (0, 0) = q := by rw [List.getD_eq_getElem?_getD, eq]; rfl
      show V.int _ = V.int ((keyO (d0 :: ds) ((candI bs d0).getD j (0, 0)) : Nat) : Int)
      rw [gd]
      rfl
    · obtain ⟨q, eq, hq⟩ := at_ j a ea
      have kp4 : Kp d c H2 H4 := Kp.trans (fun b o _ n2 e => but b o (fun z => n2.2 (z.trans ct.symm)) e) (Kp.same s4)
      have am : argm (keyO (d0 :: ds)) (candI bs d0) = some q := argm_low eq fun i z ez => by
        have il := (List.getElem?_eq_some_iff.mp ez).1
        have w := low i (by rw [la]; exact il)
        simp only [List.getD_eq_getElem?_getD, eq, ez, Option.getD_some] at w
        omega
      have pk : pickO bs (d0 :: ds) = q := congrArg (fun o => Option.getD o (0, 0)) am
      refine k H4 a ((Kp.same s2).trans kp4) ((dk2.but (ct ▸ but) (ct ▸ tab3)).kept s4) ?_
      rw [pk]
      exact kp4.tup dk2 hq

/-! ### smallest_solution, solve -/
def witO (ts ps : List (Int × Int)) : List Dem := lg (decO ts ps).length (decO ts ps)
def msD (σ : L2.St) (H : Hp) : Nat := match σ[3]? with
  | some (some (V.ref D)) => (match H D with
    | some (HO.lst zs) => zs.length
    | _ => 0)
  | _ => 0
theorem msD_at {H : Hp} {v0 v1 v2 v4 v5 v6 : Option V} {D : Addr} {zs : List V} (h : H D = some (.lst zs)) : msD [v0, v1, v2, some (.ref D), v4, v5, v6] H = zs.length := by
  show (match H D with | some (.lst zs) => zs.length | _ => 0) = zs.length
  rw [h]
/-- where the loop stands: A found, ds to be served, ps' the pieces with those found -/
structure AtS (ts ps A : List (Int × Int)) (ds : List Dem) : Prop where
  good : Good (ts ++ (ps ++ A))
  blk : blocksOf (ts ++ (ps ++ A)) = blocksOf (ts ++ ps)
  dec : ds = decO ts (ps ++ A)
  run : ∃ m, ds.length ≤ m ∧ A ++ runO (blocksOf (ts ++ ps)) m ds = addO ts ps
theorem AtS.start {ts ps : List (Int × Int)} (g : Good (ts ++ ps)) : AtS ts ps [] (decO ts ps) :=
  ⟨by rw [List.append_nil]; exact g, by rw [List.append_nil], by rw [List.append_nil], _, Nat.le_refl _, rfl⟩
theorem AtS.step {ts ps A : List (Int × Int)} {d : Dem} {ds : List Dem} (h : AtS ts ps A (d :: ds)) : pickO (blocksOf (ts ++ ps)) (d :: ds) ∈ candI (blocksOf (ts ++ ps)) d ∧ sv (pickO (blocksOf (ts ++ ps)) (d :: ds)) d = true ∧
    AtS ts ps (A ++ [pickO (blocksOf (ts ++ ps)) (d :: ds)]) ((d :: ds).filter fun e => !sv (pickO (blocksOf (ts ++ ps)) (d :: ds)) e) := by
  have p := pick_ok h.good h.dec.symm
  rw [h.blk, ← h.dec] at p
  obtain ⟨p1, p2, _⟩ := p
  have s := (mem_cand.mp p1).2.2
  refine ⟨p1, s, ?_⟩
  generalize hq : pickO (blocksOf (ts ++ ps)) (d :: ds) = q at *
  have e1 : ps ++ (A ++ [q]) = (ps ++ A) ++ [q] := (List.append_assoc _ _ _).symm
  obtain ⟨m, m1, m2⟩ := h.run
  refine ⟨by rw [e1]; exact good_snoc h.good p2, ?_, ?_, ?_⟩
  · rw [e1, ← List.append_assoc]
    exact (blocks_fit h.good p2).trans h.blk
  · rw [e1, dec_fit h.good p2, ← h.dec]
  · rw [List.length_cons] at m1
    obtain ⟨n, rfl⟩ : ∃ n, m = n + 1 := ⟨m - 1, by omega⟩
    refine ⟨n, Nat.le_trans (filter_len (by rw [s]; rfl)) (by omega), ?_⟩
    rw [List.append_assoc, ← m2]
    congr 1
    show [q] ++ _ = pickO (blocksOf (ts ++ ps)) (d :: ds) :: runO (blocksOf (ts ++ ps)) n ((d :: ds).filter fun e => !sv (pickO (blocksOf (ts ++ ps)) (d :: ds)) e)
    rw [hq]
    rfl
theorem AtS.fin {ts ps A : List (Int × Int)} (h : AtS ts ps A []) : A = addO ts ps := by
  obtain ⟨m, _, m2⟩ := h.run
  rw [← m2]
  cases m with
  | zero => exact (List.append_nil _).symm
  | succ m => exact (List.append_nil _).symm
/-- the bounds under which the searches end -/
structure SolB (ts ps : List (Int × Int)) : Prop where
  good : Good (ts ++ ps)
  top : ∀ q ∈ ts, q.2 < 10 ^ 13
  lt : ts.length ≤ 30
  fk : FewK (ts ++ ps)
  few : (blocksOf (ts ++ ps)).length ≤ 8
  lg : 8 * ts.length ≤ lgN
  lg1 : lgN < 1000
theorem SolB.dec {ts ps : List (Int × Int)} (B : SolB ts ps) : (decO ts ps).length ≤ lgN := by
  have h1 := decO_len (ts := ts) (ps := ps)
  have h2 := Nat.mul_le_mul B.few (Nat.le_refl ts.length)
  have := B.lg
  omega
theorem need_le_ts {ts ps : List (Int × Int)} (g : Good (ts ++ ps)) : needO ts ps ≤ ts.length := need_of_com g (com_self ts ps)
theorem add_bd {ts ps : List (Int × Int)} (B : SolB ts ps) : (addO ts ps).length ≤ 30 ∧ ∀ q ∈ addO ts ps, (0 ≤ q.1 ∧ q.1 < 10 ^ 13) ∧ 0 ≤ q.2 ∧ q.2 < 10 ^ 13 := by
  have ok := add_ok B.good
  refine ⟨by rw [ok.len]; exact Nat.le_trans (need_le_ts B.good) B.lt, fun q hq => ?_⟩
  obtain ⟨f, t, ht, h1, h2⟩ := ok.inn q hq
  have g := B.good t (List.mem_append_left _ ht)
  have := f.le
  have := B.top t ht
  omega
theorem leP_nd {ps : List (Int × Int)} (h : ps.Pairwise leP) (nd : ps.Nodup) : ps.Pairwise ltP := by
  refine (h.and nd).imp fun {a b} z => ?_
  rcases z.1 with k | ⟨k1, k2⟩
  · exact .inl k
  · refine .inr ⟨k1, ?_⟩
    rcases Int.lt_or_eq_of_le k2 with w | w
    · exact w
    · exact absurd (Prod.ext k1 w) z.2
/-- what solve returns for targets and pieces -/
structure SolH (H : Hp) (r : Addr) (ts ps A : List (Int × Int)) : Prop where
  ex : ∃ (x y : Addr) (zs vs : List V), H r = some (.tup [.ref x, .ref y]) ∧ H x = some (.tup zs) ∧ Ivs H zs A ∧ H y = some (.tup vs) ∧ Dms H vs (witO ts ps)
  perm : A.Perm (addO ts ps)
  asc : A.Pairwise ltP
def sp_smallest (pT : Addr) : Sp := fun vs H Q _ => ∃ (d : Addr) (c : Addr × Addr × Addr) (n : Int) (a b : Addr) (us ws : List V) (ts ps : List (Int × Int)), vs = [.ref a, .ref b] ∧ c.2.2 = pT ∧ Dk H d c n ∧ H a = some (.tup us) ∧ H b = some (.tup ws) ∧ Ivs H us ts ∧ Ivs H ws ps ∧ SolB ts ps ∧
  ∀ H' r A, Kp d c H H' → Dk H' d c n → SolH H' r ts ps A → Q (.ref r) H'
theorem ok_smallest_solution (T : Tx K mg f_depth_changes f_find_blocks f_has_position f_contains f_serves f_conflict f_demands_at_blocks f_is_open f_open_demands f_shadow_target f_decisive_demands f_largest_independent f_unserved_demands f_helpful_piece f_smallest_solution f_row_runs f_rows_of_runs f_tallest_rectangle f_cover_board f_law_draws f_law_next f_law_column f_law_board f_law_is_int f_law_inside f_law_full f_law_is_rectangle f_law_apart f_law_levels f_law_ascends f_law_covered f_law_is_cell f_law_holds f_law_board_cells f_law_number f_law_tallest f_law_fewest f_law_most f_law d_depth_changes d_find_blocks d_has_position d_contains d_serves d_conflict d_demands_at_blocks d_is_open d_open_demands d_shadow_target d_decisive_demands d_largest_independent d_unserved_demands d_helpful_piece d_smallest_solution d_row_runs d_rows_of_runs d_tallest_rectangle d_cover_board d_law_draws d_law_next d_law_column d_law_board d_law_is_int d_law_inside d_law_full d_law_is_rectangle d_law_apart d_law_levels d_law_ascends d_law_covered d_law_is_cell d_law_holds d_law_board_cells d_law_number d_law_tallest d_law_fewest d_law_most d_law) (hT : TabH base mg d_helpful_piece pT) : FnOk P w K mg base CX0 (lgN+10) f_smallest_solution d_smallest_solution ["targets", "pieces"] (sp_smallest pT) := by
  refine T.F_smallest_solution.ok sc_smallest_solution (fun vs H Q E h => ?_) (fun cdv A outer s H vs Q E hr h => ?_)
  · obtain ⟨d, c, n, a, b, us, ws, ts, ps, rfl, _⟩ := h
    rfl
  · obtain ⟨d, c, n, a, b, us, ws, ts, ps, rfl, ct, dk, ha, hb, ivt, ivp, B, k⟩ := h
    refine ⟨_, (pss_cons (ps_set (i := 2) sc_smallest_solution.nd rfl (Or.inl rfl) (pe_call (ok_find_blocks T) (hr.mono (by decide)) (by rfl) T.g_find_blocks T.F_find_blocks.kp T.b_find_blocks .nil pass0 (pa_cons (pe_op op_catA (pv 0) (pv 1)) pa_nil)))
      (pss_cons (ps_set (i := 3) sc_smallest_solution.nd rfl (Or.inl rfl) (pe_call (ok_decisive_demands T) (hr.mono (by decide)) (by rfl) T.g_decisive_demands T.F_decisive_demands.kp T.b_decisive_demands .nil pass0 (pa_cons (pv 0) (pa_cons (pv 1) pa_nil))))
      (pss_cons (ps_set (i := 4) sc_smallest_solution.nd rfl (Or.inl rfl) (pe_call (ok_largest_independent T) (hr.mono (by decide)) (by rfl) T.g_largest_independent T.F_largest_independent.kp T.b_largest_independent .nil pass0 (pa_cons (pv 3) pa_nil)))
      (pss_cons (ps_set (i := 5) sc_smallest_solution.nd rfl (Or.inl rfl) (pe_lst pa_nil))
      (pss_cons (ps_while PassesOwn.never (pt_truth (pv 3) (by intro _; rfl))
      (pss_cons (ps_set (i := 6) sc_smallest_solution.nd rfl (Or.inl rfl) (pe_call (ok_helpful_piece T hT) (hr.mono (by decide)) (by rfl) T.g_helpful_piece T.F_helpful_piece.kp T.b_helpful_piece .nil pass0 (pa_cons (pv 3) (pa_cons (pv 2) pa_nil))))
      (pss_cons (ps_expr (pe_bm PySem.F.plainAttrs_list PySem.F.slot_list_append PySem.F.type_list_append mt_append (pv 5) (pa_cons (pv 6) pa_nil)))
      (pss_one (ps_set (i := 3) sc_smallest_solution.nd rfl (Or.inl rfl) (pe_call (ok_unserved_demands T) (hr.mono (by decide)) (by rfl) T.g_unserved_demands T.F_unserved_demands.kp T.b_unserved_demands .nil pass0 (pa_cons (pv 3) (pa_cons (pv 6) pa_nil))))))))
      (pss_one (ps_ret (pe_tup (pa_cons (pe_callTy call_tuple_of (by rfl) T.z_tuple (by decide +kernel) (pa_cons (pe_callB (cr_sortT (d := 2) (B := 10 ^ 13) (by decide)) (by rfl) T.z_sorted (by decide +kernel) (pa_cons (pv 5) pa_nil)) pa_nil)) (pa_cons (pv 4) pa_nil)))))))))), ?_⟩
    have lu := ivt.length
    have lw := ivp.length
    have lk := B.fk.le
    rw [List.length_append] at lk
    refine ⟨.ref a, rfl, .ref b, rfl, catA_any ha hb (by rw [show sizeLine = 16777216 by decide]; omega) (fun H1 ab s1 eab => ?_)⟩
    refine ⟨ab, us ++ ws, ts ++ ps, rfl, eab, (ivt.same s1).append (ivp.same s1), B.good, B.fk, fun H2 bl bs s2 ebl ivb => ?_⟩
    have s12 := s1.trans s2
    refine ⟨.ref a, rfl, .ref b, rfl, a, b, us, ws, ts, ps, rfl, s12 _ _ ha, s12 _ _ hb, ivt.same s12, ivp.same s12, B.good, B.lt, B.fk, B.few, fun H3 D zs s3 nD eD dm => ?_⟩
    have offD : Off d c D := (dk.kept s12).off nD
    have s13 := s12.trans s3
    have few := B.lg1
    have ld := B.dec
    refine ⟨.ref D, rfl, D, zs, _, rfl, eD, dm, ld, by omega, fun H4 wi vs4 s4 ewi dmw => ?_⟩
    have s14 := s13.trans s4
    refine ⟨by show 0 ≤ sizeLine; decide, fun l nl => ?_⟩
    have s5 := same_new (o := .lst []) nl
    have el := upd_same (H := H4) (a := l) (o := .lst [])
    generalize upd H4 l (.lst []) = H5 at *
    have dk4 := dk.kept s14
    have dk5 := dk4.kept s5
    have offl : Off d c l := (dk.kept s14).off nl
    have eD5 := s5 _ _ (s4 _ _ eD)
    have lD : l ≠ D := (ne_of_none (s4 _ _ eD) nl).symm
    dsimp only [gName, tSeq]
    refine while_by (fun σ H' => (Kp d c H4 H' ∧ Dk H' d c n) ∧ ∃ (A : List (Int × Int)) (ls : List V) (D' : Addr) (zs' : List V) (ds : List Dem) (y6 : Option V), AtS ts ps A ds ∧ (H' l = some (.lst ls) ∧ Ivs H' ls A) ∧ (H' D' = some (.lst zs') ∧ Dms H' zs' ds ∧ (l ≠ D' ∧ Off d c D') ∧ ds.length ≤ lgN) ∧ σ = [some (.ref a), some (.ref b), some (.ref bl), some (.ref D'), some (.ref wi), some (.ref l), y6]) msD
      ⟨⟨Kp.same s5, dk5⟩, [], [], D, zs, _, _, AtS.start B.good, ⟨el, .nil⟩, ⟨eD5, dm.same (s4.trans s5), ⟨lD, offD⟩, ld⟩, rfl⟩ ?_ ?_
    rotate_left
    · rintro σ H Q Q' imp ⟨v, hv, kk, tr, q⟩
      exact ⟨v, hv, kk, tr, imp _ _ q⟩
    rintro σ H6 ⟨⟨kp6, dk6⟩, A, ls, D', zs', ds, y6, at_, ⟨el6, ivl⟩, ⟨eD6, dm6, ⟨lD6, offD6⟩, ld6⟩, rfl⟩
    rw [msD_at eD6]
    refine ⟨.ref D', rfl, !zs'.isEmpty, .inl ⟨_, SqL.of eD6, rfl⟩, ?_⟩
    have t5 : Tps H H6 := (Tps.same s14).trans (kp6.tps dk4)
    cases ds with
    | nil =>
      cases dm6
      refine iteF ?_
      have eA := at_.fin
      have bd := add_bd B
      have ok := add_ok B.good
      rw [← eA] at bd ok
      refine ⟨.ref l, rfl, ?_⟩
      dsimp only [tNil]
      refine sort_pairs (SqL.of el6) ivl (by omega) bd.2 (fun H7 p us' A' s7 np ep iv' srt pm => ?_)
      refine ⟨p, us', rfl, .inl ⟨SqL.of ep, fun t nt => ?_⟩⟩
      have s8 := same_new (o := .tup us') nt
      have et := upd_same (H := H7) (a := t) (o := .tup us')
      generalize upd H7 t (.tup us') = H8 at *
      have s68 := s7.trans s8
      refine ⟨.ref wi, rfl, by show 2 ≤ sizeLine; decide, fun r nr => ?_⟩
      have s9 := same_new (o := .tup [.ref t, .ref wi]) nr
      have T4 : Tps H4 H6 := kp6.tps dk4
      refine k _ r A' ((Kp.same s14).trans (kp6.trans (Kp.same (s68.trans s9)))) (dk6.kept (s68.trans s9)) ⟨⟨t, wi, us', vs4, upd_same, s9 _ _ et, iv'.same (s8.trans s9), (s68.trans s9) _ _ (T4 _ _ ewi), (dmw.tps T4).same (s68.trans s9)⟩, ?_, leP_nd srt (pm.nodup_iff.mpr ok.nd)⟩
      rw [← eA]
      exact pm
    | cons d0 ds =>
      obtain ⟨v0, zr, rfl⟩ : ∃ v r, zs' = v :: r := by
        cases dm6
        exact ⟨_, _, rfl⟩
      refine iteT ?_
      obtain ⟨pm, ps0, at2⟩ := at_.step
      have lb := B.few
      have ivb6 : Ivs H6 bs (blocksOf (ts ++ ps)) := (ivb.same (s3.trans s4)).tps (kp6.tps dk4)
      refine ⟨.ref D', rfl, .ref bl, rfl, d, c, n, D', bl, _, bs, d0, ds, blocksOf (ts ++ ps), rfl, ct, dk6, eD6, dm6, kp6.tup dk4 ((s3.trans s4) _ _ ebl), ivb6, by omega, ld6, by omega, List.length_pos_of_mem pm, fun H7 r kp7 dk7 er => ?_⟩
      generalize hq : pickO (blocksOf (ts ++ ps)) (d0 :: ds) = q at *
      have el7 := kp7.keep offl el6
      have ivl7 := ivl.tps (kp7.tps dk6)
      have eD7 := kp7.keep offD6 eD6
      have dm7 := dm6.tps (kp7.tps dk6)
      refine ⟨.ref l, rfl, .inl ⟨rfl, _, SqL.of el7⟩, .ref r, rfl, l, ls, _, rfl, rfl, el7, ?_, ?_⟩
      · have h1 := ivl7.length
        have h2 := at2.run
        obtain ⟨m, _, h3⟩ := h2
        have h4 := (add_bd B).1
        rw [← h3, List.length_append, List.length_append] at h4
        exact small1000 (by omega)
      have tl := Tps.lst (vs := ls ++ [V.ref r]) el7
      have dk8 := dk7.upd (o := .lst (ls ++ [V.ref r])) offl
      have kp8 : Kp d c H4 (upd H7 l (.lst (ls ++ [V.ref r]))) := fun b o n1 n2 e => by
        rw [upd_ne (ne_of_none e nl)]
        exact kp7 b o n1 n2 (kp6 b o n1 n2 e)
      have el8 := upd_same (H := H7) (a := l) (o := .lst (ls ++ [V.ref r]))
      have eD8 : upd H7 l (.lst (ls ++ [V.ref r])) D' = some (.lst (v0 :: zr)) := by rw [upd_ne lD6.symm]; exact eD7
      have er8 := tl _ _ er
      have dm8 := dm7.tps tl
      have ivl8 := (ivl7.snoc er).tps tl
      generalize upd H7 l (.lst (ls ++ [V.ref r])) = H8 at *
      have fl : ((d0 :: ds).filter fun e => !sv q e).length ≤ ds.length := filter_len (by rw [ps0]; rfl)
      have lz := dm7.length
      rw [List.length_cons, List.length_cons] at lz
      rw [List.length_cons] at ld6
      refine ⟨.ref D', rfl, .ref r, rfl, D', r, _, _, q.1, q.2, rfl, eD8, dm8, by rw [List.length_cons]; omega, er8, fun H9 E es s9 nE eE dmE => ⟨⟨⟨kp8.trans (Kp.same s9), dk8.kept s9⟩, A ++ [q], ls ++ [.ref r], E, es, _, _, at2, ⟨s9 _ _ el8, ivl8.same s9⟩, ⟨eE, dmE, ⟨(ne_of_none el8 nE), dk8.off nE⟩, by omega⟩, rfl⟩, ?_⟩⟩
      refine Nat.lt_of_le_of_lt (Nat.le_of_eq (msD_at eE)) ?_
      have le : es.length ≤ ds.length := by
        rw [dmE.length]
        exact fl
      rw [List.length_cons]
      omega
def sp_solve (pT : Addr) : Sp := sp_smallest pT
theorem shaped_pairs (ps : List (Int × Int)) : SeqAt.shaped (.tuple (ps.map pairD)) = true := by
  have h1 : ∀ ps : List (Int × Int), PyData.canLayAll0 (ps.map pairD) = true := by
    intro ps
    induction ps with
    | nil => rfl
    | cons n r ih => exact ih
  have h2 : ∀ ps : List (Int × Int), PyData.depthAll (ps.map pairD) ≤ 1 := by
    intro ps
    induction ps with
    | nil => exact Nat.zero_le _
    | cons n r ih =>
      show max 1 (PyData.depthAll (r.map pairD)) ≤ 1
      omega
  unfold SeqAt.shaped
  rw [show PyData.canLay0 (.tuple (ps.map pairD)) = PyData.canLayAll0 (ps.map pairD) from rfl, h1 ps]
  show decide (PyData.depthAll (ps.map pairD) + 1 ≤ 64) = true
  exact decide_eq_true (by have := h2 ps; omega)
theorem eqv_self (ps : List (Int × Int)) : PyData.eqv (.tuple (ps.map pairD)) (.tuple (ps.map pairD)) = true := by
  show PyData.eqvAll (ps.map pairD) (ps.map pairD) = true
  induction ps with
  | nil => rfl
  | cons q r ih =>
    show (((q.1 == q.1) && ((q.2 == q.2) && true)) && PyData.eqvAll (r.map pairD) (r.map pairD)) = true
    rw [ih, beq_self_eq_true, beq_self_eq_true]
    rfl

/-! ### <, >= of data at any depth that are alike -/
section
variable {X : Cx}
def rGeDt (K : PySem.W.Frag) : R2 := fun x y H Q => ∃ d e, Dp K H x d ∧ Dp K H y e ∧ PySem.W.alike d e = true ∧ d ≠ .none ∧ d.depth ≤ 60 ∧ Q (.bl (!PySem.W.dataLt d e)) H
def rLtDt (K : PySem.W.Frag) : R2 := fun x y H Q => ∃ d e, Dp K H x d ∧ Dp K H y e ∧ PySem.W.alike d e = true ∧ d ≠ .none ∧ d.depth ≤ 60 ∧ Q (.bl (PySem.W.dataLt d e)) H
theorem op_geDt (hu : X.A.units + 64 < cLine) : OpR X (compareOp .GtE) (rGeDt X.K) := by
  intro pins s σ H x y v u Q I rx ry ⟨d, e, hd, he, al, nn, dp, q⟩
  obtain ⟨as, r1⟩ := Dp.reads I d x v hd rx
  obtain ⟨bs, r2⟩ := Dp.reads I e y u he ry
  exact PySem.W.ge_data r1 r2 al nn (by omega) ⟨.bl _, H, I, rfl, q⟩
theorem op_ltDt (hu : X.A.units + 64 < cLine) : OpR X (compareOp .Lt) (rLtDt X.K) := by
  intro pins s σ H x y v u Q I rx ry ⟨d, e, hd, he, al, nn, dp, q⟩
  obtain ⟨as, r1⟩ := Dp.reads I d x v hd rx
  obtain ⟨bs, r2⟩ := Dp.reads I e y u he ry
  exact PySem.W.lt_data r1 r2 al nn (by omega) ⟨.bl _, H, I, rfl, q⟩
end
theorem dlt_first {x u : Int} (h : x < u) (r s : List PyData) : PySem.W.dataLt (.tuple (.int x :: r)) (.tuple (.int u :: s)) = true := by
  have e : PyData.eqv (.int x) (.int u) = false := by
    show (x == u) = false
    rw [beq_eq_false_iff_ne]
    omega
  rw [PySem.W.dataLt_tuple, PySem.W.dataLt_all_no rfl e, PySem.W.dataLt_int]
  exact decide_eq_true h
theorem dlt_second {x y v : Int} (h : y < v) : PySem.W.dataLt (.tuple [.int x, .int y]) (.tuple [.int x, .int v]) = true := by
  have e1 : PyData.eqv (.int x) (.int x) = true := by
    show (x == x) = true
    exact beq_self_eq_true x
  have e : PyData.eqv (.int y) (.int v) = false := by
    show (y == v) = false
    rw [beq_eq_false_iff_ne]
    omega
  rw [PySem.W.dataLt_tuple, PySem.W.dataLt_all_yes rfl e1, PySem.W.dataLt_all_no rfl e, PySem.W.dataLt_int]
  exact decide_eq_true h
theorem dlt_pair {p q : Int × Int} (h : ltP p q) : PySem.W.dataLt (pairD p) (pairD q) = true := by
  rcases h with h | ⟨h1, h2⟩
  · exact dlt_first h _ _
  · unfold pairD
    rw [h1]
    exact dlt_second h2
/-! ### for i, x in enumerate(t) -/
theorem for_enumT {K : PySem.W.Frag} {a : Addr} {xs : List V} {g : TG} {tb : TS} {D : Ends} {σ : L2.St} {H : Hp} (Pv : Nat → L2.St → Hp → Prop) (h0 : Pv 0 σ H) (hq : ∀ i σ H, Pv i σ H → SqT K H a xs)
    (hs : ∀ (i : Nat) (x : V) (t : Addr) (σ : L2.St) (H : Hp), xs[i]? = some x → Pv i σ H → H t = none → g (.ref t) σ (upd H t (.tup [.int (i : Nat), x])) fun σ2 H2 => tb { D with nx := Pv (i + 1), ct := Pv (i + 1), bk := D.nx } σ2 H2) (hd : ∀ σ H, Pv xs.length σ H → D.nx σ H) :
    ∃ W : Nat → Nat → L2.St → Hp → Prop, (∃ m, W 0 m σ H) ∧ ∀ i m σ H, W i m σ H →
      ((IteT K a xs.length).stop i H ∧ D.nx σ H) ∨ ((IteT K a xs.length).go i H ∧ ∃ N : L2.St → Hp → Prop, (∀ σ' H', N σ' H' → ∃ m', m' < m ∧ W (i + 1) m' σ' H') ∧ ∀ v H', (IteT K a xs.length).yld i H v H' → g v σ H' fun σ2 H2 => tb { D with nx := N, ct := N, bk := D.nx } σ2 H2) := by
  refine ⟨fun i m σ H => i + m = xs.length ∧ Pv i σ H, ⟨xs.length, by omega, h0⟩, ?_⟩
  rintro i m σ H ⟨im, p⟩
  have hx := hq i σ H p
  by_cases c : i < xs.length
  · refine .inr ⟨⟨xs, xs[i], hx, List.getElem?_eq_getElem c, rfl⟩, Pv (i + 1), fun σ' H' p' => ⟨m - 1, by omega, by omega, p'⟩, ?_⟩
    rintro v H' ⟨t, x, rfl, nt, rfl, at_⟩
    exact hs i x t σ H (at_ xs hx) p nt
  · refine .inl ⟨⟨xs, hx, rfl, by omega⟩, hd σ H ?_⟩
    have : i = xs.length := by omega
    rw [← this]
    exact p

theorem kit_tupT {K : PySem.W.Frag} : PySem.W.kitOne K (.type "tuple") (.type "tuple") = some true := kit_ty (a := "tuple") (b := "tuple") (r := true) (by decide +kernel)
theorem kit_intI {K : PySem.W.Frag} : PySem.W.kitOne K (.type "int") (.type "int") = some true := kit_ty (a := "int") (b := "int") (r := true) (by decide +kernel)
theorem kit_intB {K : PySem.W.Frag} : PySem.W.kitOne K (.type "int") (.type "bool") = some false := kit_ty (a := "int") (b := "bool") (r := false) (by decide +kernel)
theorem dpAll_at {K : PySem.W.Frag} {H : Hp} : ∀ {vs : List V} {ds : List PyData}, DpAll K H vs ds → ∀ {i : Nat} {v : V}, vs[i]? = some v → ∃ d, ds[i]? = some d ∧ Dp K H v d
  | _, _, .nil, _, _, e => by simp at e
  | _, _, .cons a b, 0, _, e => by
    cases e
    exact ⟨_, rfl, a⟩
  | _, _, .cons a b, i + 1, _, e => dpAll_at b (i := i) e
theorem dpAll_n {K : PySem.W.Frag} {H : Hp} : ∀ {vs : List V} {ds : List PyData}, DpAll K H vs ds → vs.length = ds.length
  | _, _, .nil => rfl
  | _, _, .cons _ h => by rw [List.length_cons, List.length_cons, dpAll_n h]
def Ris (d e : PyData) : Prop := PySem.W.alike d e = true ∧ d ≠ .none ∧ d.depth ≤ 60 ∧ PySem.W.dataLt d e = true
theorem svI_chain (x y p lo hi : Int) : svI x y p lo hi = (decide (lo ≤ x) && (decide (x ≤ p) && (decide (p ≤ y) && decide (y ≤ hi)))) := by
  rw [show svI x y p lo hi = sv (x, y) (p, lo, hi) from sv_svI (x, y) (p, lo, hi), Bool.eq_iff_iff, sv_iff']
  simp only [Bool.and_eq_true, decide_eq_true_eq]
def dmD (d : Dem) : PyData := .tuple [.int d.1, .tuple [.int d.2.1, .int d.2.2]]
theorem Dms.dp {K : PySem.W.Frag} {H : Hp} {vs : List V} {ds : List Dem} (h : Dms H vs ds) : DpAll K H vs (ds.map dmD) := by
  induction h with
  | nil => exact .nil
  | cons e _ ih =>
    obtain ⟨u, t, rfl, e1, e2⟩ := e.ex
    exact .cons (.tup (SqT.of e1) (.cons (.int _) (.cons (dp2 e2) .nil))) ih
/-- right witnesses -/
structure WitOk (ts ps : List (Int × Int)) (W : List Dem) : Prop where
  ok : ∀ d ∈ W, d.2 ∈ ts ∧ (0 ≤ d.2.1 ∧ d.2.1 ≤ d.1 ∧ d.1 ≤ d.2.2 ∧ d.2.2 ≤ 1000000000000) ∧ ∀ q ∈ ps, sv q d = false
  ind : Ind W
  asc : W.Pairwise fun d e => d.1 < e.1
theorem dab_asc {ts bs : List (Int × Int)} (h : bs.Pairwise fun a b => a.1 < b.1) : (dab ts bs).Pairwise fun d e => d.1 ≤ e.1 := by
  induction bs with
  | nil => exact .nil
  | cons b bs ih =>
    have p := List.pairwise_cons.mp h
    show (dabT ts b.1 ++ dab ts bs).Pairwise _
    refine List.pairwise_append.mpr ⟨?_, ih p.2, fun d hd e he => ?_⟩
    · unfold dabT
      exact List.pairwise_map.mpr (List.pairwise_of_forall fun _ _ => Int.le_refl _)
    · unfold dabT at hd
      obtain ⟨t, _, rfl⟩ := List.mem_map.mp hd
      obtain ⟨t2, _, x, hx, _, rfl⟩ := mem_dab.mp he
      obtain ⟨c, hc, rfl⟩ := List.mem_map.mp hx
      exact Int.le_of_lt (p.1 c hc)
theorem wit_ok {ts ps : List (Int × Int)} (g : Good (ts ++ ps)) (top : ∀ q ∈ ts, q.2 ≤ 1000000000000) : WitOk ts ps (witO ts ps) := by
  have sub := lg_sub (decO ts ps).length (decO ts ps)
  have ind : Ind (witO ts ps) := lg_ind _ _
  refine ⟨fun d hd => ?_, ind, ?_⟩
  · obtain ⟨⟨h1, h2, h3⟩, _⟩ := mem_dec.mp (sub.mem hd)
    have g1 := g d.2 (List.mem_append_left _ h1)
    exact ⟨h1, ⟨g1.1, h2.1, h2.2, top _ h1⟩, h3⟩
  · have pw : (decO ts ps).Pairwise fun d e => d.1 ≤ e.1 := ((dab_asc (blk_asc g)).filter _).filter _
    have both := (pw.sublist sub).and ind
    refine both.imp_of_mem fun {d e} hd he h => ?_
    have vd := (mem_dec.mp (sub.mem hd)).1.2.1
    have ve := (mem_dec.mp (sub.mem he)).1.2.1
    rcases Int.lt_or_eq_of_le h.1 with z | z
    · exact z
    · have c : cf d e = true := cf_iff.mpr ⟨⟨by have := ve.1; omega, by have := ve.2; omega⟩, by have := vd.1; omega, by have := vd.2; omega⟩
      rw [c] at h
      cases h.2
theorem pair_ris {A : List (Int × Int)} (h : A.Pairwise ltP) : (A.map pairD).Pairwise Ris :=
  List.pairwise_map.mpr (h.imp fun {p q} h => ⟨rfl, (fun z => nomatch z), by show 1 ≤ 60; decide, dlt_pair h⟩)

/-! ### drawn boards -/
theorem OV.tps {H H' : Hp} (s : Tps H H') {v : V} {o : Option (Int × Int)} (h : OV H v o) : OV H' v o := by
  match o, h with
  | none, h => exact h
  | some (x, y), h =>
    obtain ⟨t, e, h⟩ := h
    exact ⟨t, e, s _ _ h⟩
def OVs (H : Hp) (vs : List V) (os : List (Option (Int × Int))) : Prop := vs.length = os.length ∧ ∀ (i : Nat) (v : V), vs[i]? = some v → ∃ o, os[i]? = some o ∧ OV H v o
theorem OVs.tps {H H' : Hp} (s : Tps H H') {vs : List V} {os : List (Option (Int × Int))} (h : OVs H vs os) : OVs H' vs os := ⟨h.1, fun i v e => by
  obtain ⟨o, e1, e2⟩ := h.2 i v e
  exact ⟨o, e1, e2.tps s⟩⟩
theorem OVs.same {H H' : Hp} (s : Same H H') {vs : List V} {os : List (Option (Int × Int))} (h : OVs H vs os) : OVs H' vs os := h.tps (Tps.same s)
theorem OVs.nil (H : Hp) : OVs H [] [] := ⟨rfl, by intro i v e; simp at e⟩
theorem OVs.snoc {H : Hp} {vs : List V} {os : List (Option (Int × Int))} (h : OVs H vs os) {v : V} {o : Option (Int × Int)} (e : OV H v o) : OVs H (vs ++ [v]) (os ++ [o]) := by
  refine ⟨by rw [List.length_append, List.length_append, h.1]; rfl, fun i u hu => ?_⟩
  rcases Nat.lt_or_ge i vs.length with l | l
  · rw [List.getElem?_append_left l] at hu
    obtain ⟨o', e1, e2⟩ := h.2 i u hu
    exact ⟨o', by rw [List.getElem?_append_left (by rw [← h.1]; exact l)]; exact e1, e2⟩
  · rw [List.getElem?_append_right l] at hu
    have z : i - vs.length = 0 := by
      have := (List.getElem?_eq_some_iff.mp hu).1
      simp at this
      omega
    rw [z] at hu
    cases hu
    exact ⟨o, by rw [List.getElem?_append_right (by rw [← h.1]; exact l), ← h.1, z]; rfl, e⟩
theorem OVs.set {H : Hp} {vs : List V} {os : List (Option (Int × Int))} (h : OVs H vs os) (k : Nat) {v : V} {o : Option (Int × Int)} (e : OV H v o) : OVs H (vs.set k v) (os.set k o) := by
  refine ⟨by rw [List.length_set, List.length_set]; exact h.1, fun i u hu => ?_⟩
  rw [List.getElem?_set] at hu ⊢
  rw [← h.1]
  by_cases c : k = i
  · rw [if_pos c] at hu ⊢
    split at hu
    · next l =>
      cases hu
      rw [if_pos l]
      exact ⟨o, rfl, e⟩
    · cases hu
  · rw [if_neg c] at hu ⊢
    exact h.2 i u hu
/-- a column of rows below h -/
def ColOk (h : Int) : Option (Int × Int) → Prop
  | none => True
  | some (x, y) => 0 ≤ x ∧ x ≤ y ∧ y < h
def sp_law_column : Sp := fun vs H Q _ => ∃ (d : Addr) (c : Addr × Addr × Addr) (n h : Int), vs = [.ref d, .int h] ∧ Dk H d c n ∧ 0 ≤ n ∧ n < 900000 ∧ 1 ≤ h ∧ h ≤ 100 ∧
  ∀ H' t x y, Kp d c H H' → Dk H' d c (n + 3) → H' t = some (.tup [.int x, .int y]) → 0 ≤ x → x ≤ y → y < h → Q (.ref t) H'
theorem ok_law_column (T : Tx K mg f_depth_changes f_find_blocks f_has_position f_contains f_serves f_conflict f_demands_at_blocks f_is_open f_open_demands f_shadow_target f_decisive_demands f_largest_independent f_unserved_demands f_helpful_piece f_smallest_solution f_row_runs f_rows_of_runs f_tallest_rectangle f_cover_board f_law_draws f_law_next f_law_column f_law_board f_law_is_int f_law_inside f_law_full f_law_is_rectangle f_law_apart f_law_levels f_law_ascends f_law_covered f_law_is_cell f_law_holds f_law_board_cells f_law_number f_law_tallest f_law_fewest f_law_most f_law d_depth_changes d_find_blocks d_has_position d_contains d_serves d_conflict d_demands_at_blocks d_is_open d_open_demands d_shadow_target d_decisive_demands d_largest_independent d_unserved_demands d_helpful_piece d_smallest_solution d_row_runs d_rows_of_runs d_tallest_rectangle d_cover_board d_law_draws d_law_next d_law_column d_law_board d_law_is_int d_law_inside d_law_full d_law_is_rectangle d_law_apart d_law_levels d_law_ascends d_law_covered d_law_is_cell d_law_holds d_law_board_cells d_law_number d_law_tallest d_law_fewest d_law_most d_law) : FnOk P w K mg base CX0 2 f_law_column d_law_column ["_law_drawn", "_law_height"] sp_law_column := by
  refine T.F_law_column.ok sc_law_column (fun vs H Q E h => ?_) (fun cdv A outer s H vs Q E hr h => ?_)
  · obtain ⟨d, c, n, h, rfl, _⟩ := h
    rfl
  · obtain ⟨d, c, n, h, rfl, dk, n0, n1, h0, h1, q⟩ := h
    refine ⟨_, (pss_cons (ps_par (by rfl) sc_law_column.nd (i := 2) (j := 3) rfl rfl (by decide) rfl rfl (pa_cons (pe_call (ok_law_next T) (hr.mono (by decide)) (by rfl) T.g_law_next T.F_law_next.kp T.b_law_next .nil pass0 (pa_cons (pv 0) (pa_cons (pv 1) pa_nil))) (pa_cons (pe_call (ok_law_next T) (hr.mono (by decide)) (by rfl) T.g_law_next T.F_law_next.kp T.b_law_next .nil pass0 (pa_cons (pv 0) (pa_cons (pv 1) pa_nil))) pa_nil)) (by rfl))
      (pss_cons (ps_set (i := 4) sc_law_column.nd rfl (Or.inl rfl) (pe_call (ok_law_next T) (hr.mono (by decide)) (by rfl) T.g_law_next T.F_law_next.kp T.b_law_next .nil pass0 (pa_cons (pv 0) (pa_cons pe_int pa_nil))))
      (pss_cons (ps_if (pt_cmpR op_eq (pv 4) pe_int (nomark _))
      (pss_one (ps_ret (pe_tup (pa_cons (pv 2) (pa_cons (pv 2) pa_nil)))))
      pss_nil)
      (pss_cons (ps_if (pt_cmpR op_eq (pv 4) pe_int (nomark _))
      (pss_one (ps_ret (pe_tup (pa_cons pe_int (pa_cons (pv 2) pa_nil)))))
      pss_nil)
      (pss_one (ps_ret (pe_tup (pa_cons (pe_callB (call_min2 rfl) (by rfl) T.z_min (by decide +kernel) (pa_cons (pv 2) (pa_cons (pv 3) pa_nil))) (pa_cons (pe_callB (call_max2 rfl) (by rfl) T.z_max (by decide +kernel) (pa_cons (pv 2) (pa_cons (pv 3) pa_nil))) pa_nil))))))))), ?_⟩
    refine ⟨.ref d, rfl, .int h, rfl, d, c, n, h, rfl, dk, n0, by omega, by omega, by omega, fun H1 a kp1 dk1 a0 a1 => ?_⟩
    refine ⟨.ref d, rfl, .int h, rfl, d, c, n + 1, h, rfl, dk1, by omega, by omega, by omega, by omega, fun H2 b kp2 dk2 b0 b1 => ?_⟩
    refine ⟨_, _, rfl, ?_⟩
    refine ⟨.ref d, rfl, d, c, _, 6, rfl, dk2, by omega, by omega, by decide, by decide, fun H3 s kp3 dk3 s0 s1 => ?_⟩
    have kp := kp1.trans (kp2.trans kp3)
    have dk4 : Dk H3 d c (n + 3) := dk3.eq (by omega)
    refine ⟨.int s, rfl, rfl, _, rfl, ite2 (fun _ => ?_) (fun _ => ?_)⟩
    · refine ⟨.int a, rfl, .int a, rfl, by show 2 ≤ sizeLine; decide, fun t nt => ?_⟩
      exact q _ t a a (kp.trans (Kp.same (same_new nt))) (dk4.kept (same_new nt)) upd_same a0 (Int.le_refl _) a1
    · refine ⟨.int s, rfl, rfl, _, rfl, ite2 (fun _ => ?_) (fun _ => ?_)⟩
      · refine ⟨.int a, rfl, by show 2 ≤ sizeLine; decide, fun t nt => ?_⟩
        exact q _ t 0 a (kp.trans (Kp.same (same_new nt))) (dk4.kept (same_new nt)) upd_same (Int.le_refl _) a0 a1
      · refine ⟨.int a, rfl, .int b, rfl, _, _, rfl, .int a, rfl, .int b, rfl, _, _, rfl, by show 2 ≤ sizeLine; decide, fun t nt => ?_⟩
        refine q _ t (if b < a then b else a) (if b > a then b else a) (kp.trans (Kp.same (same_new nt))) (dk4.kept (same_new nt)) upd_same ?_ ?_ ?_
        · split <;> omega
        · split <;> split <;> omega
        · split <;> omega
def sp_law_board : Sp := fun vs H Q _ => ∃ (d : Addr) (c : Addr × Addr × Addr) (n most h : Int), vs = [.ref d, .int most, .int h] ∧ Dk H d c n ∧ 0 ≤ n ∧ n < 800000 ∧ 1 ≤ most ∧ most ≤ 8 ∧ 1 ≤ h ∧ h ≤ 100 ∧
  ∀ H' t us bs m, Kp d c H H' → Dk H' d c m → n ≤ m → m ≤ n + 41 → H' t = some (.tup us) → OVs H' us bs → 1 ≤ bs.length → (bs.length : Int) ≤ most → (∀ o ∈ bs, ColOk h o) → Q (.ref t) H'
theorem ok_law_board (T : Tx K mg f_depth_changes f_find_blocks f_has_position f_contains f_serves f_conflict f_demands_at_blocks f_is_open f_open_demands f_shadow_target f_decisive_demands f_largest_independent f_unserved_demands f_helpful_piece f_smallest_solution f_row_runs f_rows_of_runs f_tallest_rectangle f_cover_board f_law_draws f_law_next f_law_column f_law_board f_law_is_int f_law_inside f_law_full f_law_is_rectangle f_law_apart f_law_levels f_law_ascends f_law_covered f_law_is_cell f_law_holds f_law_board_cells f_law_number f_law_tallest f_law_fewest f_law_most f_law d_depth_changes d_find_blocks d_has_position d_contains d_serves d_conflict d_demands_at_blocks d_is_open d_open_demands d_shadow_target d_decisive_demands d_largest_independent d_unserved_demands d_helpful_piece d_smallest_solution d_row_runs d_rows_of_runs d_tallest_rectangle d_cover_board d_law_draws d_law_next d_law_column d_law_board d_law_is_int d_law_inside d_law_full d_law_is_rectangle d_law_apart d_law_levels d_law_ascends d_law_covered d_law_is_cell d_law_holds d_law_board_cells d_law_number d_law_tallest d_law_fewest d_law_most d_law) : FnOk P w K mg base CX0 3 f_law_board d_law_board ["_law_drawn", "_law_most_here", "_law_height"] sp_law_board := by
  refine T.F_law_board.ok sc_law_board (fun vs H Q E h => ?_) (fun cdv A outer s H vs Q E hr h => ?_)
  · obtain ⟨d, c, n, most, h, rfl, _⟩ := h
    rfl
  · obtain ⟨d, c, n, most, h, rfl, dk, n0, n1, m0, m1, h0, h1, q⟩ := h
    refine ⟨_, (pss_cons (ps_set (i := 3) sc_law_board.nd rfl (Or.inl rfl) (pe_lst pa_nil))
      (pss_cons (ps_for PassesOwn.never rfl (pi_range1 (by rfl) T.z_range (pa_cons (pe_op op_add pe_int (pe_call (ok_law_next T) (hr.mono (by decide)) (by rfl) T.g_law_next T.F_law_next.kp T.b_law_next .nil pass0 (pa_cons (pv 0) (pa_cons (pv 1) pa_nil)))) pa_nil)) (pg_name (i := 4) sc_law_board.nd rfl (Or.inl rfl))
      (pss_cons (ps_set (i := 5) sc_law_board.nd rfl (Or.inl rfl) (pe_call (ok_law_next T) (hr.mono (by decide)) (by rfl) T.g_law_next T.F_law_next.kp T.b_law_next .nil pass0 (pa_cons (pv 0) (pa_cons pe_int pa_nil))))
      (pss_cons (ps_expr (pe_bm PySem.F.plainAttrs_list PySem.F.slot_list_append PySem.F.type_list_append mt_append (pv 3) (pa_cons (pe_call (ok_law_column T) (hr.mono (by decide)) (by rfl) T.g_law_column T.F_law_column.kp T.b_law_column .nil pass0 (pa_cons (pv 0) (pa_cons (pv 2) pa_nil))) pa_nil)))
      (pss_cons (ps_if (pt_cmpR op_eq (pv 5) pe_int (nomark _))
      (pss_one (ps_asg pe_non (pg_sub (pv 3) (pv 4) set_list)))
      pss_nil)
      (pss_one (ps_if (pt_cmpR op_eq (pv 5) pe_int (nomark _))
      (pss_one (ps_asg (pe_ix ix_list (pv 3) (pe_call (ok_law_next T) (hr.mono (by decide)) (by rfl) T.g_law_next T.F_law_next.kp T.b_law_next .nil pass0 (pa_cons (pv 0) (pa_cons (pe_op op_add (pv 4) pe_int) pa_nil))) (fun _ _ => rfl)) (pg_sub (pv 3) (pv 4) set_list)))
      pss_nil))))))
      (pss_one (ps_ret (pe_callTy call_tuple_of (by rfl) T.z_tuple (by decide +kernel) (pa_cons (pv 3) pa_nil)))))), ?_⟩
    refine ⟨by show 0 ≤ sizeLine; decide, fun l nl => ?_⟩
    have offl := dk.off nl
    have s0 := same_new (o := .lst []) nl
    refine ⟨.ref d, rfl, .int most, rfl, d, c, n, most, rfl, dk.kept s0, n0, by omega, by omega, by omega, fun H1 r kp1 dk1 r0 r1 => ?_⟩
    have el0 := kp1.keep offl (upd_same (H := H) (a := l) (o := .lst []))
    have kp01 := (Kp.same s0).trans kp1
    refine ⟨_, _, rfl, rfl, 1 + r, rfl, by omega, by omega, ?_⟩
    refine for_range (D := ⟨_, _, fun _ _ => True, fun _ _ => True⟩) (n := (1 + r).toNat) (fun i σ H' => Kp d c H H' ∧ (∃ m : Int, Dk H' d c m ∧ n + 1 ≤ m ∧ m ≤ n + 1 + 5 * i) ∧ (∃ us bs, H' l = some (.lst us) ∧ OVs H' us bs ∧ bs.length = i ∧ ∀ o ∈ bs, ColOk h o) ∧ ∃ y4 y5, σ = [some (.ref d), some (.int most), some (.int h), some (.ref l), y4, y5])
      ⟨kp01, ⟨n + 1, dk1, Int.le_refl _, by omega⟩, ⟨[], [], el0, OVs.nil _, rfl, fun o ho => nomatch ho⟩, _, _, rfl⟩ ?_ ?_
    · rintro i σ H2 hi ⟨kp2, ⟨m, dk2, b0, b1⟩, ⟨us, bs, el, ovs, lb, ok⟩, y4, y5, rfl⟩
      have lus := ovs.1
      refine ⟨.ref d, rfl, d, c, m, 8, rfl, dk2, by omega, by omega, by decide, by decide, fun H3 s kp3 dk3 s0' s1 => ?_⟩
      refine ⟨.ref l, rfl, .inl ⟨rfl, _, SqL.of (kp3.keep offl el)⟩, ?_⟩
      refine ⟨.ref d, rfl, .int h, rfl, d, c, _, h, rfl, dk3, by omega, by omega, h0, h1, fun H4 t x y kp4 dk4 et x0 xy yh => ?_⟩
      have kp34 := kp3.trans kp4
      have el4 := kp34.keep offl el
      have ovs4 := ovs.tps (kp34.tps dk2)
      have ok2 : ∀ o ∈ bs ++ [some (x, y)], ColOk h o := fun o ho => by
        rcases List.mem_append.mp ho with ho | ho
        · exact ok o ho
        · rw [List.mem_singleton.mp ho]
          exact ⟨x0, xy, yh⟩
      refine ⟨l, us, _, rfl, rfl, el4, small1000 (by omega), ?_⟩
      have ovs5 : OVs (upd H4 l (.lst (us ++ [V.ref t]))) (us ++ [V.ref t]) (bs ++ [some (x, y)]) := (ovs4.snoc (v := V.ref t) (o := some (x, y)) ⟨t, rfl, et⟩).tps (Tps.lst el4)
      have kp5 : Kp d c H (upd H4 l (.lst (us ++ [V.ref t]))) := fun b o c1 c2 e => by
        rw [upd_ne (ne_of_none e nl)]
        exact (kp2.trans kp34) b o c1 c2 e
      have dk5 : Dk (upd H4 l (.lst (us ++ [V.ref t]))) d c (m + 1 + 3) := dk4.upd offl
      have el5 : upd H4 l (.lst (us ++ [V.ref t])) l = some (.lst (us ++ [V.ref t])) := upd_same
      have lus5 : (us ++ [V.ref t]).length = i + 1 := by
        rw [List.length_append, lus, lb]
        rfl
      have lb5 : (bs ++ [some (x, y)]).length = i + 1 := by
        rw [List.length_append, lb]
        rfl
      generalize upd H4 l (.lst (us ++ [V.ref t])) = H5 at *
      generalize us ++ [V.ref t] = us' at *
      generalize bs ++ [some (x, y)] = bs' at *
      have ixi : ∀ u' : List V, u'.length = i + 1 → ixN u'.length (0 + (i : Int)) = some i := fun u' e => by
        unfold ixN
        rw [if_pos (by omega), if_pos (by omega)]
        congr 1
        omega
      -- an empty column
      refine ⟨.int s, rfl, rfl, _, rfl, ite2 (fun cs => ?_) (fun cs => ?_)⟩
      · have cs := of_decide_eq_true cs
        injection cs with cs
        refine ⟨.ref l, rfl, .int (0 + (i : Nat)), rfl, l, us', _, i, rfl, rfl, el5, ixi us' lus5, ?_⟩
        have ovs6 : OVs (upd H5 l (.lst (us'.set i .non))) (us'.set i .non) (bs'.set i none) := (ovs5.set i (show OV H5 V.non none from rfl)).tps (Tps.lst el5)
        have ok6 : ∀ o ∈ bs'.set i none, ColOk h o := fun o ho => by
          rcases List.mem_or_eq_of_mem_set ho with z | z
          · exact ok2 o z
          · rw [z]
            trivial
        refine ⟨.int s, rfl, rfl, _, rfl, ite2 (fun cs2 => ?_) (fun _ => ?_)⟩
        · have cs2 := of_decide_eq_true cs2
          injection cs2 with cs2
          omega
        · exact ⟨fun b o c1 c2 e => by rw [upd_ne (ne_of_none e nl)]; exact kp5 b o c1 c2 e, ⟨_, dk5.upd offl, by omega, by omega⟩, ⟨_, _, upd_same, ovs6, by rw [List.length_set]; exact lb5, ok6⟩, _, _, rfl⟩
      · refine ⟨.int s, rfl, rfl, _, rfl, ite2 (fun cs2 => ?_) (fun _ => ?_)⟩
        · refine ⟨.ref l, rfl, .ref d, rfl, .int (0 + (i : Nat)), rfl, _, _, rfl, rfl, d, c, _, 0 + (i : Nat) + 1, rfl, dk5, by omega, by omega, by omega, by omega, fun H6 k kp6 dk6 k0 k1 => ?_⟩
          have el6 := kp6.keep offl el5
          obtain ⟨kn, rfl⟩ : ∃ kn : Nat, k = kn := ⟨k.toNat, by omega⟩
          have kl : kn < us'.length := by omega
          refine ⟨l, us', (kn : Int), us'[kn], rfl, rfl, SqL.of el6, atI_nat (List.getElem?_eq_getElem kl), ?_⟩
          have ovs6 := ovs5.tps (kp6.tps dk5)
          obtain ⟨o, eo, ov⟩ := ovs6.2 kn _ (List.getElem?_eq_getElem kl)
          refine ⟨.ref l, rfl, .int (0 + (i : Nat)), rfl, l, us', _, i, rfl, rfl, el6, ixi us' lus5, ?_⟩
          have ovs7 : OVs (upd H6 l (.lst (us'.set i us'[kn]))) (us'.set i us'[kn]) (bs'.set i o) := (ovs6.set i ov).tps (Tps.lst el6)
          have ok7 : ∀ o' ∈ bs'.set i o, ColOk h o' := fun o' ho => by
            rcases List.mem_or_eq_of_mem_set ho with z | z
            · exact ok2 o' z
            · rw [z]
              exact ok2 o (List.mem_of_getElem? eo)
          exact ⟨fun b o c1 c2 e => by rw [upd_ne (ne_of_none e nl)]; exact (kp5.trans kp6) b o c1 c2 e, ⟨_, dk6.upd offl, by omega, by omega⟩, ⟨_, _, upd_same, ovs7, by rw [List.length_set]; exact lb5, ok7⟩, _, _, rfl⟩
        · exact ⟨kp5, ⟨_, dk5, by omega, by omega⟩, ⟨_, _, el5, ovs5, lb5, ok2⟩, _, _, rfl⟩
    · rintro σ H2 ⟨kp2, ⟨m, dk2, b0, b1⟩, ⟨us, bs, el, ovs, lb, ok⟩, y4, y5, rfl⟩
      refine ⟨.ref l, rfl, l, us, rfl, .inl ⟨SqL.of el, fun t nt => ?_⟩⟩
      exact q _ t us bs m (kp2.trans (Kp.same (same_new nt))) (dk2.kept (same_new nt)) (by omega) (by omega) upd_same (ovs.same (same_new nt)) (by omega) (by omega) ok
def strC (f s : Int) (o : Option (Int × Int)) : Option (Int × Int) := o.map (strI f s)
def sp_law_stretch : Sp := fun vs H Q _ => ∃ (a : Addr) (us : List V) (bs : List (Option (Int × Int))) (s f : Int), vs = [.ref a, .int s, .int f] ∧ H a = some (.tup us) ∧ OVs H us bs ∧ bs.length < 1000 ∧ (∀ o ∈ bs, ColOk 16 o) ∧ 0 < f ∧ f ≤ 10000000000 ∧ 0 ≤ s ∧ s ≤ 1000000000000 ∧
  ∀ H' t ws, Same H H' → H' t = some (.tup ws) → OVs H' ws (bs.map (strC f s)) → Q (.ref t) H'
def sp_law_any_board : Sp := fun vs H Q _ => ∃ (d : Addr) (c : Addr × Addr × Addr) (n most : Int), vs = [.ref d, .int most] ∧ Dk H d c n ∧ 0 ≤ n ∧ n < 700000 ∧ 1 ≤ most ∧ most ≤ 8 ∧
  ∀ H' t us bs m, Kp d c H H' → Dk H' d c m → n ≤ m → m ≤ n + 44 → H' t = some (.tup us) → OVs H' us bs → 1 ≤ bs.length → (bs.length : Int) ≤ most → (∀ o ∈ bs, ColOk 1000000000001 o) → Q (.ref t) H'
theorem pick4 {r : Int} (h0 : 0 ≤ r) (h1 : r < 4) (a b e f : Int) : ∃ v : Int, atI [V.int a, .int b, .int e, .int f] r = some (.int v) ∧ (v = a ∨ v = b ∨ v = e ∨ v = f) := by
  have : r = 0 ∨ r = 1 ∨ r = 2 ∨ r = 3 := by omega
  rcases this with rfl | rfl | rfl | rfl
  · exact ⟨a, rfl, .inl rfl⟩
  · exact ⟨b, rfl, .inr (.inl rfl)⟩
  · exact ⟨e, rfl, .inr (.inr (.inl rfl))⟩
  · exact ⟨f, rfl, .inr (.inr (.inr rfl))⟩
theorem pick3 {r : Int} (h0 : 0 ≤ r) (h1 : r < 3) (a b e : Int) : ∃ v : Int, atI [V.int a, .int b, .int e] r = some (.int v) ∧ (v = a ∨ v = b ∨ v = e) := by
  have : r = 0 ∨ r = 1 ∨ r = 2 := by omega
  rcases this with rfl | rfl | rfl
  · exact ⟨a, rfl, .inl rfl⟩
  · exact ⟨b, rfl, .inr (.inl rfl)⟩
  · exact ⟨e, rfl, .inr (.inr rfl)⟩
/-! ### the runs of a row: mathematics -/
/-- the column k has a cell in the row r -/
def colAt (os : List (Option (Int × Int))) (r : Int) (k : Nat) : Bool := match os[k]? with
  | some (some (x, y)) => decide (x ≤ r) && decide (r ≤ y)
  | _ => false
theorem colAt_some {os : List (Option (Int × Int))} {r x y : Int} {k : Nat} (e : os[k]? = some (some (x, y))) : colAt os r k = (decide (x ≤ r) && decide (r ≤ y)) := by
  unfold colAt
  rw [e]
theorem colAt_none {os : List (Option (Int × Int))} {r : Int} {k : Nat} (e : os[k]? = some none) : colAt os r k = false := by
  unfold colAt
  rw [e]
theorem colAt_out {os : List (Option (Int × Int))} {r : Int} {k : Nat} (h : os.length ≤ k) : colAt os r k = false := by
  unfold colAt
  rw [List.getElem?_eq_none h]
theorem colAt_true {os : List (Option (Int × Int))} {r : Int} {k : Nat} (h : colAt os r k = true) : ∃ x y, os[k]? = some (some (x, y)) ∧ x ≤ r ∧ r ≤ y := by
  unfold colAt at h
  split at h
  · next x y e =>
    rw [Bool.and_eq_true] at h
    exact ⟨x, y, e, of_decide_eq_true h.1, of_decide_eq_true h.2⟩
  · exact absurd h (by decide)
/-- a run that ends before the mark n - 1 -/
def RunC (p : Nat → Bool) (n : Nat) (q : Int × Int) : Prop := ∃ x y : Nat, q = ((x : Int), (y : Int)) ∧ x ≤ y ∧ y + 1 < n ∧ (∀ k, x ≤ k → k ≤ y → p k = true) ∧ (x = 0 ∨ p (x - 1) = false) ∧ p (y + 1) = false
/-- a run that goes on at n - 1 -/
def RunO (p : Nat → Bool) (n : Nat) (x : Nat) : Prop := x < n ∧ (∀ k, x ≤ k → k < n → p k = true) ∧ (x = 0 ∨ p (x - 1) = false)
def RunF (p : Nat → Bool) (q : Int × Int) : Prop := ∃ x y : Nat, q = ((x : Int), (y : Int)) ∧ x ≤ y ∧ (∀ k, x ≤ k → k ≤ y → p k = true) ∧ (x = 0 ∨ p (x - 1) = false) ∧ p (y + 1) = false
theorem runC_zero {p : Nat → Bool} {q : Int × Int} : ¬ RunC p 0 q := fun ⟨x, y, _, _, h, _⟩ => by omega
theorem runC_t {p : Nat → Bool} {n : Nat} (h : p n = true) {q : Int × Int} : RunC p (n + 1) q ↔ RunC p n q := by
  constructor
  · rintro ⟨x, y, e, xy, yn, a, b, c⟩
    refine ⟨x, y, e, xy, ?_, a, b, c⟩
    rcases Nat.lt_or_ge (y + 1) n with z | z
    · exact z
    · have : y + 1 = n := by omega
      rw [this, h] at c
      cases c
  · rintro ⟨x, y, e, xy, yn, a, b, c⟩
    exact ⟨x, y, e, xy, by omega, a, b, c⟩
theorem runC_f {p : Nat → Bool} {n : Nat} (h : n = 0 ∨ p (n - 1) = false) {q : Int × Int} : RunC p (n + 1) q ↔ RunC p n q := by
  constructor
  · rintro ⟨x, y, e, xy, yn, a, b, c⟩
    refine ⟨x, y, e, xy, ?_, a, b, c⟩
    rcases Nat.lt_or_ge (y + 1) n with z | z
    · exact z
    · have e2 : y = n - 1 := by omega
      have := a y xy (Nat.le_refl _)
      rcases h with h | h
      · omega
      · rw [e2, h] at this
        cases this
  · rintro ⟨x, y, e, xy, yn, a, b, c⟩
    exact ⟨x, y, e, xy, by omega, a, b, c⟩
theorem runC_o {p : Nat → Bool} {n x : Nat} (h : p n = false) (o : RunO p n x) {q : Int × Int} : RunC p (n + 1) q ↔ RunC p n q ∨ q = ((x : Int), ((n - 1 : Nat) : Int)) := by
  obtain ⟨o1, o2, o3⟩ := o
  constructor
  · rintro ⟨x', y, e, xy, yn, a, b, c⟩
    rcases Nat.lt_or_ge (y + 1) n with z | z
    · exact .inl ⟨x', y, e, xy, z, a, b, c⟩
    · refine .inr ?_
      have e2 : y = n - 1 := by omega
      subst e2
      have : x' = x := by
        rcases Nat.lt_trichotomy x' x with l | l | l
        · rcases o3 with o3 | o3
          · omega
          · have := a (x - 1) (by omega) (by omega)
            rw [o3] at this
            cases this
        · exact l
        · rcases b with b | b
          · omega
          · have := o2 (x' - 1) (by omega) (by omega)
            rw [b] at this
            cases this
      rw [e, this]
  · rintro (⟨x', y, e, xy, yn, a, b, c⟩ | e)
    · exact ⟨x', y, e, xy, by omega, a, b, c⟩
    · refine ⟨x, n - 1, e, by omega, by omega, fun k k1 k2 => o2 k k1 (by omega), o3, ?_⟩
      rw [show n - 1 + 1 = n by omega]
      exact h
theorem runO_more {p : Nat → Bool} {n x : Nat} (h : p n = true) (o : RunO p n x) : RunO p (n + 1) x := by
  refine ⟨by have := o.1; omega, fun k k1 k2 => ?_, o.2.2⟩
  rcases Nat.lt_or_ge k n with z | z
  · exact o.2.1 k k1 z
  · rw [show k = n by omega]
    exact h
theorem runO_new {p : Nat → Bool} {n : Nat} (h : p n = true) (o : n = 0 ∨ p (n - 1) = false) : RunO p (n + 1) n := by
  refine ⟨by omega, fun k k1 k2 => ?_, o⟩
  rw [show k = n by omega]
  exact h
theorem runF_iff {p : Nat → Bool} {N : Nat} (h : ∀ k, N ≤ k → p k = false) {q : Int × Int} : RunF p q ↔ RunC p (N + 1) q := by
  constructor
  · rintro ⟨x, y, e, xy, a, b, c⟩
    refine ⟨x, y, e, xy, ?_, a, b, c⟩
    rcases Nat.lt_or_ge y N with z | z
    · omega
    · have := a y xy (Nat.le_refl _)
      rw [h y z] at this
      cases this
  · rintro ⟨x, y, e, xy, yn, a, b, c⟩
    exact ⟨x, y, e, xy, a, b, c⟩
/-- the state of a walk along the marks: what is gathered so far -/
def RunS (p : Nat → Bool) (n : Nat) (l : List (Int × Int)) : Prop :=
  ((n = 0 ∨ p (n - 1) = false) ∧ (∀ q, q ∈ l ↔ RunC p n q)) ∨
  ∃ l' x, p (n - 1) = true ∧ RunO p n x ∧ l = l' ++ [((x : Int), ((n - 1 : Nat) : Int))] ∧ ∀ q, q ∈ l' ↔ RunC p n q
theorem RunS.nil {p : Nat → Bool} : RunS p 0 [] := .inl ⟨.inl rfl, fun q => ⟨fun h => (nomatch h), fun h => absurd h runC_zero⟩⟩
theorem RunS.skip {p : Nat → Bool} {n : Nat} {l : List (Int × Int)} (s : RunS p n l) (h : p n = false) : RunS p (n + 1) l := by
  refine .inl ⟨.inr h, fun q => ?_⟩
  rcases s with ⟨s1, s2⟩ | ⟨l', x, s1, s2, rfl, s4⟩
  · rw [s2, runC_f s1]
  · rw [runC_o h s2, List.mem_append, List.mem_singleton, s4]
theorem RunS.grow {p : Nat → Bool} {n : Nat} {l' : List (Int × Int)} {a b : Int} (s : RunS p n (l' ++ [(a, b)])) (h : p n = true) (e : b = (n : Int) - 1) : RunS p (n + 1) (l' ++ [(a, (n : Int))]) := by
  rcases s with ⟨s1, s2⟩ | ⟨l2, x, s1, s2, e2, s4⟩
  · obtain ⟨x, y, e2, xy, yn, _⟩ := (s2 (a, b)).mp (List.mem_append.mpr (.inr (List.mem_singleton.mpr rfl)))
    injection e2 with e2 e3
    omega
  · obtain ⟨rfl, e3⟩ := List.append_inj' e2 rfl
    injection e3 with e3 _
    injection e3 with e3 _
    subst e3
    exact .inr ⟨l', x, h, runO_more h s2, rfl, fun q => by rw [s4, runC_t h]⟩
theorem RunS.fresh {p : Nat → Bool} {n : Nat} {l : List (Int × Int)} (s : RunS p n l) (h : p n = true) (e : ∀ l' a b, l = l' ++ [(a, b)] → b ≠ (n : Int) - 1) : RunS p (n + 1) (l ++ [((n : Int), (n : Int))]) := by
  rcases s with ⟨s1, s2⟩ | ⟨l', x, s1, s2, rfl, s4⟩
  · exact .inr ⟨l, n, h, runO_new h s1, rfl, fun q => by rw [s2, runC_t h]⟩
  · refine absurd ?_ (e l' _ _ rfl)
    have := s2.1
    omega
theorem RunS.done {p : Nat → Bool} {N : Nat} {l : List (Int × Int)} (s : RunS p N l) (h : ∀ k, N ≤ k → p k = false) (q : Int × Int) : q ∈ l ↔ RunF p q := by
  rw [runF_iff h]
  have s2 := s.skip (h N (Nat.le_refl _))
  rcases s2 with ⟨_, s2⟩ | ⟨_, _, s1, _⟩
  · exact s2 q
  · rw [show N + 1 - 1 = N by omega, h N (Nat.le_refl _)] at s1
    cases s1
theorem runF_lt {p : Nat → Bool} {N : Nat} (h : ∀ k, N ≤ k → p k = false) {q : Int × Int} (r : RunF p q) : 0 ≤ q.1 ∧ q.1 ≤ q.2 ∧ q.2 < N := by
  obtain ⟨x, y, rfl, xy, yn, _⟩ := (runF_iff h).mp r
  refine ⟨?_, ?_, ?_⟩ <;> (show _; omega)
/-- the same marks have the same runs -/
theorem RunF.eq {p r : Nat → Bool} (h : ∀ k, p k = r k) {q : Int × Int} (f : RunF p q) : RunF r q := by
  rw [← show p = r from funext h]
  exact f
/-- the columns that are there -/
def colsOf (os : List (Option (Int × Int))) : List (Int × Int) := os.filterMap id
theorem mem_cols {os : List (Option (Int × Int))} {q : Int × Int} : q ∈ colsOf os ↔ some q ∈ os := by
  unfold colsOf
  rw [List.mem_filterMap]
  constructor
  · rintro ⟨a, h, e⟩
    rw [show a = some q from e] at h
    exact h
  · intro h
    exact ⟨_, h, rfl⟩
def BdOk (os : List (Option (Int × Int))) : Prop := ∀ x y, some (x, y) ∈ os → 0 ≤ x ∧ x ≤ y
theorem BdOk.good {os : List (Option (Int × Int))} (h : BdOk os) : Good (colsOf os) := fun q hq => h _ _ (mem_cols.mp hq)
theorem colAt_dep {os : List (Option (Int × Int))} {r : Int} {k : Nat} (h : colAt os r k = true) : 0 < depI (colsOf os) r := by
  obtain ⟨x, y, e, h1, h2⟩ := colAt_true h
  exact dep_pos.mpr ⟨(x, y), mem_cols.mpr (List.mem_of_getElem? e), h1, h2⟩
/-- no border between b and r: the same columns -/
theorem colAt_same {os : List (Option (Int × Int))} (ok : BdOk os) {b r : Int} (br : b ≤ r) (h : ∀ j, b < j → j ≤ r → ¬ Bd (colsOf os) j) (k : Nat) : colAt os b k = colAt os r k := by
  rw [Bool.eq_iff_iff]
  constructor
  · intro hb
    obtain ⟨x, y, e, h1, h2⟩ := colAt_true hb
    rw [colAt_some e, Bool.and_eq_true]
    refine ⟨decide_eq_true (by omega), decide_eq_true ?_⟩
    refine Classical.byContradiction fun z => ?_
    exact h (y + 1) (by omega) (by omega) ⟨(x, y), mem_cols.mpr (List.mem_of_getElem? e), .inr rfl⟩
  · intro hb
    obtain ⟨x, y, e, h1, h2⟩ := colAt_true hb
    rw [colAt_some e, Bool.and_eq_true]
    refine ⟨decide_eq_true ?_, decide_eq_true ?_⟩
    · refine Classical.byContradiction fun z => ?_
      exact h x (by omega) h1 ⟨(x, y), mem_cols.mpr (List.mem_of_getElem? e), .inl rfl⟩
    · omega
/-- each run is one of the lowest row of a block -/
theorem run_block {os : List (Option (Int × Int))} (ok : BdOk os) {r : Int} {q : Int × Int} (f : RunF (colAt os r) q) : ∃ b ∈ blocksOf (colsOf os), b.1 ≤ r ∧ r ≤ b.2 ∧ RunF (colAt os b.1) q := by
  have hd : 0 < depI (colsOf os) r := by
    obtain ⟨x, y, e, xy, a, _⟩ := f
    exact colAt_dep (a x (Nat.le_refl _) xy)
  obtain ⟨b, hb, h1, h2⟩ := dep_in ok.good hd
  refine ⟨b, hb, h1, h2, f.eq fun k => (colAt_same ok h1 (fun j j1 j2 => ?_) k).symm⟩
  exact (blocks_bl ok.good).inner hb j1 (by omega)
/-- the runs of all rows, ascending -/
def RunL (os : List (Option (Int × Int))) (ps : List (Int × Int)) : Prop := ps.Pairwise ltP ∧ ∀ q, q ∈ ps ↔ ∃ r, RunF (colAt os r) q
theorem ltP_irr {a : Int × Int} : ¬ ltP a a := fun h => by
  unfold ltP at h
  omega
theorem ltP_uniq : ∀ {a b : List (Int × Int)}, a.Pairwise ltP → b.Pairwise ltP → (∀ q, q ∈ a ↔ q ∈ b) → a = b
  | [], [], _, _, _ => rfl
  | [], y :: _, _, _, h => nomatch (h y).mpr List.mem_cons_self
  | x :: _, [], _, _, h => nomatch (h x).mp List.mem_cons_self
  | x :: xs, y :: ys, ha, hb, h => by
    obtain ⟨a1, a2⟩ := List.pairwise_cons.mp ha
    obtain ⟨b1, b2⟩ := List.pairwise_cons.mp hb
    have e : x = y := by
      rcases List.mem_cons.mp ((h x).mp List.mem_cons_self) with e | e
      · exact e
      · rcases List.mem_cons.mp ((h y).mpr List.mem_cons_self) with e2 | e2
        · exact e2.symm
        · have z1 := b1 _ e
          have z2 := a1 _ e2
          unfold ltP at z1 z2
          omega
    subst e
    rw [ltP_uniq a2 b2 fun q => ?_]
    constructor
    · intro hq
      rcases List.mem_cons.mp ((h q).mp (List.mem_cons_of_mem _ hq)) with e | e
      · rw [e] at hq
        exact absurd (a1 _ hq) ltP_irr
      · exact e
    · intro hq
      rcases List.mem_cons.mp ((h q).mpr (List.mem_cons_of_mem _ hq)) with e | e
      · rw [e] at hq
        exact absurd (b1 _ hq) ltP_irr
      · exact e
theorem RunL.uniq {os : List (Option (Int × Int))} {a b : List (Int × Int)} (ha : RunL os a) (hb : RunL os b) : a = b := ltP_uniq ha.1 hb.1 fun q => by rw [ha.2, hb.2]
theorem asc_of {ps : List (Int × Int)} (h : ps.Pairwise leP) (nd : ps.Nodup) : ps.Pairwise ltP := by
  refine (List.Pairwise.and h nd).imp fun {a b} ⟨h1, h2⟩ => ?_
  unfold leP at h1
  unfold ltP
  have : ¬ (a.1 = b.1 ∧ a.2 = b.2) := fun z => h2 (Prod.ext z.1 z.2)
  omega
/-- the dict of a board's runs, each with a row that has it -/
def RowsD (os : List (Option (Int × Int))) (ms : List ((Int × Int) × Int)) : Prop := (ms.map (·.1)).Nodup ∧ (∀ m ∈ ms, RunF (colAt os m.2) m.1 ∧ ∀ r, RunF (colAt os r) m.1 → m.2 ≤ r) ∧ ∀ r q, RunF (colAt os r) q → q ∈ ms.map (·.1)
def kvR (ms : List ((Int × Int) × Int)) : List (List Key × V) := ms.map fun m => (kP m.1, V.int m.2)
theorem kvR_keys (ms : List ((Int × Int) × Int)) : (kvR ms).map (·.1) = (ms.map (·.1)).map kP := by
  unfold kvR
  rw [List.map_map, List.map_map]
  rfl
theorem valR_none {ms : List ((Int × Int) × Int)} {q : Int × Int} : valV (kvR ms) (kP q) = none ↔ q ∉ ms.map (·.1) := by
  have h := valV_any (kP q) (kvR ms)
  rw [← Option.isNone_iff_eq_none, ← Option.not_isSome, Bool.not_eq_true', ← h, List.any_eq_false]
  constructor
  · intro z hq
    obtain ⟨m, hm, e⟩ := List.mem_map.mp hq
    refine z (kP m.1, V.int m.2) (List.mem_map.mpr ⟨m, hm, rfl⟩) (decide_eq_true ?_)
    show kP m.1 = kP q
    rw [← e]
  · intro z kv hkv e
    obtain ⟨m, hm, rfl⟩ := List.mem_map.mp hkv
    exact z (List.mem_map.mpr ⟨m, hm, kP_inj (of_decide_eq_true e)⟩)
theorem valR_some {ms : List ((Int × Int) × Int)} (nd : (ms.map (·.1)).Nodup) {m : (Int × Int) × Int} (hm : m ∈ ms) : valV (kvR ms) (kP m.1) = some (.int m.2) := by
  induction ms with
  | nil => nomatch hm
  | cons a r ih =>
    rw [List.map_cons] at nd
    obtain ⟨n1, n2⟩ := List.nodup_cons.mp nd
    show valV ((kP a.1, V.int a.2) :: kvR r) (kP m.1) = _
    rcases List.mem_cons.mp hm with rfl | hm
    · exact valV_pos rfl
    · rw [valV_neg (fun z : kP a.1 = kP m.1 => n1 (by rw [kP_inj z]; exact List.mem_map.mpr ⟨m, hm, rfl⟩))]
      exact ih n2 hm
theorem putR_new {ms : List ((Int × Int) × Int)} {q : Int × Int} {r : Int} (h : valV (kvR ms) (kP q) = none) : putK (kvR ms) (kP q) (.int r) = kvR (ms ++ [(q, r)]) := by
  have e := valV_any (kP q) (kvR ms)
  rw [h] at e
  unfold putK
  rw [if_neg (by rw [e]; decide)]
  unfold kvR
  rw [List.map_append]
  rfl
theorem runs_few {n : Nat} {qs : List (Int × Int)} (nd : qs.Nodup) (h : ∀ q ∈ qs, 0 ≤ q.1 ∧ q.1 ≤ q.2 ∧ q.2 < n) : qs.length ≤ n * n := by
  have z := nodup_le (l := qs) (m := (List.range n).flatMap fun x : Nat => (List.range n).map fun y : Nat => (Int.ofNat x, Int.ofNat y)) nd fun q hq => by
    obtain ⟨h1, h2, h3⟩ := h q hq
    refine List.mem_flatMap.mpr ⟨q.1.toNat, List.mem_range.mpr (by omega), List.mem_map.mpr ⟨q.2.toNat, List.mem_range.mpr (by omega), ?_⟩⟩
    exact Prod.ext (by show ((q.1.toNat : Nat) : Int) = q.1; omega) (by show ((q.2.toNat : Nat) : Int) = q.2; omega)
  simpa [List.length_flatMap, List.map_const', List.sum_replicate_nat] using z

/-! ### the program: row_runs, rows_of_runs, board_targets -/
theorem Ivs.getP {H : Hp} {vs : List V} {ps : List (Int × Int)} (h : Ivs H vs ps) {i : Nat} {q : Int × Int} (e : ps[i]? = some q) : ∃ a, vs[i]? = some (.ref a) ∧ H a = some (.tup [.int q.1, .int q.2]) := by
  have l := h.length
  have il := (List.getElem?_eq_some_iff.mp e).1
  have e1 : vs[i]? = some vs[i] := List.getElem?_eq_getElem (by omega)
  obtain ⟨a, x, y, ev, ep, ha⟩ := h.get e1
  rw [e] at ep
  injection ep with ep
  subst ep
  exact ⟨a, by rw [e1, ev], ha⟩
theorem Ivs.last {H : Hp} {vs : List V} {ps : List (Int × Int)} {a b : Int} (h : Ivs H vs (ps ++ [(a, b)])) : ∃ us t, vs = us ++ [.ref t] ∧ H t = some (.tup [.int a, .int b]) ∧ Ivs H us ps := by
  have l := h.length
  rw [List.length_append] at l
  have l : vs.length = ps.length + 1 := l
  obtain ⟨t, e, ht⟩ := h.getP (i := ps.length) (q := (a, b)) (by rw [List.getElem?_append_right (Nat.le_refl _), Nat.sub_self]; rfl)
  have ev : vs = vs.take ps.length ++ [.ref t] := by
    have := List.take_append_drop ps.length vs
    rw [List.drop_eq_getElem?_toList_append, e, List.drop_eq_nil_of_le (by omega)] at this
    exact this.symm
  refine ⟨_, t, ev, ht, ?_⟩
  have := h.take ps.length
  rw [List.take_left] at this
  exact this
theorem snoc_cases {α : Type} (l : List α) : l = [] ∨ ∃ l' x, l = l' ++ [x] := by
  rcases List.eq_nil_or_concat l with h | ⟨l', x, h⟩
  · exact .inl h
  · exact .inr ⟨l', x, by rw [h, List.concat_eq_append]⟩
theorem ixN_last (ws : List V) (v : V) : ixN (ws ++ [v]).length (-1) = some ws.length := by
  rw [List.length_append]
  unfold ixN
  rw [if_neg (by decide), if_pos (by simp; omega)]
  congr 1
  show (-1 + ((ws.length + 1 : Nat) : Int)).toNat = ws.length
  omega
theorem set_last (ws : List V) (v u : V) : (ws ++ [v]).set ws.length u = ws ++ [u] := by
  rw [List.set_append_right _ _ (Nat.le_refl _), Nat.sub_self]
  rfl
def sp_row_runs : Sp := fun vs H Q _ => ∃ (a : Addr) (us : List V) (os : List (Option (Int × Int))) (r : Int), vs = [.ref a, .int r] ∧ H a = some (.tup us) ∧ OVs H us os ∧ os.length ≤ 100 ∧
  ∀ H' p ws qs, Same H H' → H p = none → H' p = some (.lst ws) → Ivs H' ws qs → (∀ q, q ∈ qs ↔ RunF (colAt os r) q) → qs.length ≤ os.length → Q (.ref p) H'
theorem ok_row_runs (T : Tx K mg f_depth_changes f_find_blocks f_has_position f_contains f_serves f_conflict f_demands_at_blocks f_is_open f_open_demands f_shadow_target f_decisive_demands f_largest_independent f_unserved_demands f_helpful_piece f_smallest_solution f_row_runs f_rows_of_runs f_tallest_rectangle f_cover_board f_law_draws f_law_next f_law_column f_law_board f_law_is_int f_law_inside f_law_full f_law_is_rectangle f_law_apart f_law_levels f_law_ascends f_law_covered f_law_is_cell f_law_holds f_law_board_cells f_law_number f_law_tallest f_law_fewest f_law_most f_law d_depth_changes d_find_blocks d_has_position d_contains d_serves d_conflict d_demands_at_blocks d_is_open d_open_demands d_shadow_target d_decisive_demands d_largest_independent d_unserved_demands d_helpful_piece d_smallest_solution d_row_runs d_rows_of_runs d_tallest_rectangle d_cover_board d_law_draws d_law_next d_law_column d_law_board d_law_is_int d_law_inside d_law_full d_law_is_rectangle d_law_apart d_law_levels d_law_ascends d_law_covered d_law_is_cell d_law_holds d_law_board_cells d_law_number d_law_tallest d_law_fewest d_law_most d_law) : FnOk P w K mg base CX0 2 f_row_runs d_row_runs ["board", "row"] sp_row_runs := by
  refine T.F_row_runs.ok sc_row_runs (fun vs H Q E h => ?_) (fun cdv A outer s H vs Q E hr h => ?_)
  · obtain ⟨a, us, os, r, rfl, _⟩ := h
    rfl
  · obtain ⟨a, us, os, r, rfl, ha, ovs, few, q⟩ := h
    refine ⟨_, (pss_cons (ps_set (i := 2) sc_row_runs.nd rfl (Or.inl rfl) (pe_lst pa_nil))
      (pss_cons (ps_for PassesOwn.never rfl (pi_enumT (by rfl) T.z_enumerate (pa_cons (pv 0) pa_nil)) (pg_tup rfl (pgs_cons (pg_name (i := 3) sc_row_runs.nd rfl (Or.inl rfl)) (pgs_cons (pg_name (i := 4) sc_row_runs.nd rfl (Or.inl rfl)) pgs_nil)))
      (pss_cons (ps_if (PW.pt (pw_or (pt_cmpR op_isN (pv 4) pe_non (nomark _)) (pw_or1 (pt_not (pt_val (pe_call (ok_has_position T) (hr.mono (by decide)) (by rfl) T.g_has_position T.F_has_position.kp T.b_has_position .nil pass0 (pa_cons (pv 4) (pa_cons (pv 1) pa_nil))))))))
      (pss_one ps_continue)
      pss_nil)
      (pss_one (ps_if (PW.pt (pw_and (pt_truth (pv 2) (by intro _; rfl)) (pw_and1 (pt_cmpR op_eq (pe_ix ix_tup (pe_ix ix_list (pv 2) (pe_un un_neg pe_int) (fun _ _ => rfl)) pe_int (fun _ _ => rfl)) (pe_op op_sub (pv 3) pe_int) (nomark _)))))
      (pss_one (ps_asg (pe_tup (pa_cons (pe_ix ix_tup (pe_ix ix_list (pv 2) (pe_un un_neg pe_int) (fun _ _ => rfl)) pe_int (fun _ _ => rfl)) (pa_cons (pv 3) pa_nil))) (pg_sub (pv 2) (pe_un un_neg pe_int) set_list)))
      (pss_one (ps_expr (pe_bm PySem.F.plainAttrs_list PySem.F.slot_list_append PySem.F.type_list_append mt_append (pv 2) (pa_cons (pe_tup (pa_cons (pv 3) (pa_cons (pv 3) pa_nil))) pa_nil))))))))
      (pss_one (ps_ret (pv 2))))), ?_⟩
    have lu := ovs.1
    refine ⟨by show 0 ≤ sizeLine; decide, fun l nl => ?_⟩
    have sl := same_new (o := .lst []) nl
    have el := upd_same (H := H) (a := l) (o := .lst [])
    generalize upd H l (.lst []) = H1 at *
    refine ⟨.ref a, rfl, a, us, rfl, SqT.of (sl _ _ ha), ?_⟩
    refine for_enumT (K := K) (a := a) (xs := us) (D := ⟨_, _, fun _ _ => True, fun _ _ => True⟩) (fun j σ H' => Same H H' ∧ (∃ ws qs, H' l = some (.lst ws) ∧ Ivs H' ws qs ∧ RunS (colAt os r) j qs ∧ qs.length ≤ j) ∧ ∃ y3 y4, σ = [some (.ref a), some (.int r), some (.ref l), y3, y4])
      ⟨sl, ⟨[], [], el, .nil, .nil, Nat.le_refl _⟩, _, _, rfl⟩ (fun j σ H' h => SqT.of (h.1 _ _ ha)) ?_ ?_
    · rintro j v TT σ H3 hj ⟨s3, ⟨ws, qs, el3, iv, rs, lq⟩, y3, y4, rfl⟩ nT
      obtain ⟨o, eo, ov⟩ := ovs.2 j v hj
      have jl := (List.getElem?_eq_some_iff.mp hj).1
      have sT := same_new (o := .tup [.int (j : Nat), v]) nT
      have eT := upd_same (H := H3) (a := TT) (o := .tup [.int (j : Nat), v])
      generalize upd H3 TT (.tup [.int (j : Nat), v]) = H4 at *
      have ov4 := ov.same (s3.trans sT)
      have el4 := sT _ _ el3
      have iv4 := iv.same sT
      have s4 := s3.trans sT
      have lw := iv.length
      refine ⟨TT, _, rfl, SqT.of eT, rfl, .int (j : Nat), [v], rfl, v, [], rfl, rfl, ?_⟩
      refine ⟨v, rfl, rfl, ?_⟩
      rw [ov4.isN]
      match o, ov4, eo with
      | none, ov4, eo =>
        exact ⟨_, rfl, iteT (iteT ⟨s4, ⟨ws, qs, el4, iv4, rs.skip (colAt_none eo), by omega⟩, _, _, rfl⟩)⟩
      | some (x, y), ⟨t, ev, ht⟩, eo =>
        subst ev
        have ca := colAt_some (r := r) eo
        refine ⟨_, rfl, iteF ⟨.ref t, rfl, .int r, rfl, t, x, y, r, rfl, ht, ?_⟩⟩
        unfold atP
        rw [← ca]
        refine ⟨_, rfl, ite2 (fun cn => ?_) (fun cn => ?_)⟩
        · have cn : colAt os r j = false := by simpa using cn
          exact ⟨s4, ⟨ws, qs, el4, iv4, rs.skip cn, by omega⟩, _, _, rfl⟩
        have cp : colAt os r j = true := by simpa using cn
        have nl3 : ∀ {b : Addr} {u : HO}, H b = some u → b ≠ l := fun e => ne_of_none e nl
        have fresh : (∀ l' a b, qs = l' ++ [(a, b)] → b ≠ (j : Int) - 1) → RunS (colAt os r) (j + 1) (qs ++ [((j : Int), (j : Int))]) := fun e => rs.fresh cp e
        rcases snoc_cases qs with rfl | ⟨qs', ⟨c1, c2⟩, rfl⟩
        · cases iv
          refine ⟨.ref l, rfl, _, .inl ⟨[], SqL.of el4, rfl⟩, iteF (iteF ?_)⟩
          refine ⟨.ref l, rfl, .inl ⟨rfl, _, SqL.of el4⟩, .int j, rfl, .int j, rfl, by show 2 ≤ sizeLine; decide, fun t2 nt2 => ?_⟩
          have s5 := same_new (o := .tup [.int (j : Nat), .int (j : Nat)]) nt2
          have e5 := upd_same (H := H4) (a := t2) (o := .tup [.int (j : Nat), .int (j : Nat)])
          generalize upd H4 t2 (.tup [.int (j : Nat), .int (j : Nat)]) = H5 at *
          have el5 := s5 _ _ el4
          refine ⟨l, [], _, rfl, rfl, el5, small1000 (by decide), ?_⟩
          refine ⟨same_off nl (s4.trans s5), ⟨[.ref t2], _, upd_same, (Ivs.cons e5 .nil).tps (Tps.lst el5), fresh (fun l' a b e => by simp at e), by simp⟩, _, _, rfl⟩
        · obtain ⟨ws', t1, rfl, ht1, iv'⟩ := iv4.last
          refine ⟨.ref l, rfl, true, .inl ⟨_, SqL.of el4, by simp⟩, iteT ?_⟩
          refine ⟨.ref l, rfl, 1, rfl, l, _, -1, .ref t1, rfl, rfl, SqL.of el4, atI_last _ _, t1, _, 1, .int c2, rfl, rfl, SqT.of ht1, rfl, .int (j : Nat), rfl, _, _, rfl, rfl, rfl, _, rfl, ite2 (fun ce => ?_) (fun ce => ?_)⟩
          · have ce := of_decide_eq_true ce
            injection ce with ce
            refine ⟨.ref l, rfl, 1, rfl, l, _, -1, .ref t1, rfl, rfl, SqL.of el4, atI_last _ _, t1, _, 0, .int c1, rfl, rfl, SqT.of ht1, rfl, .int (j : Nat), rfl, by show 2 ≤ sizeLine; decide, fun t2 nt2 => ?_⟩
            have s5 := same_new (o := .tup [.int c1, .int (j : Nat)]) nt2
            have e5 := upd_same (H := H4) (a := t2) (o := .tup [.int c1, .int (j : Nat)])
            generalize upd H4 t2 (.tup [.int c1, .int (j : Nat)]) = H5 at *
            have el5 := s5 _ _ el4
            refine ⟨.ref l, rfl, 1, rfl, l, _, -1, ws'.length, rfl, rfl, el5, ixN_last ws' _, ?_⟩
            rw [set_last]
            refine ⟨same_off nl (s4.trans s5), ⟨ws' ++ [.ref t2], qs' ++ [(c1, (j : Int))], upd_same, ((iv'.same s5).snoc e5).tps (Tps.lst el5), rs.grow cp ce, ?_⟩, _, _, rfl⟩
            rw [List.length_append] at lq ⊢
            exact Nat.le_succ_of_le lq
          · have ce : ¬ c2 = (j : Int) - 1 := fun z => ce (decide_eq_true (by rw [z]))
            refine ⟨.ref l, rfl, .inl ⟨rfl, _, SqL.of el4⟩, .int j, rfl, .int j, rfl, by show 2 ≤ sizeLine; decide, fun t2 nt2 => ?_⟩
            have s5 := same_new (o := .tup [.int (j : Nat), .int (j : Nat)]) nt2
            have e5 := upd_same (H := H4) (a := t2) (o := .tup [.int (j : Nat), .int (j : Nat)])
            generalize upd H4 t2 (.tup [.int (j : Nat), .int (j : Nat)]) = H5 at *
            have el5 := s5 _ _ el4
            refine ⟨l, _, _, rfl, rfl, el5, small1000 (by omega), ?_⟩
            refine ⟨same_off nl (s4.trans s5), ⟨_, _, upd_same, ((iv4.same s5).snoc e5).tps (Tps.lst el5), fresh (fun l' a b e => ?_), by rw [List.length_append]; exact Nat.succ_le_succ lq⟩, _, _, rfl⟩
            have e := (List.append_inj' e rfl).2
            injection e with e _
            injection e with _ e
            rw [← e]
            exact ce
    · rintro σ H3 ⟨s3, ⟨ws, qs, el3, iv, rs, lq⟩, y3, y4, rfl⟩
      refine ⟨.ref l, rfl, ?_⟩
      rw [lu] at rs lq
      exact q H3 l ws qs s3 nl el3 iv (rs.done fun k hk => colAt_out hk) lq
theorem cols_take {os : List (Option (Int × Int))} {j : Nat} {o : Option (Int × Int)} (e : os[j]? = some o) : colsOf (os.take (j + 1)) = colsOf (os.take j) ++ o.toList := by
  unfold colsOf
  rw [List.take_add_one, e, List.filterMap_append]
  cases o <;> rfl
theorem cols_le (os : List (Option (Int × Int))) : (colsOf os).length ≤ os.length := List.length_filterMap_le _ _
def sp_rows_of_runs : Sp := fun vs H Q _ => ∃ (a : Addr) (us : List V) (os : List (Option (Int × Int))), vs = [.ref a] ∧ H a = some (.tup us) ∧ OVs H us os ∧ os.length ≤ 30 ∧ BdOk os ∧
  ∀ H' p ms, Same H H' → H p = none → H' p = some (.dT (kvR ms)) → RowsD os ms → Q (.ref p) H'
theorem ok_rows_of_runs (T : Tx K mg f_depth_changes f_find_blocks f_has_position f_contains f_serves f_conflict f_demands_at_blocks f_is_open f_open_demands f_shadow_target f_decisive_demands f_largest_independent f_unserved_demands f_helpful_piece f_smallest_solution f_row_runs f_rows_of_runs f_tallest_rectangle f_cover_board f_law_draws f_law_next f_law_column f_law_board f_law_is_int f_law_inside f_law_full f_law_is_rectangle f_law_apart f_law_levels f_law_ascends f_law_covered f_law_is_cell f_law_holds f_law_board_cells f_law_number f_law_tallest f_law_fewest f_law_most f_law d_depth_changes d_find_blocks d_has_position d_contains d_serves d_conflict d_demands_at_blocks d_is_open d_open_demands d_shadow_target d_decisive_demands d_largest_independent d_unserved_demands d_helpful_piece d_smallest_solution d_row_runs d_rows_of_runs d_tallest_rectangle d_cover_board d_law_draws d_law_next d_law_column d_law_board d_law_is_int d_law_inside d_law_full d_law_is_rectangle d_law_apart d_law_levels d_law_ascends d_law_covered d_law_is_cell d_law_holds d_law_board_cells d_law_number d_law_tallest d_law_fewest d_law_most d_law) : FnOk P w K mg base CX0 3 f_rows_of_runs d_rows_of_runs ["board"] sp_rows_of_runs := by
  refine T.F_rows_of_runs.ok sc_rows_of_runs (fun vs H Q E h => ?_) (fun cdv A outer s H vs Q E hr h => ?_)
  · obtain ⟨a, us, os, rfl, _⟩ := h
    rfl
  · obtain ⟨a, us, os, rfl, ha, ovs, few, ok, q⟩ := h
    refine ⟨_, (pss_cons (ps_set (i := 1) sc_rows_of_runs.nd rfl (Or.inl rfl) pe_dnewT)
      (pss_cons (ps_for PassesOwn.never rfl (pi_tup (pe_call (ok_find_blocks T) (hr.mono (by decide)) (by rfl) T.g_find_blocks T.F_find_blocks.kp T.b_find_blocks .nil pass0 (pa_cons (pe_callTy call_tuple_of (by rfl) T.z_tuple (by decide +kernel) (pa_cons (pe_lc (own := [("column", 4)]) (g := (gName 4)) (by rfl) sc_rows_of_runs.nd (pi_tup (pv 0)) (blkOk_by (own := [("column", 4)]) (N := N_rows_of_runs) (sc := defScope s_rows_of_runs) (by decide +kernel)) (fun _ _ _ _ _ => (pg_name (i := 4) sc_rows_of_runs.nd rfl (Or.inl rfl))) (fun _ _ _ _ _ => pts_one (pt_cmpR op_notN (pv 4) pe_non (nomark _))) (fun _ _ _ _ _ => (pv 4))) pa_nil)) pa_nil))) (pg_tup rfl (pgs_cons (pg_name (i := 2) sc_rows_of_runs.nd rfl (Or.inl rfl)) (pgs_cons (pg_name (i := 3) sc_rows_of_runs.nd rfl (Or.inl rfl)) pgs_nil)))
      (pss_one (ps_for PassesOwn.never rfl (pi_list (pe_call (ok_row_runs T) (hr.mono (by decide)) (by rfl) T.g_row_runs T.F_row_runs.kp T.b_row_runs .nil pass0 (pa_cons (pv 0) (pa_cons (pv 2) pa_nil)))) (pg_name (i := 5) sc_rows_of_runs.nd rfl (Or.inl rfl))
      (pss_one (ps_expr (pe_dsetdT (hu_of hr) (pv 1) (pv 5) (pv 2) ⟨rfl, rfl, rfl, rfl⟩))))))
      (pss_one (ps_ret (pv 1))))), ?_⟩
    have lu := ovs.1
    refine fun D nD => ?_
    have sD := same_new (o := .dT []) nD
    have eD := upd_same (H := H) (a := D) (o := .dT [])
    generalize upd H D (.dT []) = H1 at *
    refine ⟨.ref a, rfl, a, rfl, ⟨_, SqT.of (sD _ _ ha)⟩, fun L nL => ?_⟩
    refine lcT (K := K) (a := a) (xs := us) (fun j H' ws => Ivs H' ws (colsOf (os.take j))) nL (fun H' s => SqT.of (s _ _ ((sD _ _ ha)))) (by omega) (fun _ _ _ _ t r => r.tps t) (fun j H' ws r => (by have := cols_le (os.take j); rw [List.length_take] at this; rw [r.length]; omega)) (fun _ => .nil) ?_ ?_
    · rintro j v H' N acc hj sj eA sz rr no yes
      obtain ⟨o, eo, ov⟩ := ovs.2 j v hj
      have ov := ov.same (sD.trans sj)
      rw [cols_take eo] at no yes
      refine ⟨rfl, v, rfl, rfl, ?_⟩
      rw [ov.isN]
      match o, ov with
      | none, ov => exact ⟨_, rfl, iteF (no _ (Same.refl _) (by show Ivs _ _ (_ ++ []); rw [List.append_nil]; exact rr))⟩
      | some (x, y), ⟨t, ev, ht⟩ =>
        subst ev
        exact ⟨_, rfl, iteT ⟨.ref t, rfl, yes H' _ (Same.refl _) (rr.snoc ht)⟩⟩
    intro H2 ws s2 eL rr
    rw [lu, List.take_length] at rr
    refine ⟨L, ws, rfl, .inl ⟨SqL.of eL, fun T nT => ?_⟩⟩
    have sT := same_new (o := .tup ws) nT
    have eT := upd_same (H := H2) (a := T) (o := .tup ws)
    generalize upd H2 T (.tup ws) = H3 at *
    have iv3 := rr.same sT
    refine ⟨T, ws, colsOf os, rfl, eT, iv3, ok.good, (by first | (have := cols_le os; omega) | exact .inl (by have := cols_le os; omega)), fun H4 B bws s4 eB ivB => ?_⟩
    have s04 := (s2.trans sT).trans s4
    have eD4 := s04 _ _ eD
    have s14 := sD.trans s04
    refine ⟨B, rfl, ⟨_, SqT.of eB⟩, ?_⟩
    have lB := ivB.length
    have bl := blocks_bl ok.good
    refine for_tup (K := K) (a := B) (xs := bws) (D := ⟨_, _, fun _ _ => True, fun _ _ => True⟩) (fun j σ H' => (∀ b o, b ≠ D → H4 b = some o → H' b = some o) ∧ (∃ ms, H' D = some (.dT (kvR ms)) ∧ (ms.map (·.1)).Nodup ∧ (∀ m ∈ ms, RunF (colAt os m.2) m.1 ∧ ∀ r, RunF (colAt os r) m.1 → m.2 ≤ r) ∧ ∀ i b, i < j → (blocksOf (colsOf os))[i]? = some b → ∀ q, RunF (colAt os b.1) q → q ∈ ms.map (·.1)) ∧ ∃ y2 y3 y4 y5, σ = [some (.ref a), some (.ref D), y2, y3, y4, y5])
      ⟨fun b o _ e => e, ⟨[], eD4, List.nodup_nil, fun m hm => (nomatch hm), fun i b hi => absurd hi (Nat.not_lt_zero _)⟩, _, _, _, _, rfl⟩ (fun j σ H' _ h => SqT.of (h.1 _ _ (ne_of eB eD4 (fun z => by cases z)) eB)) ?_ ?_
    · rintro j v σ H5 hj ⟨k5, ⟨ms, eD5, nd, mr, mb⟩, y2, y3, y4, y5, rfl⟩
      obtain ⟨t, x, y, rfl, eb, ht⟩ := ivB.get hj
      have ht5 := k5 _ _ (ne_of ht eD4 (fun z => by cases z)) ht
      refine ⟨t, _, rfl, SqT.of ht5, rfl, .int x, [.int y], rfl, .int y, [], rfl, rfl, ?_⟩
      have nDa : ∀ {b : Addr} {u : HO}, H b = some u → b ≠ D := fun e => ne_of_none e nD
      have ha5 := k5 _ _ (nDa ha) (s14 _ _ ha)
      have tp5 : Tps H H5 := fun b xs e => k5 _ _ (nDa e) (s14 _ _ e)
      refine ⟨.ref a, rfl, .int x, rfl, a, us, os, x, rfl, ha5, ovs.tps tp5, by omega, fun H6 R rws qs s6 nR eR ivR mem lq => ?_⟩
      have eD6 := s6 _ _ eD5
      refine ⟨R, rfl, ⟨_, SqL.of eR⟩, ?_⟩
      refine for_list (K := K) (a := R) (xs := rws) (D := ⟨_, _, fun _ _ => True, fun _ _ => True⟩) (fun i σ H' => (∀ b o, b ≠ D → H6 b = some o → H' b = some o) ∧ (∃ ms', H' D = some (.dT (kvR ms')) ∧ (ms'.map (·.1)).Nodup ∧ (∀ m ∈ ms', RunF (colAt os m.2) m.1 ∧ ∀ r, RunF (colAt os r) m.1 → m.2 ≤ r) ∧ (∀ q, q ∈ ms.map (·.1) → q ∈ ms'.map (·.1)) ∧ ∀ q, q ∈ qs.take i → q ∈ ms'.map (·.1)) ∧ ∃ y5, σ = [some (.ref a), some (.ref D), some (.int x), some (.int y), y4, y5])
        ⟨fun b o _ e => e, ⟨ms, eD6, nd, mr, fun q h => h, fun q h => by simp at h⟩, _, rfl⟩ (fun i σ H' _ h => SqL.of (h.1 _ _ (ne_of eR eD6 (fun z => by cases z)) eR)) ?_ ?_
      · rintro i v σ H7 hi ⟨k7, ⟨ms', eD7, nd', mr', sub, tk⟩, y5, rfl⟩
        obtain ⟨u, c1, c2, rfl, eq, hu⟩ := ivR.get hi
        have hu7 := k7 _ _ (ne_of hu eD6 (fun z => by cases z)) hu
        have rq : RunF (colAt os x) (c1, c2) := (mem _).mp (List.mem_of_getElem? eq)
        have len : (kvR ms').length < sizeLine := by
          have z := runs_few (n := os.length) nd' fun q hq => by
            obtain ⟨m, hm, rfl⟩ := List.mem_map.mp hq
            exact runF_lt (fun k hk => colAt_out hk) (mr' m hm).1
          rw [List.length_map] at z
          unfold kvR
          rw [List.length_map, sizeLine_eq]
          have : os.length * os.length ≤ 30 * 30 := Nat.mul_le_mul few few
          omega
        have up : ∀ {l : List ((Int × Int) × Int)}, (∀ q, q ∈ ms'.map (·.1) → q ∈ l.map (·.1)) → (c1, c2) ∈ l.map (·.1) → ∀ q, q ∈ qs.take (i + 1) → q ∈ l.map (·.1) := fun h1 h2 q hq => by
          rw [List.take_add_one, eq] at hq
          rcases List.mem_append.mp hq with hq | hq
          · exact h1 q (tk q hq)
          · rw [List.mem_singleton.mp hq]
            exact h2
        refine ⟨.ref D, rfl, D, rfl, .inr ⟨_, .inl eD7⟩, .ref u, rfl, .int x, rfl, kvR ms', kP (c1, c2), u, eD7, rfl, hu7, len, fun v hv => ?_, fun hn => ?_⟩
        · refine ⟨k7, ⟨ms', eD7, nd', mr', sub, up (fun q h => h) ?_⟩, _, rfl⟩
          refine Classical.byContradiction fun z => ?_
          rw [valR_none.mpr z] at hv
          cases hv
        · rw [putR_new hn]
          have nin := valR_none.mp hn
          have inc : ∀ q, q ∈ ms'.map (·.1) → q ∈ (ms' ++ [((c1, c2), x)]).map (·.1) := fun q hq => by
            rw [List.map_append]
            exact List.mem_append.mpr (.inl hq)
          refine ⟨fun b o nb e => by rw [upd_ne nb]; exact k7 b o nb e, ⟨_, upd_same, ?_, fun m hm => ?_, fun q hq => inc q (sub q hq), up inc ?_⟩, _, rfl⟩
          · rw [List.map_append]
            refine List.nodup_append.mpr ⟨nd', by simp, fun p hp r hr z => ?_⟩
            rw [List.mem_singleton.mp hr] at z
            rw [z] at hp
            exact nin hp
          · rcases List.mem_append.mp hm with hm | hm
            · exact mr' m hm
            · rw [List.mem_singleton.mp hm]
              refine ⟨rq, fun r hr => ?_⟩
              show x ≤ r
              obtain ⟨b, hb, b1, _, fb⟩ := run_block ok hr
              obtain ⟨i', ei'⟩ := List.getElem?_of_mem hb
              rcases Nat.lt_trichotomy i' j with l | l | l
              · exact absurd (sub _ (mb i' b l ei' _ fb)) nin
              · rw [l, eb] at ei'
                cases ei'
                exact b1
              · have z1 := bl.idx l eb ei'
                have z2 := (bl.ok _ (List.mem_of_getElem? eb)).2.1
                have z3 : x ≤ y := z2
                have z4 : y < b.1 := z1
                omega
          · rw [List.map_append]
            exact List.mem_append.mpr (.inr (List.mem_singleton.mpr rfl))
      · rintro σ H7 ⟨k7, ⟨ms', eD7, nd', mr', sub, tk⟩, y5, rfl⟩
        rw [ivR.length, List.take_length] at tk
        refine ⟨fun b o nb e => k7 b o nb (s6 _ _ (k5 b o nb e)), ⟨ms', eD7, nd', mr', fun i b hi hb q hq => ?_⟩, _, _, _, _, rfl⟩
        rcases Nat.lt_succ_iff_lt_or_eq.mp hi with hi | rfl
        · exact sub q (mb i b hi hb q hq)
        · rw [eb] at hb
          injection hb with hb
          subst hb
          exact tk q ((mem q).mpr hq)
    · rintro σ H5 ⟨k5, ⟨ms, eD5, nd, mr, mb⟩, y2, y3, y4, y5, rfl⟩
      refine ⟨.ref D, rfl, ?_⟩
      refine q H5 D ms (fun b o e => k5 _ _ (ne_of_none e nD) (s14 _ _ e)) nD eD5 ⟨nd, mr, fun r p hp => ?_⟩
      obtain ⟨b, hb, _, _, f⟩ := run_block ok hp
      obtain ⟨i, ei⟩ := List.getElem?_of_mem hb
      exact mb i b (by have := (List.getElem?_eq_some_iff.mp ei).1; omega) ei p f
def sp_board_targets : Sp := fun vs H Q _ => ∃ (a : Addr) (us : List V) (os : List (Option (Int × Int))), vs = [.ref a] ∧ H a = some (.tup us) ∧ OVs H us os ∧ os.length ≤ 30 ∧ BdOk os ∧
  ∀ H' p ws ps, Same H H' → H' p = some (.tup ws) → Ivs H' ws ps → RunL os ps → Q (.ref p) H'
def inRow (b : Int) : Option (Int × Int) → Bool
  | none => false
  | some (x, y) => decide (x ≤ b) && decide (b ≤ y)
def sp_law_inside : Sp := fun vs H Q _ => ∃ (a : Addr) (us : List V) (bs : List (Option (Int × Int))) (c : Nat) (o : Option (Int × Int)) (b : Int), vs = [.ref a, .int c, .int b] ∧ H a = some (.tup us) ∧ OVs H us bs ∧ bs[c]? = some o ∧ Q (.bl (inRow b o)) H
theorem ok_law_inside (T : Tx K mg f_depth_changes f_find_blocks f_has_position f_contains f_serves f_conflict f_demands_at_blocks f_is_open f_open_demands f_shadow_target f_decisive_demands f_largest_independent f_unserved_demands f_helpful_piece f_smallest_solution f_row_runs f_rows_of_runs f_tallest_rectangle f_cover_board f_law_draws f_law_next f_law_column f_law_board f_law_is_int f_law_inside f_law_full f_law_is_rectangle f_law_apart f_law_levels f_law_ascends f_law_covered f_law_is_cell f_law_holds f_law_board_cells f_law_number f_law_tallest f_law_fewest f_law_most f_law d_depth_changes d_find_blocks d_has_position d_contains d_serves d_conflict d_demands_at_blocks d_is_open d_open_demands d_shadow_target d_decisive_demands d_largest_independent d_unserved_demands d_helpful_piece d_smallest_solution d_row_runs d_rows_of_runs d_tallest_rectangle d_cover_board d_law_draws d_law_next d_law_column d_law_board d_law_is_int d_law_inside d_law_full d_law_is_rectangle d_law_apart d_law_levels d_law_ascends d_law_covered d_law_is_cell d_law_holds d_law_board_cells d_law_number d_law_tallest d_law_fewest d_law_most d_law) : FnOk P w K mg base CX0 1 f_law_inside d_law_inside ["_law_board_here", "_law_column_here", "_law_row"] sp_law_inside := by
  refine T.F_law_inside.ok sc_law_inside (fun vs H Q E h => ?_) (fun cdv A outer s H vs Q E hr h => ?_)
  · obtain ⟨a, us, bs, c, o, b, rfl, _⟩ := h
    rfl
  · obtain ⟨a, us, bs, c, o, b, rfl, ha, ovs, ho, q⟩ := h
    refine ⟨_, (pss_one (ps_ret (pe_and (pe_cmpR op_notN (pe_ix ix_tup (pv 0) (pv 1) (fun _ _ => rfl)) pe_non (nomark _)) (pe_one (pe_chain op_le op_le (pe_ix ix_tup (pe_ix ix_tup (pv 0) (pv 1) (fun _ _ => rfl)) pe_int (fun _ _ => rfl)) (pv 2) (pe_ix ix_tup (pe_ix ix_tup (pv 0) (pv 1) (fun _ _ => rfl)) pe_int (fun _ _ => rfl))))))), ?_⟩
    have cl := (List.getElem?_eq_some_iff.mp ho).1
    have lu := ovs.1
    have ev : us[c]? = some us[c] := List.getElem?_eq_getElem (by omega)
    obtain ⟨o', eo', ov⟩ := ovs.2 c _ ev
    rw [ho] at eo'
    cases eo'
    generalize us[c] = v at *
    refine ⟨.ref a, rfl, .int c, rfl, a, us, c, v, rfl, rfl, SqT.of ha, atI_nat ev, rfl, _, rfl, ?_⟩
    rw [ov.isN]
    match o, ov, q with
    | none, ov, q => exact iteF q
    | some (x, y), ov, q =>
      obtain ⟨bb, rfl, hb⟩ := ov
      refine iteT ⟨.ref a, rfl, .int c, rfl, a, us, c, .ref bb, rfl, rfl, SqT.of ha, atI_nat ev, bb, _, 0, .int x, rfl, rfl, SqT.of hb, rfl, .int b, rfl, _, _, rfl, rfl, _, rfl, ite2 (fun e1 => ?_) (fun e1 => ?_)⟩
      · refine ⟨.ref a, rfl, .int c, rfl, a, us, c, .ref bb, rfl, rfl, SqT.of ha, atI_nat ev, bb, _, 1, .int y, rfl, rfl, SqT.of hb, rfl, _, _, rfl, rfl, ?_⟩
        have q : Q (.bl (decide (x ≤ b) && decide (b ≤ y))) H := q
        rw [e1] at q
        exact q
      · have q : Q (.bl (decide (x ≤ b) && decide (b ≤ y))) H := q
        rw [Bool.not_eq_true] at e1
        rw [e1] at q
        exact q

/-! ### the law's levels: the borders of the columns -/
def lvO (os : List (Option (Int × Int))) : List Int := (colsOf os).flatMap fun q => [q.1, q.2 + 1]
theorem mem_lvO {os : List (Option (Int × Int))} {z : Int} : z ∈ lvO os ↔ Bd (colsOf os) z := by
  unfold lvO Bd
  rw [List.mem_flatMap]
  constructor
  · rintro ⟨q, hq, h⟩
    refine ⟨q, hq, ?_⟩
    rcases List.mem_cons.mp h with h | h
    · exact .inl h.symm
    · exact .inr (List.mem_singleton.mp h).symm
  · rintro ⟨q, hq, h | h⟩
    · exact ⟨q, hq, by rw [h]; exact List.mem_cons_self⟩
    · exact ⟨q, hq, by rw [h]; exact List.mem_cons_of_mem _ (List.mem_singleton.mpr rfl)⟩
theorem len_lvO (os : List (Option (Int × Int))) : (lvO os).length ≤ 2 * os.length := by
  have h : ∀ l : List (Int × Int), (l.flatMap fun q => [q.1, q.2 + 1]).length = 2 * l.length := fun l => by
    induction l with
    | nil => rfl
    | cons a r ih =>
      rw [List.flatMap_cons, List.length_append, ih]
      show 2 + 2 * r.length = 2 * (r.length + 1)
      omega
  unfold lvO
  rw [h]
  have := cols_le os
  omega
def sp_law_levels : Sp := fun vs H Q _ => ∃ (a : Addr) (us : List V) (os : List (Option (Int × Int))), vs = [.ref a] ∧ H a = some (.tup us) ∧ OVs H us os ∧ os.length ≤ 29 ∧
  ∀ (H' : Hp) (p : Addr) (ls : List Int), Same H H' → H p = none → H' p = some (.lst (ls.map V.int)) → ls.length ≤ 60 → (∀ z, z ∈ ls ↔ Bd (colsOf os) z) → Q (.ref p) H'
theorem ok_law_levels (T : Tx K mg f_depth_changes f_find_blocks f_has_position f_contains f_serves f_conflict f_demands_at_blocks f_is_open f_open_demands f_shadow_target f_decisive_demands f_largest_independent f_unserved_demands f_helpful_piece f_smallest_solution f_row_runs f_rows_of_runs f_tallest_rectangle f_cover_board f_law_draws f_law_next f_law_column f_law_board f_law_is_int f_law_inside f_law_full f_law_is_rectangle f_law_apart f_law_levels f_law_ascends f_law_covered f_law_is_cell f_law_holds f_law_board_cells f_law_number f_law_tallest f_law_fewest f_law_most f_law d_depth_changes d_find_blocks d_has_position d_contains d_serves d_conflict d_demands_at_blocks d_is_open d_open_demands d_shadow_target d_decisive_demands d_largest_independent d_unserved_demands d_helpful_piece d_smallest_solution d_row_runs d_rows_of_runs d_tallest_rectangle d_cover_board d_law_draws d_law_next d_law_column d_law_board d_law_is_int d_law_inside d_law_full d_law_is_rectangle d_law_apart d_law_levels d_law_ascends d_law_covered d_law_is_cell d_law_holds d_law_board_cells d_law_number d_law_tallest d_law_fewest d_law_most d_law) : FnOk P w K mg base CX0 1 f_law_levels d_law_levels ["_law_board_here"] sp_law_levels := by
  refine T.F_law_levels.ok sc_law_levels (fun vs H Q E h => ?_) (fun cdv A outer s H vs Q E hr h => ?_)
  · obtain ⟨a, us, os, rfl, _⟩ := h
    rfl
  · obtain ⟨a, us, os, rfl, ha, ovs, few, q⟩ := h
    refine ⟨_, (pss_cons (ps_set (i := 1) sc_law_levels.nd rfl (Or.inl rfl) (pe_lst pa_nil))
      (pss_cons (ps_for PassesOwn.never rfl (pi_tup (pv 0)) (pg_name (i := 2) sc_law_levels.nd rfl (Or.inl rfl))
      (pss_one (ps_if (pt_cmpR op_notN (pv 2) pe_non (nomark _))
      (pss_one (ps_set (i := 1) sc_law_levels.nd rfl (Or.inl rfl) (pe_op op_cat (pv 1) (pe_lst (pa_cons (pe_ix ix_tup (pv 2) pe_int (fun _ _ => rfl)) (pa_cons (pe_op op_add (pe_ix ix_tup (pv 2) pe_int (fun _ _ => rfl)) pe_int) pa_nil))))))
      pss_nil)))
      (pss_one (ps_ret (pe_callB (cr_sortedSet rfl) (by rfl) T.z_sorted (by decide +kernel) (pa_cons (pe_callTy (cr_setOfI rfl) (by rfl) T.z_set (by decide +kernel) (pa_cons (pv 1) pa_nil)) pa_nil)))))), ?_⟩
    have lu := ovs.1
    refine ⟨by show 0 ≤ sizeLine; decide, fun l nl => ?_⟩
    have sl := same_new (o := .lst []) nl
    have el := upd_same (H := H) (a := l) (o := .lst [])
    generalize upd H l (.lst []) = H1 at *
    refine ⟨.ref a, rfl, a, rfl, ⟨_, SqT.of (sl _ _ ha)⟩, ?_⟩
    refine for_tup (K := K) (a := a) (xs := us) (D := ⟨_, _, fun _ _ => True, fun _ _ => True⟩) (fun j σ H' => Same H H' ∧ ∃ b y2, H' b = some (.lst ((lvO (os.take j)).map V.int)) ∧ σ = [some (.ref a), some (.ref b), y2])
      ⟨sl, l, _, el, rfl⟩ (fun j σ H' _ h => SqT.of (h.1 _ _ ha)) ?_ ?_
    · rintro j v σ H3 hj ⟨s3, b, y2, eb, rfl⟩
      obtain ⟨o, eo, ov⟩ := ovs.2 j v hj
      have ov := ov.same s3
      have up : lvO (os.take (j + 1)) = lvO (os.take j) ++ o.toList.flatMap fun q => [q.1, q.2 + 1] := by
        unfold lvO
        rw [cols_take eo, List.flatMap_append]
      refine ⟨v, rfl, rfl, ?_⟩
      rw [ov.isN]
      match o, ov, up with
      | none, ov, up =>
        refine ⟨_, rfl, iteF ⟨s3, b, _, ?_, rfl⟩⟩
        rw [up]
        show H3 b = some (.lst ((lvO (os.take j) ++ []).map V.int))
        rw [List.append_nil]
        exact eb
      | some (x, y), ⟨t, ev, ht⟩, up =>
        subst ev
        have lz := len_lvO (os.take j)
        rw [List.length_take] at lz
        refine ⟨_, rfl, iteT ⟨.ref b, rfl, .ref t, rfl, t, _, 0, .int x, rfl, rfl, SqT.of ht, rfl, .ref t, rfl, t, _, 1, .int y, rfl, rfl, SqT.of ht, rfl, _, _, rfl, rfl, by show 2 ≤ sizeLine; decide, fun l2 nl2 => ?_⟩⟩
        have s4 := same_new (o := .lst [.int x, .int (y + 1)]) nl2
        have e4 := upd_same (H := H3) (a := l2) (o := .lst [.int x, .int (y + 1)])
        generalize upd H3 l2 (.lst [.int x, .int (y + 1)]) = H4 at *
        refine ⟨b, l2, _, _, rfl, rfl, s4 _ _ eb, e4, by rw [sizeLine_eq, List.length_map]; show _ + 2 ≤ _; omega, fun b2 nb2 => ?_⟩
        have s5 := same_new (o := .lst ((lvO (os.take j)).map V.int ++ [V.int x, .int (y + 1)])) nb2
        refine ⟨s3.trans (s4.trans s5), b2, _, ?_, rfl⟩
        rw [up, List.map_append, upd_same]
        rfl
    · rintro σ H3 ⟨s3, b, y2, eb, rfl⟩
      rw [lu, List.take_length] at eb
      have lz := len_lvO os
      refine ⟨.ref b, rfl, ?_⟩
      dsimp only [tNil]
      refine ⟨b, _, rfl, SqL.of eb, by omega, fun H4 st n s4 nst est ln => ?_⟩
      refine ⟨st, _, n, rfl, est, by omega, fun cs pe asc mem len npe => ?_⟩
      have s5 := same_new (o := .lst (cs.map V.int)) npe
      refine q _ pe cs (s3.trans (s4.trans s5)) ((s3.trans s4).free npe) upd_same (by omega) fun z => ?_
      rw [mem, ← mem_lvO]
      exact decide_eq_true_iff

/-! ### covers of boards: mathematics -/
theorem runF_at {p : Nat → Bool} {q r : Int × Int} {k : Int} (h1 : RunF p q) (h2 : RunF p r) (a : q.1 ≤ k ∧ k ≤ q.2) (b : r.1 ≤ k ∧ k ≤ r.2) : q = r := by
  obtain ⟨x, y, rfl, xy, f, l, m⟩ := h1
  obtain ⟨u, v, rfl, uv, g, n, o⟩ := h2
  have a1 : (x : Int) ≤ k ∧ k ≤ y := a
  have b1 : (u : Int) ≤ k ∧ k ≤ v := b
  have e1 : x = u := by
    rcases Nat.lt_trichotomy x u with z | z | z
    · rcases n with n | n
      · omega
      · rw [f (u - 1) (by omega) (by omega)] at n
        cases n
    · exact z
    · rcases l with l | l
      · omega
      · rw [g (x - 1) (by omega) (by omega)] at l
        cases l
  have e2 : y = v := by
    rcases Nat.lt_trichotomy y v with z | z | z
    · rw [g (y + 1) (by omega) (by omega)] at m
      cases m
    · exact z
    · rw [f (v + 1) (by omega) (by omega)] at o
      cases o
  rw [e1, e2]
open Classical in
noncomputable def pickR (P : Int × Int → Prop) : List (Int × Int) := if h : ∃ q, P q then [Classical.choose h] else []
theorem pickR_len (P : Int × Int → Prop) : (pickR P).length ≤ 1 := by
  unfold pickR
  split
  · exact Nat.le_refl _
  · exact Nat.zero_le _
theorem pickR_mem {P : Int × Int → Prop} (u : ∀ a b, P a → P b → a = b) {q : Int × Int} (h : P q) : q ∈ pickR P := by
  have e : ∃ q, P q := ⟨q, h⟩
  unfold pickR
  rw [dif_pos e]
  exact List.mem_singleton.mpr (u _ _ h (Classical.choose_spec e))
noncomputable def candL (os : List (Option (Int × Int))) (k : Nat) : List (Int × Int) := match os[k]? with
  | some (some (a, b)) => pickR (fun q => RunF (colAt os a) q ∧ q.1 ≤ k ∧ (k : Int) ≤ q.2) ++ (pickR (fun q => RunF (colAt os (b + 1)) q ∧ q.1 = (k : Int) + 1) ++ pickR (fun q => RunF (colAt os (b + 1)) q ∧ q.2 = (k : Int) - 1))
  | _ => []
theorem candL_some {os : List (Option (Int × Int))} {k : Nat} {a b : Int} (e : os[k]? = some (some (a, b))) : candL os k = pickR (fun q => RunF (colAt os a) q ∧ q.1 ≤ k ∧ (k : Int) ≤ q.2) ++ (pickR (fun q => RunF (colAt os (b + 1)) q ∧ q.1 = (k : Int) + 1) ++ pickR (fun q => RunF (colAt os (b + 1)) q ∧ q.2 = (k : Int) - 1)) := by
  unfold candL
  rw [e]
theorem runF_ord {p : Nat → Bool} {q : Int × Int} (h : RunF p q) : 0 ≤ q.1 ∧ q.1 ≤ q.2 := by
  obtain ⟨x, y, rfl, xy, _⟩ := h
  exact ⟨by show (0 : Int) ≤ x; omega, by show (x : Int) ≤ y; omega⟩
theorem cand_len (os : List (Option (Int × Int))) : ∀ n : Nat, n ≤ os.length → ((List.range n).flatMap (candL os)).length ≤ 3 * (colsOf (os.take n)).length
  | 0, _ => Nat.zero_le _
  | n + 1, h => by
    have ih := cand_len os n (by omega)
    have e : os[n]? = some os[n] := List.getElem?_eq_getElem (by omega)
    rw [List.range_succ, List.flatMap_append, List.length_append, cols_take e, List.length_append]
    have z : ([n].flatMap (candL os)).length = (candL os n).length := by simp
    rw [z]
    rcases hc : os[n] with _ | ⟨a, b⟩
    · rw [hc] at e
      have : candL os n = [] := by
        unfold candL
        rw [e]
      rw [this]
      show _ + 0 ≤ 3 * (_ + 0)
      omega
    · rw [hc] at e
      rw [candL_some e, List.length_append, List.length_append]
      have h1 := pickR_len (fun q => RunF (colAt os a) q ∧ q.1 ≤ n ∧ (n : Int) ≤ q.2)
      have h2 := pickR_len (fun q => RunF (colAt os (b + 1)) q ∧ q.1 = (n : Int) + 1)
      have h3 := pickR_len (fun q => RunF (colAt os (b + 1)) q ∧ q.2 = (n : Int) - 1)
      show _ ≤ 3 * (_ + 1)
      omega
theorem run_first {os : List (Option (Int × Int))} (ok : BdOk os) {q : Int × Int} : ∀ (n : Nat) (r : Int), r.toNat ≤ n → RunF (colAt os r) q → 0 ≤ r ∧ ∃ z, RunF (colAt os z) q ∧ ¬ RunF (colAt os (z - 1)) q := by
  have nn : ∀ r, RunF (colAt os r) q → 0 ≤ r := fun r h => by
    obtain ⟨x, y, _, xy, f, _⟩ := h
    obtain ⟨u, v, e, h1, _⟩ := colAt_true (f x (Nat.le_refl _) xy)
    have := ok u v (List.mem_of_getElem? e)
    omega
  intro n
  induction n with
  | zero =>
    intro r hr h
    refine ⟨nn r h, r, h, fun h2 => ?_⟩
    have := nn _ h2
    omega
  | succ n ih =>
    intro r hr h
    refine ⟨nn r h, ?_⟩
    by_cases h2 : RunF (colAt os (r - 1)) q
    · exact (ih (r - 1) (by have := nn _ h2; omega) h2).2
    · exact ⟨r, h, h2⟩
theorem run_cand {os : List (Option (Int × Int))} (ok : BdOk os) {r : Int} {q : Int × Int} (h : RunF (colAt os r) q) : ∃ k, k < os.length ∧ q ∈ candL os k := by
  obtain ⟨_, z, h1, h2⟩ := run_first ok _ r (Nat.le_refl _) h
  have ord := runF_ord h1
  obtain ⟨x, y, eq, xy, f, l, m⟩ := h1
  have at_ : ∀ {k : Nat} {r : Int}, colAt os r k = true → k < os.length := fun e => by
    obtain ⟨_, _, e, _⟩ := colAt_true e
    exact (List.getElem?_eq_some_iff.mp e).1
  by_cases c : ∃ k, x ≤ k ∧ k ≤ y ∧ colAt os (z - 1) k = false
  · obtain ⟨k, k1, k2, k3⟩ := c
    obtain ⟨a, b, e, a1, b1⟩ := colAt_true (f k k1 k2)
    have az : a = z := by
      rw [colAt_some e] at k3
      refine Classical.byContradiction fun ne => ?_
      rw [decide_eq_true (show a ≤ z - 1 by omega), decide_eq_true (show z - 1 ≤ b by omega)] at k3
      cases k3
    subst az
    refine ⟨k, at_ (f k k1 k2), ?_⟩
    rw [candL_some e]
    refine List.mem_append_left _ (pickR_mem (fun u v hu hv => runF_at hu.1 hv.1 hu.2 hv.2) ⟨⟨x, y, eq, xy, f, l, m⟩, ?_, ?_⟩)
    · rw [eq]
      show (x : Int) ≤ k
      omega
    · rw [eq]
      show (k : Int) ≤ y
      omega
  · have all : ∀ k, x ≤ k → k ≤ y → colAt os (z - 1) k = true := fun k k1 k2 => by
      cases e : colAt os (z - 1) k with
      | true => rfl
      | false => exact absurd ⟨k, k1, k2, e⟩ c
    have gone : ∀ k, colAt os (z - 1) k = true → colAt os z k = false → ∃ a b, os[k]? = some (some (a, b)) ∧ b + 1 = z := fun k h3 h4 => by
      obtain ⟨a, b, e, a1, b1⟩ := colAt_true h3
      refine ⟨a, b, e, ?_⟩
      rw [colAt_some e, decide_eq_true (show a ≤ z by omega), Bool.true_and] at h4
      have := of_decide_eq_false h4
      omega
    have run : RunF (colAt os z) q := ⟨x, y, eq, xy, f, l, m⟩
    by_cases d : colAt os (z - 1) (y + 1) = true
    · obtain ⟨a, b, e, rfl⟩ := gone _ d m
      refine ⟨y + 1, at_ d, ?_⟩
      rw [candL_some e]
      refine List.mem_append_right _ (List.mem_append_right _ (pickR_mem (fun u v hu hv => ?_) ⟨run, ?_⟩))
      · have h5 := runF_ord hu.1
        have h6 := runF_ord hv.1
        exact runF_at (k := u.2) hu.1 hv.1 ⟨h5.2, Int.le_refl _⟩ ⟨by have := hu.2; have := hv.2; omega, by have := hu.2; have := hv.2; omega⟩
      · rw [eq]
        show (y : Int) = ((y + 1 : Nat) : Int) - 1
        omega
    · have d2 : colAt os (z - 1) (y + 1) = false := by simpa using d
      have : x ≠ 0 ∧ colAt os (z - 1) (x - 1) = true := by
        refine Classical.byContradiction fun n => h2 ⟨x, y, eq, xy, all, ?_, d2⟩
        by_cases x0 : x = 0
        · exact .inl x0
        · refine .inr ?_
          cases e : colAt os (z - 1) (x - 1) with
          | false => rfl
          | true => exact absurd ⟨x0, e⟩ n
      obtain ⟨x0, d3⟩ := this
      obtain ⟨a, b, e, rfl⟩ := gone _ d3 (by rcases l with l | l; omega; exact l)
      refine ⟨x - 1, at_ d3, ?_⟩
      rw [candL_some e]
      refine List.mem_append_right _ (List.mem_append_left _ (pickR_mem (fun u v hu hv => ?_) ⟨run, ?_⟩))
      · have h5 := runF_ord hu.1
        have h6 := runF_ord hv.1
        exact runF_at (k := u.1) hu.1 hv.1 ⟨Int.le_refl _, h5.2⟩ ⟨by have := hu.2; have := hv.2; omega, by have := hu.2; have := hv.2; omega⟩
      · rw [eq]
        show (x : Int) = ((x - 1 : Nat) : Int) + 1
        omega
theorem RunL.nd {os : List (Option (Int × Int))} {ps : List (Int × Int)} (h : RunL os ps) : ps.Nodup := h.1.imp fun {a b} z e => by
  rw [e] at z
  exact ltP_irr z
/-- a board has at most three runs for each column -/
theorem runs24 {os : List (Option (Int × Int))} {ps : List (Int × Int)} (ok : BdOk os) (h : RunL os ps) : ps.length ≤ 3 * (colsOf os).length := by
  have c := cand_len os os.length (Nat.le_refl _)
  rw [List.take_length] at c
  refine Nat.le_trans (nodup_le h.nd fun q hq => ?_) c
  obtain ⟨r, hr⟩ := (h.2 q).mp hq
  obtain ⟨k, k1, k2⟩ := run_cand ok hr
  exact List.mem_flatMap.mpr ⟨k, List.mem_range.mpr k1, k2⟩
theorem RunL.in_ {os : List (Option (Int × Int))} {ps : List (Int × Int)} (h : RunL os ps) : ∀ q ∈ ps, 0 ≤ q.1 ∧ q.1 ≤ q.2 ∧ q.2 < os.length := fun q hq => by
  obtain ⟨r, hr⟩ := (h.2 q).mp hq
  exact runF_lt (fun k hk => colAt_out hk) hr
theorem blocks_within {row : List (Int × Int)} {n : Nat} (g : Good row) (h : ∀ q ∈ row, q.2 < n) : (blocksOf row).length ≤ n := by
  have B := blocks_bl g
  have nd : ((blocksOf row).map (·.1)).Nodup := by
    refine List.pairwise_map.mpr (B.asc.imp_of_mem fun {a b} ha hb z e => ?_)
    have := B.ok a ha
    omega
  have z := nodup_le (m := (List.range n).map fun k : Nat => (k : Int)) nd fun x hx => by
    obtain ⟨b, hb, rfl⟩ := List.mem_map.mp hx
    have o := B.ok b hb
    have dp : 0 < depI row b.1 := by
      have c := B.cov b.1.toNat (by omega)
      rw [show ((b.1.toNat : Nat) : Int) = b.1 by omega] at c
      exact c.mpr ⟨b, hb, Int.le_refl _, o.2.1⟩
    obtain ⟨q, hq, h1, h2⟩ := dep_pos.mp dp
    have := h q hq
    exact List.mem_map.mpr ⟨b.1.toNat, List.mem_range.mpr (by omega), by omega⟩
  rw [List.length_map, List.length_map, List.length_range] at z
  exact z
theorem RunL.solB {os : List (Option (Int × Int))} {ts : List (Int × Int)} (h : RunL os ts) (ok : BdOk os) (few : os.length ≤ 8) : SolB ts [] := by
  have l := runs24 ok h
  have lc := cols_le os
  have i := h.in_
  have g : Good (ts ++ []) := fun q hq => by
    rw [List.append_nil] at hq
    exact ⟨(i q hq).1, (i q hq).2.1⟩
  refine ⟨g, fun q hq => ?_, by omega, .inl (by rw [List.append_nil]; omega), ?_, by show 8 * ts.length ≤ 192; omega, by show 192 < 1000; decide⟩
  · have := i q hq
    omega
  · refine Nat.le_trans (blocks_within (n := os.length) g fun q hq => ?_) few
    rw [List.append_nil] at hq
    exact (i q hq).2.2

/-! ### what cover_board finds: mathematics -/
def LowR (os : List (Option (Int × Int))) (q : Int × Int) (x : Int) : Prop := RunF (colAt os x) q ∧ ∀ r, RunF (colAt os r) q → x ≤ r
noncomputable def lowR (os : List (Option (Int × Int))) (q : Int × Int) : Int := Classical.epsilon (LowR os q)
theorem lowR_eq {os : List (Option (Int × Int))} {q : Int × Int} {x : Int} (h : LowR os q x) : lowR os q = x := by
  have z : LowR os q (lowR os q) := Classical.epsilon_spec ⟨x, h⟩
  have := z.2 x h.1
  have := h.2 _ z.1
  omega
def BotR (os : List (Option (Int × Int))) (q : Int × Int) (b : Int) : Prop := (∃ (k : Nat) (x y : Int), q.1 ≤ k ∧ (k : Int) ≤ q.2 ∧ os[k]? = some (some (x, y)) ∧ x = b) ∧ ∀ (k : Nat) (x y : Int), q.1 ≤ k → (k : Int) ≤ q.2 → os[k]? = some (some (x, y)) → x ≤ b
def TopR (os : List (Option (Int × Int))) (q : Int × Int) (b : Int) : Prop := (∃ (k : Nat) (x y : Int), q.1 ≤ k ∧ (k : Int) ≤ q.2 ∧ os[k]? = some (some (x, y)) ∧ y = b) ∧ ∀ (k : Nat) (x y : Int), q.1 ≤ k → (k : Int) ≤ q.2 → os[k]? = some (some (x, y)) → b ≤ y
noncomputable def botR (os : List (Option (Int × Int))) (q : Int × Int) : Int := Classical.epsilon (BotR os q)
noncomputable def topR (os : List (Option (Int × Int))) (q : Int × Int) : Int := Classical.epsilon (TopR os q)
theorem botR_eq {os : List (Option (Int × Int))} {q : Int × Int} {x : Int} (h : BotR os q x) : botR os q = x := by
  have z : BotR os q (botR os q) := Classical.epsilon_spec ⟨x, h⟩
  obtain ⟨k, a, b, k1, k2, e, rfl⟩ := h.1
  have h1 := z.2 k a b k1 k2 e
  obtain ⟨k, u, v, k1, k2, e, e2⟩ := z.1
  have h2 := h.2 k u v k1 k2 e
  omega
theorem topR_eq {os : List (Option (Int × Int))} {q : Int × Int} {x : Int} (h : TopR os q x) : topR os q = x := by
  have z : TopR os q (topR os q) := Classical.epsilon_spec ⟨x, h⟩
  obtain ⟨k, a, b, k1, k2, e, rfl⟩ := h.1
  have h1 := z.2 k a b k1 k2 e
  obtain ⟨k, u, v, k1, k2, e, e2⟩ := z.1
  have h2 := h.2 k u v k1 k2 e
  omega
abbrev Rect := Int × Int × Int × Int
noncomputable def rectR (os : List (Option (Int × Int))) (q : Int × Int) : Rect := (q.1, q.2, botR os q, topR os q)
noncomputable def cellR (os : List (Option (Int × Int))) (d : Dem) : Int × Int := (d.1, lowR os d.2)
structure CovR (os : List (Option (Int × Int))) (rs : List Rect) (cs : List (Int × Int)) : Prop where
  ex : ∃ (ts A : List (Int × Int)), RunL os ts ∧ A.Perm (addO ts []) ∧ A.Pairwise ltP ∧ (∀ q ∈ A, BotR os q (botR os q) ∧ TopR os q (topR os q)) ∧ (∀ d ∈ witO ts [], LowR os d.2 (lowR os d.2)) ∧ rs = A.map (rectR os) ∧ cs = (witO ts []).map (cellR os)
theorem CovR.uniq {os : List (Option (Int × Int))} {rs rs' : List Rect} {cs cs' : List (Int × Int)} (h : CovR os rs cs) (h' : CovR os rs' cs') : rs = rs' ∧ cs = cs' := by
  obtain ⟨ts, A, r, pm, asc, _, _, rfl, rfl⟩ := h.ex
  obtain ⟨ts', A', r', pm', asc', _, _, rfl, rfl⟩ := h'.ex
  obtain rfl := r.uniq r'
  obtain rfl : A = A' := leP_uniq (leP_of_lt asc) (leP_of_lt asc') (pm.trans pm'.symm)
  exact ⟨rfl, rfl⟩
theorem CovR.num {os : List (Option (Int × Int))} {rs : List Rect} {cs : List (Int × Int)} {ts : List (Int × Int)} (h : CovR os rs cs) (r : RunL os ts) (ok : BdOk os) (few : os.length ≤ 8) : rs.length = needO ts [] ∧ cs.length = needO ts [] := by
  obtain ⟨ts', A, r', pm, asc, _, _, rfl, rfl⟩ := h.ex
  obtain rfl := r.uniq r'
  have add := add_ok (r.solB ok few).good
  rw [List.length_map, List.length_map, pm.length_eq, add.len]
  exact ⟨rfl, rfl⟩
structure CovOk (os : List (Option (Int × Int))) (rs : List Rect) (cs : List (Int × Int)) : Prop where
  len : rs.length = cs.length
  rect : ∀ r ∈ rs, 0 ≤ r.1 ∧ r.1 ≤ r.2.1 ∧ r.2.1 < os.length ∧ r.2.2.1 ≤ r.2.2.2 ∧ ∀ k : Nat, r.1 ≤ k → (k : Int) ≤ r.2.1 → colAt os r.2.2.1 k = true ∧ colAt os r.2.2.2 k = true
  rasc : rs.Pairwise fun a b => a.1 < b.1 ∨ (a.1 = b.1 ∧ a.2.1 < b.2.1)
  casc : cs.Pairwise fun a b => a.1 < b.1
  cell : ∀ c ∈ cs, ∃ k : Nat, c.1 = k ∧ colAt os c.2 k = true
  cov : ∀ (row : Int) (k : Nat), colAt os row k = true → ∃ r ∈ rs, r.1 ≤ k ∧ (k : Int) ≤ r.2.1 ∧ r.2.2.1 ≤ row ∧ row ≤ r.2.2.2
  apart : cs.Pairwise fun a b => ¬ ∀ k : Nat, a.1 ≤ (k : Int) → (k : Int) ≤ b.1 → colAt os a.2 k = true ∧ colAt os b.2 k = true
theorem run_left {p : Nat → Bool} : ∀ k : Nat, p k = true → ∃ x, x ≤ k ∧ (∀ j, x ≤ j → j ≤ k → p j = true) ∧ (x = 0 ∨ p (x - 1) = false)
  | 0, h => ⟨0, Nat.le_refl _, fun j _ j2 => by rw [Nat.le_zero.mp j2]; exact h, .inl rfl⟩
  | k + 1, h => by
    cases e : p k with
    | false => exact ⟨k + 1, Nat.le_refl _, fun j j1 j2 => by rw [Nat.le_antisymm j2 j1]; exact h, .inr e⟩
    | true =>
      obtain ⟨x, x1, x2, x3⟩ := run_left k e
      refine ⟨x, by omega, fun j j1 j2 => ?_, x3⟩
      rcases Nat.lt_or_ge k j with z | z
      · rw [show j = k + 1 by omega]
        exact h
      · exact x2 j j1 z
theorem run_right {p : Nat → Bool} {N : Nat} (out : ∀ k, N ≤ k → p k = false) : ∀ (d k : Nat), N ≤ k + d → p k = true → ∃ y, k ≤ y ∧ (∀ j, k ≤ j → j ≤ y → p j = true) ∧ p (y + 1) = false
  | 0, k, l, h => by
    rw [out k (by omega)] at h
    cases h
  | d + 1, k, l, h => by
    cases e : p (k + 1) with
    | false => exact ⟨k, Nat.le_refl _, fun j j1 j2 => by rw [Nat.le_antisymm j2 j1]; exact h, e⟩
    | true =>
      obtain ⟨y, y1, y2, y3⟩ := run_right out d (k + 1) (by omega) e
      refine ⟨y, by omega, fun j j1 j2 => ?_, y3⟩
      rcases Nat.lt_or_ge k j with z | z
      · exact y2 j z j2
      · rw [show j = k by omega]
        exact h
/-- the run through a cell -/
theorem run_thru {p : Nat → Bool} {N k : Nat} (out : ∀ k, N ≤ k → p k = false) (h : p k = true) : ∃ q, RunF p q ∧ q.1 ≤ k ∧ (k : Int) ≤ q.2 := by
  obtain ⟨x, x1, x2, x3⟩ := run_left k h
  obtain ⟨y, y1, y2, y3⟩ := run_right out N k (by omega) h
  refine ⟨(x, y), ⟨x, y, rfl, by omega, fun j j1 j2 => ?_, x3, y3⟩, by show (x : Int) ≤ k; omega, by show (k : Int) ≤ y; omega⟩
  rcases Nat.lt_or_ge k j with z | z
  · exact y2 j (by omega) j2
  · exact x2 j j1 z
theorem RunF.at_ {p : Nat → Bool} {q : Int × Int} (h : RunF p q) {k : Nat} (h1 : q.1 ≤ k) (h2 : (k : Int) ≤ q.2) : p k = true := by
  obtain ⟨x, y, rfl, xy, f, _⟩ := h
  have h1 : (x : Int) ≤ k := h1
  have h2 : (k : Int) ≤ y := h2
  exact f k (by omega) (by omega)
theorem RunF.nat {p : Nat → Bool} {q : Int × Int} (h : RunF p q) : ∃ x y : Nat, q.1 = x ∧ q.2 = y ∧ (x = 0 ∨ p (x - 1) = false) ∧ p (y + 1) = false := by
  obtain ⟨x, y, rfl, xy, f, l, m⟩ := h
  exact ⟨x, y, rfl, rfl, l, m⟩
theorem CovR.ok {os : List (Option (Int × Int))} {rs : List Rect} {cs : List (Int × Int)} (h : CovR os rs cs) (ok : BdOk os) (few : os.length ≤ 8) : CovOk os rs cs := by
  obtain ⟨ts, A, rl, pm, asc, bt, lw, rfl, rfl⟩ := h.ex
  have B := rl.solB ok few
  have add := add_ok B.good
  have wit := wit_ok (ts := ts) (ps := []) B.good (fun q hq => by have := (rl.in_ q hq).2.2; omega)
  have inA : ∀ q ∈ A, ∃ t r, RunF (colAt os r) t ∧ t.1 ≤ q.1 ∧ q.1 ≤ q.2 ∧ q.2 ≤ t.2 ∧ 0 ≤ t.1 ∧ t.2 < os.length := fun q hq => by
    obtain ⟨f, t, ht, h1, h2⟩ := add.inn q (pm.mem_iff.mp hq)
    obtain ⟨r, hr⟩ := (rl.2 t).mp ht
    have i := rl.in_ t ht
    exact ⟨t, r, hr, h1, f.le, h2, i.1, i.2.2⟩
  refine ⟨by rw [List.length_map, List.length_map, pm.length_eq, add.len]; rfl, fun r hr => ?_, ?_, ?_, fun c hc => ?_, fun row k hk => ?_, ?_⟩
  · obtain ⟨q, hq, rfl⟩ := List.mem_map.mp hr
    obtain ⟨t, r, f, h1, h2, h3, h4, h5⟩ := inA q hq
    obtain ⟨B1, T1⟩ := bt q hq
    refine ⟨by show 0 ≤ q.1; omega, h2, by show q.2 < _; omega, ?_, fun k k1 k2 => ?_⟩
    · obtain ⟨k, x, y, k1, k2, e, e1⟩ := B1.1
      obtain ⟨k', x', y', k1', k2', e', e1'⟩ := T1.1
      have c1 := f.at_ (k := k) (by omega) (by omega)
      have c2 := f.at_ (k := k') (by omega) (by omega)
      rw [colAt_some e, Bool.and_eq_true, decide_eq_true_iff, decide_eq_true_iff] at c1
      rw [colAt_some e', Bool.and_eq_true, decide_eq_true_iff, decide_eq_true_iff] at c2
      show botR os q ≤ topR os q
      omega
    · have k1 : q.1 ≤ k := k1
      have k2 : (k : Int) ≤ q.2 := k2
      have c0 := f.at_ (k := k) (by omega) (by omega)
      obtain ⟨u, v, e0, u1, v1⟩ := colAt_true c0
      have b2 := B1.2 k u v k1 k2 e0
      have t2 := T1.2 k u v k1 k2 e0
      obtain ⟨kb, x, y, kb1, kb2, e, e1⟩ := B1.1
      obtain ⟨kt, x', y', kt1, kt2, e', e1'⟩ := T1.1
      have c1 := f.at_ (k := kb) (by omega) (by omega)
      have c2 := f.at_ (k := kt) (by omega) (by omega)
      rw [colAt_some e, Bool.and_eq_true, decide_eq_true_iff, decide_eq_true_iff] at c1
      rw [colAt_some e', Bool.and_eq_true, decide_eq_true_iff, decide_eq_true_iff] at c2
      show colAt os (botR os q) k = true ∧ colAt os (topR os q) k = true
      rw [colAt_some e0, colAt_some e0, Bool.and_eq_true, Bool.and_eq_true, decide_eq_true_iff, decide_eq_true_iff, decide_eq_true_iff, decide_eq_true_iff]
      omega
  · exact List.pairwise_map.mpr asc
  · exact List.pairwise_map.mpr wit.asc
  · obtain ⟨d, hd, rfl⟩ := List.mem_map.mp hc
    obtain ⟨h1, h2, _⟩ := wit.ok d hd
    refine ⟨d.1.toNat, by show d.1 = _; omega, ?_⟩
    exact (lw d hd).1.at_ (by omega) (by omega)
  · obtain ⟨t, ht, h1, h2⟩ := run_thru (N := os.length) (fun k hk => colAt_out hk) hk
    obtain ⟨q, hq, z1, z2, z3, z4⟩ := add.com t ((rl.2 t).mpr ⟨row, ht⟩) k h1 h2
    have hq : q ∈ A := pm.mem_iff.mpr hq
    obtain ⟨B1, T1⟩ := bt q hq
    refine ⟨_, List.mem_map.mpr ⟨q, hq, rfl⟩, z2, z3, ?_, ?_⟩
    · obtain ⟨k, x, y, k1, k2, e, e1⟩ := B1.1
      have c1 := ht.at_ (k := k) (by omega) (by omega)
      rw [colAt_some e, Bool.and_eq_true, decide_eq_true_iff, decide_eq_true_iff] at c1
      show botR os q ≤ row
      omega
    · obtain ⟨k, x, y, k1, k2, e, e1⟩ := T1.1
      have c1 := ht.at_ (k := k) (by omega) (by omega)
      rw [colAt_some e, Bool.and_eq_true, decide_eq_true_iff, decide_eq_true_iff] at c1
      show row ≤ topR os q
      omega
  · refine List.pairwise_map.mpr ((wit.asc.and wit.ind).imp_of_mem fun {d e} hd he h all => ?_)
    obtain ⟨lt, nc⟩ := h
    obtain ⟨_, d2, _⟩ := wit.ok d hd
    obtain ⟨_, e2, _⟩ := wit.ok e he
    obtain ⟨x, y, x1, y1, _, m⟩ := (lw d hd).1.nat
    obtain ⟨u, v, u1, v1, n, _⟩ := (lw e he).1.nat
    have c1 : e.1 ≤ d.2.2 := by
      refine Classical.byContradiction fun z => ?_
      have := (all (y + 1) (by show d.1 ≤ _; omega) (by show _ ≤ e.1; omega)).1
      rw [show colAt os (cellR os d).2 = colAt os (lowR os d.2) from rfl, m] at this
      cases this
    have c2 : e.2.1 ≤ d.1 := by
      refine Classical.byContradiction fun z => ?_
      have := (all (u - 1) (by show d.1 ≤ _; omega) (by show _ ≤ e.1; omega)).2
      rcases n with n | n
      · omega
      · rw [show colAt os (cellR os e).2 = colAt os (lowR os e.2) from rfl, n] at this
        cases this
    have c : cf d e = true := cf_iff.mpr ⟨⟨by omega, by omega⟩, by omega, by omega⟩
    rw [c] at nc
    cases nc

/-! ### the program: tallest_rectangle, cover_board -/
theorem cutMid (xs : List V) (l r : Nat) (h : r ≤ xs.length) (hl : l ≤ r) : cutV xs (some (l : Int)) (some (r : Int)) = (xs.drop l).take (r - l) := by
  unfold cutV
  rw [show HT.sIx xs.length 0 (some (l : Int)) = min l xs.length from HT.sIx_nat xs.length 0 l, show HT.sIx xs.length xs.length (some (r : Int)) = min r xs.length from HT.sIx_nat xs.length xs.length r, Nat.min_eq_left h, Nat.min_eq_left (Nat.le_trans hl h)]
/-- the numbers f of the columns from l on -/
def IntsAt (os : List (Option (Int × Int))) (l : Nat) (f : Int × Int → Int) (j : Nat) (xs : List Int) : Prop := xs.length = j ∧ ∀ i, i < j → ∃ q, os[l + i]? = some (some q) ∧ xs[i]? = some (f q)
theorem IntsAt.nil (os : List (Option (Int × Int))) (l : Nat) (f : Int × Int → Int) : IntsAt os l f 0 [] := ⟨rfl, fun i h => absurd h (Nat.not_lt_zero _)⟩
theorem IntsAt.snoc {os : List (Option (Int × Int))} {l j : Nat} {xs : List Int} {f : Int × Int → Int} (h : IntsAt os l f j xs) {q : Int × Int} (e : os[l + j]? = some (some q)) : IntsAt os l f (j + 1) (xs ++ [f q]) := by
  refine ⟨by rw [List.length_append, h.1]; rfl, fun i hi => ?_⟩
  rcases Nat.lt_succ_iff_lt_or_eq.mp hi with z | rfl
  · obtain ⟨q', e1, e2⟩ := h.2 i z
    exact ⟨q', e1, by rw [List.getElem?_append_left (by rw [h.1]; exact z)]; exact e2⟩
  · refine ⟨q, e, ?_⟩
    rw [List.getElem?_append_right (by rw [h.1]; exact Nat.le_refl _), h.1, Nat.sub_self]
    rfl
theorem IntsAt.max {os : List (Option (Int × Int))} {l r : Nat} {xs : List Int} (h : IntsAt os l (·.1) (r + 1 - l) xs) {m : Int} (hm : m ∈ xs) (all : ∀ y ∈ xs, y ≤ m) : BotR os (l, r) m := by
  constructor
  · obtain ⟨i, ei⟩ := List.getElem?_of_mem hm
    have il := (List.getElem?_eq_some_iff.mp ei).1
    rw [h.1] at il
    obtain ⟨q, e1, e2⟩ := h.2 i il
    rw [ei] at e2
    injection e2 with e2
    exact ⟨l + i, q.1, q.2, by show (l : Int) ≤ _; omega, by show _ ≤ (r : Int); omega, e1, e2.symm⟩
  · intro k x y k1 k2 e
    have k1 : (l : Int) ≤ k := k1
    have k2 : (k : Int) ≤ r := k2
    obtain ⟨q, e1, e2⟩ := h.2 (k - l) (by omega)
    rw [show l + (k - l) = k by omega, e] at e1
    injection e1 with e1
    injection e1 with e1
    subst e1
    exact all _ (List.mem_of_getElem? e2)
theorem IntsAt.min {os : List (Option (Int × Int))} {l r : Nat} {xs : List Int} (h : IntsAt os l (·.2) (r + 1 - l) xs) {m : Int} (hm : m ∈ xs) (all : ∀ y ∈ xs, m ≤ y) : TopR os (l, r) m := by
  constructor
  · obtain ⟨i, ei⟩ := List.getElem?_of_mem hm
    have il := (List.getElem?_eq_some_iff.mp ei).1
    rw [h.1] at il
    obtain ⟨q, e1, e2⟩ := h.2 i il
    rw [ei] at e2
    injection e2 with e2
    exact ⟨l + i, q.1, q.2, by show (l : Int) ≤ _; omega, by show _ ≤ (r : Int); omega, e1, e2.symm⟩
  · intro k x y k1 k2 e
    have k1 : (l : Int) ≤ k := k1
    have k2 : (k : Int) ≤ r := k2
    obtain ⟨q, e1, e2⟩ := h.2 (k - l) (by omega)
    rw [show l + (k - l) = k by omega, e] at e1
    injection e1 with e1
    injection e1 with e1
    subst e1
    exact all _ (List.mem_of_getElem? e2)
def sp_tallest : Sp := fun vs H Q _ => ∃ (a p : Addr) (us : List V) (os : List (Option (Int × Int))) (l r : Nat), vs = [.ref a, .ref p] ∧ H a = some (.tup us) ∧ OVs H us os ∧ os.length < 100 ∧ H p = some (.tup [.int l, .int r]) ∧ l ≤ r ∧ r < os.length ∧ (∀ k, l ≤ k → k ≤ r → ∃ q, os[k]? = some (some q)) ∧
  ∀ H' t b tp, Same H H' → H' t = some (.tup [.int l, .int r, .int b, .int tp]) → BotR os (l, r) b → TopR os (l, r) tp → Q (.ref t) H'
theorem ok_tallest_rectangle (T : Tx K mg f_depth_changes f_find_blocks f_has_position f_contains f_serves f_conflict f_demands_at_blocks f_is_open f_open_demands f_shadow_target f_decisive_demands f_largest_independent f_unserved_demands f_helpful_piece f_smallest_solution f_row_runs f_rows_of_runs f_tallest_rectangle f_cover_board f_law_draws f_law_next f_law_column f_law_board f_law_is_int f_law_inside f_law_full f_law_is_rectangle f_law_apart f_law_levels f_law_ascends f_law_covered f_law_is_cell f_law_holds f_law_board_cells f_law_number f_law_tallest f_law_fewest f_law_most f_law d_depth_changes d_find_blocks d_has_position d_contains d_serves d_conflict d_demands_at_blocks d_is_open d_open_demands d_shadow_target d_decisive_demands d_largest_independent d_unserved_demands d_helpful_piece d_smallest_solution d_row_runs d_rows_of_runs d_tallest_rectangle d_cover_board d_law_draws d_law_next d_law_column d_law_board d_law_is_int d_law_inside d_law_full d_law_is_rectangle d_law_apart d_law_levels d_law_ascends d_law_covered d_law_is_cell d_law_holds d_law_board_cells d_law_number d_law_tallest d_law_fewest d_law_most d_law) : FnOk P w K mg base CX0 2 f_tallest_rectangle d_tallest_rectangle ["board", "piece"] sp_tallest := by
  refine T.F_tallest_rectangle.ok sc_tallest_rectangle (fun vs H Q E h => ?_) (fun cdv A outer s H vs Q E hr h => ?_)
  · obtain ⟨a, p, us, os, l, r, rfl, _⟩ := h
    rfl
  · obtain ⟨a, p, us, os, l, r, rfl, ha, ovs, few, hp, lr, rl, all, q⟩ := h
    refine ⟨_, (pss_cons (ps_asg (pv 1) (pg_tup rfl (pgs_cons (pg_name (i := 2) sc_tallest_rectangle.nd rfl (Or.inl rfl)) (pgs_cons (pg_name (i := 3) sc_tallest_rectangle.nd rfl (Or.inl rfl)) pgs_nil))))
      (pss_cons (ps_set (i := 4) sc_tallest_rectangle.nd rfl (Or.inl rfl) (pe_slice sl_tupA (pv 0) (po_some (pv 2)) (po_some (pe_op op_add (pv 3) pe_int))))
      (pss_one (ps_ret (pe_tup (pa_cons (pv 2) (pa_cons (pv 3) (pa_cons (pe_callB (cr_max rfl) (by rfl) T.z_max (by decide +kernel) (pa_cons (pe_lc (own := [("bottom", 5), ("top", 6)]) (g := (gTup K 2 (gCons (gName 5) (gCons (gName 6) gNil)))) (tt := tYes) (by rfl) sc_tallest_rectangle.nd (pi_tup (pv 4)) (blkOk_by (own := [("bottom", 5), ("top", 6)]) (N := N_tallest_rectangle) (sc := defScope s_tallest_rectangle) (by decide +kernel)) (fun _ _ _ _ _ => (pg_tup rfl (pgs_cons (pg_name (i := 5) sc_tallest_rectangle.nd rfl (Or.inl rfl)) (pgs_cons (pg_name (i := 6) sc_tallest_rectangle.nd rfl (Or.inl rfl)) pgs_nil)))) (fun _ _ _ _ _ => pts_nil) (fun _ _ _ _ _ => (pv 5))) pa_nil)) (pa_cons (pe_callB (cr_min rfl) (by rfl) T.z_min (by decide +kernel) (pa_cons (pe_lc (own := [("bottom", 5), ("top", 6)]) (g := (gTup K 2 (gCons (gName 5) (gCons (gName 6) gNil)))) (tt := tYes) (by rfl) sc_tallest_rectangle.nd (pi_tup (pv 4)) (blkOk_by (own := [("bottom", 5), ("top", 6)]) (N := N_tallest_rectangle) (sc := defScope s_tallest_rectangle) (by decide +kernel)) (fun _ _ _ _ _ => (pg_tup rfl (pgs_cons (pg_name (i := 5) sc_tallest_rectangle.nd rfl (Or.inl rfl)) (pgs_cons (pg_name (i := 6) sc_tallest_rectangle.nd rfl (Or.inl rfl)) pgs_nil)))) (fun _ _ _ _ _ => pts_nil) (fun _ _ _ _ _ => (pv 6))) pa_nil)) pa_nil))))))))), ?_⟩
    have lu := ovs.1
    refine ⟨.ref p, rfl, p, _, rfl, SqT.of hp, rfl, .int l, [.int r], rfl, .int r, [], rfl, rfl, ?_⟩
    refine ⟨.ref a, rfl, .int l, rfl, l, rfl, .int r, rfl, _, _, rfl, rfl, r + 1, rfl, slA_any ha (fun H1 c s1 ec => ?_)⟩
    rw [show ((r : Int) + 1) = ((r + 1 : Nat) : Int) by omega, cutMid us l (r + 1) (by omega) (by omega)] at ec
    refine ⟨.int l, rfl, .int r, rfl, .ref c, rfl, c, rfl, ⟨_, SqT.of ec⟩, fun D nD => ?_⟩
    have lcut : ((us.drop l).take (r + 1 - l)).length = r + 1 - l := by
      rw [List.length_take, List.length_drop]
      omega
    have item : ∀ {j : Nat} {v : V} {H' : Hp}, Same H H' → ((us.drop l).take (r + 1 - l))[j]? = some v → ∃ t x y, v = .ref t ∧ os[l + j]? = some (some (x, y)) ∧ H' t = some (.tup [.int x, .int y]) := fun {j v H'} sm hj => by
      have jl := (List.getElem?_eq_some_iff.mp hj).1
      rw [lcut] at jl
      rw [List.getElem?_take_of_lt jl, List.getElem?_drop] at hj
      obtain ⟨o, eo, ov⟩ := ovs.2 _ _ hj
      obtain ⟨⟨x, y⟩, e2⟩ := all (l + j) (by omega) (by omega)
      rw [e2] at eo
      injection eo with eo
      subst eo
      obtain ⟨t, e, ht⟩ := ov
      exact ⟨t, x, y, e, e2, sm _ _ ht⟩
    refine lcT (K := K) (a := c) (xs := (us.drop l).take (r + 1 - l)) (fun j H' ws => ∃ xs : List Int, ws = xs.map V.int ∧ IntsAt os l (·.1) j xs) nD (fun H' s => SqT.of (s _ _ (ec))) (by omega) (fun _ _ _ _ t r => r) (fun j H' ws r => (by obtain ⟨xs, e, z⟩ := r; rw [e, List.length_map, z.1]; exact Nat.le_refl _)) (fun _ => ⟨[], rfl, IntsAt.nil _ _ _⟩) ?_ ?_
    · rintro j v H' N acc hj sm eA sz rr no yes
      obtain ⟨t, x, y, rfl, e2, ht⟩ := item (s1.trans sm) hj
      obtain ⟨xs, e3, ia⟩ := rr
      refine ⟨t, _, rfl, SqT.of ht, rfl, .int x, [.int y], rfl, .int y, [], rfl, rfl, rfl, .int x, rfl, yes H' _ (Same.refl _) ⟨xs ++ [x], ?_, ia.snoc e2⟩⟩
      rw [e3, List.map_append]
      rfl
    intro H2 ws s2 eD rr
    rw [lcut] at rr
    obtain ⟨xs, rfl, ia⟩ := rr
    refine ⟨D, xs, rfl, SqL.of eD, by rw [ia.1]; omega, fun m hm allm => ?_⟩
    have s12 := s1.trans s2
    have bot := ia.max hm allm
    refine ⟨.ref c, rfl, c, rfl, ⟨_, SqT.of (s2 _ _ ec)⟩, fun D2 nD2 => ?_⟩
    refine lcT (K := K) (a := c) (xs := (us.drop l).take (r + 1 - l)) (fun j H' ws => ∃ xs : List Int, ws = xs.map V.int ∧ IntsAt os l (·.2) j xs) nD2 (fun H' s => SqT.of (s _ _ ((s2 _ _ ec)))) (by omega) (fun _ _ _ _ t r => r) (fun j H' ws r => (by obtain ⟨xs, e, z⟩ := r; rw [e, List.length_map, z.1]; exact Nat.le_refl _)) (fun _ => ⟨[], rfl, IntsAt.nil _ _ _⟩) ?_ ?_
    · rintro j v H' N acc hj sm eA sz rr no yes
      obtain ⟨t, x, y, rfl, e2, ht⟩ := item (s12.trans sm) hj
      obtain ⟨xs, e3, ia⟩ := rr
      refine ⟨t, _, rfl, SqT.of ht, rfl, .int x, [.int y], rfl, .int y, [], rfl, rfl, rfl, .int y, rfl, yes H' _ (Same.refl _) ⟨xs ++ [y], ?_, ia.snoc e2⟩⟩
      rw [e3, List.map_append]
      rfl
    intro H3 ws s3 eD2 rr
    rw [lcut] at rr
    obtain ⟨ys, rfl, ia2⟩ := rr
    refine ⟨D2, ys, rfl, SqL.of eD2, by rw [ia2.1]; omega, fun m2 hm2 allm2 => ?_⟩
    refine ⟨by show 4 ≤ sizeLine; decide, fun t nt => ?_⟩
    exact q _ t m m2 (s12.trans (s3.trans (same_new nt))) upd_same bot (ia2.min hm2 allm2)
/-- rectangles in the heap -/
def R4 (H : Hp) (v : V) (r : Rect) : Prop := ∃ a, v = .ref a ∧ H a = some (.tup [.int r.1, .int r.2.1, .int r.2.2.1, .int r.2.2.2])
inductive R4s (H : Hp) : List V → List Rect → Prop
  | nil : R4s H [] []
  | cons {a : Addr} {x y z w : Int} {vs : List V} {rs : List Rect} : H a = some (.tup [.int x, .int y, .int z, .int w]) → R4s H vs rs → R4s H (.ref a :: vs) ((x, y, z, w) :: rs)
theorem R4s.tps {H H' : Hp} (s : Tps H H') {vs : List V} {rs : List Rect} (h : R4s H vs rs) : R4s H' vs rs := by
  induction h with
  | nil => exact .nil
  | cons e _ ih => exact .cons (s _ _ e) ih
theorem R4s.same {H H' : Hp} (s : Same H H') {vs : List V} {rs : List Rect} (h : R4s H vs rs) : R4s H' vs rs := h.tps (Tps.same s)
theorem R4s.length {H : Hp} {vs : List V} {rs : List Rect} (h : R4s H vs rs) : vs.length = rs.length := by
  induction h with
  | nil => rfl
  | cons _ _ ih => rw [List.length_cons, List.length_cons, ih]
theorem R4s.snoc {H : Hp} {vs : List V} {rs : List Rect} {a : Addr} {x y z w : Int} (h : R4s H vs rs) (e : H a = some (.tup [.int x, .int y, .int z, .int w])) : R4s H (vs ++ [.ref a]) (rs ++ [(x, y, z, w)]) := by
  induction h with
  | nil => exact .cons e .nil
  | cons e2 _ ih => exact .cons e2 ih
theorem R4s.get {H : Hp} {vs : List V} {rs : List Rect} (h : R4s H vs rs) : ∀ {i : Nat} {v : V}, vs[i]? = some v → ∃ a x y z w, v = .ref a ∧ rs[i]? = some (x, y, z, w) ∧ H a = some (.tup [.int x, .int y, .int z, .int w]) := by
  induction h with
  | nil =>
    intro i v e
    simp at e
  | @cons a x y z w vs rs e _ ih =>
    intro i v e2
    cases i with
    | zero =>
      cases e2
      exact ⟨a, x, y, z, w, rfl, rfl, e⟩
    | succ i => exact ih (i := i) e2
/-- what cover_board returns -/
structure CovH (H : Hp) (r : Addr) (rs : List Rect) (cs : List (Int × Int)) : Prop where
  ex : ∃ (x y : Addr) (zs vs : List V), H r = some (.tup [.ref x, .ref y]) ∧ H x = some (.tup zs) ∧ R4s H zs rs ∧ H y = some (.tup vs) ∧ Ivs H vs cs
def sp_cover_board (pT : Addr) : Sp := fun vs H Q _ => ∃ (d : Addr) (c : Addr × Addr × Addr) (n : Int) (a : Addr) (us : List V) (os : List (Option (Int × Int))), vs = [.ref a] ∧ c.2.2 = pT ∧ Dk H d c n ∧ H a = some (.tup us) ∧ OVs H us os ∧ os.length ≤ 8 ∧ BdOk os ∧
  ∀ H' r rs cs, Kp d c H H' → Dk H' d c n → CovH H' r rs cs → CovR os rs cs → Q (.ref r) H'
theorem ok_cover_board (T : Tx K mg f_depth_changes f_find_blocks f_has_position f_contains f_serves f_conflict f_demands_at_blocks f_is_open f_open_demands f_shadow_target f_decisive_demands f_largest_independent f_unserved_demands f_helpful_piece f_smallest_solution f_row_runs f_rows_of_runs f_tallest_rectangle f_cover_board f_law_draws f_law_next f_law_column f_law_board f_law_is_int f_law_inside f_law_full f_law_is_rectangle f_law_apart f_law_levels f_law_ascends f_law_covered f_law_is_cell f_law_holds f_law_board_cells f_law_number f_law_tallest f_law_fewest f_law_most f_law d_depth_changes d_find_blocks d_has_position d_contains d_serves d_conflict d_demands_at_blocks d_is_open d_open_demands d_shadow_target d_decisive_demands d_largest_independent d_unserved_demands d_helpful_piece d_smallest_solution d_row_runs d_rows_of_runs d_tallest_rectangle d_cover_board d_law_draws d_law_next d_law_column d_law_board d_law_is_int d_law_inside d_law_full d_law_is_rectangle d_law_apart d_law_levels d_law_ascends d_law_covered d_law_is_cell d_law_holds d_law_board_cells d_law_number d_law_tallest d_law_fewest d_law_most d_law) (hT : TabH base mg d_helpful_piece pT) : FnOk P w K mg base CX0 (lgN+11) f_cover_board d_cover_board ["board"] (sp_cover_board pT) := by
  refine T.F_cover_board.ok sc_cover_board (fun vs H Q E h => ?_) (fun cdv A outer s H vs Q E hr h => ?_)
  · obtain ⟨d, c, n, a, us, os, rfl, _⟩ := h
    rfl
  · obtain ⟨d, c, n, a, us, os, rfl, ct, dk, ha, ovs, few, ok, k⟩ := h
    refine ⟨_, (pss_cons (ps_set (i := 1) sc_cover_board.nd rfl (Or.inr rfl) (pe_call (ok_rows_of_runs T) (hr.mono (by decide)) (by rfl) T.g_rows_of_runs T.F_rows_of_runs.kp T.b_rows_of_runs .nil pass0 (pa_cons (pv 0) pa_nil)))
      (pss_cons (ps_asg (pe_call (ok_smallest_solution T hT) (hr.mono (by decide)) (by rfl) T.g_smallest_solution T.F_smallest_solution.kp T.b_smallest_solution .nil pass0 (pa_cons (pe_callTy call_tuple_of (by rfl) T.z_tuple (by decide +kernel) (pa_cons (pe_callB (cr_sortDT rfl) (by rfl) T.z_sorted (by decide +kernel) (pa_cons (pv 1) pa_nil)) pa_nil)) (pa_cons (pe_tup pa_nil) pa_nil))) (pg_tup rfl (pgs_cons (pg_name (i := 2) sc_cover_board.nd rfl (Or.inl rfl)) (pgs_cons (pg_name (i := 3) sc_cover_board.nd rfl (Or.inl rfl)) pgs_nil))))
      (pss_cons (ps_set (i := 4) sc_cover_board.nd rfl (Or.inl rfl) (pe_callTy call_tuple_of (by rfl) T.z_tuple (by decide +kernel) (pa_cons (pe_lc (own := [("piece", 5)]) (g := (gName 5)) (tt := tYes) (by rfl) sc_cover_board.nd (pi_tup (pv 2)) (blkOk_by (own := [("piece", 5)]) (N := N_cover_board) (sc := defScope s_cover_board) (by decide +kernel)) (fun _ _ _ _ _ => (pg_name (i := 5) sc_cover_board.nd rfl (Or.inl rfl))) (fun _ _ _ _ _ => pts_nil) (fun _ _ _ _ _ => (pe_call (ok_tallest_rectangle T) (hr.mono (by decide)) (by rfl) T.g_tallest_rectangle T.F_tallest_rectangle.kp T.b_tallest_rectangle .nil pass0 (pa_cons (pv 0) (pa_cons (pv 5) pa_nil))))) pa_nil)))
      (pss_one (ps_ret (pe_tup (pa_cons (pv 4) (pa_cons (pe_callTy call_tuple_of (by rfl) T.z_tuple (by decide +kernel) (pa_cons (pe_lc (own := [("column", 6), ("run", 7)]) (g := (gTup K 2 (gCons (gName 6) (gCons (gName 7) gNil)))) (tt := tYes) (by rfl) sc_cover_board.nd (pi_tup (pv 3)) (blkOk_by (own := [("column", 6), ("run", 7)]) (N := N_cover_board) (sc := defScope s_cover_board) (by decide +kernel)) (fun _ _ _ _ _ => (pg_tup rfl (pgs_cons (pg_name (i := 6) sc_cover_board.nd rfl (Or.inl rfl)) (pgs_cons (pg_name (i := 7) sc_cover_board.nd rfl (Or.inl rfl)) pgs_nil)))) (fun _ _ _ _ _ => pts_nil) (fun _ _ _ _ _ => (pe_tup (pa_cons (pv 6) (pa_cons (pe_dget (hu_of hr) (pv 1) (pv 7) (fun _ _ => rfl)) pa_nil))))) pa_nil)) pa_nil)))))))), ?_⟩
    have lu := ovs.1
    refine ⟨.ref a, rfl, a, us, os, rfl, ha, ovs, by omega, ok, fun H1 D ms s1 nD eD rd => ?_⟩
    refine ⟨.ref D, rfl, D, _, ms.map (·.1), rfl, .inl eD, kvR_keys ms, fun H2 p us2 ts s2 _ e2 iv2 asc pm => ?_⟩
    refine ⟨p, us2, rfl, .inl ⟨SqL.of e2, fun t nt => ?_⟩⟩
    have s3 := same_new (o := .tup us2) nt
    have e3 := upd_same (H := H2) (a := t) (o := .tup us2)
    generalize upd H2 t (.tup us2) = H3 at *
    refine ⟨by show 0 ≤ sizeLine; decide, fun z nz => ?_⟩
    have s4 := same_new (o := .tup []) nz
    have e4 := upd_same (H := H3) (a := z) (o := .tup [])
    generalize upd H3 z (.tup []) = H4 at *
    have s14 : Same H1 H4 := s2.trans (s3.trans s4)
    have s04 := s1.trans s14
    have rl : RunL os ts := ⟨asc_of asc (pm.nodup_iff.mpr rd.1), fun q => by
      rw [pm.mem_iff]
      constructor
      · intro hq
        obtain ⟨m, hm, rfl⟩ := List.mem_map.mp hq
        exact ⟨_, (rd.2.1 m hm).1⟩
      · rintro ⟨r, hr⟩
        exact rd.2.2 r q hr⟩
    have B := rl.solB ok few
    refine ⟨d, c, n, t, z, us2, [], ts, [], rfl, ct, dk.kept s04, s4 _ _ e3, e4, iv2.same (s3.trans s4), .nil, B, fun H5 r A kp5 dk5 sol => ?_⟩
    obtain ⟨x, y, zs, wv, er, ex, iva, ey, dmw⟩ := sol.ex
    have add := add_ok B.good
    have wit := wit_ok (ts := ts) (ps := []) B.good (fun q hq => by have := (rl.in_ q hq).2.2; omega)
    have lA : A.length ≤ 30 := by
      rw [sol.perm.length_eq]
      exact (add_bd B).1
    have lza := iva.length
    have lW : (witO ts []).length ≤ 30 := by
      show needO ts [] ≤ 30
      have := add.len
      have := (add_bd B).1
      omega
    have lwv := dmw.length
    refine ⟨r, _, rfl, SqT.of er, rfl, .ref x, [.ref y], rfl, .ref y, [], rfl, rfl, ?_⟩
    have eD5 := kp5.keep (dk.off nD) (s14 _ _ eD)
    have T5 : Tps H H5 := (Tps.same s04).trans (kp5.tps (dk.kept s04))
    -- the rectangles
    refine ⟨.ref x, rfl, x, rfl, ⟨_, SqT.of ex⟩, fun E nE => ?_⟩
    refine lcT (K := K) (a := x) (xs := zs) (fun j H' ws => R4s H' ws ((A.take j).map (rectR os)) ∧ ∀ q ∈ A.take j, BotR os q (botR os q) ∧ TopR os q (topR os q)) nE (fun H' s => SqT.of (s _ _ (ex))) (by omega) (fun _ _ _ _ t r => ⟨r.1.tps t, r.2⟩) (fun j H' ws r => (by rw [r.1.length, List.length_map]; exact List.length_take_le _ _)) (fun _ => ⟨.nil, fun q hq => by simp at hq⟩) ?_ ?_
    · rintro j v H' N acc hj sm eA sz rr no yes
      obtain ⟨qa, q1, q2, rfl, eq, hq⟩ := iva.get hj
      have mA : (q1, q2) ∈ A := List.mem_of_getElem? eq
      obtain ⟨f, tt, htt, h1, h2⟩ := add.inn _ (sol.perm.mem_iff.mp mA)
      obtain ⟨rr', hr'⟩ := (rl.2 tt).mp htt
      have i := rl.in_ tt htt
      have fle := f.le
      have h1 : tt.1 ≤ q1 := h1
      have h2 : q2 ≤ tt.2 := h2
      have fle : q1 ≤ q2 := fle
      obtain ⟨l, rfl⟩ : ∃ l : Nat, q1 = l := ⟨q1.toNat, by omega⟩
      obtain ⟨u, rfl⟩ : ∃ u : Nat, q2 = u := ⟨q2.toNat, by omega⟩
      refine ⟨rfl, .ref a, rfl, .ref qa, rfl, a, qa, us, os, l, u, rfl, sm _ _ (T5 _ _ ha), (ovs.tps T5).same sm, by omega, sm _ _ hq, by omega, by omega, fun k k1 k2 => ?_, fun H6 t6 b tp s6 e6 hb ht => ?_⟩
      · obtain ⟨x9, y9, e9, _⟩ := colAt_true (hr'.at_ (k := k) (by omega) (by omega))
        exact ⟨_, e9⟩
      · refine yes H6 _ s6 ⟨?_, fun q hq => ?_⟩
        · rw [List.take_add_one, eq, List.map_append]
          have := (rr.1.same s6).snoc e6
          rw [← botR_eq hb, ← topR_eq ht] at this
          exact this
        · rw [List.take_add_one, eq] at hq
          rcases List.mem_append.mp hq with hq | hq
          · exact rr.2 q hq
          · rw [List.mem_singleton.mp hq, botR_eq hb, topR_eq ht]
            exact ⟨hb, ht⟩
    intro H6 w6 s6 eE rr
    rw [lza, List.take_length] at rr
    refine ⟨E, w6, rfl, .inl ⟨SqL.of eE, fun rt nrt => ?_⟩⟩
    have s7 := same_new (o := .tup w6) nrt
    have e7 := upd_same (H := H6) (a := rt) (o := .tup w6)
    generalize upd H6 rt (.tup w6) = H7 at *
    have s57 := s6.trans s7
    -- the cells
    refine ⟨.ref rt, rfl, .ref y, rfl, y, rfl, ⟨_, SqT.of (s57 _ _ ey)⟩, fun F nF => ?_⟩
    have low : ∀ q ∈ ts, LowR os q (lowR os q) ∧ valV (kvR ms) (kP q) = some (.int (lowR os q)) := fun q hq => by
      obtain ⟨m, hm, rfl⟩ := List.mem_map.mp (pm.mem_iff.mp hq)
      have z : LowR os m.1 m.2 := rd.2.1 m hm
      rw [lowR_eq z]
      exact ⟨z, valR_some rd.1 hm⟩
    refine lcT (K := K) (a := y) (xs := wv) (fun j H' ws => Ivs H' ws (((witO ts []).take j).map (cellR os))) nF (fun H' s => SqT.of (s _ _ ((s57 _ _ ey)))) (by omega) (fun _ _ _ _ t r => r.tps t) (fun j H' ws r => (by rw [r.length, List.length_map]; exact List.length_take_le _ _)) (fun _ => .nil) ?_ ?_
    · rintro j v H' N acc hj sm eA sz rc no yes
      obtain ⟨w1, lo, hi, ed, dz⟩ := dmw.get hj
      have md := List.mem_of_getElem? ed
      obtain ⟨u, tt, rfl, h1, h2⟩ := ((dz.same s57).same sm).ex
      have lw := low _ (wit.ok _ md).1
      refine ⟨u, _, rfl, SqT.of h1, rfl, .int w1, [.ref tt], rfl, .ref tt, [], rfl, rfl, rfl, ?_⟩
      have dg := DGet.t (b := tt) (k := kP (lo, hi)) (sm _ _ (s57 _ _ eD5)) h2
      rw [lw.2] at dg
      refine ⟨.int w1, rfl, .ref D, rfl, .ref tt, rfl, D, _, rfl, dg, by show 2 ≤ sizeLine; decide, fun nt9 nnt => yes _ _ (same_new nnt) ?_⟩
      rw [List.take_add_one, ed, List.map_append]
      exact (rc.same (same_new nnt)).snoc upd_same
    intro H8 w8 s8 eF rc
    rw [lwv, List.take_length] at rc
    refine ⟨F, w8, rfl, .inl ⟨SqL.of eF, fun ct9 nct => ?_⟩⟩
    have s9 := same_new (o := .tup w8) nct
    have e9 := upd_same (H := H8) (a := ct9) (o := .tup w8)
    generalize upd H8 ct9 (.tup w8) = H9 at *
    refine ⟨by show 2 ≤ sizeLine; decide, fun res nres => ?_⟩
    have s10 := same_new (o := .tup [V.ref rt, .ref ct9]) nres
    have s710 := s8.trans (s9.trans s10)
    have kp : Kp d c H (upd H9 res (.tup [.ref rt, .ref ct9])) := (Kp.same s04).trans (kp5.trans (Kp.same (s57.trans s710)))
    refine k _ res (A.map (rectR os)) ((witO ts []).map (cellR os)) kp (dk5.kept (s57.trans s710)) ⟨rt, ct9, w6, w8, upd_same, s710 _ _ e7, rr.1.same (s7.trans s710), s10 _ _ e9, rc.same (s9.trans s10)⟩ ⟨ts, A, rl, sol.perm, sol.asc, rr.2, fun d hd => (low _ (wit.ok d hd).1).1, rfl, rfl⟩

def RectP (bs : List (Option (Int × Int))) (l r b t : Int) : Prop := ∀ c : Nat, l ≤ c → (c : Int) ≤ r → ∃ x y : Int, bs[c]? = some (some (x, y)) ∧ x ≤ b ∧ t ≤ y
def sp_law_full : Sp := fun vs H Q _ => ∃ (a : Addr) (us : List V) (bs : List (Option (Int × Int))) (l r : Nat) (b t : Int), vs = [.ref a, .int l, .int r, .int b, .int t] ∧ H a = some (.tup us) ∧ OVs H us bs ∧ bs.length < 100 ∧ l ≤ r ∧ r < bs.length ∧ b ≤ t ∧
  ∀ H' k, Same H H' → (k = true ↔ RectP bs l r b t) → Q (.bl k) H'
theorem full_len {bs : List (Option (Int × Int))} {l r : Nat} {b t : Int} (hr : r < bs.length) (lr : l ≤ r) (bt : b ≤ t) : ((List.range (r + 1 - l)).filter fun j => (bs[l + j]?.map fun o => inRow b o && inRow t o) == some true).length = r + 1 - l ↔ RectP bs l r b t := by
  have h0 : ∀ n (p : Nat → Bool), ((List.range n).filter p).length = n ↔ ∀ j, j < n → p j = true := fun n p => by
    have := List.length_filter_eq_length_iff (p := p) (l := List.range n)
    rw [List.length_range] at this
    rw [this]
    exact ⟨fun h j hj => h j (List.mem_range.mpr hj), fun h j hj => h j (List.mem_range.mp hj)⟩
  rw [h0]
  constructor
  · intro h c c1 c2
    have := h (c - l) (by omega)
    rw [show l + (c - l) = c by omega] at this
    have e2 : bs[c]? = some bs[c] := List.getElem?_eq_getElem (by omega)
    rw [e2] at this ⊢
    match bs[c], this with
    | none, this => simp [inRow] at this
    | some (x, y), this =>
      simp [inRow] at this
      exact ⟨x, y, rfl, by omega, by omega⟩
  · intro h j hj
    obtain ⟨x, y, e, z1, z2⟩ := h (l + j) (by omega) (by omega)
    rw [e]
    simp [inRow]
    omega
theorem ok_law_full (T : Tx K mg f_depth_changes f_find_blocks f_has_position f_contains f_serves f_conflict f_demands_at_blocks f_is_open f_open_demands f_shadow_target f_decisive_demands f_largest_independent f_unserved_demands f_helpful_piece f_smallest_solution f_row_runs f_rows_of_runs f_tallest_rectangle f_cover_board f_law_draws f_law_next f_law_column f_law_board f_law_is_int f_law_inside f_law_full f_law_is_rectangle f_law_apart f_law_levels f_law_ascends f_law_covered f_law_is_cell f_law_holds f_law_board_cells f_law_number f_law_tallest f_law_fewest f_law_most f_law d_depth_changes d_find_blocks d_has_position d_contains d_serves d_conflict d_demands_at_blocks d_is_open d_open_demands d_shadow_target d_decisive_demands d_largest_independent d_unserved_demands d_helpful_piece d_smallest_solution d_row_runs d_rows_of_runs d_tallest_rectangle d_cover_board d_law_draws d_law_next d_law_column d_law_board d_law_is_int d_law_inside d_law_full d_law_is_rectangle d_law_apart d_law_levels d_law_ascends d_law_covered d_law_is_cell d_law_holds d_law_board_cells d_law_number d_law_tallest d_law_fewest d_law_most d_law) : FnOk P w K mg base CX0 2 f_law_full d_law_full ["_law_board_here", "_law_left", "_law_right", "_law_bottom", "_law_top"] sp_law_full := by
  refine T.F_law_full.ok sc_law_full (fun vs H Q E h => ?_) (fun cdv A outer s H vs Q E hr h => ?_)
  · obtain ⟨a, us, bs, l, r, b, t, rfl, _⟩ := h
    rfl
  · obtain ⟨a, us, bs, l, r, b, t, rfl, ha, ovs, few, lr, rl, bt, q⟩ := h
    refine ⟨_, (pss_cons (ps_setLc (i := 5) (own := [("_law_c", 6)]) (g := (gName 6)) (by rfl) sc_law_full.nd rfl rfl (sw_true rfl rfl rfl (by decide +kernel)) (pi_range2 (by rfl) T.z_range (pa_cons (pv 1) (pa_cons (pe_op op_add (pv 2) pe_int) pa_nil))) (blkOk_by (own := [("_law_c", 6)]) (N := N_law_full) (sc := defScope s_law_full) (by decide +kernel)) (fun _ _ _ _ _ => (pg_name (i := 6) sc_law_full.nd rfl (Or.inl rfl))) (fun _ _ _ _ _ => pts_one (PW.pt (pw_and (pt_val (pe_call (ok_law_inside T) (hr.mono (by decide)) (by rfl) T.g_law_inside T.F_law_inside.kp T.b_law_inside .nil pass0 (pa_cons (pv 0) (pa_cons (pv 6) (pa_cons (pv 3) pa_nil))))) (pw_and1 (pt_val (pe_call (ok_law_inside T) (hr.mono (by decide)) (by rfl) T.g_law_inside T.F_law_inside.kp T.b_law_inside .nil pass0 (pa_cons (pv 0) (pa_cons (pv 6) (pa_cons (pv 4) pa_nil))))))))) (fun _ _ _ _ _ => (pv 6)))
      (pss_one (ps_ret (pe_cmpR op_eq (pe_callB call_len_seq (by rfl) T.z_len PySem.boot_len (pa_cons (pv 5) pa_nil)) (pe_op op_sub (pe_op op_add (pv 2) pe_int) (pv 1)) (nomark _))))), ?_⟩
    have lu := ovs.1
    refine ⟨.int l, rfl, .int r, rfl, _, _, rfl, rfl, l, r + 1, rfl, ⟨by omega, by omega, by omega, by omega⟩, fun D nD => ?_⟩
    refine lcR (lo := (l : Int)) (n := ((r : Int) + 1 - l).toNat) (fun j H' ws => ws.length = ((List.range j).filter fun j => (bs[l + j]?.map fun o => inRow b o && inRow t o) == some true).length) nD (by omega) (fun _ _ _ _ _ h => h) (fun j H' ws h => by rw [h]; exact Nat.le_trans (List.length_filter_le _ _) (by rw [List.length_range]; exact Nat.le_refl _)) (fun _ => rfl) ?_ ?_
    · rintro j H' N acc hj sj eA sz rr no yes
      have e2 : bs[l + j]? = some bs[l + j] := List.getElem?_eq_getElem (by omega)
      generalize bs[l + j] = o at *
      have out : (inRow b o && inRow t o) = false → N H' := fun z => by
        refine no H' (Same.refl _) ?_
        rw [List.range_succ, List.filter_append, List.length_append, rr]
        simp [e2, z]
      refine ⟨rfl, .ref a, rfl, .int ((l : Int) + (j : Nat)), rfl, .int b, rfl, a, us, bs, l + j, o, b, by rw [show (((l + j : Nat) : Nat) : Int) = (l : Int) + (j : Nat) by omega]; rfl, sj _ _ ha, ovs.same sj, e2, _, rfl, ite2 (fun z1 => ?_) (fun z1 => ?_)⟩
      · refine ⟨.ref a, rfl, .int ((l : Int) + (j : Nat)), rfl, .int t, rfl, a, us, bs, l + j, o, t, by rw [show (((l + j : Nat) : Nat) : Int) = (l : Int) + (j : Nat) by omega]; rfl, sj _ _ ha, ovs.same sj, e2, _, rfl, ite2 (fun z2 => ?_) (fun z2 => ?_)⟩
        · refine ⟨_, rfl, yes H' _ (Same.refl _) ?_⟩
          rw [List.length_append, List.range_succ, List.filter_append, List.length_append, rr]
          simp [e2, z1, z2]
        · exact out (by rw [Bool.not_eq_true] at z2; rw [z2, Bool.and_false])
      · exact out (by rw [Bool.not_eq_true] at z1; rw [z1, Bool.false_and])
    · intro H1 ws s1 eD rr
      rw [show ((r : Int) + 1 - l).toNat = r + 1 - l by omega] at rr
      refine ⟨.ref D, rfl, D, ws, rfl, .inl (SqL.of eD), .int r, rfl, _, _, rfl, rfl, .int l, rfl, _, _, rfl, rfl, rfl, ?_⟩
      refine q H1 _ s1 ?_
      rw [decide_eq_true_iff, ← full_len rl lr bt, ← rr]
      constructor
      · intro z
        injection z with z
        omega
      · intro z
        show V.int (ws.length : Int) = V.int ((r : Int) + 1 - l)
        congr 1
        omega

def sp_law_apart : Sp := fun vs H Q _ => ∃ (a e1 e2 : Addr) (us : List V) (bs : List (Option (Int × Int))) (c1 r1 c2 r2 : Int), vs = [.ref a, .ref e1, .ref e2] ∧ H a = some (.tup us) ∧ OVs H us bs ∧ bs.length < 100 ∧ H e1 = some (.tup [.int c1, .int r1]) ∧ H e2 = some (.tup [.int c2, .int r2]) ∧ (0 ≤ c1 ∧ c1 < bs.length) ∧ (0 ≤ c2 ∧ c2 < bs.length) ∧
  ∀ H' k, Same H H' → (k = true ↔ ¬ RectP bs (mnI c1 c2) (mxI c1 c2) (mnI r1 r2) (mxI r1 r2)) → Q (.bl k) H'
theorem ok_law_apart (T : Tx K mg f_depth_changes f_find_blocks f_has_position f_contains f_serves f_conflict f_demands_at_blocks f_is_open f_open_demands f_shadow_target f_decisive_demands f_largest_independent f_unserved_demands f_helpful_piece f_smallest_solution f_row_runs f_rows_of_runs f_tallest_rectangle f_cover_board f_law_draws f_law_next f_law_column f_law_board f_law_is_int f_law_inside f_law_full f_law_is_rectangle f_law_apart f_law_levels f_law_ascends f_law_covered f_law_is_cell f_law_holds f_law_board_cells f_law_number f_law_tallest f_law_fewest f_law_most f_law d_depth_changes d_find_blocks d_has_position d_contains d_serves d_conflict d_demands_at_blocks d_is_open d_open_demands d_shadow_target d_decisive_demands d_largest_independent d_unserved_demands d_helpful_piece d_smallest_solution d_row_runs d_rows_of_runs d_tallest_rectangle d_cover_board d_law_draws d_law_next d_law_column d_law_board d_law_is_int d_law_inside d_law_full d_law_is_rectangle d_law_apart d_law_levels d_law_ascends d_law_covered d_law_is_cell d_law_holds d_law_board_cells d_law_number d_law_tallest d_law_fewest d_law_most d_law) : FnOk P w K mg base CX0 3 f_law_apart d_law_apart ["_law_board_here", "_law_first", "_law_second"] sp_law_apart := by
  refine T.F_law_apart.ok sc_law_apart (fun vs H Q E h => ?_) (fun cdv A outer s H vs Q E hr h => ?_)
  · obtain ⟨a, e1, e2, us, bs, c1, r1, c2, r2, rfl, _⟩ := h
    rfl
  · obtain ⟨a, e1, e2, us, bs, c1, r1, c2, r2, rfl, ha, ovs, few, h1, h2, b1, b2, q⟩ := h
    refine ⟨_, (pss_cons (ps_par (by rfl) sc_law_apart.nd (i := 3) (j := 4) rfl rfl (by decide) rfl rfl (pa_cons (pe_callB (call_min2 rfl) (by rfl) T.z_min (by decide +kernel) (pa_cons (pe_ix ix_tup (pv 1) pe_int (fun _ _ => rfl)) (pa_cons (pe_ix ix_tup (pv 2) pe_int (fun _ _ => rfl)) pa_nil))) (pa_cons (pe_callB (call_max2 rfl) (by rfl) T.z_max (by decide +kernel) (pa_cons (pe_ix ix_tup (pv 1) pe_int (fun _ _ => rfl)) (pa_cons (pe_ix ix_tup (pv 2) pe_int (fun _ _ => rfl)) pa_nil))) pa_nil)) (by rfl))
      (pss_one (ps_ret (pe_not (pe_call (ok_law_full T) (hr.mono (by decide)) (by rfl) T.g_law_full T.F_law_full.kp T.b_law_full .nil pass0 (pa_cons (pv 0) (pa_cons (pv 3) (pa_cons (pv 4) (pa_cons (pe_callB (call_min2 rfl) (by rfl) T.z_min (by decide +kernel) (pa_cons (pe_ix ix_tup (pv 1) pe_int (fun _ _ => rfl)) (pa_cons (pe_ix ix_tup (pv 2) pe_int (fun _ _ => rfl)) pa_nil))) (pa_cons (pe_callB (call_max2 rfl) (by rfl) T.z_max (by decide +kernel) (pa_cons (pe_ix ix_tup (pv 1) pe_int (fun _ _ => rfl)) (pa_cons (pe_ix ix_tup (pv 2) pe_int (fun _ _ => rfl)) pa_nil))) pa_nil)))))))))), ?_⟩
    refine ⟨.ref e1, rfl, e1, _, 0, .int c1, rfl, rfl, SqT.of h1, rfl, .ref e2, rfl, e2, _, 0, .int c2, rfl, rfl, SqT.of h2, rfl, _, _, rfl, .ref e1, rfl, e1, _, 0, .int c1, rfl, rfl, SqT.of h1, rfl, .ref e2, rfl, e2, _, 0, .int c2, rfl, rfl, SqT.of h2, rfl, _, _, rfl, ?_⟩
    refine ⟨_, _, rfl, ?_⟩
    have o1 : 0 ≤ mnI c1 c2 ∧ mnI c1 c2 ≤ mxI c1 c2 ∧ mxI c1 c2 < bs.length := by
      unfold mnI mxI
      refine ⟨by split <;> omega, by split <;> split <;> omega, by split <;> omega⟩
    have o2 : mnI r1 r2 ≤ mxI r1 r2 := by
      unfold mnI mxI
      split <;> split <;> omega
    refine ⟨.ref a, rfl, .int (mnI c1 c2), rfl, .int (mxI c1 c2), rfl, .ref e1, rfl, e1, _, 1, .int r1, rfl, rfl, SqT.of h1, rfl, .ref e2, rfl, e2, _, 1, .int r2, rfl, rfl, SqT.of h2, rfl, _, _, rfl, .ref e1, rfl, e1, _, 1, .int r1, rfl, rfl, SqT.of h1, rfl, .ref e2, rfl, e2, _, 1, .int r2, rfl, rfl, SqT.of h2, rfl, _, _, rfl, ?_⟩
    refine ⟨a, us, bs, (mnI c1 c2).toNat, (mxI c1 c2).toNat, mnI r1 r2, mxI r1 r2, ?_, ha, ovs, few, by omega, by omega, o2, fun H6 k s6 hk => ?_⟩
    · rw [Int.toNat_of_nonneg o1.1, Int.toNat_of_nonneg (by omega)]
      rfl
    · rw [Int.toNat_of_nonneg o1.1, Int.toNat_of_nonneg (by omega)] at hk
      refine ⟨k, rfl, q H6 (!k) s6 ?_⟩
      rw [Bool.not_eq_true', ← Bool.not_eq_true, hk]

/-! ### what the laws ask of a cover: it holds for a right one -/
def sp_law_is_int : Sp := fun vs H Q _ => ∃ (v lo hi : Int), vs = [.int v, .int lo, .int hi] ∧ lo ≤ v ∧ v ≤ hi ∧ Q (.bl true) H
theorem ok_law_is_int (T : Tx K mg f_depth_changes f_find_blocks f_has_position f_contains f_serves f_conflict f_demands_at_blocks f_is_open f_open_demands f_shadow_target f_decisive_demands f_largest_independent f_unserved_demands f_helpful_piece f_smallest_solution f_row_runs f_rows_of_runs f_tallest_rectangle f_cover_board f_law_draws f_law_next f_law_column f_law_board f_law_is_int f_law_inside f_law_full f_law_is_rectangle f_law_apart f_law_levels f_law_ascends f_law_covered f_law_is_cell f_law_holds f_law_board_cells f_law_number f_law_tallest f_law_fewest f_law_most f_law d_depth_changes d_find_blocks d_has_position d_contains d_serves d_conflict d_demands_at_blocks d_is_open d_open_demands d_shadow_target d_decisive_demands d_largest_independent d_unserved_demands d_helpful_piece d_smallest_solution d_row_runs d_rows_of_runs d_tallest_rectangle d_cover_board d_law_draws d_law_next d_law_column d_law_board d_law_is_int d_law_inside d_law_full d_law_is_rectangle d_law_apart d_law_levels d_law_ascends d_law_covered d_law_is_cell d_law_holds d_law_board_cells d_law_number d_law_tallest d_law_fewest d_law_most d_law) : FnOk P w K mg base CX0 1 f_law_is_int d_law_is_int ["_law_value", "_law_low", "_law_high"] sp_law_is_int := by
  refine T.F_law_is_int.ok sc_law_is_int (fun vs H Q E h => ?_) (fun cdv A outer s H vs Q E hr h => ?_)
  · obtain ⟨v, lo, hi, rfl, _⟩ := h
    rfl
  · obtain ⟨v, lo, hi, rfl, h1, h2, q⟩ := h
    refine ⟨_, (pss_one (ps_ret (pe_and (pe_callB call_isi (by rfl) T.z_isinstance (by decide +kernel) (pa_cons (pv 0) (pa_cons (pe_bltn (v := .ty "int") (u := .type "int") (by rfl) T.z_int (by decide +kernel) rfl) pa_nil))) (pe_and (pe_not (pe_callB call_isi (by rfl) T.z_isinstance (by decide +kernel) (pa_cons (pv 0) (pa_cons (pe_bltn (v := .ty "bool") (u := .type "bool") (by rfl) T.z_bool (by decide +kernel) rfl) pa_nil)))) (pe_one (pe_chain op_le op_le (pv 1) (pv 0) (pv 2))))))), ?_⟩
    refine ⟨.int v, rfl, .int v, .ty "int", _, _, _, rfl, .ty "int", .base (.int v), kit_intI, _, rfl, iteT ?_⟩
    refine ⟨.int v, rfl, .int v, .ty "bool", _, _, _, rfl, .ty "bool", .base (.int v), kit_intB, _, rfl, ?_⟩
    refine ⟨true, rfl, iteT ⟨.int lo, rfl, .int v, rfl, _, _, rfl, rfl, _, rfl, ?_⟩⟩
    rw [decide_eq_true h1]
    refine iteT ⟨.int hi, rfl, _, _, rfl, rfl, ?_⟩
    rw [← decide_eq_true h2] at q
    exact q
theorem p12 : (10 : Int) ^ (12 : Int).toNat = 1000000000000 := by decide
/-- a rectangle of the board -/
structure RectI (os : List (Option (Int × Int))) (l r b t : Int) : Prop where
  l0 : 0 ≤ l
  lr : l ≤ r
  rn : r < os.length
  b0 : 0 ≤ b
  bt : b ≤ t
  t1 : t ≤ 1000000000000
  all : RectP os l r b t
def sp_law_is_rectangle : Sp := fun vs H Q _ => ∃ (a v : Addr) (us : List V) (os : List (Option (Int × Int))) (l r b t : Int), vs = [.ref a, .ref v] ∧ H a = some (.tup us) ∧ OVs H us os ∧ os.length < 100 ∧ H v = some (.tup [.int l, .int r, .int b, .int t]) ∧ RectI os l r b t ∧ ∀ H', Same H H' → Q (.bl true) H'
theorem ok_law_is_rectangle (T : Tx K mg f_depth_changes f_find_blocks f_has_position f_contains f_serves f_conflict f_demands_at_blocks f_is_open f_open_demands f_shadow_target f_decisive_demands f_largest_independent f_unserved_demands f_helpful_piece f_smallest_solution f_row_runs f_rows_of_runs f_tallest_rectangle f_cover_board f_law_draws f_law_next f_law_column f_law_board f_law_is_int f_law_inside f_law_full f_law_is_rectangle f_law_apart f_law_levels f_law_ascends f_law_covered f_law_is_cell f_law_holds f_law_board_cells f_law_number f_law_tallest f_law_fewest f_law_most f_law d_depth_changes d_find_blocks d_has_position d_contains d_serves d_conflict d_demands_at_blocks d_is_open d_open_demands d_shadow_target d_decisive_demands d_largest_independent d_unserved_demands d_helpful_piece d_smallest_solution d_row_runs d_rows_of_runs d_tallest_rectangle d_cover_board d_law_draws d_law_next d_law_column d_law_board d_law_is_int d_law_inside d_law_full d_law_is_rectangle d_law_apart d_law_levels d_law_ascends d_law_covered d_law_is_cell d_law_holds d_law_board_cells d_law_number d_law_tallest d_law_fewest d_law_most d_law) : FnOk P w K mg base CX0 3 f_law_is_rectangle d_law_is_rectangle ["_law_board_here", "_law_value"] sp_law_is_rectangle := by
  refine T.F_law_is_rectangle.ok sc_law_is_rectangle (fun vs H Q E h => ?_) (fun cdv A outer s H vs Q E hr h => ?_)
  · obtain ⟨a, v, us, os, l, r, b, t, rfl, _⟩ := h
    rfl
  · obtain ⟨a, v, us, os, l, r, b, t, rfl, ha, ovs, few, hv, R, q⟩ := h
    refine ⟨_, (pss_cons (ps_if (PW.pt (pw_or (pt_not (pt_val (pe_callB call_isi (by rfl) T.z_isinstance (by decide +kernel) (pa_cons (pv 1) (pa_cons (pe_bltn (v := .ty "tuple") (u := .type "tuple") (by rfl) T.z_tuple (by decide +kernel) rfl) pa_nil))))) (pw_or1 (pt_cmpR op_ne (pe_callB call_len_seq (by rfl) T.z_len PySem.boot_len (pa_cons (pv 1) pa_nil)) pe_int (nomark _)))))
      (pss_one (ps_ret pe_bl))
      pss_nil)
      (pss_cons (ps_if (pt_cmpR (op_neL hr.units0) (pe_lc (own := [("_law_item", 2)]) (g := (gName 2)) (by rfl) sc_law_is_rectangle.nd (pi_tup (pv 1)) (blkOk_by (own := [("_law_item", 2)]) (N := N_law_is_rectangle) (sc := defScope s_law_is_rectangle) (by decide +kernel)) (fun _ _ _ _ _ => (pg_name (i := 2) sc_law_is_rectangle.nd rfl (Or.inl rfl))) (fun _ _ _ _ _ => pts_one (pt_not (pt_val (pe_call (ok_law_is_int T) (hr.mono (by decide)) (by rfl) T.g_law_is_int T.F_law_is_int.kp T.b_law_is_int .nil pass0 (pa_cons (pv 2) (pa_cons pe_int (pa_cons (pe_op op_pow pe_int pe_int) pa_nil))))))) (fun _ _ _ _ _ => (pv 2))) (pe_lst pa_nil) (nomark _))
      (pss_one (ps_ret pe_bl))
      pss_nil)
      (pss_cons (ps_asg (pv 1) (pg_tup rfl (pgs_cons (pg_name (i := 3) sc_law_is_rectangle.nd rfl (Or.inl rfl)) (pgs_cons (pg_name (i := 4) sc_law_is_rectangle.nd rfl (Or.inl rfl)) (pgs_cons (pg_name (i := 5) sc_law_is_rectangle.nd rfl (Or.inl rfl)) (pgs_cons (pg_name (i := 6) sc_law_is_rectangle.nd rfl (Or.inl rfl)) pgs_nil))))))
      (pss_cons (ps_if (PW.pt (pw_or (pt_not (pt_chain op_le op_lt (pv 3) (pv 4) (pe_callB call_len_seq (by rfl) T.z_len PySem.boot_len (pa_cons (pv 0) pa_nil)))) (pw_or1 (pt_cmpR op_gt (pv 5) (pv 6) (nomark _)))))
      (pss_one (ps_ret pe_bl))
      pss_nil)
      (pss_one (ps_ret (pe_call (ok_law_full T) (hr.mono (by decide)) (by rfl) T.g_law_full T.F_law_full.kp T.b_law_full .nil pass0 (pa_cons (pv 0) (pa_cons (pv 3) (pa_cons (pv 4) (pa_cons (pv 5) (pa_cons (pv 6) pa_nil)))))))))))), ?_⟩
    have lu := ovs.1
    obtain ⟨l, rfl⟩ : ∃ n : Nat, l = n := ⟨l.toNat, by have := R.l0; omega⟩
    obtain ⟨r, rfl⟩ : ∃ n : Nat, r = n := ⟨r.toNat, by have := R.l0; have := R.lr; omega⟩
    have lr := R.lr; have rn := R.rn; have b0 := R.b0; have bt := R.bt; have t1 := R.t1
    refine ⟨.ref v, rfl, .ref v, .ty "tuple", _, _, _, rfl, .ty "tuple", .base (.tup hv), kit_tupT, _, rfl, iteF ?_⟩
    refine ⟨.ref v, rfl, v, _, rfl, .inr (SqT.of hv), rfl, _, rfl, iteNS rfl ?_⟩
    refine ⟨.ref v, rfl, v, rfl, ⟨_, SqT.of hv⟩, fun D nD => ?_⟩
    refine lcT (K := K) (a := v) (xs := [V.int l, .int r, .int b, .int t]) (fun j H' ws => ws = []) nD (fun H' s => SqT.of (s _ _ (hv))) (by show 4 < 1000; decide) (fun _ _ _ _ t r => r) (fun j H' ws r => (by rw [r]; exact Nat.zero_le _)) (fun _ => rfl) ?_ ?_
    · rintro j z H' N acc hj sm eA sz rr no yes
      obtain ⟨i, rfl, i0, i1⟩ : ∃ i : Int, z = .int i ∧ 0 ≤ i ∧ i ≤ 1000000000000 := by
        match j, hj with
        | 0, hj => cases hj; exact ⟨_, rfl, by omega, by omega⟩
        | 1, hj => cases hj; exact ⟨_, rfl, by omega, by omega⟩
        | 2, hj => cases hj; exact ⟨_, rfl, by omega, by omega⟩
        | 3, hj => cases hj; exact ⟨_, rfl, by omega, by omega⟩
      refine ⟨rfl, .int i, rfl, 10, 12, rfl, rfl, ⟨by decide, by decide, by decide⟩, i, 0, _, rfl, i0, by rw [p12]; exact i1, _, rfl, iteF (no _ (Same.refl _) rr)⟩
    intro H1 ws s1 eD rr
    subst rr
    refine ⟨by show 0 ≤ sizeLine; decide, fun e ne => ?_⟩
    have s2 := same_new (o := .lst []) ne
    have ee := upd_same (H := H1) (a := e) (o := .lst [])
    generalize upd H1 e (.lst []) = H2 at *
    have s12 := s1.trans s2
    have hv2 := s12 _ _ hv
    have ha2 := s12 _ _ ha
    refine ⟨D, e, [], rfl, rfl, SqL.of (s2 _ _ eD), SqL.of ee, _, rfl, iteF ?_⟩
    refine ⟨.ref v, rfl, v, _, rfl, SqT.of hv2, rfl, .int l, [.int r, .int b, .int t], rfl, .int r, [.int b, .int t], rfl, .int b, [.int t], rfl, .int t, [], rfl, rfl, ?_⟩
    refine ⟨.int l, rfl, .int r, rfl, _, _, rfl, rfl, _, rfl, ?_⟩
    rw [decide_eq_true lr]
    refine iteT ⟨.ref a, rfl, a, us, rfl, .inr (SqT.of ha2), _, _, rfl, rfl, _, rfl, iteNS (by omega) ?_⟩
    refine ⟨.int b, rfl, .int t, rfl, _, _, rfl, rfl, _, rfl, ite2 (fun cc => absurd (of_decide_eq_true cc) (by omega)) (fun _ => ?_)⟩
    refine ⟨.ref a, rfl, .int l, rfl, .int r, rfl, .int b, rfl, .int t, rfl, a, us, os, l, r, b, t, rfl, ha2, ovs.same s12, few, by omega, by omega, bt, fun H3 k s3 hk => ?_⟩
    rw [hk.mpr R.all]
    exact q H3 (s12.trans s3)
def sp_law_ascends (K : PySem.W.Frag) : Sp := fun vs H Q _ => ∃ (a : Addr) (us : List V) (ds : List PyData), vs = [.ref a] ∧ H a = some (.tup us) ∧ DpAll K H us ds ∧ us.length < 900 ∧ ds.Pairwise Ris ∧ ∀ H', Same H H' → Q (.bl true) H'
theorem ok_law_ascends (T : Tx K mg f_depth_changes f_find_blocks f_has_position f_contains f_serves f_conflict f_demands_at_blocks f_is_open f_open_demands f_shadow_target f_decisive_demands f_largest_independent f_unserved_demands f_helpful_piece f_smallest_solution f_row_runs f_rows_of_runs f_tallest_rectangle f_cover_board f_law_draws f_law_next f_law_column f_law_board f_law_is_int f_law_inside f_law_full f_law_is_rectangle f_law_apart f_law_levels f_law_ascends f_law_covered f_law_is_cell f_law_holds f_law_board_cells f_law_number f_law_tallest f_law_fewest f_law_most f_law d_depth_changes d_find_blocks d_has_position d_contains d_serves d_conflict d_demands_at_blocks d_is_open d_open_demands d_shadow_target d_decisive_demands d_largest_independent d_unserved_demands d_helpful_piece d_smallest_solution d_row_runs d_rows_of_runs d_tallest_rectangle d_cover_board d_law_draws d_law_next d_law_column d_law_board d_law_is_int d_law_inside d_law_full d_law_is_rectangle d_law_apart d_law_levels d_law_ascends d_law_covered d_law_is_cell d_law_holds d_law_board_cells d_law_number d_law_tallest d_law_fewest d_law_most d_law) : FnOk P w K mg base CX0 1 f_law_ascends d_law_ascends ["_law_items"] (sp_law_ascends K) := by
  refine T.F_law_ascends.ok sc_law_ascends (fun vs H Q E h => ?_) (fun cdv A outer s H vs Q E hr h => ?_)
  · obtain ⟨a, us, ds, rfl, _⟩ := h
    rfl
  · obtain ⟨a, us, ds, rfl, ha, all, few, pw, q⟩ := h
    refine ⟨_, (pss_one (ps_ret (pe_cmpR (op_eqL hr.units0) (pe_lc (own := [("_law_k", 1)]) (g := (gName 1)) (by rfl) sc_law_ascends.nd (pi_range2 (by rfl) T.z_range (pa_cons pe_int (pa_cons (pe_callB call_len_seq (by rfl) T.z_len PySem.boot_len (pa_cons (pv 0) pa_nil)) pa_nil))) (blkOk_by (own := [("_law_k", 1)]) (N := N_law_ascends) (sc := defScope s_law_ascends) (by decide +kernel)) (fun _ _ _ _ _ => (pg_name (i := 1) sc_law_ascends.nd rfl (Or.inl rfl))) (fun _ _ _ _ _ => pts_one (pt_not (pt_cmpR (show OpR _ (compareOp .Lt) (rLtDt K) from (op_ltDt hr.units)) (pe_ix (show IxR _ (rIxT K) from ix_tup) (pv 0) (pe_op op_sub (pv 1) pe_int) (fun _ _ => rfl)) (pe_ix (show IxR _ (rIxT K) from ix_tup) (pv 0) (pv 1) (fun _ _ => rfl)) (nomark _)))) (fun _ _ _ _ _ => (pv 1))) (pe_lst pa_nil) (nomark _)))), ?_⟩
    refine ⟨.ref a, rfl, a, us, rfl, .inr (SqT.of ha), 1, _, rfl, ⟨by decide, by decide, by omega, by omega⟩, fun D nD => ?_⟩
    refine lcR (lo := 1) (n := ((us.length : Int) - 1).toNat) (fun j H' ws => ws = []) nD (by omega) (fun _ _ _ _ _ r => r) (fun j H' ws r => by rw [r]; exact Nat.zero_le _) (fun _ => rfl) ?_ ?_
    · rintro k H1 N acc hk s1 eD sz rr no yes
      have e1 := List.getElem?_eq_getElem (l := us) (i := k) (by omega)
      have e2 := List.getElem?_eq_getElem (l := us) (i := k + 1) (by omega)
      obtain ⟨d1, f1, h1⟩ := dpAll_at all e1
      obtain ⟨d2, f2, h2⟩ := dpAll_at all e2
      have r : Ris d1 d2 := by
        obtain ⟨z1, w1⟩ := List.getElem?_eq_some_iff.mp f1
        obtain ⟨z2, w2⟩ := List.getElem?_eq_some_iff.mp f2
        have z := List.pairwise_iff_getElem.mp pw k (k + 1) z1 z2 (Nat.lt_succ_self k)
        rw [w1, w2] at z
        exact z
      generalize us[k] = v1 at *
      generalize us[k + 1] = v2 at *
      refine ⟨rfl, .ref a, rfl, .int (1 + k), rfl, _, _, rfl, rfl, a, us, 1 + (k : Int) - 1, v1, rfl, rfl, SqT.of (s1 _ _ ha), (by rw [show 1 + (k : Int) - 1 = (k : Nat) by omega]; exact atI_nat e1), .ref a, rfl, .int (1 + k), rfl, a, us, 1 + (k : Int), v2, rfl, rfl, SqT.of (s1 _ _ ha), (by rw [show 1 + (k : Int) = ((k + 1 : Nat) : Int) by omega]; exact atI_nat e2), d1, d2, dp_same s1 h1, dp_same s1 h2, r.1, r.2.1, r.2.2.1, ?_⟩
      rw [r.2.2.2]
      exact ⟨_, rfl, iteF (no _ (Same.refl _) rr)⟩
    intro H1 zs s1 eD rr
    subst rr
    refine ⟨by show 0 ≤ sizeLine; decide, fun e ne => ?_⟩
    have s2 := same_new (o := .lst []) ne
    have ee := upd_same (H := H1) (a := e) (o := .lst [])
    generalize upd H1 e (.lst []) = H2 at *
    exact ⟨D, e, [], rfl, rfl, SqL.of (s2 _ _ eD), SqL.of ee, q H2 (s1.trans s2)⟩
def sp_law_is_cell : Sp := fun vs H Q _ => ∃ (a v : Addr) (us : List V) (os : List (Option (Int × Int))) (k : Nat) (row : Int), vs = [.ref a, .ref v] ∧ H a = some (.tup us) ∧ OVs H us os ∧ os.length < 100 ∧ H v = some (.tup [.int k, .int row]) ∧ colAt os row k = true ∧ 0 ≤ row ∧ row ≤ 1000000000000 ∧ Q (.bl true) H
theorem ok_law_is_cell (T : Tx K mg f_depth_changes f_find_blocks f_has_position f_contains f_serves f_conflict f_demands_at_blocks f_is_open f_open_demands f_shadow_target f_decisive_demands f_largest_independent f_unserved_demands f_helpful_piece f_smallest_solution f_row_runs f_rows_of_runs f_tallest_rectangle f_cover_board f_law_draws f_law_next f_law_column f_law_board f_law_is_int f_law_inside f_law_full f_law_is_rectangle f_law_apart f_law_levels f_law_ascends f_law_covered f_law_is_cell f_law_holds f_law_board_cells f_law_number f_law_tallest f_law_fewest f_law_most f_law d_depth_changes d_find_blocks d_has_position d_contains d_serves d_conflict d_demands_at_blocks d_is_open d_open_demands d_shadow_target d_decisive_demands d_largest_independent d_unserved_demands d_helpful_piece d_smallest_solution d_row_runs d_rows_of_runs d_tallest_rectangle d_cover_board d_law_draws d_law_next d_law_column d_law_board d_law_is_int d_law_inside d_law_full d_law_is_rectangle d_law_apart d_law_levels d_law_ascends d_law_covered d_law_is_cell d_law_holds d_law_board_cells d_law_number d_law_tallest d_law_fewest d_law_most d_law) : FnOk P w K mg base CX0 3 f_law_is_cell d_law_is_cell ["_law_board_here", "_law_value"] sp_law_is_cell := by
  refine T.F_law_is_cell.ok sc_law_is_cell (fun vs H Q E h => ?_) (fun cdv A outer s H vs Q E hr h => ?_)
  · obtain ⟨a, v, us, os, k, row, rfl, _⟩ := h
    rfl
  · obtain ⟨a, v, us, os, k, row, rfl, ha, ovs, few, hv, hk, r0, r1, q⟩ := h
    refine ⟨_, (pss_cons (ps_if (PW.pt (pw_or (pt_not (pt_val (pe_callB call_isi (by rfl) T.z_isinstance (by decide +kernel) (pa_cons (pv 1) (pa_cons (pe_bltn (v := .ty "tuple") (u := .type "tuple") (by rfl) T.z_tuple (by decide +kernel) rfl) pa_nil))))) (pw_or1 (pt_cmpR op_ne (pe_callB call_len_seq (by rfl) T.z_len PySem.boot_len (pa_cons (pv 1) pa_nil)) pe_int (nomark _)))))
      (pss_one (ps_ret pe_bl))
      pss_nil)
      (pss_cons (ps_if (PW.pt (pw_or (pt_not (pt_val (pe_call (ok_law_is_int T) (hr.mono (by decide)) (by rfl) T.g_law_is_int T.F_law_is_int.kp T.b_law_is_int .nil pass0 (pa_cons (pe_ix ix_tup (pv 1) pe_int (fun _ _ => rfl)) (pa_cons pe_int (pa_cons (pe_op op_sub (pe_callB call_len_seq (by rfl) T.z_len PySem.boot_len (pa_cons (pv 0) pa_nil)) pe_int) pa_nil)))))) (pw_or1 (pt_not (pt_val (pe_call (ok_law_is_int T) (hr.mono (by decide)) (by rfl) T.g_law_is_int T.F_law_is_int.kp T.b_law_is_int .nil pass0 (pa_cons (pe_ix ix_tup (pv 1) pe_int (fun _ _ => rfl)) (pa_cons pe_int (pa_cons (pe_op op_pow pe_int pe_int) pa_nil)))))))))
      (pss_one (ps_ret pe_bl))
      pss_nil)
      (pss_one (ps_ret (pe_call (ok_law_inside T) (hr.mono (by decide)) (by rfl) T.g_law_inside T.F_law_inside.kp T.b_law_inside .nil pass0 (pa_cons (pv 0) (pa_cons (pe_ix ix_tup (pv 1) pe_int (fun _ _ => rfl)) (pa_cons (pe_ix ix_tup (pv 1) pe_int (fun _ _ => rfl)) pa_nil)))))))), ?_⟩
    have lu := ovs.1
    obtain ⟨x, y, e, x1, y1⟩ := colAt_true hk
    have kl := (List.getElem?_eq_some_iff.mp e).1
    refine ⟨.ref v, rfl, .ref v, .ty "tuple", _, _, _, rfl, .ty "tuple", .base (.tup hv), kit_tupT, _, rfl, iteF ?_⟩
    refine ⟨.ref v, rfl, v, _, rfl, .inr (SqT.of hv), rfl, _, rfl, iteNS rfl ?_⟩
    refine ⟨.ref v, rfl, v, _, 0, .int k, rfl, rfl, SqT.of hv, rfl, .ref a, rfl, a, us, rfl, .inr (SqT.of ha), _, _, rfl, rfl, (k : Int), 0, _, rfl, by omega, by omega, _, rfl, iteF ?_⟩
    refine ⟨.ref v, rfl, v, _, 1, .int row, rfl, rfl, SqT.of hv, rfl, 10, 12, rfl, rfl, ⟨by decide, by decide, by decide⟩, row, 0, _, rfl, r0, by rw [p12]; exact r1, _, rfl, iteF ?_⟩
    refine ⟨.ref a, rfl, .ref v, rfl, v, _, 0, .int k, rfl, rfl, SqT.of hv, rfl, .ref v, rfl, v, _, 1, .int row, rfl, rfl, SqT.of hv, rfl, a, us, os, k, _, row, rfl, ha, ovs, e, ?_⟩
    rw [show inRow row (some (x, y)) = true by show (decide (x ≤ row) && decide (row ≤ y)) = true; rw [decide_eq_true x1, decide_eq_true y1]; rfl]
    exact q
theorem inRow_at {os : List (Option (Int × Int))} {o : Option (Int × Int)} {r : Int} {k : Nat} (e : os[k]? = some o) : inRow r o = colAt os r k := by
  unfold colAt
  rw [e]
  rcases o with _ | ⟨x, y⟩ <;> rfl
def sp_law_covered : Sp := fun vs H Q _ => ∃ (a v : Addr) (us zs : List V) (os : List (Option (Int × Int))) (rs : List Rect), vs = [.ref a, .ref v] ∧ H a = some (.tup us) ∧ OVs H us os ∧ os.length ≤ 29 ∧ H v = some (.tup zs) ∧ R4s H zs rs ∧ rs.length ≤ 100 ∧ (∀ (row : Int) (k : Nat), colAt os row k = true → ∃ r ∈ rs, r.1 ≤ k ∧ (k : Int) ≤ r.2.1 ∧ r.2.2.1 ≤ row ∧ row ≤ r.2.2.2) ∧ ∀ H', Same H H' → Q (.bl true) H'
theorem ok_law_covered (T : Tx K mg f_depth_changes f_find_blocks f_has_position f_contains f_serves f_conflict f_demands_at_blocks f_is_open f_open_demands f_shadow_target f_decisive_demands f_largest_independent f_unserved_demands f_helpful_piece f_smallest_solution f_row_runs f_rows_of_runs f_tallest_rectangle f_cover_board f_law_draws f_law_next f_law_column f_law_board f_law_is_int f_law_inside f_law_full f_law_is_rectangle f_law_apart f_law_levels f_law_ascends f_law_covered f_law_is_cell f_law_holds f_law_board_cells f_law_number f_law_tallest f_law_fewest f_law_most f_law d_depth_changes d_find_blocks d_has_position d_contains d_serves d_conflict d_demands_at_blocks d_is_open d_open_demands d_shadow_target d_decisive_demands d_largest_independent d_unserved_demands d_helpful_piece d_smallest_solution d_row_runs d_rows_of_runs d_tallest_rectangle d_cover_board d_law_draws d_law_next d_law_column d_law_board d_law_is_int d_law_inside d_law_full d_law_is_rectangle d_law_apart d_law_levels d_law_ascends d_law_covered d_law_is_cell d_law_holds d_law_board_cells d_law_number d_law_tallest d_law_fewest d_law_most d_law) : FnOk P w K mg base CX0 3 f_law_covered d_law_covered ["_law_board_here", "_law_rectangles"] sp_law_covered := by
  refine T.F_law_covered.ok sc_law_covered (fun vs H Q E h => ?_) (fun cdv A outer s H vs Q E hr h => ?_)
  · obtain ⟨a, v, us, zs, os, rs, rfl, _⟩ := h
    rfl
  · obtain ⟨a, v, us, zs, os, rs, rfl, ha, ovs, few, hv, r4, lr, cov, q⟩ := h
    refine ⟨_, (pss_cons (ps_set (i := 2) sc_law_covered.nd rfl (Or.inl rfl) (pe_call (ok_law_levels T) (hr.mono (by decide)) (by rfl) T.g_law_levels T.F_law_levels.kp T.b_law_levels .nil pass0 (pa_cons (pv 0) pa_nil)))
      (pss_cons (ps_for PassesOwn.never rfl (pi_tup (pv 1)) (pg_tup rfl (pgs_cons (pg_name (i := 3) sc_law_covered.nd rfl (Or.inl rfl)) (pgs_cons (pg_name (i := 4) sc_law_covered.nd rfl (Or.inl rfl)) (pgs_cons (pg_name (i := 5) sc_law_covered.nd rfl (Or.inl rfl)) (pgs_cons (pg_name (i := 6) sc_law_covered.nd rfl (Or.inl rfl)) pgs_nil)))))
      (pss_one (ps_set (i := 2) sc_law_covered.nd rfl (Or.inl rfl) (pe_op op_cat (pv 2) (pe_lst (pa_cons (pv 5) (pa_cons (pe_op op_add (pv 6) pe_int) pa_nil)))))))
      (pss_cons (ps_for PassesOwn.never rfl (pi_range1 (by rfl) T.z_range (pa_cons (pe_callB call_len_seq (by rfl) T.z_len PySem.boot_len (pa_cons (pv 0) pa_nil)) pa_nil)) (pg_name (i := 7) sc_law_covered.nd rfl (Or.inr rfl))
      (pss_one (ps_for PassesOwn.never rfl (pi_list (pv 2)) (pg_name (i := 8) sc_law_covered.nd rfl (Or.inr rfl))
      (pss_one (ps_if (pt_val (pe_call (ok_law_inside T) (hr.mono (by decide)) (by rfl) T.g_law_inside T.F_law_inside.kp T.b_law_inside .nil pass0 (pa_cons (pv 0) (pa_cons (pv 7) (pa_cons (pv 8) pa_nil)))))
      (pss_cons (ps_setLc (i := 9) (own := [("_law_r", 10)]) (g := (gName 10)) (by rfl) sc_law_covered.nd rfl rfl (sw_true rfl rfl rfl (by decide +kernel)) (pi_tup (pv 1)) (blkOk_by (own := [("_law_r", 10)]) (N := N_law_covered) (sc := defScope s_law_covered) (by decide +kernel)) (fun _ _ _ _ _ => (pg_name (i := 10) sc_law_covered.nd rfl (Or.inl rfl))) (fun _ _ _ _ _ => pts_one (PW.pt (pw_and (pt_chain op_le op_le (pe_ix (show IxR _ (rIxT K) from ix_tup) (pv 10) pe_int (fun _ _ => rfl)) (pv 7) (pe_ix (show IxR _ (rIxT K) from ix_tup) (pv 10) pe_int (fun _ _ => rfl))) (pw_and1 (pt_chain op_le op_le (pe_ix (show IxR _ (rIxT K) from ix_tup) (pv 10) pe_int (fun _ _ => rfl)) (pv 8) (pe_ix (show IxR _ (rIxT K) from ix_tup) (pv 10) pe_int (fun _ _ => rfl))))))) (fun _ _ _ _ _ => (pv 10)))
      (pss_one (ps_if (pt_cmpR (op_eqL hr.units0) (pv 9) (pe_lst pa_nil) (nomark _))
      (pss_one (ps_ret pe_bl))
      pss_nil)))
      pss_nil)))))
      (pss_one (ps_ret pe_bl))))), ?_⟩
    have lu := ovs.1
    have lz := r4.length
    refine ⟨.ref a, rfl, a, us, os, rfl, ha, ovs, few, fun H1 L ls s1 nL eL ll _ => ?_⟩
    refine ⟨.ref v, rfl, v, rfl, ⟨_, SqT.of (s1 _ _ hv)⟩, ?_⟩
    refine for_tup (K := K) (a := v) (xs := zs) (D := ⟨_, _, fun _ _ => True, fun _ _ => True⟩) (fun j σ H' => Same H H' ∧ ∃ b ns y3 y4 y5 y6 y7 y8 y9 y10, H' b = some (.lst (List.map V.int ns)) ∧ ns.length ≤ 60 + 2 * j ∧ σ = [some (.ref a), some (.ref v), some (.ref b), y3, y4, y5, y6, y7, y8, y9, y10])
      ⟨s1, L, ls, _, _, _, _, _, _, _, _, eL, ll, rfl⟩ (fun j σ H' _ h => SqT.of (h.1 _ _ hv)) ?_ ?_
    · rintro j w σ H2 hj ⟨s2, b, ns, y3, y4, y5, y6, y7, y8, y9, y10, eb, ln, rfl⟩
      obtain ⟨t, l, r, bo, to, rfl, er, ht⟩ := r4.get hj
      have jl := (List.getElem?_eq_some_iff.mp er).1
      refine ⟨t, _, rfl, SqT.of (s2 _ _ ht), rfl, .int l, [.int r, .int bo, .int to], rfl, .int r, [.int bo, .int to], rfl, .int bo, [.int to], rfl, .int to, [], rfl, rfl, ?_⟩
      refine ⟨.ref b, rfl, .int bo, rfl, .int to, rfl, _, _, rfl, rfl, by show 2 ≤ sizeLine; decide, fun l2 nl2 => ?_⟩
      have s3 := same_new (o := .lst [.int bo, .int (to + 1)]) nl2
      have e3 := upd_same (H := H2) (a := l2) (o := .lst [.int bo, .int (to + 1)])
      generalize upd H2 l2 (.lst [.int bo, .int (to + 1)]) = H3 at *
      refine ⟨b, l2, _, _, rfl, rfl, s3 _ _ eb, e3, by rw [sizeLine_eq, List.length_map]; show _ + 2 ≤ _; omega, fun b2 nb2 => ?_⟩
      have s4 := same_new (o := .lst (List.map V.int ns ++ [V.int bo, .int (to + 1)])) nb2
      exact ⟨s2.trans (s3.trans s4), b2, ns ++ [bo, to + 1], _, _, _, _, _, _, _, _, by rw [upd_same, List.map_append]; rfl, by rw [List.length_append]; show _ + 2 ≤ _; omega, rfl⟩
    · rintro σ H2 ⟨s2, b, ns, y3, y4, y5, y6, y7, y8, y9, y10, eb, ln, rfl⟩
      refine ⟨.ref a, rfl, a, us, rfl, .inr (SqT.of (s2 _ _ ha)), (us.length : Int), rfl, by omega, by omega, ?_⟩
      refine for_range (D := ⟨_, _, fun _ _ => True, fun _ _ => True⟩) (n := ((us.length : Int)).toNat) (fun i σ H' => Same H2 H' ∧ ∃ y7 y8 y9 y10, σ = [some (.ref a), some (.ref v), some (.ref b), y3, y4, y5, y6, y7, y8, y9, y10])
        ⟨Same.refl _, _, _, _, _, rfl⟩ ?_ ?_
      · rintro i σ H3 hi ⟨s3, y7, y8, y9, y10, rfl⟩
        refine ⟨.ref b, rfl, b, rfl, ⟨_, SqL.of (s3 _ _ eb)⟩, ?_⟩
        refine for_list (K := K) (a := b) (xs := ns.map V.int) (D := ⟨_, _, fun _ _ => True, fun _ _ => True⟩) (fun j σ H' => Same H2 H' ∧ ∃ y8 y9 y10, σ = [some (.ref a), some (.ref v), some (.ref b), y3, y4, y5, y6, some (.int (0 + (i : Nat))), y8, y9, y10])
          ⟨s3, _, _, _, rfl⟩ (fun j σ H' _ h => SqL.of (h.1 _ _ eb)) ?_ ?_
        · rintro j w σ H4 hj ⟨s4, y8, y9, y10, rfl⟩
          rw [List.getElem?_map] at hj
          obtain ⟨row, er, rfl⟩ := Option.map_eq_some_iff.mp hj
          have s04 := s2.trans s4
          have eo : os[i]? = some os[i] := List.getElem?_eq_getElem (by omega)
          refine ⟨.ref a, rfl, .int (0 + (i : Nat)), rfl, .int row, rfl, a, us, os, i, _, row, (by rw [Int.zero_add]; rfl), s04 _ _ ha, ovs.same s04, eo, ?_⟩
          rw [inRow_at eo]
          refine ⟨_, rfl, ite2 (fun hc => ?_) (fun _ => ⟨s4, _, _, _, rfl⟩)⟩
          obtain ⟨rr, hrr, c1, c2, c3, c4⟩ := cov row i hc
          refine ⟨.ref v, rfl, v, rfl, ⟨_, SqT.of (s04 _ _ hv)⟩, fun D nD => ?_⟩
          refine lcT (K := K) (a := v) (xs := zs) (fun j H' ws => (rr ∈ rs.take j → ws ≠ []) ∧ ws.length ≤ j) nD (fun H' s => SqT.of (s _ _ ((s04 _ _ hv)))) (by omega) (fun _ _ _ _ t r => r) (fun j H' ws r => r.2) (fun _ => ⟨fun h => by simp at h, Nat.zero_le _⟩) ?_ ?_
          · rintro k w H' N acc hk sm eA sz rj no yes
            obtain ⟨t, l, r, bo, to, rfl, er, ht⟩ := r4.get hk
            have ht := sm _ _ (s04 _ _ ht)
            have skip : ¬ (l ≤ 0 + (i : Int) ∧ 0 + (i : Int) ≤ r ∧ bo ≤ row ∧ row ≤ to) → N H' := fun hn => no H' (Same.refl _) ⟨fun h => by
              rw [List.take_add_one, er] at h
              rcases List.mem_append.mp h with h | h
              · exact rj.1 h
              · rw [List.mem_singleton.mp h] at c1 c2 c3 c4
                exact absurd ⟨by show l ≤ _; have : l ≤ (i : Int) := c1; omega, by have : (i : Int) ≤ r := c2; omega, c3, c4⟩ hn, by have := rj.2; omega⟩
            refine ⟨rfl, .ref t, rfl, t, _, 0, .int l, rfl, rfl, SqT.of ht, rfl, .int (0 + (i : Nat)), rfl, _, _, rfl, rfl, _, rfl, ?_⟩
            refine ite2 (fun d1 => ?_) (fun d1 => ⟨_, rfl, iteF (iteF (skip fun z => d1 (decide_eq_true z.1)))⟩)
            refine ⟨.ref t, rfl, t, _, 1, .int r, rfl, rfl, SqT.of ht, rfl, _, _, rfl, rfl, _, rfl, ite2 (fun d2 => ?_) (fun d2 => iteF (skip fun z => d2 (decide_eq_true z.2.1)))⟩
            refine ⟨.ref t, rfl, t, _, 2, .int bo, rfl, rfl, SqT.of ht, rfl, .int row, rfl, _, _, rfl, rfl, _, rfl, ite2 (fun d3 => ?_) (fun d3 => ⟨_, rfl, iteF (skip fun z => d3 (decide_eq_true z.2.2.1))⟩)⟩
            refine ⟨.ref t, rfl, t, _, 3, .int to, rfl, rfl, SqT.of ht, rfl, _, _, rfl, rfl, _, rfl, ite2 (fun d4 => ?_) (fun d4 => skip fun z => d4 (decide_eq_true z.2.2.2))⟩
            refine ⟨.ref t, rfl, yes H' _ (Same.refl _) ⟨fun _ => by simp, by rw [List.length_append]; exact Nat.succ_le_succ rj.2⟩⟩
          intro H5 ws s5 eD rr9
          rw [lz, List.take_length] at rr9
          refine ⟨.ref D, rfl, by show 0 ≤ sizeLine; decide, fun e ne => ?_⟩
          have s6 := same_new (o := .lst []) ne
          have ee := upd_same (H := H5) (a := e) (o := .lst [])
          generalize upd H5 e (.lst []) = H6 at *
          have hne := rr9.1 hrr
          refine ⟨D, e, ws, rfl, rfl, SqL.of (s6 _ _ eD), SqL.of ee, _, rfl, ?_⟩
          rw [show ws.isEmpty = false by cases ws; exact absurd rfl hne; rfl]
          exact iteF ⟨s4.trans (s5.trans s6), _, _, _, rfl⟩
        · rintro σ H4 ⟨s4, y8, y9, y10, rfl⟩
          exact ⟨s4, _, _, _, _, rfl⟩
      · rintro σ H3 ⟨s3, y7, y8, y9, y10, rfl⟩
        exact q H3 (s2.trans s3)
theorem R4s.dp {K : PySem.W.Frag} {H : Hp} {vs : List V} {rs : List Rect} (h : R4s H vs rs) : DpAll K H vs (rs.map fun r => .tuple [.int r.1, .int r.2.1, .int r.2.2.1, .int r.2.2.2]) := by
  induction h with
  | nil => exact .nil
  | cons e _ ih => exact .cons (.tup (SqT.of e) (.cons (.int _) (.cons (.int _) (.cons (.int _) (.cons (.int _) .nil))))) ih
theorem dlt_second4 {x y v : Int} (h : y < v) (r s : List PyData) : PySem.W.dataLt (.tuple (.int x :: .int y :: r)) (.tuple (.int x :: .int v :: s)) = true := by
  have e1 : PyData.eqv (.int x) (.int x) = true := by
    show (x == x) = true
    exact beq_self_eq_true x
  have e : PyData.eqv (.int y) (.int v) = false := by
    show (y == v) = false
    rw [beq_eq_false_iff_ne]
    omega
  rw [PySem.W.dataLt_tuple, PySem.W.dataLt_all_yes rfl e1, PySem.W.dataLt_all_no rfl e, PySem.W.dataLt_int]
  exact decide_eq_true h
def sp_law_holds : Sp := fun vs H Q _ => ∃ (a v : Addr) (us : List V) (os : List (Option (Int × Int))) (rs : List Rect) (cs : List (Int × Int)), vs = [.ref a, .ref v] ∧ H a = some (.tup us) ∧ OVs H us os ∧ os.length ≤ 29 ∧ (∀ x y, some (x, y) ∈ os → 0 ≤ x ∧ x ≤ y ∧ y ≤ 1000000000000) ∧ CovH H v rs cs ∧ rs.length ≤ 100 ∧ CovOk os rs cs ∧ ∀ H', Same H H' → Q (.bl true) H'
theorem ok_law_holds (T : Tx K mg f_depth_changes f_find_blocks f_has_position f_contains f_serves f_conflict f_demands_at_blocks f_is_open f_open_demands f_shadow_target f_decisive_demands f_largest_independent f_unserved_demands f_helpful_piece f_smallest_solution f_row_runs f_rows_of_runs f_tallest_rectangle f_cover_board f_law_draws f_law_next f_law_column f_law_board f_law_is_int f_law_inside f_law_full f_law_is_rectangle f_law_apart f_law_levels f_law_ascends f_law_covered f_law_is_cell f_law_holds f_law_board_cells f_law_number f_law_tallest f_law_fewest f_law_most f_law d_depth_changes d_find_blocks d_has_position d_contains d_serves d_conflict d_demands_at_blocks d_is_open d_open_demands d_shadow_target d_decisive_demands d_largest_independent d_unserved_demands d_helpful_piece d_smallest_solution d_row_runs d_rows_of_runs d_tallest_rectangle d_cover_board d_law_draws d_law_next d_law_column d_law_board d_law_is_int d_law_inside d_law_full d_law_is_rectangle d_law_apart d_law_levels d_law_ascends d_law_covered d_law_is_cell d_law_holds d_law_board_cells d_law_number d_law_tallest d_law_fewest d_law_most d_law) : FnOk P w K mg base CX0 4 f_law_holds d_law_holds ["_law_board_here", "_law_value"] sp_law_holds := by
  refine T.F_law_holds.ok sc_law_holds (fun vs H Q E h => ?_) (fun cdv A outer s H vs Q E hr h => ?_)
  · obtain ⟨a, v, us, os, rs, cs, rfl, _⟩ := h
    rfl
  · obtain ⟨a, v, us, os, rs, cs, rfl, ha, ovs, few, rows, hv, lr, ok, q⟩ := h
    refine ⟨_, (pss_cons (ps_if (PW.pt (pw_or (pt_not (pt_val (pe_callB call_isi (by rfl) T.z_isinstance (by decide +kernel) (pa_cons (pv 1) (pa_cons (pe_bltn (v := .ty "tuple") (u := .type "tuple") (by rfl) T.z_tuple (by decide +kernel) rfl) pa_nil))))) (pw_or1 (pt_cmpR op_ne (pe_callB call_len_seq (by rfl) T.z_len PySem.boot_len (pa_cons (pv 1) pa_nil)) pe_int (nomark _)))))
      (pss_one (ps_ret pe_bl))
      pss_nil)
      (pss_cons (ps_asg (pv 1) (pg_tup rfl (pgs_cons (pg_name (i := 2) sc_law_holds.nd rfl (Or.inl rfl)) (pgs_cons (pg_name (i := 3) sc_law_holds.nd rfl (Or.inr rfl)) pgs_nil))))
      (pss_cons (ps_if (PW.pt (pw_or (pt_not (pt_val (pe_callB call_isi (by rfl) T.z_isinstance (by decide +kernel) (pa_cons (pv 2) (pa_cons (pe_bltn (v := .ty "tuple") (u := .type "tuple") (by rfl) T.z_tuple (by decide +kernel) rfl) pa_nil))))) (pw_or (pt_not (pt_val (pe_callB call_isi (by rfl) T.z_isinstance (by decide +kernel) (pa_cons (pv 3) (pa_cons (pe_bltn (v := .ty "tuple") (u := .type "tuple") (by rfl) T.z_tuple (by decide +kernel) rfl) pa_nil))))) (pw_or1 (pt_cmpR op_ne (pe_callB call_len_seq (by rfl) T.z_len PySem.boot_len (pa_cons (pv 2) pa_nil)) (pe_callB call_len_seq (by rfl) T.z_len PySem.boot_len (pa_cons (pv 3) pa_nil)) (nomark _))))))
      (pss_one (ps_ret pe_bl))
      pss_nil)
      (pss_cons (ps_if (pt_cmpR (op_neL hr.units0) (pe_lc (own := [("_law_item", 4)]) (g := (gName 4)) (by rfl) sc_law_holds.nd (pi_tup (pv 2)) (blkOk_by (own := [("_law_item", 4)]) (N := N_law_holds) (sc := defScope s_law_holds) (by decide +kernel)) (fun _ _ _ _ _ => (pg_name (i := 4) sc_law_holds.nd rfl (Or.inl rfl))) (fun _ _ _ _ _ => pts_one (pt_not (pt_val (pe_call (ok_law_is_rectangle T) (hr.mono (by decide)) (by rfl) T.g_law_is_rectangle T.F_law_is_rectangle.kp T.b_law_is_rectangle .nil pass0 (pa_cons (pv 0) (pa_cons (pv 4) pa_nil)))))) (fun _ _ _ _ _ => (pv 4))) (pe_lst pa_nil) (nomark _))
      (pss_one (ps_ret pe_bl))
      pss_nil)
      (pss_cons (ps_if (pt_cmpR (op_neL hr.units0) (pe_lc (own := [("_law_item", 4)]) (g := (gName 4)) (by rfl) sc_law_holds.nd (pi_tup (pv 3)) (blkOk_by (own := [("_law_item", 4)]) (N := N_law_holds) (sc := defScope s_law_holds) (by decide +kernel)) (fun _ _ _ _ _ => (pg_name (i := 4) sc_law_holds.nd rfl (Or.inl rfl))) (fun _ _ _ _ _ => pts_one (pt_not (pt_val (pe_call (ok_law_is_cell T) (hr.mono (by decide)) (by rfl) T.g_law_is_cell T.F_law_is_cell.kp T.b_law_is_cell .nil pass0 (pa_cons (pv 0) (pa_cons (pv 4) pa_nil)))))) (fun _ _ _ _ _ => (pv 4))) (pe_lst pa_nil) (nomark _))
      (pss_one (ps_ret pe_bl))
      pss_nil)
      (pss_cons (ps_if (PW.pt (pw_or (pt_not (pt_val (pe_call (ok_law_ascends T) (hr.mono (by decide)) (by rfl) T.g_law_ascends T.F_law_ascends.kp T.b_law_ascends .nil pass0 (pa_cons (pv 2) pa_nil)))) (pw_or (pt_not (pt_val (pe_call (ok_law_ascends T) (hr.mono (by decide)) (by rfl) T.g_law_ascends T.F_law_ascends.kp T.b_law_ascends .nil pass0 (pa_cons (pv 3) pa_nil)))) (pw_or1 (pt_not (pt_val (pe_call (ok_law_covered T) (hr.mono (by decide)) (by rfl) T.g_law_covered T.F_law_covered.kp T.b_law_covered .nil pass0 (pa_cons (pv 0) (pa_cons (pv 2) pa_nil)))))))))
      (pss_one (ps_ret pe_bl))
      pss_nil)
      (pss_cons (ps_for PassesOwn.never rfl (pi_range1 (by rfl) T.z_range (pa_cons (pe_callB call_len_seq (by rfl) T.z_len PySem.boot_len (pa_cons (pv 3) pa_nil)) pa_nil)) (pg_name (i := 5) sc_law_holds.nd rfl (Or.inr rfl))
      (pss_one (ps_if (pt_cmpR (op_neL hr.units0) (pe_lc (own := [("_law_other", 6)]) (g := (gName 6)) (by rfl) sc_law_holds.nd (pi_tup (pe_slice sl_tupA (pv 3) po_none (po_some (pv 5)))) (blkOk_by (own := [("_law_other", 6)]) (N := N_law_holds) (sc := defScope s_law_holds) (by decide +kernel)) (fun _ _ _ _ _ => (pg_name (i := 6) sc_law_holds.nd rfl (Or.inl rfl))) (fun _ _ _ _ _ => pts_one (pt_not (pt_val (pe_call (ok_law_apart T) (hr.mono (by decide)) (by rfl) T.g_law_apart T.F_law_apart.kp T.b_law_apart .nil pass0 (pa_cons (pv 0) (pa_cons (pe_ix (show IxR _ (rIxT K) from ix_tup) (pv 3) (pv 5) (fun _ _ => rfl)) (pa_cons (pv 6) pa_nil))))))) (fun _ _ _ _ _ => (pv 6))) (pe_lst pa_nil) (nomark _))
      (pss_one (ps_ret pe_bl))
      pss_nil)))
      (pss_one (ps_ret pe_bl))))))))), ?_⟩
    have lu := ovs.1
    obtain ⟨x, y, zs, ws, ev, ex, r4, ey, ivc⟩ := hv.ex
    have lz := r4.length
    have lw := ivc.length
    have lc := ok.len
    have rowIn : ∀ {row : Int} {k : Nat}, colAt os row k = true → 0 ≤ row ∧ row ≤ 1000000000000 := fun h => by
      obtain ⟨u, w', e, h1, h2⟩ := colAt_true h
      have := rows u w' (List.mem_of_getElem? e)
      omega
    refine ⟨.ref v, rfl, .ref v, .ty "tuple", _, _, _, rfl, .ty "tuple", .base (.tup ev), kit_tupT, _, rfl, iteF ?_⟩
    refine ⟨.ref v, rfl, v, _, rfl, .inr (SqT.of ev), rfl, _, rfl, iteNS rfl ?_⟩
    refine ⟨.ref v, rfl, v, _, rfl, SqT.of ev, rfl, .ref x, [.ref y], rfl, .ref y, [], rfl, rfl, ?_⟩
    refine ⟨.ref x, rfl, .ref x, .ty "tuple", _, _, _, rfl, .ty "tuple", .base (.tup ex), kit_tupT, _, rfl, iteF ?_⟩
    refine ⟨.ref y, rfl, .ref y, .ty "tuple", _, _, _, rfl, .ty "tuple", .base (.tup ey), kit_tupT, _, rfl, iteF ?_⟩
    refine ⟨.ref x, rfl, x, zs, rfl, .inr (SqT.of ex), .ref y, rfl, y, ws, rfl, .inr (SqT.of ey), rfl, _, rfl, iteNS (by rw [lz, lw, lc]) ?_⟩
    -- rectangles
    refine ⟨.ref x, rfl, x, rfl, ⟨_, SqT.of ex⟩, fun D nD => ?_⟩
    refine lcT (K := K) (a := x) (xs := zs) (fun j H' ws => ws = []) nD (fun H' s => SqT.of (s _ _ (ex))) (by omega) (fun _ _ _ _ t r => r) (fun j H' ws r => (by rw [r]; exact Nat.zero_le _)) (fun _ => rfl) ?_ ?_
    · rintro j z H' N acc hj sm eA sz rr no yes
      obtain ⟨t, l, r, bo, to, rfl, er, ht⟩ := r4.get hj
      obtain ⟨h0, h1, h2, h3, h4⟩ := ok.rect _ (List.mem_of_getElem? er)
      have h0 : 0 ≤ l := h0
      have h1 : l ≤ r := h1
      have hl := h4 l.toNat (by show l ≤ _; omega) (by show _ ≤ r; omega)
      have z1 := rowIn hl.1
      have z2 := rowIn hl.2
      refine ⟨rfl, .ref a, rfl, .ref t, rfl, a, t, us, os, l, r, bo, to, rfl, sm _ _ ha, ovs.same sm, by omega, sm _ _ ht, ⟨h0, h1, h2, z1.1, h3, z2.2, fun c c1 c2 => ?_⟩, fun H2 s2 => ⟨_, rfl, iteF (no H2 s2 rr)⟩⟩
      obtain ⟨g1, g2⟩ := h4 c c1 c2
      obtain ⟨u, w', e, e1, e2⟩ := colAt_true g1
      obtain ⟨u', w'', e', e1', e2'⟩ := colAt_true g2
      rw [e] at e'
      cases e'
      exact ⟨_, _, e, e1, e2'⟩
    intro H1 w1 s1 eD rr
    subst rr
    refine ⟨by show 0 ≤ sizeLine; decide, fun e ne => ?_⟩
    have s2 := same_new (o := .lst []) ne
    have ee := upd_same (H := H1) (a := e) (o := .lst [])
    generalize upd H1 e (.lst []) = H2 at *
    have s12 := s1.trans s2
    refine ⟨D, e, [], rfl, rfl, SqL.of (s2 _ _ eD), SqL.of ee, _, rfl, iteF ?_⟩
    -- cells
    refine ⟨.ref y, rfl, y, rfl, ⟨_, SqT.of (s12 _ _ ey)⟩, fun D2 nD2 => ?_⟩
    refine lcT (K := K) (a := y) (xs := ws) (fun j H' ws => ws = []) nD2 (fun H' s => SqT.of (s _ _ ((s12 _ _ ey)))) (by omega) (fun _ _ _ _ t r => r) (fun j H' ws r => (by rw [r]; exact Nat.zero_le _)) (fun _ => rfl) ?_ ?_
    · rintro j z H' N acc hj sm eA sz rr no yes
      have s3 := s12.trans sm
      obtain ⟨t, c1, c2, rfl, ec, ht⟩ := ivc.get hj
      obtain ⟨k, ek, hk⟩ := ok.cell _ (List.mem_of_getElem? ec)
      have ek : c1 = k := ek
      subst ek
      have z1 := rowIn hk
      exact ⟨rfl, .ref a, rfl, .ref t, rfl, a, t, us, os, k, c2, rfl, s3 _ _ ha, ovs.same s3, by omega, s3 _ _ ht, hk, z1.1, z1.2, _, rfl, iteF (no H' (Same.refl _) rr)⟩
    intro H3 w3 s3 eD2 rr
    subst rr
    refine ⟨by show 0 ≤ sizeLine; decide, fun e ne => ?_⟩
    have s4 := same_new (o := .lst []) ne
    have ee2 := upd_same (H := H3) (a := e) (o := .lst [])
    generalize upd H3 e (.lst []) = H4 at *
    have s14 := s12.trans (s3.trans s4)
    refine ⟨D2, e, [], rfl, rfl, SqL.of (s4 _ _ eD2), SqL.of ee2, _, rfl, iteF ?_⟩
    -- ascending
    have ra : (rs.map fun r => PyData.tuple [.int r.1, .int r.2.1, .int r.2.2.1, .int r.2.2.2]).Pairwise Ris := List.pairwise_map.mpr (ok.rasc.imp fun {p r} h => ⟨rfl, (fun z => nomatch z), by show 1 ≤ 60; decide, by
      rcases h with h | ⟨h, h2⟩
      · exact dlt_first h _ _
      · rw [h]
        exact dlt_second4 h2 _ _⟩)
    refine ⟨.ref x, rfl, x, zs, _, rfl, s14 _ _ ex, (r4.same s14).dp, by omega, ra, fun H5 s5 => ⟨_, rfl, iteF ?_⟩⟩
    have s15 := s14.trans s5
    refine ⟨.ref y, rfl, y, ws, _, rfl, s15 _ _ ey, (ivc.same s15).dp, by omega, List.pairwise_map.mpr (ok.casc.imp fun {p r} h => ⟨rfl, (fun z => nomatch z), by show 1 ≤ 60; decide, dlt_first h _ _⟩), fun H6 s6 => ⟨_, rfl, iteF ?_⟩⟩
    have s16 := s15.trans s6
    refine ⟨.ref a, rfl, .ref x, rfl, a, x, us, zs, os, rs, rfl, s16 _ _ ha, ovs.same s16, few, s16 _ _ ex, r4.same s16, lr, ok.cov, fun H7 s7 => ⟨_, rfl, iteF ?_⟩⟩
    have s17 := s16.trans s7
    -- apart
    refine ⟨.ref y, rfl, y, ws, rfl, .inr (SqT.of (s17 _ _ ey)), (ws.length : Int), rfl, by omega, by omega, ?_⟩
    refine for_range (D := ⟨_, _, fun _ _ => True, fun _ _ => True⟩) (n := ((ws.length : Int)).toNat) (fun i σ H' => Same H H' ∧ ∃ y4 y5 y6, σ = [some (.ref a), some (.ref v), some (.ref x), some (.ref y), y4, y5, y6])
      ⟨s17, _, _, _, rfl⟩ ?_ ?_
    · rintro i σ H8 hi ⟨s8, y4, y5, y6, rfl⟩
      have ei : ws[i]? = some ws[i] := List.getElem?_eq_getElem (by omega)
      obtain ⟨ti, ci, ri, wi, eci, hti⟩ := ivc.get ei
      rw [wi] at ei
      obtain ⟨ki, eki, hki⟩ := ok.cell _ (List.mem_of_getElem? eci)
      have eki : ci = ki := eki
      have kil : ki < os.length := by
        obtain ⟨_, _, e, _⟩ := colAt_true hki
        exact (List.getElem?_eq_some_iff.mp e).1
      refine ⟨.ref y, rfl, .int (0 + (i : Nat)), rfl, 0 + (i : Int), rfl, slA_any (s8 _ _ ey) (fun H9 sl s9 esl => ?_)⟩
      rw [Int.zero_add, cutTo] at esl
      have s89 := s8.trans s9
      refine ⟨sl, rfl, ⟨_, SqT.of esl⟩, fun D3 nD3 => ?_⟩
      refine lcT (K := K) (a := sl) (xs := (ws.take i)) (fun j H' ws => ws = []) nD3 (fun H' s => SqT.of (s _ _ (esl))) (by rw [List.length_take]; omega) (fun _ _ _ _ t r => r) (fun j H' ws r => (by rw [r]; exact Nat.zero_le _)) (fun _ => rfl) ?_ ?_
      · rintro j o H' N acc hj sm eA sz rr no yes
        have ji : j < i := by
          have := (List.getElem?_eq_some_iff.mp hj).1
          rw [List.length_take] at this
          omega
        rw [List.getElem?_take_of_lt ji] at hj
        obtain ⟨tj, cj, rj, rfl, ecj, htj⟩ := ivc.get hj
        obtain ⟨kj, ekj, hkj⟩ := ok.cell _ (List.mem_of_getElem? ecj)
        have ekj : cj = kj := ekj
        have sT := s89.trans sm
        have lt : cj < ci := by
          obtain ⟨z1, w1⟩ := List.getElem?_eq_some_iff.mp ecj
          obtain ⟨z2, w2⟩ := List.getElem?_eq_some_iff.mp eci
          have z := List.pairwise_iff_getElem.mp ok.casc j i z1 z2 ji
          rw [w1, w2] at z
          exact z
        have ap : ¬ ∀ k : Nat, cj ≤ (k : Int) → (k : Int) ≤ ci → colAt os rj k = true ∧ colAt os ri k = true := by
          obtain ⟨z1, w1⟩ := List.getElem?_eq_some_iff.mp ecj
          obtain ⟨z2, w2⟩ := List.getElem?_eq_some_iff.mp eci
          have z := List.pairwise_iff_getElem.mp ok.apart j i z1 z2 ji
          rw [w1, w2] at z
          exact z
        refine ⟨rfl, .ref a, rfl, .ref y, rfl, .int (0 + (i : Nat)), rfl, y, ws, 0 + (i : Int), .ref ti, rfl, rfl, SqT.of (sT _ _ ey), (by rw [Int.zero_add]; exact atI_nat ei), .ref tj, rfl, a, ti, tj, us, os, ci, ri, cj, rj, rfl, sT _ _ ha, ovs.same sT, by omega, sT _ _ hti, sT _ _ htj, ⟨by omega, by omega⟩, ⟨by omega, by omega⟩, fun H10 k s10 hk => ?_⟩
        have kt : k = true := hk.mpr fun R => ap fun c c1 c2 => by
          obtain ⟨u, w', e, e1, e2⟩ := R c (by unfold mnI; split <;> omega) (by unfold mxI; split <;> omega)
          rw [colAt_some e, colAt_some e, Bool.and_eq_true, Bool.and_eq_true, decide_eq_true_iff, decide_eq_true_iff, decide_eq_true_iff, decide_eq_true_iff]
          unfold mnI at e1
          unfold mxI at e2
          split at e1 <;> split at e2 <;> omega
        rw [kt]
        exact ⟨_, rfl, iteF (no H10 s10 rr)⟩
      intro H10 w10 s10 eD3 rr
      subst rr
      refine ⟨by show 0 ≤ sizeLine; decide, fun e ne => ?_⟩
      have s11 := same_new (o := .lst []) ne
      have ee11 := upd_same (H := H10) (a := e) (o := .lst [])
      generalize upd H10 e (.lst []) = H11 at *
      exact ⟨D3, e, [], rfl, rfl, SqL.of (s11 _ _ eD3), SqL.of ee11, _, rfl, iteF ⟨s89.trans (s10.trans s11), _, _, _, rfl⟩⟩
    · rintro σ H8 ⟨s8, y4, y5, y6, rfl⟩
      exact q H8 s8

/-- a board told -/
def colD : Option (Int × Int) → PyData
  | none => .none
  | some q => pairD q
theorem OVs.dp {K : PySem.W.Frag} {H : Hp} : ∀ {us : List V} {os : List (Option (Int × Int))}, OVs H us os → DpAll K H us (os.map colD)
  | [], os, h => by
    have z := h.1
    cases os with
    | nil => exact .nil
    | cons o r => cases z
  | v :: us, os, h => by
    have z := h.1
    cases os with
    | nil => cases z
    | cons o r =>
      obtain ⟨o', e, ov⟩ := h.2 0 v rfl
      cases e
      refine .cons ?_ (OVs.dp (us := us) (os := r) ⟨Nat.succ.inj z, fun i u e => h.2 (i + 1) u e⟩)
      match o, ov with
      | none, ov =>
        cases ov
        exact .non
      | some (x, y), ⟨t, e, ht⟩ =>
        subst e
        exact .tup (SqT.of ht) (.cons (.int x) (.cons (.int y) .nil))
theorem sm_row {ps : List (Int × Int)} {n : Nat} (h : ∀ p ∈ ps, p.1.natAbs < 10 ^ 30 ∧ p.2.natAbs < 10 ^ 30) (hn : ps.length ≤ n) : Sm (n * 203) 2 (.tuple (ps.map pairD)) := by
  refine (Sm.tup (n := 202) (dp := 1) (fun d hd => ?_)).mono ?_ (Nat.le_refl _)
  · obtain ⟨p, hp, rfl⟩ := List.mem_map.mp hd
    have z := h p hp
    exact sm2 z.1 z.2
  · rw [List.length_map]
    exact Nat.mul_le_mul_right _ hn
theorem sm_board {os : List (Option (Int × Int))} (h : ∀ o ∈ os, ColOk 1000000000001 o) (l : os.length ≤ 30) : Sm (30 * 203) 2 (.tuple (os.map colD)) := by
  refine (Sm.tup (n := 202) (dp := 1) (fun d hd => ?_)).mono ?_ (Nat.le_refl _)
  · obtain ⟨o, ho, rfl⟩ := List.mem_map.mp hd
    match o, h o ho with
    | none, _ => exact Sm.none.mono (Nat.zero_le _) (Nat.zero_le _)
    | some (x, y), z =>
      have z : 0 ≤ x ∧ x ≤ y ∧ y < 1000000000001 := z
      exact sm2 (by show x.natAbs < _; omega) (by show y.natAbs < _; omega)
  · rw [List.length_map]
    exact Nat.mul_le_mul_right _ l
theorem colOk_bd {os : List (Option (Int × Int))} {h : Int} (ok : ∀ o ∈ os, ColOk h o) : BdOk os := fun x y m => by
  have z : 0 ≤ x ∧ x ≤ y ∧ y < h := ok _ m
  exact ⟨z.1, z.2.1⟩
theorem RunL.small {os : List (Option (Int × Int))} {ps : List (Int × Int)} (h : RunL os ps) : ps.length ≤ os.length * os.length ∧ ∀ q ∈ ps, 0 ≤ q.1 ∧ q.1 ≤ q.2 ∧ q.2 < os.length := by
  have m : ∀ q ∈ ps, 0 ≤ q.1 ∧ q.1 ≤ q.2 ∧ q.2 < os.length := fun q hq => by
    obtain ⟨r, hr⟩ := (h.2 q).mp hq
    exact runF_lt (fun k hk => colAt_out hk) hr
  refine ⟨runs_few (h.1.imp fun {a b} z e => ?_) m, m⟩
  rw [e] at z
  exact ltP_irr z
theorem RunL.sm {os : List (Option (Int × Int))} {ps : List (Int × Int)} (h : RunL os ps) (l : os.length ≤ 30) : Sm (900 * 203) 2 (.tuple (ps.map pairD)) := by
  obtain ⟨h1, h2⟩ := h.small
  refine sm_row (fun p hp => ?_) (Nat.le_trans h1 (Nat.mul_le_mul l l))
  have z := h2 p hp
  omega
theorem RunL.none {k : Nat} {ps : List (Int × Int)} (h : RunL (List.replicate k none) ps) : ps = [] := by
  cases ps with
  | nil => rfl
  | cons q r =>
    obtain ⟨z, x, y, _, xy, a, _⟩ := (h.2 q).mp List.mem_cons_self
    obtain ⟨u, v, e, _⟩ := colAt_true (a x (Nat.le_refl _) xy)
    have := List.mem_of_getElem? e
    rw [List.mem_replicate] at this
    cases this.2
theorem OVs.none (H : Hp) (k : Nat) : OVs H (List.replicate k .non) (List.replicate k none) := by
  refine ⟨by rw [List.length_replicate, List.length_replicate], fun i v e => ?_⟩
  have l := (List.getElem?_eq_some_iff.mp e).1
  rw [List.length_replicate] at l
  rw [List.getElem?_replicate_of_lt l] at e
  cases e
  exact ⟨Option.none, List.getElem?_replicate_of_lt l, rfl⟩
theorem rep_none {H : Hp} {l : Addr} {i : Int} {k : Nat} {Q : VK} (ei : i = k) (hl : H l = some (.tup [V.non])) (k1 : 1 ≤ k) (k2 : k ≤ 100) (h : ∀ H' t, Same H H' → H' t = some (.tup (List.replicate k V.non)) → Q (.ref t) H') : rRepT K (.ref l) (.int i) H Q ∨ rRep1 K (.ref l) (.int i) H Q := by
  subst ei
  match k, k1, k2, h with
  | 1, _, _, h => exact .inr ⟨l, _, rfl, rfl, SqT.of hl, h H l (Same.refl _) hl⟩
  | k + 2, _, k2, h =>
    refine .inl ⟨l, _, _, rfl, rfl, SqT.of hl, (fun e => nomatch e), by omega, by omega, by show 1 ≤ 1000; decide, fun p np => h _ p (same_new np) ?_⟩
    have e : (List.replicate ((k + 2 : Nat) : Int).toNat [V.non]).flatten = List.replicate (k + 2) V.non := by
      rw [Int.toNat_natCast]
      generalize k + 2 = n
      induction n with
      | zero => rfl
      | succ n ih =>
        rw [List.replicate_succ, List.replicate_succ, List.flatten_cons, ih]
        rfl
    rw [e]
    exact upd_same

/-! ### covers told -/
def rectD (r : Rect) : PyData := .tuple [.int r.1, .int r.2.1, .int r.2.2.1, .int r.2.2.2]
def covD (rs : List Rect) (cs : List (Int × Int)) : PyData := .tuple [.tuple (rs.map rectD), .tuple (cs.map pairD)]
theorem CovH.dp {K : PySem.W.Frag} {H : Hp} {r : Addr} {rs : List Rect} {cs : List (Int × Int)} (h : CovH H r rs cs) : Dp K H (.ref r) (covD rs cs) := by
  obtain ⟨x, y, zs, vs, er, ex, r4, ey, iv⟩ := h.ex
  exact .tup (SqT.of er) (.cons (.tup (SqT.of ex) r4.dp) (.cons (.tup (SqT.of ey) iv.dp) .nil))
theorem CovH.same {H H' : Hp} (s : Same H H') {r : Addr} {rs : List Rect} {cs : List (Int × Int)} (h : CovH H r rs cs) : CovH H' r rs cs := by
  obtain ⟨x, y, zs, vs, er, ex, r4, ey, iv⟩ := h.ex
  exact ⟨x, y, zs, vs, s _ _ er, s _ _ ex, r4.same s, s _ _ ey, iv.same s⟩
theorem CovH.tps {H H' : Hp} (s : Tps H H') {r : Addr} {rs : List Rect} {cs : List (Int × Int)} (h : CovH H r rs cs) : CovH H' r rs cs := by
  obtain ⟨x, y, zs, vs, er, ex, r4, ey, iv⟩ := h.ex
  exact ⟨x, y, zs, vs, s _ _ er, s _ _ ex, r4.tps s, s _ _ ey, iv.tps s⟩
theorem CovR.le {os : List (Option (Int × Int))} {rs : List Rect} {cs : List (Int × Int)} (h : CovR os rs cs) (ok : BdOk os) (few : os.length ≤ 8) : rs.length ≤ 24 ∧ cs.length ≤ 24 := by
  obtain ⟨ts, A, rl, _⟩ := h.ex
  obtain ⟨n1, n2⟩ := h.num rl ok few
  have g := need_le_ts (rl.solB ok few).good
  have := runs24 ok rl
  have := cols_le os
  omega
theorem sm_cov {os : List (Option (Int × Int))} {rs : List Rect} {cs : List (Int × Int)} (h : CovR os rs cs) (rows : ∀ x y, some (x, y) ∈ os → 0 ≤ x ∧ x ≤ y ∧ y ≤ 1000000000000) (few : os.length ≤ 8) : Sm 30000 3 (covD rs cs) := by
  have ok : BdOk os := fun x y m => ⟨(rows x y m).1, (rows x y m).2.1⟩
  have c := h.ok ok few
  obtain ⟨l1, l2⟩ := h.le ok few
  have rowIn : ∀ {row : Int} {k : Nat}, colAt os row k = true → 0 ≤ row ∧ row ≤ 1000000000000 := fun h => by
    obtain ⟨u, w', e, h1, h2⟩ := colAt_true h
    have := rows u w' (List.mem_of_getElem? e)
    omega
  have r1 : Sm 14000 2 (.tuple (rs.map rectD)) := by
    refine (Sm.tup (n := 404) (dp := 1) (fun d hd => ?_)).mono ?_ (Nat.le_refl _)
    · obtain ⟨r, hr, rfl⟩ := List.mem_map.mp hd
      obtain ⟨h0, h1, h2, h3, h4⟩ := c.rect r hr
      have hl := h4 r.1.toNat (by omega) (by omega)
      have z1 := rowIn hl.1
      have z2 := rowIn hl.2
      refine (Sm.tup (n := 100) (dp := 0) (fun e he => ?_)).mono (by show 4 * 101 ≤ 404; decide) (Nat.le_refl _)
      simp only [List.mem_cons, List.not_mem_nil, or_false] at he
      rcases he with rfl | rfl | rfl | rfl <;> exact Sm.int (by omega)
    · rw [List.length_map]
      have := Nat.mul_le_mul_right 405 l1
      omega
  have r2 : Sm 14000 2 (.tuple (cs.map pairD)) := by
    refine (sm_row (n := 24) (fun p hp => ?_) l2).mono (by decide) (Nat.le_refl _)
    obtain ⟨k, ek, hk⟩ := c.cell p hp
    have := rowIn hk
    obtain ⟨_, _, e, _⟩ := colAt_true hk
    have := (List.getElem?_eq_some_iff.mp e).1
    omega
  refine (Sm.tup (n := 14000) (dp := 2) (fun d hd => ?_)).mono (by show 2 * 14001 ≤ 30000; decide) (Nat.le_refl _)
  simp only [List.mem_cons, List.not_mem_nil, or_false] at hd
  rcases hd with rfl | rfl
  · exact r1
  · exact r2
theorem CovR.empty {k : Nat} {rs : List Rect} {cs : List (Int × Int)} (h : CovR (List.replicate k Option.none) rs cs) (hk : k ≤ 8) : rs = [] ∧ cs = [] := by
  have ok : BdOk (List.replicate k Option.none) := fun x y m => by
    rw [List.mem_replicate] at m
    cases m.2
  have few : (List.replicate k (Option.none : Option (Int × Int))).length ≤ 8 := by rw [List.length_replicate]; exact hk
  obtain ⟨ts, A, rl, _⟩ := h.ex
  obtain ⟨n1, n2⟩ := h.num rl ok few
  have g := need_le_ts (rl.solB ok few).good
  rw [rl.none] at g n1 n2
  have g : needO [] [] ≤ 0 := g
  exact ⟨List.length_eq_zero_iff.mp (by omega), List.length_eq_zero_iff.mp (by omega)⟩
theorem colOk_rows {os : List (Option (Int × Int))} (ok : ∀ o ∈ os, ColOk 1000000000001 o) : ∀ x y, some (x, y) ∈ os → 0 ≤ x ∧ x ≤ y ∧ y ≤ 1000000000000 := fun x y m => by
  have z : 0 ≤ x ∧ x ≤ y ∧ y < 1000000000001 := ok _ m
  omega

/-! ### the law's number of a board -/
def sp_law_number (pT : Addr) : Sp := fun vs H Q _ => ∃ (d : Addr) (c : Addr × Addr × Addr) (n : Int) (a : Addr) (us : List V) (os : List (Option (Int × Int))), vs = [.ref a] ∧ c.2.2 = pT ∧ Dk H d c n ∧ H a = some (.tup us) ∧ OVs H us os ∧ os.length ≤ 8 ∧ (∀ x y, some (x, y) ∈ os → 0 ≤ x ∧ x ≤ y ∧ y ≤ 1000000000000) ∧
  ∀ H' ts rs cs, Kp d c H H' → Dk H' d c n → RunL os ts → CovR os rs cs → rs.length = needO ts [] → Q (.int (needO ts [] : Nat)) H'
theorem ok_law_number (T : Tx K mg f_depth_changes f_find_blocks f_has_position f_contains f_serves f_conflict f_demands_at_blocks f_is_open f_open_demands f_shadow_target f_decisive_demands f_largest_independent f_unserved_demands f_helpful_piece f_smallest_solution f_row_runs f_rows_of_runs f_tallest_rectangle f_cover_board f_law_draws f_law_next f_law_column f_law_board f_law_is_int f_law_inside f_law_full f_law_is_rectangle f_law_apart f_law_levels f_law_ascends f_law_covered f_law_is_cell f_law_holds f_law_board_cells f_law_number f_law_tallest f_law_fewest f_law_most f_law d_depth_changes d_find_blocks d_has_position d_contains d_serves d_conflict d_demands_at_blocks d_is_open d_open_demands d_shadow_target d_decisive_demands d_largest_independent d_unserved_demands d_helpful_piece d_smallest_solution d_row_runs d_rows_of_runs d_tallest_rectangle d_cover_board d_law_draws d_law_next d_law_column d_law_board d_law_is_int d_law_inside d_law_full d_law_is_rectangle d_law_apart d_law_levels d_law_ascends d_law_covered d_law_is_cell d_law_holds d_law_board_cells d_law_number d_law_tallest d_law_fewest d_law_most d_law) (hT : TabH base mg d_helpful_piece pT) : FnOk P w K mg base CX0 (lgN+12) f_law_number d_law_number ["_law_board_here"] (sp_law_number pT) := by
  refine T.F_law_number.ok sc_law_number (fun vs H Q E h => ?_) (fun cdv A outer s H vs Q E hr h => ?_)
  · obtain ⟨d, c, n, a, us, os, rfl, _⟩ := h
    rfl
  · obtain ⟨d, c, n, a, us, os, rfl, ct, dk, ha, ovs, few, rows, q⟩ := h
    refine ⟨_, (pss_cons (ps_set (i := 1) sc_law_number.nd rfl (Or.inl rfl) (pe_call (ok_cover_board T hT) (hr.mono (by decide)) (by rfl) T.g_cover_board T.F_cover_board.kp T.b_cover_board .nil pass0 (pa_cons (pv 0) pa_nil)))
      (pss_one (ps_ret (pe_ifExp (pt_val (pe_call (ok_law_holds T) (hr.mono (by decide)) (by rfl) T.g_law_holds T.F_law_holds.kp T.b_law_holds .nil pass0 (pa_cons (pv 0) (pa_cons (pv 1) pa_nil)))) (pe_callB call_len_seq (by rfl) T.z_len PySem.boot_len (pa_cons (pe_ix ix_tup (pv 1) pe_int (fun _ _ => rfl)) pa_nil)) pe_non)))), ?_⟩
    have bok : BdOk os := fun x y m => ⟨(rows x y m).1, (rows x y m).2.1⟩
    refine ⟨.ref a, rfl, d, c, n, a, us, os, rfl, ct, dk, ha, ovs, few, bok, fun H1 r rs cs kp1 dk1 cov cr => ?_⟩
    have t1 := kp1.tps dk
    have kle := cr.le bok few
    refine ⟨.ref a, rfl, .ref r, rfl, a, r, us, os, rs, cs, rfl, t1 _ _ ha, ovs.tps t1, by omega, rows, cov, by omega, cr.ok bok few, fun H2 s2 => ⟨_, rfl, iteT ?_⟩⟩
    obtain ⟨x, y, zs, vs, er, ex, r4, ey, iv⟩ := cov.ex
    obtain ⟨ts, A, rl, _⟩ := cr.ex
    obtain ⟨n1, n2⟩ := cr.num rl bok few
    refine ⟨.ref r, rfl, r, _, 0, .ref x, rfl, rfl, SqT.of (s2 _ _ er), rfl, x, zs, rfl, .inr (SqT.of (s2 _ _ ex)), ?_⟩
    rw [r4.length, n1]
    exact q H2 ts rs cs (kp1.trans (Kp.same s2)) (dk1.kept s2) rl cr n1

/-! ### small boards, searched: mathematics -/
theorem pig {α β : Type} {R : α → β → Prop} : ∀ {L : List α} {S : List β}, (∀ a ∈ L, ∃ b ∈ S, R a b) → (L.Pairwise fun a a' => ∀ b, b ∈ S → ¬ (R a b ∧ R a' b)) → L.length ≤ S.length
  | [], S, _, _ => Nat.zero_le _
  | a :: L, S, cov, sep => by
    obtain ⟨b, hb, rb⟩ := cov a List.mem_cons_self
    obtain ⟨S1, S2, rfl⟩ := List.append_of_mem hb
    have sp := List.pairwise_cons.mp sep
    have ih := pig (R := R) (L := L) (S := S1 ++ S2) (fun a' ha' => by
      obtain ⟨b', hb', rb'⟩ := cov a' (List.mem_cons_of_mem _ ha')
      refine ⟨b', ?_, rb'⟩
      rcases List.mem_append.mp hb' with h | h
      · exact List.mem_append_left _ h
      · rcases List.mem_cons.mp h with rfl | h
        · exact absurd ⟨rb, rb'⟩ (sp.1 a' ha' _ hb)
        · exact List.mem_append_right _ h) (sp.2.imp fun {x y} h b' hb' => h b' (by
      rcases List.mem_append.mp hb' with h | h
      · exact List.mem_append_left _ h
      · exact List.mem_append_right _ (List.mem_cons_of_mem _ h)))
    rw [List.length_append] at ih ⊢
    rw [List.length_cons, List.length_cons]
    omega
def AllC (os : List (Option (Int × Int))) (l r : Nat) (row : Int) : Prop := ∀ k : Nat, l ≤ k → k ≤ r → colAt os row k = true
theorem colAt_mid {os : List (Option (Int × Int))} {k : Nat} {b t row : Int} (h1 : colAt os b k = true) (h2 : colAt os t k = true) (a : b ≤ row) (c : row ≤ t) : colAt os row k = true := by
  obtain ⟨x, y, e, x1, _⟩ := colAt_true h1
  obtain ⟨x', y', e', _, y1⟩ := colAt_true h2
  rw [e] at e'
  injection e' with e'
  injection e' with e'
  injection e' with e1 e2
  rw [colAt_some e, decide_eq_true (show x ≤ row by omega), decide_eq_true (show row ≤ y by omega)]
  rfl
/-- the tallest rectangles of a board, as their cells -/
structure TallOk (os : List (Option (Int × Int))) (Rs : List (List (Int × Int))) : Prop where
  one : ∀ R ∈ Rs, ∃ l r : Nat, ∀ q ∈ R, AllC os l r q.2 ∧ ∃ k : Nat, q.1 = k ∧ l ≤ k ∧ k ≤ r
  all : ∀ (l r : Nat) (row : Int), l ≤ r → AllC os l r row → ∃ R ∈ Rs, ∀ (k : Nat) (row' : Int), l ≤ k → k ≤ r → AllC os l r row' → ((k : Int), row') ∈ R
/-- the cells of a board, column by column -/
def rowsI (x y : Int) : List Int := (List.range (y + 1 - x).toNat).map fun k : Nat => x + (k : Int)
theorem mem_rowsI {x y r : Int} : r ∈ rowsI x y ↔ x ≤ r ∧ r ≤ y := by
  unfold rowsI
  rw [List.mem_map]
  constructor
  · rintro ⟨k, hk, rfl⟩
    have := List.mem_range.mp hk
    omega
  · rintro ⟨h1, h2⟩
    exact ⟨(r - x).toNat, List.mem_range.mpr (by omega), by omega⟩
def colC (os : List (Option (Int × Int))) (k : Nat) : List (Int × Int) := match os[k]? with
  | some (some (x, y)) => (rowsI x y).map fun r => ((k : Int), r)
  | _ => []
def cellsC (os : List (Option (Int × Int))) (n : Nat) : List (Int × Int) := (List.range n).flatMap (colC os)
theorem cellsC_succ (os : List (Option (Int × Int))) (n : Nat) : cellsC os (n + 1) = cellsC os n ++ colC os n := by
  unfold cellsC
  rw [List.range_succ, List.flatMap_append]
  simp
theorem mem_colC {os : List (Option (Int × Int))} {k : Nat} {q : Int × Int} : q ∈ colC os k ↔ q.1 = k ∧ colAt os q.2 k = true := by
  unfold colC colAt
  rcases os[k]? with _ | _ | ⟨x, y⟩
  · exact ⟨fun h => absurd h List.not_mem_nil, fun h => absurd h.2 Bool.false_ne_true⟩
  · exact ⟨fun h => absurd h List.not_mem_nil, fun h => absurd h.2 Bool.false_ne_true⟩
  · show q ∈ (rowsI x y).map (fun r => ((k : Int), r)) ↔ q.1 = k ∧ (decide (x ≤ q.2) && decide (q.2 ≤ y)) = true
    rw [List.mem_map, Bool.and_eq_true, decide_eq_true_iff, decide_eq_true_iff]
    constructor
    · rintro ⟨r, hr, rfl⟩
      exact ⟨rfl, mem_rowsI.mp hr⟩
    · rintro ⟨e, h⟩
      exact ⟨q.2, mem_rowsI.mpr h, Prod.ext e.symm rfl⟩
theorem mem_cellsC {os : List (Option (Int × Int))} {n : Nat} {q : Int × Int} : q ∈ cellsC os n ↔ ∃ k : Nat, k < n ∧ q.1 = k ∧ colAt os q.2 k = true := by
  unfold cellsC
  rw [List.mem_flatMap]
  constructor
  · rintro ⟨k, hk, h⟩
    exact ⟨k, List.mem_range.mp hk, mem_colC.mp h⟩
  · rintro ⟨k, hk, h⟩
    exact ⟨k, List.mem_range.mpr hk, mem_colC.mpr h⟩
theorem mem_cellsA {os : List (Option (Int × Int))} {q : Int × Int} : q ∈ cellsC os os.length ↔ ∃ k : Nat, q.1 = k ∧ colAt os q.2 k = true := by
  rw [mem_cellsC]
  constructor
  · rintro ⟨k, _, h⟩
    exact ⟨k, h⟩
  · rintro ⟨k, e, h⟩
    obtain ⟨x, y, e2, _⟩ := colAt_true h
    exact ⟨k, (List.getElem?_eq_some_iff.mp e2).1, e, h⟩
theorem rowsI_asc (x y : Int) : (rowsI x y).Pairwise (· < ·) := by
  unfold rowsI
  refine List.pairwise_map.mpr (List.pairwise_lt_range.imp fun {a b} h => ?_)
  omega
theorem colC_asc (os : List (Option (Int × Int))) (k : Nat) : (colC os k).Pairwise ltP := by
  unfold colC
  rcases os[k]? with _ | _ | ⟨x, y⟩
  · exact .nil
  · exact .nil
  · exact List.pairwise_map.mpr ((rowsI_asc x y).imp fun {a b} h => .inr ⟨rfl, h⟩)
theorem cellsC_asc (os : List (Option (Int × Int))) : ∀ n : Nat, (cellsC os n).Pairwise ltP
  | 0 => .nil
  | n + 1 => by
    rw [cellsC_succ]
    refine List.pairwise_append.mpr ⟨cellsC_asc os n, colC_asc os n, fun a ha b hb => .inl ?_⟩
    obtain ⟨k, kn, e, _⟩ := mem_cellsC.mp ha
    have := (mem_colC.mp hb).1
    omega
theorem colC_len {os : List (Option (Int × Int))} (h : ∀ x y, some (x, y) ∈ os → 0 ≤ x ∧ x ≤ y ∧ y < 4) (k : Nat) : (colC os k).length ≤ 4 := by
  unfold colC
  split
  · next x y e =>
    have := h x y (List.mem_of_getElem? e)
    unfold rowsI
    rw [List.length_map, List.length_map, List.length_range]
    omega
  · exact Nat.zero_le _
theorem cellsC_len {os : List (Option (Int × Int))} (h : ∀ x y, some (x, y) ∈ os → 0 ≤ x ∧ x ≤ y ∧ y < 4) : ∀ n : Nat, (cellsC os n).length ≤ 4 * n
  | 0 => Nat.le_refl _
  | n + 1 => by
    rw [cellsC_succ, List.length_append]
    have := cellsC_len h n
    have := colC_len h n
    omega
/-! #### separate cells -/
def TogC (os : List (Option (Int × Int))) (p q : Int × Int) : Prop := RectP os (mnI p.1 q.1) (mxI p.1 q.1) (mnI p.2 q.2) (mxI p.2 q.2)
theorem tog_iff {os : List (Option (Int × Int))} {p q : Int × Int} : TogC os p q ↔ ∀ k : Nat, mnI p.1 q.1 ≤ k → (k : Int) ≤ mxI p.1 q.1 → colAt os p.2 k = true ∧ colAt os q.2 k = true := by
  unfold TogC RectP
  refine forall_congr' fun k => forall_congr' fun _ => forall_congr' fun _ => ?_
  constructor
  · rintro ⟨x, y, e, h1, h2⟩
    have m : mnI p.2 q.2 ≤ p.2 ∧ mnI p.2 q.2 ≤ q.2 ∧ p.2 ≤ mxI p.2 q.2 ∧ q.2 ≤ mxI p.2 q.2 := by
      unfold mnI mxI
      refine ⟨by split <;> omega, by split <;> omega, by split <;> omega, by split <;> omega⟩
    rw [colAt_some e, colAt_some e, decide_eq_true (show x ≤ p.2 by omega), decide_eq_true (show p.2 ≤ y by omega), decide_eq_true (show x ≤ q.2 by omega), decide_eq_true (show q.2 ≤ y by omega)]
    exact ⟨rfl, rfl⟩
  · rintro ⟨h1, h2⟩
    obtain ⟨x, y, e, a1, a2⟩ := colAt_true h1
    obtain ⟨x', y', e', b1, b2⟩ := colAt_true h2
    rw [e] at e'
    injection e' with e'
    injection e' with e'
    injection e' with e1 e2
    refine ⟨x, y, e, ?_, ?_⟩
    · unfold mnI
      split <;> omega
    · unfold mxI
      split <;> omega
/-- cells of one part of the board in which all columns have both rows -/
theorem tog_of {os : List (Option (Int × Int))} {p q : Int × Int} {l r : Int} (hp : l ≤ p.1 ∧ p.1 ≤ r) (hq : l ≤ q.1 ∧ q.1 ≤ r) (h1 : ∀ k : Nat, l ≤ k → (k : Int) ≤ r → colAt os p.2 k = true) (h2 : ∀ k : Nat, l ≤ k → (k : Int) ≤ r → colAt os q.2 k = true) : TogC os p q := by
  refine tog_iff.mpr fun k k1 k2 => ?_
  have m : l ≤ mnI p.1 q.1 ∧ mxI p.1 q.1 ≤ r := by
    unfold mnI mxI
    refine ⟨by split <;> omega, by split <;> omega⟩
  exact ⟨h1 k (by omega) (by omega), h2 k (by omega) (by omega)⟩
def InR (q : Int × Int) (r : Rect) : Prop := r.1 ≤ q.1 ∧ q.1 ≤ r.2.1 ∧ r.2.2.1 ≤ q.2 ∧ q.2 ≤ r.2.2.2
/-- separate cells are no more than the rectangles of a cover -/
theorem most_le {os : List (Option (Int × Int))} {rs : List Rect} {cs L : List (Int × Int)} (c : CovOk os rs cs) (cell : ∀ q ∈ L, q ∈ cellsC os os.length) (sep : L.Pairwise fun p q => ¬ TogC os q p) : L.length ≤ rs.length := by
  refine pig (R := InR) (fun q hq => ?_) (sep.imp fun {p q} n r hr h => n ?_)
  · obtain ⟨k, e, h⟩ := mem_cellsA.mp (cell q hq)
    obtain ⟨r, hr, a1, a2, a3, a4⟩ := c.cov q.2 k h
    exact ⟨r, hr, by rw [e]; exact a1, by rw [e]; exact a2, a3, a4⟩
  · obtain ⟨_, _, _, _, all⟩ := c.rect r hr
    obtain ⟨⟨p1, p2, p3, p4⟩, q1, q2, q3, q4⟩ := h
    exact tog_of ⟨q1, q2⟩ ⟨p1, p2⟩ (fun k k1 k2 => colAt_mid (all k k1 k2).1 (all k k1 k2).2 q3 q4) (fun k k1 k2 => colAt_mid (all k k1 k2).1 (all k k1 k2).2 p3 p4)
theorem cs_sep {os : List (Option (Int × Int))} {rs : List Rect} {cs : List (Int × Int)} (c : CovOk os rs cs) : cs.Pairwise fun p q => ¬ TogC os q p := by
  refine (c.casc.and c.apart).imp fun {p q} h t => h.2 fun k k1 k2 => ?_
  have := tog_iff.mp t k (by unfold mnI; split <;> omega) (by unfold mxI; split <;> omega)
  exact ⟨this.2, this.1⟩
theorem cs_asc {os : List (Option (Int × Int))} {rs : List Rect} {cs : List (Int × Int)} (c : CovOk os rs cs) : cs.Pairwise ltP := c.casc.imp fun h => .inl h
theorem cs_cell {os : List (Option (Int × Int))} {rs : List Rect} {cs : List (Int × Int)} (c : CovOk os rs cs) : ∀ q ∈ cs, q ∈ cellsC os os.length := fun q hq => by
  obtain ⟨k, e, h⟩ := c.cell q hq
  exact mem_cellsA.mpr ⟨k, e, h⟩
/-- the sets that the law has built behind its first cells -/
structure SetsOk (os : List (Option (Int × Int))) (cells : List (Int × Int)) (sets : List (List (Int × Int))) : Prop where
  cell : ∀ L ∈ sets, ∀ q ∈ L, q ∈ cells
  sep : ∀ L ∈ sets, L.Pairwise fun p q => ¬ TogC os q p
  all : ∀ L : List (Int × Int), L.Pairwise ltP → (∀ q ∈ L, q ∈ cells) → (L.Pairwise fun p q => ¬ TogC os q p) → L ∈ sets
theorem SetsOk.nil (os : List (Option (Int × Int))) : SetsOk os [] [[]] where
  cell := fun L hL q hq => by
    rw [List.mem_singleton.mp hL] at hq
    exact hq
  sep := fun L hL => by
    rw [List.mem_singleton.mp hL]
    exact .nil
  all := fun L _ h _ => by
    cases L with
    | nil => exact List.mem_singleton.mpr rfl
    | cons q L => exact nomatch h q List.mem_cons_self
theorem SetsOk.snoc {os : List (Option (Int × Int))} {cells : List (Int × Int)} {sets more : List (List (Int × Int))} {c : Int × Int} (h : SetsOk os cells sets) (asc : ∀ q ∈ cells, ltP q c) (mem : ∀ M, M ∈ more ↔ ∃ L ∈ sets, M = L ++ [c] ∧ ∀ q ∈ L, ¬ TogC os c q) : SetsOk os (cells ++ [c]) (sets ++ more) where
  cell := fun M hM q hq => by
    rcases List.mem_append.mp hM with hM | hM
    · exact List.mem_append_left _ (h.cell M hM q hq)
    · obtain ⟨L, hL, rfl, _⟩ := (mem M).mp hM
      rcases List.mem_append.mp hq with hq | hq
      · exact List.mem_append_left _ (h.cell L hL q hq)
      · exact List.mem_append_right _ hq
  sep := fun M hM => by
    rcases List.mem_append.mp hM with hM | hM
    · exact h.sep M hM
    · obtain ⟨L, hL, rfl, n⟩ := (mem M).mp hM
      refine List.pairwise_append.mpr ⟨h.sep L hL, List.pairwise_singleton _ _, fun p hp q hq => ?_⟩
      rw [List.mem_singleton.mp hq]
      exact n p hp
  all := fun L up inn sep => by
    have irr : ∀ {x y : Int × Int}, ltP x y → ltP y x → False := fun h1 h2 => by
      unfold ltP at h1 h2
      omega
    by_cases hc : c ∈ L
    · obtain ⟨A, B, rfl⟩ := List.append_of_mem hc
      have u := List.pairwise_append.mp up
      have uc := List.pairwise_cons.mp u.2.1
      have hB : B = [] := by
        cases B with
        | nil => rfl
        | cons z B =>
          have lz := uc.1 z List.mem_cons_self
          rcases List.mem_append.mp (inn z (List.mem_append_right _ (List.mem_cons_of_mem _ List.mem_cons_self))) with hz | hz
          · exact (irr lz (asc z hz)).elim
          · rw [List.mem_singleton.mp hz] at lz
            exact (irr lz lz).elim
      subst hB
      have s := List.pairwise_append.mp sep
      refine List.mem_append_right _ ((mem _).mpr ⟨A, h.all A u.1 (fun q hq => ?_) s.1, rfl, fun q hq => s.2.2 q hq c List.mem_cons_self⟩)
      rcases List.mem_append.mp (inn q (List.mem_append_left _ hq)) with hz | hz
      · exact hz
      · have := u.2.2 q hq c List.mem_cons_self
        rw [List.mem_singleton.mp hz] at this
        exact (irr this this).elim
    · refine List.mem_append_left _ (h.all L up (fun q hq => ?_) sep)
      rcases List.mem_append.mp (inn q hq) with hz | hz
      · exact hz
      · rw [List.mem_singleton.mp hz] at hq
        exact absurd hq hc
/-! #### covers by tallest rectangles -/
def CovBy (Rs : List (List (Int × Int))) (cells : List (Int × Int)) : Prop := ∀ q ∈ cells, ∃ R ∈ Rs, q ∈ R
theorem tall_ge {os : List (Option (Int × Int))} {rs : List Rect} {cs : List (Int × Int)} {Ts Rs : List (List (Int × Int))} (c : CovOk os rs cs) (t : TallOk os Ts) (sub : ∀ R ∈ Rs, R ∈ Ts) (cov : CovBy Rs (cellsC os os.length)) : cs.length ≤ Rs.length := by
  refine pig (R := fun q R => q ∈ R) (fun q hq => cov q (cs_cell c q hq)) ((cs_sep c).imp fun {p q} n R hR h => n ?_)
  obtain ⟨l, r, all⟩ := t.one R (sub R hR)
  obtain ⟨a1, k1, e1, b1, c1⟩ := all p h.1
  obtain ⟨a2, k2, e2, b2, c2⟩ := all q h.2
  exact tog_of (l := l) (r := r) (by omega) (by omega) (fun k h1 h2 => a2 k (by omega) (by omega)) (fun k h1 h2 => a1 k (by omega) (by omega))
theorem tall_le {os : List (Option (Int × Int))} {rs : List Rect} {cs : List (Int × Int)} {Ts : List (List (Int × Int))} (c : CovOk os rs cs) (t : TallOk os Ts) : ∃ Rs : List (List (Int × Int)), Rs.length = rs.length ∧ (∀ R ∈ Rs, R ∈ Ts) ∧ CovBy Rs (cellsC os os.length) := by
  have pick : ∀ L : List Rect, (∀ r ∈ L, r ∈ rs) → ∃ Rs : List (List (Int × Int)), Rs.length = L.length ∧ (∀ R ∈ Rs, R ∈ Ts) ∧ ∀ r ∈ L, ∃ R ∈ Rs, ∀ (k : Nat) (row : Int), r.1 ≤ k → (k : Int) ≤ r.2.1 → r.2.2.1 ≤ row → row ≤ r.2.2.2 → ((k : Int), row) ∈ R := by
    intro L
    induction L with
    | nil => exact fun _ => ⟨[], rfl, fun R hR => (nomatch hR), fun r hr => (nomatch hr)⟩
    | cons r L ih =>
      intro h
      obtain ⟨Rs, l, sub, cov⟩ := ih fun x hx => h x (List.mem_cons_of_mem _ hx)
      obtain ⟨z0, z1, z2, z3, all⟩ := c.rect r (h r List.mem_cons_self)
      have mid : ∀ row, r.2.2.1 ≤ row → row ≤ r.2.2.2 → AllC os r.1.toNat r.2.1.toNat row := fun row h1 h2 k k1 k2 => colAt_mid (all k (by omega) (by omega)).1 (all k (by omega) (by omega)).2 h1 h2
      obtain ⟨R, hR, full⟩ := t.all r.1.toNat r.2.1.toNat r.2.2.1 (by omega) (mid _ (Int.le_refl _) z3)
      refine ⟨R :: Rs, by rw [List.length_cons, List.length_cons, l], fun S hS => ?_, fun x hx => ?_⟩
      · rcases List.mem_cons.mp hS with rfl | hS
        · exact hR
        · exact sub S hS
      · rcases List.mem_cons.mp hx with rfl | hx
        · exact ⟨R, List.mem_cons_self, fun k row k1 k2 k3 k4 => full k row (by omega) (by omega) (mid row k3 k4)⟩
        · obtain ⟨S, hS, f⟩ := cov x hx
          exact ⟨S, List.mem_cons_of_mem _ hS, f⟩
  obtain ⟨Rs, l, sub, cov⟩ := pick rs fun r h => h
  refine ⟨Rs, l, sub, fun q hq => ?_⟩
  obtain ⟨k, e, h⟩ := mem_cellsA.mp hq
  obtain ⟨r, hr, a1, a2, a3, a4⟩ := c.cov q.2 k h
  obtain ⟨R, hR, f⟩ := cov r hr
  have := f k q.2 a1 a2 a3 a4
  rw [← e] at this
  exact ⟨R, hR, this⟩
/-! #### the states of the search -/
def bI (b : Bool) : Int := if b = true then 1 else 0
def mxZ (a b : Int) : Int := if b > a then b else a
def maskO (cells R : List (Int × Int)) : List Int := cells.map fun q => bI (decide (q ∈ R))
def stO (cells : List (Int × Int)) (Rs : List (List (Int × Int))) : List Int := cells.map fun q => bI (Rs.any fun R => decide (q ∈ R))
theorem stO_nil (cells : List (Int × Int)) : stO cells [] = List.replicate cells.length 0 := by
  unfold stO
  rw [List.eq_replicate_iff]
  refine ⟨List.length_map _, fun b hb => ?_⟩
  obtain ⟨q, _, rfl⟩ := List.mem_map.mp hb
  rfl
theorem zip_map {α : Type} (f g : α → Int) (h : Int → Int → Int) : ∀ l : List α, List.zipWith h (l.map f) (l.map g) = l.map fun q => h (f q) (g q)
  | [] => rfl
  | a :: l => by
    rw [List.map_cons, List.map_cons, List.zipWith_cons_cons, zip_map f g h l]
    rfl
theorem stO_cons (cells R : List (Int × Int)) (Rs : List (List (Int × Int))) : List.zipWith mxZ (stO cells Rs) (maskO cells R) = stO cells (R :: Rs) := by
  unfold stO maskO
  rw [zip_map]
  refine List.map_congr_left fun q _ => ?_
  rw [List.any_cons]
  cases decide (q ∈ R) <;> cases (Rs.any fun R => decide (q ∈ R)) <;> rfl
theorem stO_full {cells : List (Int × Int)} {Rs : List (List (Int × Int))} : (0 : Int) ∉ stO cells Rs ↔ CovBy Rs cells := by
  unfold stO CovBy
  rw [List.mem_map]
  constructor
  · intro h q hq
    refine Classical.byContradiction fun n => h ⟨q, hq, ?_⟩
    have : (Rs.any fun R => decide (q ∈ R)) = false := by
      rw [← Bool.not_eq_true, List.any_eq_true]
      rintro ⟨R, hR, e⟩
      exact n ⟨R, hR, of_decide_eq_true e⟩
    rw [this]
    rfl
  · rintro h ⟨q, hq, e⟩
    obtain ⟨R, hR, hr⟩ := h q hq
    rw [List.any_eq_true.mpr ⟨R, hR, decide_eq_true hr⟩] at e
    cases e
def bitsL : Nat → List (List Int)
  | 0 => [[]]
  | n + 1 => (bitsL n).map (0 :: ·) ++ (bitsL n).map (1 :: ·)
theorem bitsL_len : ∀ n : Nat, (bitsL n).length = 2 ^ n
  | 0 => rfl
  | n + 1 => by
    show ((bitsL n).map (0 :: ·) ++ (bitsL n).map (1 :: ·)).length = 2 ^ (n + 1)
    rw [List.length_append, List.length_map, List.length_map, bitsL_len n, Nat.pow_succ]
    omega
theorem stO_bits (Rs : List (List (Int × Int))) : ∀ cells : List (Int × Int), stO cells Rs ∈ bitsL cells.length
  | [] => List.mem_singleton.mpr rfl
  | q :: cells => by
    show bI (Rs.any fun R => decide (q ∈ R)) :: stO cells Rs ∈ (bitsL cells.length).map (0 :: ·) ++ (bitsL cells.length).map (1 :: ·)
    have ih := stO_bits Rs cells
    cases (Rs.any fun R => decide (q ∈ R)) with
    | false => exact List.mem_append_left _ (List.mem_map.mpr ⟨_, ih, rfl⟩)
    | true => exact List.mem_append_right _ (List.mem_map.mpr ⟨_, ih, rfl⟩)
/-- the states behind k rectangles -/
structure LvOk (cells : List (Int × Int)) (Ts : List (List (Int × Int))) (k : Nat) (Ls : List (List Int)) : Prop where
  nd : Ls.Nodup
  mem : ∀ s, s ∈ Ls ↔ ∃ Rs : List (List (Int × Int)), Rs.length = k ∧ (∀ R ∈ Rs, R ∈ Ts) ∧ s = stO cells Rs
theorem LvOk.len {cells : List (Int × Int)} {Ts : List (List (Int × Int))} {k : Nat} {Ls : List (List Int)} (h : LvOk cells Ts k Ls) (few : cells.length ≤ 16) : Ls.length ≤ 65536 := by
  have := nodup_le h.nd (m := bitsL cells.length) fun s hs => by
    obtain ⟨Rs, _, _, rfl⟩ := (h.mem s).mp hs
    exact stO_bits Rs cells
  rw [bitsL_len] at this
  have : 2 ^ cells.length ≤ 2 ^ 16 := Nat.pow_le_pow_right (by decide) few
  omega
theorem LvOk.zero (cells : List (Int × Int)) (Ts : List (List (Int × Int))) : LvOk cells Ts 0 [List.replicate cells.length 0] where
  nd := by simp
  mem := fun s => by
    rw [List.mem_singleton]
    constructor
    · rintro rfl
      exact ⟨[], rfl, fun R hR => (nomatch hR), (stO_nil cells).symm⟩
    · rintro ⟨Rs, l, _, rfl⟩
      rw [List.length_eq_zero_iff.mp l, stO_nil]
theorem LvOk.succ {cells : List (Int × Int)} {Ts : List (List (Int × Int))} {k : Nat} {Ls Ls' : List (List Int)} (h : LvOk cells Ts k Ls) (nd : Ls'.Nodup) (snd : ∀ s' ∈ Ls', ∃ s ∈ Ls, ∃ R ∈ Ts, s' = List.zipWith mxZ s (maskO cells R)) (cpl : ∀ s ∈ Ls, ∀ R ∈ Ts, List.zipWith mxZ s (maskO cells R) ∈ Ls') : LvOk cells Ts (k + 1) Ls' where
  nd := nd
  mem := fun s' => by
    constructor
    · intro hs
      obtain ⟨s, hs2, R, hR, rfl⟩ := snd s' hs
      obtain ⟨Rs, l, sub, rfl⟩ := (h.mem s).mp hs2
      refine ⟨R :: Rs, by rw [List.length_cons, l], fun S hS => ?_, stO_cons cells R Rs⟩
      rcases List.mem_cons.mp hS with rfl | hS
      · exact hR
      · exact sub S hS
    · rintro ⟨Rs, l, sub, rfl⟩
      cases Rs with
      | nil => cases l
      | cons R Rs =>
        rw [← stO_cons]
        exact cpl _ ((h.mem _).mpr ⟨Rs, Nat.succ.inj l, fun S hS => sub S (List.mem_cons_of_mem _ hS), rfl⟩) R (sub R List.mem_cons_self)

def sp_cells : Sp := fun vs H Q _ => ∃ (a : Addr) (us : List V) (os : List (Option (Int × Int))), vs = [.ref a] ∧ H a = some (.tup us) ∧ OVs H us os ∧ os.length ≤ 4 ∧ (∀ x y, some (x, y) ∈ os → 0 ≤ x ∧ x ≤ y ∧ y < 4) ∧
  ∀ H' p ws, Same H H' → H p = none → H' p = some (.lst ws) → Ivs H' ws (cellsC os os.length) → Q (.ref p) H'
theorem colC_none {os : List (Option (Int × Int))} {j : Nat} (e : os[j]? = some none) : colC os j = [] := by
  unfold colC
  rw [e]
theorem colC_some {os : List (Option (Int × Int))} {j : Nat} {x y : Int} (e : os[j]? = some (some (x, y))) : colC os j = (rowsI x y).map fun r => ((j : Int), r) := by
  unfold colC
  rw [e]
theorem ok_law_board_cells (T : Tx K mg f_depth_changes f_find_blocks f_has_position f_contains f_serves f_conflict f_demands_at_blocks f_is_open f_open_demands f_shadow_target f_decisive_demands f_largest_independent f_unserved_demands f_helpful_piece f_smallest_solution f_row_runs f_rows_of_runs f_tallest_rectangle f_cover_board f_law_draws f_law_next f_law_column f_law_board f_law_is_int f_law_inside f_law_full f_law_is_rectangle f_law_apart f_law_levels f_law_ascends f_law_covered f_law_is_cell f_law_holds f_law_board_cells f_law_number f_law_tallest f_law_fewest f_law_most f_law d_depth_changes d_find_blocks d_has_position d_contains d_serves d_conflict d_demands_at_blocks d_is_open d_open_demands d_shadow_target d_decisive_demands d_largest_independent d_unserved_demands d_helpful_piece d_smallest_solution d_row_runs d_rows_of_runs d_tallest_rectangle d_cover_board d_law_draws d_law_next d_law_column d_law_board d_law_is_int d_law_inside d_law_full d_law_is_rectangle d_law_apart d_law_levels d_law_ascends d_law_covered d_law_is_cell d_law_holds d_law_board_cells d_law_number d_law_tallest d_law_fewest d_law_most d_law) : FnOk P w K mg base CX0 1 f_law_board_cells d_law_board_cells ["_law_board_here"] sp_cells := by
  refine T.F_law_board_cells.ok sc_law_board_cells (fun vs H Q E h => ?_) (fun cdv A outer s H vs Q E hr h => ?_)
  · obtain ⟨a, us, os, rfl, _⟩ := h
    rfl
  · obtain ⟨a, us, os, rfl, ha, ovs, few, rows, q⟩ := h
    refine ⟨_, (pss_cons (ps_set (i := 1) sc_law_board_cells.nd rfl (Or.inl rfl) (pe_lst pa_nil))
      (pss_cons (ps_for PassesOwn.never rfl (pi_range1 (by rfl) T.z_range (pa_cons (pe_callB call_len_seq (by rfl) T.z_len PySem.boot_len (pa_cons (pv 0) pa_nil)) pa_nil)) (pg_name (i := 2) sc_law_board_cells.nd rfl (Or.inr rfl))
      (pss_one (ps_if (pt_cmpR op_notN (pe_ix ix_tup (pv 0) (pv 2) (fun _ _ => rfl)) pe_non (nomark _))
      (pss_one (ps_set (i := 1) sc_law_board_cells.nd rfl (Or.inl rfl) (pe_op op_cat (pv 1) (pe_lc (own := [("_law_row", 3)]) (g := (gName 3)) (tt := tYes) (by rfl) sc_law_board_cells.nd (pi_range2 (by rfl) T.z_range (pa_cons (pe_ix ix_tup (pe_ix ix_tup (pv 0) (pv 2) (fun _ _ => rfl)) pe_int (fun _ _ => rfl)) (pa_cons (pe_op op_add (pe_ix ix_tup (pe_ix ix_tup (pv 0) (pv 2) (fun _ _ => rfl)) pe_int (fun _ _ => rfl)) pe_int) pa_nil))) (blkOk_by (own := [("_law_row", 3)]) (N := N_law_board_cells) (sc := defScope s_law_board_cells) (by decide +kernel)) (fun _ _ _ _ _ => (pg_name (i := 3) sc_law_board_cells.nd rfl (Or.inl rfl))) (fun _ _ _ _ _ => pts_nil) (fun _ _ _ _ _ => (pe_tup (pa_cons (pv 2) (pa_cons (pv 3) pa_nil))))))))
      pss_nil)))
      (pss_one (ps_ret (pv 1))))), ?_⟩
    have lu := ovs.1
    refine ⟨by show 0 ≤ sizeLine; decide, fun l nl => ?_⟩
    have sl := same_new (o := .lst []) nl
    have el := upd_same (H := H) (a := l) (o := .lst [])
    generalize upd H l (.lst []) = H1 at *
    refine ⟨.ref a, rfl, a, us, rfl, .inr (SqT.of (sl _ _ ha)), _, rfl, by omega, by omega, ?_⟩
    refine for_range (D := ⟨_, _, fun _ _ => True, fun _ _ => True⟩) (n := us.length) (fun j σ H' => Same H H' ∧ ∃ p ws y2 y3, H p = none ∧ H' p = some (.lst ws) ∧ Ivs H' ws (cellsC os j) ∧ σ = [some (.ref a), some (.ref p), y2, y3])
      ⟨sl, l, [], _, _, nl, el, .nil, rfl⟩ ?_ ?_
    · rintro j σ H2 hj ⟨s2, p, ws, y2, y3, np, ep, iv, rfl⟩
      obtain ⟨v, hv⟩ : ∃ v, us[j]? = some v := ⟨_, List.getElem?_eq_getElem hj⟩
      obtain ⟨o, eo, ov⟩ := ovs.2 j v hv
      have ov := ov.same s2
      have at_ : atI us (0 + (j : Nat)) = some v := by
        rw [Int.zero_add]
        exact atI_nat hv
      refine ⟨.ref a, rfl, .int (0 + (j : Nat)), rfl, a, us, _, v, rfl, rfl, SqT.of (s2 _ _ ha), at_, rfl, ?_⟩
      rw [ov.isN]
      match o, ov with
      | none, ov =>
        refine ⟨_, rfl, iteF ⟨s2, p, ws, _, _, np, ep, ?_, rfl⟩⟩
        rw [cellsC_succ, colC_none eo, List.append_nil]
        exact iv
      | some (x, y), ⟨t, ev, ht⟩ =>
        subst ev
        have r4 := rows x y (List.mem_of_getElem? eo)
        have lc := cellsC_len rows j
        have lw := iv.length
        refine ⟨_, rfl, iteT ⟨.ref p, rfl, .ref a, rfl, .int (0 + (j : Nat)), rfl, a, us, _, .ref t, rfl, rfl, SqT.of (s2 _ _ ha), at_, t, _, 0, .int x, rfl, rfl, SqT.of ht, rfl, .ref a, rfl, .int (0 + (j : Nat)), rfl, a, us, _, .ref t, rfl, rfl, SqT.of (s2 _ _ ha), at_, t, _, 1, .int y, rfl, rfl, SqT.of ht, rfl, _, _, rfl, rfl, x, y + 1, rfl, ⟨by omega, by omega, by omega, by omega⟩, fun D nD => ?_⟩⟩
        refine lcR (lo := x) (n := (y + 1 - x).toNat) (fun i H' ws => Ivs H' ws ((List.range i).map fun k : Nat => ((j : Int), x + (k : Int)))) nD (by omega) (fun _ _ _ _ t r => r.tps t) (fun i H' ws r => by rw [r.length, List.length_map, List.length_range]; exact Nat.le_refl _) (fun _ => .nil) ?_ ?_
        · rintro i H' N acc hi sj eA sz rr no yes
          refine ⟨rfl, .int (0 + (j : Nat)), rfl, .int (x + (i : Nat)), rfl, by show 2 ≤ sizeLine; decide, fun tn ntn => yes _ _ (same_new ntn) ?_⟩
          rw [List.range_succ, List.map_append]
          exact (rr.same (same_new ntn)).snoc (upd_same.trans (by rw [Int.zero_add]))
        intro H3 w3 s3 eD rr
        have lr := rr.length
        rw [List.length_map, List.length_range] at lr
        refine ⟨p, D, _, _, rfl, rfl, s3 _ _ ep, eD, by rw [sizeLine_eq]; omega, fun b2 nb2 => ?_⟩
        have s4 := same_new (o := .lst (ws ++ w3)) nb2
        refine ⟨s2.trans (s3.trans s4), b2, ws ++ w3, _, _, (s2.trans s3).free nb2, upd_same, ?_, rfl⟩
        rw [cellsC_succ, colC_some eo]
        unfold rowsI
        rw [List.map_map]
        exact (iv.same (s3.trans s4)).append (rr.same s4)
    · rintro σ H2 ⟨s2, p, ws, y2, y3, np, ep, iv, rfl⟩
      rw [lu] at iv
      exact ⟨.ref p, rfl, q _ p ws s2 np ep iv⟩
/-- objects behind a list's references -/
def RefsX {α : Type} (D : Addr) (tag : List V → HO) (ok : Hp → List V → α → Prop) (H : Hp) (vs : List V) (xs : List α) : Prop := vs.length = xs.length ∧ ∀ (i : Nat) (v : V), vs[i]? = some v → ∃ x a us, xs[i]? = some x ∧ v = V.ref a ∧ a ≠ D ∧ H a = some (tag us) ∧ ok H us x
theorem RefsX.nil {α : Type} {D : Addr} {tag : List V → HO} {ok : Hp → List V → α → Prop} {H : Hp} : RefsX D tag ok H [] [] := ⟨rfl, fun i v e => by simp at e⟩
theorem RefsX.kept {α : Type} {D : Addr} {tag : List V → HO} {ok : Hp → List V → α → Prop} {H H' : Hp} {vs : List V} {xs : List α} (h : RefsX D tag ok H vs xs) (s : ∀ b o, b ≠ D → H b = some o → H' b = some o) (m : ∀ us x, ok H us x → ok H' us x) : RefsX D tag ok H' vs xs := ⟨h.1, fun i v e => by
  obtain ⟨x, a, us, e1, e2, n, e3, e4⟩ := h.2 i v e
  exact ⟨x, a, us, e1, e2, n, s _ _ n e3, m _ _ e4⟩⟩
theorem RefsX.snoc {α : Type} {D : Addr} {tag : List V → HO} {ok : Hp → List V → α → Prop} {H : Hp} {vs : List V} {xs : List α} (h : RefsX D tag ok H vs xs) {x : α} {a : Addr} {us : List V} (n : a ≠ D) (e : H a = some (tag us)) (o : ok H us x) : RefsX D tag ok H (vs ++ [V.ref a]) (xs ++ [x]) := by
  refine ⟨by rw [List.length_append, List.length_append, h.1]; rfl, fun i v hi => ?_⟩
  rcases Nat.lt_or_ge i vs.length with l | l
  · rw [List.getElem?_append_left l] at hi
    obtain ⟨x, a, us, e1, r⟩ := h.2 i v hi
    exact ⟨x, a, us, by rw [List.getElem?_append_left (by rw [← h.1]; exact l)]; exact e1, r⟩
  · have z : i - vs.length = 0 := by
      have := (List.getElem?_eq_some_iff.mp hi).1
      rw [List.length_append] at this
      simp at this
      omega
    rw [List.getElem?_append_right l, z] at hi
    cases hi
    exact ⟨x, a, us, by rw [List.getElem?_append_right (by rw [← h.1]; exact l), ← h.1, z]; rfl, rfl, n, e, o⟩
theorem botTop {os : List (Option (Int × Int))} {l r : Nat} {b t row : Int} (hb : BotR os (l, r) b) (ht : TopR os (l, r) t) (all : ∀ k, l ≤ k → k ≤ r → ∃ q, os[k]? = some (some q)) : AllC os l r row ↔ b ≤ row ∧ row ≤ t := by
  constructor
  · intro h
    obtain ⟨⟨k, x, y, k1, k2, e, rfl⟩, _⟩ := hb
    obtain ⟨⟨k', x', y', k1', k2', e', rfl⟩, _⟩ := ht
    have k1 : (l : Int) ≤ k := k1
    have k2 : (k : Int) ≤ r := k2
    have k1' : (l : Int) ≤ k' := k1'
    have k2' : (k' : Int) ≤ r := k2'
    have h1 := h k (by omega) (by omega)
    have h2 := h k' (by omega) (by omega)
    rw [colAt_some e, Bool.and_eq_true, decide_eq_true_iff, decide_eq_true_iff] at h1
    rw [colAt_some e', Bool.and_eq_true, decide_eq_true_iff, decide_eq_true_iff] at h2
    exact ⟨h1.1, h2.2⟩
  · rintro ⟨h1, h2⟩ k k1 k2
    obtain ⟨⟨x, y⟩, e⟩ := all k k1 k2
    have a1 := hb.2 k x y (by show (l : Int) ≤ k; omega) (by show (k : Int) ≤ r; omega) e
    have a2 := ht.2 k x y (by show (l : Int) ≤ k; omega) (by show (k : Int) ≤ r; omega) e
    rw [colAt_some e, decide_eq_true (show x ≤ row by omega), decide_eq_true (show row ≤ y by omega)]
    rfl
/-- the rectangles of the intervals of columns in D -/
structure TallP (os : List (Option (Int × Int))) (D : Nat → Nat → Prop) (Rs : List (List (Int × Int))) : Prop where
  one : ∀ R ∈ Rs, ∃ l r : Nat, ∀ q ∈ R, AllC os l r q.2 ∧ ∃ k : Nat, q.1 = k ∧ l ≤ k ∧ k ≤ r
  all : ∀ (l r : Nat) (row : Int), D l r → l ≤ r → AllC os l r row → ∃ R ∈ Rs, ∀ (k : Nat) (row' : Int), l ≤ k → k ≤ r → AllC os l r row' → ((k : Int), row') ∈ R
  len : ∀ R ∈ Rs, 0 < R.length ∧ R.length ≤ 16
theorem TallP.skip {os : List (Option (Int × Int))} {D D' : Nat → Nat → Prop} {Rs : List (List (Int × Int))} (h : TallP os D Rs) (s : ∀ l r, D' l r → l ≤ r → D l r ∨ ∀ row, ¬ AllC os l r row) : TallP os D' Rs where
  one := h.one
  all := fun l r row d lr a => by
    rcases s l r d lr with z | z
    · exact h.all l r row z lr a
    · exact absurd a (z row)
  len := h.len
theorem TallP.add {os : List (Option (Int × Int))} {D D' : Nat → Nat → Prop} {Rs : List (List (Int × Int))} {R : List (Int × Int)} {l0 r0 : Nat} (h : TallP os D Rs) (s : ∀ l r, D' l r → D l r ∨ (l = l0 ∧ r = r0)) (l : 0 < R.length ∧ R.length ≤ 16) (mem : ∀ q, q ∈ R ↔ AllC os l0 r0 q.2 ∧ ∃ k : Nat, q.1 = k ∧ l0 ≤ k ∧ k ≤ r0) : TallP os D' (Rs ++ [R]) where
  one := fun S hS => by
    rcases List.mem_append.mp hS with hS | hS
    · exact h.one S hS
    · rw [List.mem_singleton.mp hS]
      exact ⟨l0, r0, fun q hq => (mem q).mp hq⟩
  all := fun l r row d lr a => by
    rcases s l r d with z | ⟨rfl, rfl⟩
    · obtain ⟨S, hS, f⟩ := h.all l r row z lr a
      exact ⟨S, List.mem_append_left _ hS, f⟩
    · exact ⟨R, List.mem_append_right _ (List.mem_singleton.mpr rfl), fun k row' k1 k2 a' => (mem _).mpr ⟨a', k, rfl, k1, k2⟩⟩
  len := fun S hS => by
    rcases List.mem_append.mp hS with hS | hS
    · exact h.len S hS
    · rw [List.mem_singleton.mp hS]
      exact l
/-- the cells of the columns l .. l + n - 1 in the rows of a list -/
def recC (l : Nat) (rws : List Int) (n : Nat) : List (Int × Int) := (List.range n).flatMap fun i : Nat => rws.map fun row => ((l : Int) + (i : Int), row)
theorem recC_succ (l : Nat) (rws : List Int) (n : Nat) : recC l rws (n + 1) = recC l rws n ++ rws.map fun row => ((l : Int) + (n : Int), row) := by
  unfold recC
  rw [List.range_succ, List.flatMap_append]
  simp
theorem recC_len (l : Nat) (rws : List Int) : ∀ n, (recC l rws n).length = n * rws.length
  | 0 => by rw [Nat.zero_mul]; rfl
  | n + 1 => by rw [recC_succ, List.length_append, recC_len l rws n, List.length_map, Nat.succ_mul]
theorem mem_recC {l : Nat} {rws : List Int} {n : Nat} {q : Int × Int} : q ∈ recC l rws n ↔ q.2 ∈ rws ∧ ∃ k : Nat, q.1 = k ∧ l ≤ k ∧ k < l + n := by
  unfold recC
  rw [List.mem_flatMap]
  constructor
  · rintro ⟨i, hi, h⟩
    obtain ⟨row, hr, rfl⟩ := List.mem_map.mp h
    have := List.mem_range.mp hi
    exact ⟨hr, l + i, rfl, by omega, by omega⟩
  · rintro ⟨hr, k, e, k1, k2⟩
    exact ⟨k - l, List.mem_range.mpr (by omega), List.mem_map.mpr ⟨q.2, hr, Prod.ext (by show (l : Int) + ((k - l : Nat) : Int) = q.1; omega) rfl⟩⟩
theorem any_none {cs : List (Option (Int × Int))} : (cs.map colD).any (fun z => PyData.eqv z .none) = cs.any (·.isNone) := by
  induction cs with
  | nil => rfl
  | cons o r ih =>
    rw [List.map_cons, List.any_cons, List.any_cons, ih]
    rcases o with _ | ⟨x, y⟩ <;> rfl
theorem shaped_cols (cs : List (Option (Int × Int))) : SeqAt.shaped (.tuple (cs.map colD)) = true := by
  have h1 : ∀ cs : List (Option (Int × Int)), PyData.canLayAll0 (cs.map colD) = true ∧ PyData.depthAll (cs.map colD) ≤ 1 := by
    intro cs
    induction cs with
    | nil => exact ⟨rfl, Nat.zero_le _⟩
    | cons o r ih =>
      rcases o with _ | ⟨x, y⟩
      · refine ⟨ih.1, ?_⟩
        show max 0 (PyData.depthAll (r.map colD)) ≤ 1
        omega
      · refine ⟨ih.1, ?_⟩
        show max 1 (PyData.depthAll (r.map colD)) ≤ 1
        omega
  unfold SeqAt.shaped
  rw [show PyData.canLay0 (.tuple (cs.map colD)) = PyData.canLayAll0 (cs.map colD) from rfl, (h1 cs).1]
  show decide (PyData.depthAll (cs.map colD) + 1 ≤ 64) = true
  exact decide_eq_true (by have := (h1 cs).2; omega)
theorem OVs.cutD {H : Hp} {us : List V} {os : List (Option (Int × Int))} (h : OVs H us os) (l n : Nat) : OVs H ((us.drop l).take n) ((os.drop l).take n) := by
  refine ⟨by rw [List.length_take, List.length_take, List.length_drop, List.length_drop, h.1], fun i v e => ?_⟩
  rw [List.getElem?_take] at e ⊢
  split at e
  · next c =>
    rw [if_pos c]
    rw [List.getElem?_drop] at e ⊢
    exact h.2 _ v e
  · cases e
theorem rg_rows (x y : Int) : rgV x (y + 1) = (rowsI x y).map V.int := by
  unfold rgV rowsI
  rw [List.map_map]
  rfl
def sp_tall : Sp := fun vs H Q _ => ∃ (a : Addr) (us : List V) (os : List (Option (Int × Int))), vs = [.ref a] ∧ H a = some (.tup us) ∧ OVs H us os ∧ os.length ≤ 4 ∧ (∀ x y, some (x, y) ∈ os → 0 ≤ x ∧ x ≤ y ∧ y < 4) ∧
  ∀ H' p ws Ts, Same H H' → H p = none → H' p = some (.lst ws) → RefsX p HO.lst (fun H us R => Ivs H us R) H' ws Ts → TallOk os Ts → (∀ R ∈ Ts, 0 < R.length ∧ R.length ≤ 16) → Ts.length ≤ 16 → Q (.ref p) H'
theorem ok_law_tallest (T : Tx K mg f_depth_changes f_find_blocks f_has_position f_contains f_serves f_conflict f_demands_at_blocks f_is_open f_open_demands f_shadow_target f_decisive_demands f_largest_independent f_unserved_demands f_helpful_piece f_smallest_solution f_row_runs f_rows_of_runs f_tallest_rectangle f_cover_board f_law_draws f_law_next f_law_column f_law_board f_law_is_int f_law_inside f_law_full f_law_is_rectangle f_law_apart f_law_levels f_law_ascends f_law_covered f_law_is_cell f_law_holds f_law_board_cells f_law_number f_law_tallest f_law_fewest f_law_most f_law d_depth_changes d_find_blocks d_has_position d_contains d_serves d_conflict d_demands_at_blocks d_is_open d_open_demands d_shadow_target d_decisive_demands d_largest_independent d_unserved_demands d_helpful_piece d_smallest_solution d_row_runs d_rows_of_runs d_tallest_rectangle d_cover_board d_law_draws d_law_next d_law_column d_law_board d_law_is_int d_law_inside d_law_full d_law_is_rectangle d_law_apart d_law_levels d_law_ascends d_law_covered d_law_is_cell d_law_holds d_law_board_cells d_law_number d_law_tallest d_law_fewest d_law_most d_law) : FnOk P w K mg base CX0 1 f_law_tallest d_law_tallest ["_law_board_here"] sp_tall := by
  refine T.F_law_tallest.ok sc_law_tallest (fun vs H Q E h => ?_) (fun cdv A outer s H vs Q E hr h => ?_)
  · obtain ⟨a, us, os, rfl, _⟩ := h
    rfl
  · obtain ⟨a, us, os, rfl, ha, ovs, few, rows, q⟩ := h
    refine ⟨_, (pss_cons (ps_set (i := 1) sc_law_tallest.nd rfl (Or.inl rfl) (pe_lst pa_nil))
      (pss_cons (ps_for PassesOwn.never rfl (pi_range1 (by rfl) T.z_range (pa_cons (pe_callB call_len_seq (by rfl) T.z_len PySem.boot_len (pa_cons (pv 0) pa_nil)) pa_nil)) (pg_name (i := 2) sc_law_tallest.nd rfl (Or.inl rfl))
      (pss_one (ps_for PassesOwn.never rfl (pi_range2 (by rfl) T.z_range (pa_cons (pv 2) (pa_cons (pe_callB call_len_seq (by rfl) T.z_len PySem.boot_len (pa_cons (pv 0) pa_nil)) pa_nil))) (pg_name (i := 3) sc_law_tallest.nd rfl (Or.inl rfl))
      (pss_cons (ps_set (i := 4) sc_law_tallest.nd rfl (Or.inl rfl) (pe_slice sl_tupA (pv 0) (po_some (pv 2)) (po_some (pe_op op_add (pv 3) pe_int))))
      (pss_one (ps_if (pt_cmpR (op_notInT (units65 hr)) pe_non (pv 4) (by rfl))
      (pss_cons (ps_par (by rfl) sc_law_tallest.nd (i := 5) (j := 6) rfl rfl (by decide) rfl rfl (pa_cons (pe_callB (cr_max rfl) (by rfl) T.z_max (by decide +kernel) (pa_cons (pe_lc (own := [("_law_c", 7)]) (g := (gName 7)) (tt := tYes) (by rfl) sc_law_tallest.nd (pi_tup (pv 4)) (blkOk_by (own := [("_law_c", 7)]) (N := N_law_tallest) (sc := defScope s_law_tallest) (by decide +kernel)) (fun _ _ _ _ _ => (pg_name (i := 7) sc_law_tallest.nd rfl (Or.inl rfl))) (fun _ _ _ _ _ => pts_nil) (fun _ _ _ _ _ => (pe_ix (show IxR _ (rIxT K) from ix_tup) (pv 7) pe_int (fun _ _ => rfl)))) pa_nil)) (pa_cons (pe_callB (cr_min rfl) (by rfl) T.z_min (by decide +kernel) (pa_cons (pe_lc (own := [("_law_c", 7)]) (g := (gName 7)) (tt := tYes) (by rfl) sc_law_tallest.nd (pi_tup (pv 4)) (blkOk_by (own := [("_law_c", 7)]) (N := N_law_tallest) (sc := defScope s_law_tallest) (by decide +kernel)) (fun _ _ _ _ _ => (pg_name (i := 7) sc_law_tallest.nd rfl (Or.inl rfl))) (fun _ _ _ _ _ => pts_nil) (fun _ _ _ _ _ => (pe_ix (show IxR _ (rIxT K) from ix_tup) (pv 7) pe_int (fun _ _ => rfl)))) pa_nil)) pa_nil)) (by rfl))
      (pss_cons (ps_set (i := 8) sc_law_tallest.nd rfl (Or.inl rfl) (pe_listRg rfl (by rfl) T.z_list (prg_2 (by rfl) T.z_range (pv 5) (pe_op op_add (pv 6) pe_int))))
      (pss_cons (ps_set (i := 9) sc_law_tallest.nd rfl (Or.inl rfl) (pe_lst pa_nil))
      (pss_cons (ps_for PassesOwn.never rfl (pi_range2 (by rfl) T.z_range (pa_cons (pv 2) (pa_cons (pe_op op_add (pv 3) pe_int) pa_nil))) (pg_name (i := 7) sc_law_tallest.nd rfl (Or.inr rfl))
      (pss_one (ps_set (i := 9) sc_law_tallest.nd rfl (Or.inl rfl) (pe_op op_cat (pv 9) (pe_lc (own := [("_law_row", 10)]) (g := (gName 10)) (tt := tYes) (by rfl) sc_law_tallest.nd (pi_list (pv 8)) (blkOk_by (own := [("_law_row", 10)]) (N := N_law_tallest) (sc := defScope s_law_tallest) (by decide +kernel)) (fun _ _ _ _ _ => (pg_name (i := 10) sc_law_tallest.nd rfl (Or.inl rfl))) (fun _ _ _ _ _ => pts_nil) (fun _ _ _ _ _ => (pe_tup (pa_cons (pv 7) (pa_cons (pv 10) pa_nil)))))))))
      (pss_one (ps_if (pt_cmpR (op_neL hr.units0) (pv 9) (pe_lst pa_nil) (nomark _))
      (pss_one (ps_expr (pe_bm PySem.F.plainAttrs_list PySem.F.slot_list_append PySem.F.type_list_append mt_append (pv 1) (pa_cons (pv 9) pa_nil))))
      pss_nil))))))
      pss_nil))))))
      (pss_one (ps_ret (pv 1))))), ?_⟩
    have lu := ovs.1
    refine ⟨by show 0 ≤ sizeLine; decide, fun p np => ?_⟩
    have sp := same_new (o := .lst []) np
    have ep := upd_same (H := H) (a := p) (o := .lst [])
    generalize upd H p (.lst []) = H1 at *
    refine ⟨.ref a, rfl, a, us, rfl, .inr (SqT.of (sp _ _ ha)), _, rfl, by omega, by omega, ?_⟩
    have tp : ∀ {H' : Hp}, (∀ b o, b ≠ p → H1 b = some o → H' b = some o) → Same H H' := fun k b o e => k b o (ne_of_none e np) (sp b o e)
    refine for_range (D := ⟨_, _, fun _ _ => True, fun _ _ => True⟩) (n := us.length) (fun i σ H' => (∀ b o, b ≠ p → H1 b = some o → H' b = some o) ∧ (∃ ws Ts, H' p = some (.lst ws) ∧ RefsX p HO.lst (fun H us R => Ivs H us R) H' ws Ts ∧ TallP os (fun l r => l < i) Ts ∧ Ts.length ≤ 4 * i) ∧ ∃ y2 y3 y4 y5 y6 y7 y8 y9 y10, σ = [some (.ref a), some (.ref p), y2, y3, y4, y5, y6, y7, y8, y9, y10])
      ⟨fun b o _ e => e, ⟨[], [], ep, .nil, ⟨fun R hR => (nomatch hR), fun l r row h => absurd h (Nat.not_lt_zero _), fun R hR => (nomatch hR)⟩, Nat.zero_le _⟩, _, _, _, _, _, _, _, _, _, rfl⟩ ?_ ?_
    · rintro l σ H2 hl ⟨k2, ⟨ws, Ts, ep2, rx, tl, ln⟩, y2, y3, y4, y5, y6, y7, y8, y9, y10, rfl⟩
      refine ⟨.int (0 + (l : Nat)), rfl, .ref a, rfl, a, us, rfl, .inr (SqT.of (tp k2 _ _ ha)), _, _, rfl, ?_⟩
      refine ⟨⟨by omega, by omega, by omega, by omega⟩, ?_⟩
      refine for_range (lo := 0 + (l : Int)) (D := ⟨_, _, fun _ _ => True, fun _ _ => True⟩) (n := ((us.length : Int) - (0 + (l : Nat))).toNat) (fun j σ H' => (∀ b o, b ≠ p → H1 b = some o → H' b = some o) ∧ (∃ ws Ts, H' p = some (.lst ws) ∧ RefsX p HO.lst (fun H us R => Ivs H us R) H' ws Ts ∧ TallP os (fun l' r' => l' < l ∨ (l' = l ∧ r' < l + j)) Ts ∧ Ts.length ≤ 4 * l + j) ∧ ∃ y3 y4 y5 y6 y7 y8 y9 y10, σ = [some (.ref a), some (.ref p), some (.int (0 + (l : Nat))), y3, y4, y5, y6, y7, y8, y9, y10])
        ⟨k2, ⟨ws, Ts, ep2, rx, tl.skip (fun l' r' d lr => by
          rcases d with d | ⟨_, d⟩
          · exact .inl d
          · omega), ln⟩, _, _, _, _, _, _, _, _, rfl⟩ ?_ ?_
      · rintro j σ H3 hj ⟨k3, ⟨ws3, Ts3, ep3, rx3, tl3, ln3⟩, y3, y4, y5, y6, y7, y8, y9, y10, rfl⟩
        have sH3 := tp k3
        have hr : l + j < os.length := by omega
        refine ⟨.ref a, rfl, .int (0 + (l : Nat)), rfl, (0 + (l : Nat) : Int), rfl, .int (0 + (l : Nat) + (j : Nat)), rfl, _, _, rfl, rfl, (0 + (l : Nat) + (j : Nat) + 1 : Int), rfl, slA_any (sH3 _ _ ha) (fun H4 c s4 ec => ?_)⟩
        rw [show (0 + (l : Nat) : Int) = ((l : Nat) : Int) by omega, show ((l : Nat) + (j : Nat) + 1 : Int) = ((l + j + 1 : Nat) : Int) by omega, cutMid us l (l + j + 1) (by omega) (by omega)] at ec
        have ovc := ((ovs.same sH3).same s4).cutD l (l + j + 1 - l)
        have lcut : ((us.drop l).take (l + j + 1 - l)).length = j + 1 := by
          rw [List.length_take, List.length_drop]
          omega
        have sp4 := shaped_cols ((os.drop l).take (l + j + 1 - l))
        refine ⟨.ref c, rfl, .none, _, .non, .tup (SqT.of ec) ovc.dp, rfl, sp4, ?_⟩
        rw [any_none]
        have k4 : ∀ b o, b ≠ p → H1 b = some o → H4 b = some o := fun b o nb e => s4 _ _ (k3 b o nb e)
        have ep4 := s4 _ _ ep3
        have rx4 : RefsX p HO.lst (fun H us R => Ivs H us R) H4 ws3 Ts3 := rx3.kept (fun b o _ e => s4 _ _ e) (fun us x r => r.same s4)
        refine ⟨_, rfl, ?_⟩
        cases hn : ((os.drop l).take (l + j + 1 - l)).any (·.isNone) with
        | true =>
          refine iteF ⟨k4, ⟨ws3, Ts3, ep4, rx4, tl3.skip (fun l' r' d lr => ?_), by omega⟩, _, _, _, _, _, _, _, _, rfl⟩
          rcases d with d | ⟨rfl, d⟩
          · exact .inl (.inl d)
          · by_cases e : r' < l' + j
            · exact .inl (.inr ⟨rfl, e⟩)
            · refine .inr fun row all => ?_
              obtain ⟨o, ho, on⟩ := List.any_eq_true.mp hn
              obtain ⟨i, hi, e2⟩ := List.getElem_of_mem ho
              rw [List.length_take, List.length_drop] at hi
              have e3 : ((os.drop l').take (l' + j + 1 - l'))[i]? = some o := by
                rw [← e2]
                exact List.getElem?_eq_getElem _
              rw [List.getElem?_take_of_lt (by omega), List.getElem?_drop] at e3
              have := all (l' + i) (by omega) (by omega)
              rcases o with _ | o
              · rw [colAt_none e3] at this
                cases this
              · cases on
        | false =>
          have allS : ∀ k, l ≤ k → k ≤ l + j → ∃ q, os[k]? = some (some q) := fun k k1 k2 => by
            have e3 : os[k]? = some os[k] := List.getElem?_eq_getElem (by omega)
            rcases ho : os[k] with _ | q
            · have : ((os.drop l).take (l + j + 1 - l)).any (·.isNone) = true := by
                refine List.any_eq_true.mpr ⟨none, List.mem_of_getElem? (i := k - l) ?_, rfl⟩
                rw [List.getElem?_take_of_lt (by omega), List.getElem?_drop, show l + (k - l) = k by omega, e3, ho]
              rw [this] at hn
              cases hn
            · exact ⟨q, by rw [e3, ho]⟩
          have item : ∀ {i : Nat} {v : V} {H' : Hp}, Same H4 H' → ((us.drop l).take (l + j + 1 - l))[i]? = some v → ∃ t x y, v = V.ref t ∧ os[l + i]? = some (some (x, y)) ∧ H' t = some (.tup [.int x, .int y]) := fun {i v H'} sm hi => by
            have il := (List.getElem?_eq_some_iff.mp hi).1
            rw [lcut] at il
            obtain ⟨o, eo, ov⟩ := ovc.2 i v hi
            rw [List.getElem?_take_of_lt (by omega), List.getElem?_drop] at eo
            obtain ⟨⟨x, y⟩, e2⟩ := allS (l + i) (by omega) (by omega)
            rw [e2] at eo
            injection eo with eo
            subst eo
            obtain ⟨t, e, ht⟩ := ov
            exact ⟨t, x, y, e, e2, sm _ _ ht⟩
          refine iteT ⟨.ref c, rfl, c, rfl, ⟨_, SqT.of ec⟩, fun D nD => ?_⟩
          refine lcT (K := K) (a := c) (xs := (us.drop l).take (l + j + 1 - l)) (fun j H' ws => ∃ xs : List Int, ws = xs.map V.int ∧ IntsAt os l (·.1) j xs) nD (fun H' s => SqT.of (s _ _ (ec))) (by omega) (fun _ _ _ _ t r => r) (fun j H' ws r => (by obtain ⟨xs, e, z⟩ := r; rw [e, List.length_map, z.1]; exact Nat.le_refl _)) (fun _ => ⟨[], rfl, IntsAt.nil _ _ _⟩) ?_ ?_
          · rintro i v H' N acc hi sm eA sz rr no yes
            obtain ⟨t, x, y, rfl, e2, ht⟩ := item sm hi
            obtain ⟨xs, e3, ia⟩ := rr
            refine ⟨rfl, .ref t, rfl, t, _, 0, .int x, rfl, rfl, SqT.of ht, rfl, yes H' _ (Same.refl _) ⟨xs ++ [x], ?_, ia.snoc e2⟩⟩
            rw [e3, List.map_append]
            rfl
          intro H5 w5 s5 eD rr
          rw [lcut] at rr
          obtain ⟨xs, rfl, ia⟩ := rr
          refine ⟨D, xs, rfl, SqL.of eD, by rw [ia.1]; omega, fun m hm allm => ?_⟩
          have bot : BotR os (l, l + j) m := by
            have := IntsAt.max (r := l + j) (by rw [show l + j + 1 - l = j + 1 by omega]; exact ia) hm allm
            exact this
          refine ⟨.ref c, rfl, c, rfl, ⟨_, SqT.of (s5 _ _ ec)⟩, fun D2 nD2 => ?_⟩
          refine lcT (K := K) (a := c) (xs := (us.drop l).take (l + j + 1 - l)) (fun j H' ws => ∃ xs : List Int, ws = xs.map V.int ∧ IntsAt os l (·.2) j xs) nD2 (fun H' s => SqT.of (s _ _ ((s5 _ _ ec)))) (by omega) (fun _ _ _ _ t r => r) (fun j H' ws r => (by obtain ⟨xs, e, z⟩ := r; rw [e, List.length_map, z.1]; exact Nat.le_refl _)) (fun _ => ⟨[], rfl, IntsAt.nil _ _ _⟩) ?_ ?_
          · rintro i v H' N acc hi sm eA sz rr no yes
            obtain ⟨t, x, y, rfl, e2, ht⟩ := item (s5.trans sm) hi
            obtain ⟨xs, e3, ia⟩ := rr
            refine ⟨rfl, .ref t, rfl, t, _, 1, .int y, rfl, rfl, SqT.of ht, rfl, yes H' _ (Same.refl _) ⟨xs ++ [y], ?_, ia.snoc e2⟩⟩
            rw [e3, List.map_append]
            rfl
          intro H6 w6 s6 eD2 rr
          rw [lcut] at rr
          obtain ⟨ys, rfl, ia2⟩ := rr
          refine ⟨D2, ys, rfl, SqL.of eD2, by rw [ia2.1]; omega, fun m2 hm2 allm2 => ?_⟩
          have top : TopR os (l, l + j) m2 := by
            have := IntsAt.min (r := l + j) (by rw [show l + j + 1 - l = j + 1 by omega]; exact ia2) hm2 allm2
            exact this
          refine ⟨_, _, rfl, ?_⟩
          have bt := fun row => botTop (row := row) bot top allS
          obtain ⟨⟨kb, xb, yb, _, _, eb, rfl⟩, _⟩ := id bot
          obtain ⟨⟨kt, xt, yt, _, _, et, rfl⟩, _⟩ := id top
          have rb := rows _ _ (List.mem_of_getElem? eb)
          have rt := rows _ _ (List.mem_of_getElem? et)
          clear allm2 hm2 allm hm ia ia2
          have lrw : (rowsI xb yt).length = (yt + 1 - xb).toNat := by
            unfold rowsI
            rw [List.length_map, List.length_range]
          refine ⟨.int xb, rfl, .int yt, rfl, _, _, rfl, rfl, xb, yt + 1, rfl, rfl, RgOk.of_le (by omega) (by omega) (by omega) (by omega), fun g ng => ?_⟩
          have s7 := same_new (o := .lst (rgV xb (yt + 1))) ng
          have eg := upd_same (H := H6) (a := g) (o := .lst (rgV xb (yt + 1)))
          generalize upd H6 g (.lst (rgV xb (yt + 1))) = H7 at *
          rw [rg_rows] at eg
          refine ⟨by show 0 ≤ sizeLine; decide, fun cl ncl => ?_⟩
          have s8 := same_new (o := .lst []) ncl
          have ecl := upd_same (H := H7) (a := cl) (o := .lst [])
          generalize upd H7 cl (.lst []) = H8 at *
          have s48 : Same H4 H8 := s5.trans (s6.trans (s7.trans s8))
          have ep8 := s48 _ _ ep4
          refine ⟨.int (0 + (l : Nat)), rfl, .int (0 + (l : Nat) + (j : Nat)), rfl, _, _, rfl, rfl, _, _, rfl, ⟨by omega, by omega, by omega, by omega⟩, ?_⟩
          refine for_range (lo := 0 + (l : Int)) (D := ⟨_, _, fun _ _ => True, fun _ _ => True⟩) (n := ((0 + (l : Int) + (j : Int) + 1) - (0 + (l : Nat))).toNat) (fun i σ H' => Same H8 H' ∧ ∃ b ws y7 y10, H' b = some (.lst ws) ∧ b ≠ p ∧ Ivs H' ws (recC l (rowsI xb yt) i) ∧ σ = [some (.ref a), some (.ref p), some (.int (0 + (l : Nat))), some (.int (0 + (l : Nat) + (j : Nat))), some (.ref c), some (.int xb), some (.int yt), y7, some (.ref g), some (.ref b), y10])
            ⟨Same.refl _, cl, [], _, _, ecl, (ne_of_none ((s5.trans (s6.trans s7)) _ _ ep4) ncl).symm, .nil, rfl⟩ ?_ ?_
          · rintro i σ H9 hi ⟨s9, b, wb, y7, y10, eb9, nbp, iv, rfl⟩
            have eg9 := s9 _ _ (s8 _ _ eg)
            refine ⟨.ref b, rfl, .ref g, rfl, g, rfl, ⟨_, SqL.of eg9⟩, fun D3 nD3 => ?_⟩
            refine lcL (K := K) (a := g) (xs := ((rowsI xb yt).map V.int)) (fun j H' ws => Ivs H' ws (((rowsI xb yt).take j).map fun row => ((l : Int) + (i : Int), row))) nD3 (fun H' s => SqL.of (s _ _ (eg9))) (by rw [List.length_map, lrw]; omega) (fun _ _ _ _ t r => r.tps t) (fun j H' ws r => (by rw [r.length, List.length_map]; exact List.length_take_le _ _)) (fun _ => .nil) ?_ ?_
            · rintro i2 v H' N acc hi2 sj eA sz rr no yes
              rw [List.getElem?_map] at hi2
              obtain ⟨z, ez, rfl⟩ := Option.map_eq_some_iff.mp hi2
              refine ⟨rfl, .int (0 + (l : Nat) + (i : Nat)), rfl, .int z, rfl, by show 2 ≤ sizeLine; decide, fun tn ntn => yes _ _ (same_new ntn) ?_⟩
              rw [List.take_add_one, ez, List.map_append]
              exact (rr.same (same_new ntn)).snoc (upd_same.trans (by rw [Int.zero_add]))
            intro H10 w3 s10 eD3 rr
            rw [List.length_map, List.take_length] at rr
            have lr := rr.length
            have lb := iv.length
            rw [List.length_map, lrw] at lr
            rw [recC_len, lrw] at lb
            have lb2 : wb.length ≤ 16 := by
              rw [lb]
              have : i * (yt + 1 - xb).toNat ≤ 4 * 4 := Nat.mul_le_mul (by omega) (by omega)
              omega
            refine ⟨b, D3, _, _, rfl, rfl, s10 _ _ eb9, eD3, by rw [sizeLine_eq]; omega, fun b2 nb2 => ?_⟩
            have s11 := same_new (o := .lst (wb ++ w3)) nb2
            refine ⟨s9.trans (s10.trans s11), b2, wb ++ w3, _, _, upd_same, (ne_of_none ((s9.trans s10) _ _ ep8) nb2).symm, ?_, rfl⟩
            rw [recC_succ]
            exact (iv.same (s10.trans s11)).append (rr.same s11)
          rintro σ H9 ⟨s9, b, wb, y7, y10, eb9, nbp, iv, rfl⟩
          rw [show ((0 + (l : Int) + (j : Int) + 1) - (0 + (l : Nat))).toNat = j + 1 by omega] at iv
          have lb := iv.length
          rw [recC_len, lrw] at lb
          refine ⟨.ref b, rfl, by show 0 ≤ sizeLine; decide, fun e ne => ?_⟩
          have s10 := same_new (o := .lst []) ne
          have ee := upd_same (H := H9) (a := e) (o := .lst [])
          generalize upd H9 e (.lst []) = H10 at *
          have s4a : Same H4 H10 := s48.trans (s9.trans s10)
          have ka : ∀ b o, b ≠ p → H1 b = some o → H10 b = some o := fun b o nb e => s4a _ _ (k4 b o nb e)
          have epa := s4a _ _ ep4
          have rxa : RefsX p HO.lst (fun H us R => Ivs H us R) H10 ws3 Ts3 := rx4.kept (fun b o _ e => s4a _ _ e) (fun us x r => r.same s4a)
          have eba := s10 _ _ eb9
          have iva := iv.same s10
          refine ⟨b, e, wb, rfl, rfl, SqL.of eba, SqL.of ee, _, rfl, ?_⟩
          have lts := rxa.1
          cases he : wb.isEmpty with
          | true =>
            refine iteF ⟨ka, ⟨ws3, Ts3, epa, rxa, tl3.skip (fun l' r' d lr => ?_), by omega⟩, _, _, _, _, _, _, _, _, rfl⟩
            rcases d with d | ⟨rfl, d⟩
            · exact .inl (.inl d)
            · by_cases e9 : r' < l' + j
              · exact .inl (.inr ⟨rfl, e9⟩)
              · refine .inr fun row all => ?_
                have e8 : r' = l' + j := by omega
                subst e8
                have := (bt row).mp all
                rw [List.isEmpty_iff.mp he] at lb
                have lb : 0 = (j + 1) * (yt + 1 - xb).toNat := lb
                rcases Nat.mul_eq_zero.mp lb.symm with z | z <;> omega
          | false =>
            refine iteT ⟨.ref p, rfl, .inl ⟨rfl, _, SqL.of epa⟩, .ref b, rfl, p, ws3, _, rfl, rfl, epa, small1000 (by omega), ?_⟩
            have kp2 : ∀ (b' : Addr) (o : HO), b' ≠ p → H10 b' = some o → upd H10 p (.lst (ws3 ++ [V.ref b])) b' = some o := fun b' o nb e => by
              rw [upd_ne nb]
              exact e
            have tl4 := Tps.lst (vs := ws3 ++ [V.ref b]) epa
            have rxf := (rxa.kept (H' := upd H10 p (.lst (ws3 ++ [V.ref b]))) kp2 (fun us x r => r.tps tl4)).snoc nbp (kp2 _ _ nbp eba) (iva.tps tl4)
            refine ⟨fun b' o nb e => kp2 _ _ nb (ka b' o nb e), ⟨_, _, upd_same, rxf, tl3.add (l0 := l) (r0 := l + j) (fun l' r' d => ?_) ?_ (fun q => ?_), by rw [List.length_append]; show _ + 1 ≤ _; omega⟩, _, _, _, _, _, _, _, _, rfl⟩
            · rcases d with d | ⟨rfl, d⟩
              · exact .inl (.inl d)
              · by_cases e9 : r' < l' + j
                · exact .inl (.inr ⟨rfl, e9⟩)
                · exact .inr ⟨rfl, by omega⟩
            · rw [recC_len, lrw, ← lb]
              have : (j + 1) * (yt + 1 - xb).toNat ≤ 4 * 4 := Nat.mul_le_mul (by omega) (by omega)
              refine ⟨List.length_pos_iff.mpr fun z => ?_, by omega⟩
              rw [z] at he
              cases he
            · rw [mem_recC, mem_rowsI, bt q.2]
              refine and_congr_right fun _ => ⟨?_, ?_⟩
              · rintro ⟨k, e, k1, k2⟩
                exact ⟨k, e, k1, by omega⟩
              · rintro ⟨k, e, k1, k2⟩
                exact ⟨k, e, k1, by omega⟩
      · rintro σ H3 ⟨k3, ⟨ws3, Ts3, ep3, rx3, tl3, ln3⟩, y3, y4, y5, y6, y7, y8, y9, y10, rfl⟩
        refine ⟨k3, ⟨ws3, Ts3, ep3, rx3, tl3.skip (fun l' r' d lr => ?_), by omega⟩, _, _, _, _, _, _, _, _, _, rfl⟩
        by_cases e : l' < l
        · exact .inl (.inl e)
        · by_cases e2 : r' < os.length
          · exact .inl (.inr ⟨by omega, by omega⟩)
          · refine .inr fun row all => ?_
            have := all r' lr (Nat.le_refl _)
            rw [colAt_out (by omega)] at this
            cases this
    · rintro σ H2 ⟨k2, ⟨ws, Ts, ep2, rx, tl, ln⟩, y2, y3, y4, y5, y6, y7, y8, y9, y10, rfl⟩
      refine ⟨.ref p, rfl, q _ p ws Ts (tp k2) np ep2 rx ⟨tl.one, fun l r row lr all => tl.all l r row ?_ lr all⟩ tl.len (by omega)⟩
      have := all l (Nat.le_refl _) lr
      obtain ⟨x, y, e, _⟩ := colAt_true this
      have := (List.getElem?_eq_some_iff.mp e).1
      omega

/-- a comprehension over a long list -/
theorem lcLb {K : PySem.W.Frag} {a : Addr} {xs : List V} {g : TG} {tt : TT} {te : TE} {vs : List Nat} {σ : L2.St} {H1 : Hp} {D : Addr} {Qd : Hp → Prop} (R : Nat → Hp → List V → Prop) (nD : H1 D = none) (hl : ∀ H', Same H1 H' → SqL K H' a xs) (few : xs.length ≤ 65536)
    (mono : ∀ i H' H'' ws, Tps H' H'' → R i H' ws → R i H'' ws) (len : ∀ i H' ws, R i H' ws → ws.length ≤ i) (r0 : ∀ H', R 0 H' [])
    (hs : ∀ i x H' (N : Hp → Prop) acc, xs[i]? = some x → Same H1 H' → H' D = some (.lst acc) → acc.length < sizeLine → R i H' acc → (∀ H'', Same H' H'' → R (i + 1) H'' acc → N H'') → (∀ H'' y, Same H' H'' → R (i + 1) H'' (acc ++ [y]) → ∃ acc', H'' D = some (.lst acc') ∧ acc'.length < sizeLine ∧ N (upd H'' D (.lst (acc' ++ [y])))) →
      g x (wipe σ vs) H' fun σ2 H2 => wipe σ2 vs = wipe σ vs ∧ tt σ2 H2 fun b H3 => if b = true then te σ2 H3 fun y H4 => ∃ acc, H4 D = some (.lst acc) ∧ acc.length < sizeLine ∧ N (upd H4 D (.lst (acc ++ [y]))) else N H3)
    (hd : ∀ H' ws, Same H1 H' → H' D = some (.lst ws) → R xs.length H' ws → Qd H') :
    ∃ W : Nat → Nat → Hp → Prop, (∃ m, W 0 m (upd H1 D (.lst []))) ∧ ∀ i m H, W i m H →
      ((Itl K a).stop i H ∧ Qd H) ∨ ((Itl K a).go i H ∧ ∃ Nx : Hp → Prop, (∀ H', Nx H' → ∃ m', m' < m ∧ W (i + 1) m' H') ∧ ∀ x H', (Itl K a).yld i H x H' → g x (wipe σ vs) H' fun σ2 H2 => wipe σ2 vs = wipe σ vs ∧ tt σ2 H2 fun b H3 =>
        if b = true then te σ2 H3 fun y H4 => ∃ acc, H4 D = some (.lst acc) ∧ acc.length < sizeLine ∧ Nx (upd H4 D (.lst (acc ++ [y]))) else Nx H3) := by
  refine lc_list (K := K) (a := a) (xs := xs) (fun i H' => Same H1 H' ∧ ∃ ws, H' D = some (.lst ws) ∧ R i H' ws) ⟨same_new nD, [], upd_same, r0 _⟩ (fun i H' _ h => hl H' h.1) ?_ ?_
  · rintro i x H' hi ⟨sm, ws, eD, r⟩
    have lt := (List.getElem?_eq_some_iff.mp hi).1
    have lw := len i H' ws r
    have sz : ws.length < sizeLine := by
      rw [sizeLine_eq]
      omega
    refine hs i x H' _ ws hi sm eD sz r (fun H'' s r2 => ⟨sm.trans s, ws, s _ _ eD, r2⟩) (fun H'' y s r2 => ?_)
    exact ⟨ws, s _ _ eD, sz, same_off nD (sm.trans s), _, upd_same, mono _ _ _ _ (Tps.lst (s _ _ eD)) r2⟩
  · rintro H' ⟨sm, ws, eD, r⟩
    exact hd H' ws sm eD r
theorem RefsX.tps {α : Type} {D : Addr} {ok : Hp → List V → α → Prop} {H H' : Hp} {vs : List V} {xs : List α} (h : RefsX D HO.tup ok H vs xs) (s : Tps H H') (m : ∀ us x, ok H us x → ok H' us x) : RefsX D HO.tup ok H' vs xs := ⟨h.1, fun i v e => by
  obtain ⟨x, a, us, e1, e2, n, e3, e4⟩ := h.2 i v e
  exact ⟨x, a, us, e1, e2, n, s _ _ e3, m _ _ e4⟩⟩
theorem RefsX.app {α : Type} {D : Addr} {tag : List V → HO} {ok : Hp → List V → α → Prop} {H : Hp} {us vs : List V} {xs ys : List α} (h1 : RefsX D tag ok H us xs) (h2 : RefsX D tag ok H vs ys) : RefsX D tag ok H (us ++ vs) (xs ++ ys) := by
  refine ⟨by rw [List.length_append, List.length_append, h1.1, h2.1], fun i v e => ?_⟩
  rcases Nat.lt_or_ge i us.length with l | l
  · rw [List.getElem?_append_left l] at e
    obtain ⟨x, a, w, e1, r⟩ := h1.2 i v e
    exact ⟨x, a, w, by rw [List.getElem?_append_left (by rw [← h1.1]; exact l)]; exact e1, r⟩
  · rw [List.getElem?_append_right l] at e
    obtain ⟨x, a, w, e1, r⟩ := h2.2 _ v e
    exact ⟨x, a, w, by rw [List.getElem?_append_right (by rw [← h1.1]; exact l), ← h1.1]; exact e1, r⟩
theorem pow16 {j : Nat} (h : j ≤ 16) : 2 ^ j ≤ 65536 := Nat.le_trans (Nat.pow_le_pow_right (by decide) h) (by decide)
def sp_most : Sp := fun vs H Q _ => ∃ (a : Addr) (us : List V) (os : List (Option (Int × Int))), vs = [.ref a] ∧ H a = some (.tup us) ∧ OVs H us os ∧ os.length ≤ 4 ∧ (∀ x y, some (x, y) ∈ os → 0 ≤ x ∧ x ≤ y ∧ y < 4) ∧
  ∀ H' (m : Int), Same H H' → (∀ rs cs, CovOk os rs cs → m = (cs.length : Int)) → Q (.int m) H'
theorem ok_law_most (T : Tx K mg f_depth_changes f_find_blocks f_has_position f_contains f_serves f_conflict f_demands_at_blocks f_is_open f_open_demands f_shadow_target f_decisive_demands f_largest_independent f_unserved_demands f_helpful_piece f_smallest_solution f_row_runs f_rows_of_runs f_tallest_rectangle f_cover_board f_law_draws f_law_next f_law_column f_law_board f_law_is_int f_law_inside f_law_full f_law_is_rectangle f_law_apart f_law_levels f_law_ascends f_law_covered f_law_is_cell f_law_holds f_law_board_cells f_law_number f_law_tallest f_law_fewest f_law_most f_law d_depth_changes d_find_blocks d_has_position d_contains d_serves d_conflict d_demands_at_blocks d_is_open d_open_demands d_shadow_target d_decisive_demands d_largest_independent d_unserved_demands d_helpful_piece d_smallest_solution d_row_runs d_rows_of_runs d_tallest_rectangle d_cover_board d_law_draws d_law_next d_law_column d_law_board d_law_is_int d_law_inside d_law_full d_law_is_rectangle d_law_apart d_law_levels d_law_ascends d_law_covered d_law_is_cell d_law_holds d_law_board_cells d_law_number d_law_tallest d_law_fewest d_law_most d_law) : FnOk P w K mg base CX0 4 f_law_most d_law_most ["_law_board_here"] sp_most := by
  refine T.F_law_most.ok sc_law_most (fun vs H Q E h => ?_) (fun cdv A outer s H vs Q E hr h => ?_)
  · obtain ⟨a, us, os, rfl, _⟩ := h
    rfl
  · obtain ⟨a, us, os, rfl, ha, ovs, few, rows, q⟩ := h
    refine ⟨_, (pss_cons (ps_set (i := 1) sc_law_most.nd rfl (Or.inl rfl) (pe_lst (pa_cons (pe_tup pa_nil) pa_nil)))
      (pss_cons (ps_for PassesOwn.never rfl (pi_list (pe_call (ok_law_board_cells T) (hr.mono (by decide)) (by rfl) T.g_law_board_cells T.F_law_board_cells.kp T.b_law_board_cells .nil pass0 (pa_cons (pv 0) pa_nil))) (pg_name (i := 2) sc_law_most.nd rfl (Or.inr rfl))
      (pss_cons (ps_set (i := 3) sc_law_most.nd rfl (Or.inl rfl) (pe_lst pa_nil))
      (pss_cons (ps_for PassesOwn.never rfl (pi_list (pv 1)) (pg_name (i := 4) sc_law_most.nd rfl (Or.inl rfl))
      (pss_one (ps_if (pt_cmpR (op_eqL hr.units0) (pe_lc (own := [("_law_other", 5)]) (g := (gName 5)) (by rfl) sc_law_most.nd (pi_tup (pv 4)) (blkOk_by (own := [("_law_other", 5)]) (N := N_law_most) (sc := defScope s_law_most) (by decide +kernel)) (fun _ _ _ _ _ => (pg_name (i := 5) sc_law_most.nd rfl (Or.inl rfl))) (fun _ _ _ _ _ => pts_one (pt_not (pt_val (pe_call (ok_law_apart T) (hr.mono (by decide)) (by rfl) T.g_law_apart T.F_law_apart.kp T.b_law_apart .nil pass0 (pa_cons (pv 0) (pa_cons (pv 2) (pa_cons (pv 5) pa_nil))))))) (fun _ _ _ _ _ => (pv 5))) (pe_lst pa_nil) (nomark _))
      (pss_one (ps_expr (pe_bm PySem.F.plainAttrs_list PySem.F.slot_list_append PySem.F.type_list_append mt_append (pv 3) (pa_cons (pe_op op_catA (pv 4) (pe_tup (pa_cons (pv 2) pa_nil))) pa_nil))))
      pss_nil)))
      (pss_one (ps_set (i := 1) sc_law_most.nd rfl (Or.inl rfl) (pe_op op_cat (pv 1) (pv 3)))))))
      (pss_one (ps_ret (pe_callB (cr_max rfl) (by rfl) T.z_max (by decide +kernel) (pa_cons (pe_lc (own := [("_law_one", 4)]) (g := (gName 4)) (tt := tYes) (by rfl) sc_law_most.nd (pi_list (pv 1)) (blkOk_by (own := [("_law_one", 4)]) (N := N_law_most) (sc := defScope s_law_most) (by decide +kernel)) (fun _ _ _ _ _ => (pg_name (i := 4) sc_law_most.nd rfl (Or.inl rfl))) (fun _ _ _ _ _ => pts_nil) (fun _ _ _ _ _ => (pe_callB (show CallR _ (.builtin "len") (rLenS K) from call_lenS) (by rfl) T.z_len PySem.boot_len (pa_cons (pv 4) pa_nil)))) pa_nil)))))), ?_⟩
    have lu := ovs.1
    refine ⟨by show 0 ≤ sizeLine; decide, fun t nt => ?_⟩
    have s1 := same_new (o := .tup []) nt
    have et := upd_same (H := H) (a := t) (o := .tup [])
    generalize upd H t (.tup []) = H1 at *
    refine ⟨by show 1 ≤ sizeLine; decide, fun b nb => ?_⟩
    have s2 := same_new (o := .lst [.ref t]) nb
    have eb := upd_same (H := H1) (a := b) (o := .lst [.ref t])
    generalize upd H1 b (.lst [.ref t]) = H2 at *
    have s02 := s1.trans s2
    refine ⟨.ref a, rfl, a, us, os, rfl, s02 _ _ ha, ovs.same s02, few, rows, fun H3 p ws s3 np ep ivc => ?_⟩
    have lc := cellsC_len rows os.length
    have lw := ivc.length
    have casc := cellsC_asc os os.length
    have s03 := s02.trans s3
    refine ⟨p, rfl, ⟨_, SqL.of ep⟩, ?_⟩
    refine for_list (K := K) (a := p) (xs := ws) (D := ⟨_, _, fun _ _ => True, fun _ _ => True⟩) (fun j σ H' => Same H3 H' ∧ ∃ b vs sets y2 y3 y4 y5, H' b = some (.lst vs) ∧ RefsX p HO.tup (fun H us L => Ivs H us L) H' vs sets ∧ SetsOk os ((cellsC os os.length).take j) sets ∧ sets.length ≤ 2 ^ j ∧ 0 < sets.length ∧ σ = [some (.ref a), some (.ref b), y2, y3, y4, y5])
      ⟨Same.refl _, b, _, [[]], _, _, _, _, s3 _ _ eb, RefsX.nil.snoc (ne_of (s3 _ _ (s2 _ _ et)) ep (fun z => by cases z)) (s3 _ _ (s2 _ _ et)) .nil, SetsOk.nil os, Nat.le_refl _, by decide, rfl⟩ (fun j σ H' _ h => SqL.of (h.1 _ _ ep)) ?_ ?_
    · rintro j v σ H4 hj ⟨s4, b, vs, sets, y2, y3, y4, y5, eb4, rx, so, ln, pos, rfl⟩
      obtain ⟨tc, cc, rc, rfl, ec, htc⟩ := ivc.get hj
      have htc := s4 _ _ htc
      have jl := (List.getElem?_eq_some_iff.mp hj).1
      obtain ⟨kc, ekc, hkc⟩ := mem_cellsA.mp (List.mem_of_getElem? ec)
      have ekc : cc = kc := ekc
      have kcl : kc < os.length := by
        obtain ⟨_, _, e, _⟩ := colAt_true hkc
        exact (List.getElem?_eq_some_iff.mp e).1
      have s04 := s03.trans s4
      have l16 : sets.length ≤ 65536 := Nat.le_trans ln (pow16 (by omega))
      refine ⟨by show 0 ≤ sizeLine; decide, fun mo nmo => ?_⟩
      have s5 := same_new (o := .lst []) nmo
      have emo := upd_same (H := H4) (a := mo) (o := .lst [])
      generalize upd H4 mo (.lst []) = H5 at *
      have rx5 : RefsX p HO.tup (fun H us L => Ivs H us L) H5 vs sets := rx.kept (fun b o _ e => s5 _ _ e) (fun us x r => r.same s5)
      have lvs := rx.1
      have eb5 := s5 _ _ eb4
      have bmo : b ≠ mo := ne_of_none eb4 nmo
      refine ⟨.ref b, rfl, b, rfl, ⟨_, SqL.of eb5⟩, ?_⟩
      have nmoH : H mo = none := s04.free nmo
      refine for_list (K := K) (a := b) (xs := vs) (D := ⟨_, _, fun _ _ => True, fun _ _ => True⟩) (fun i σ H' => (∀ (b' : Addr) (o : HO), b' ≠ mo → H5 b' = some o → H' b' = some o) ∧ ∃ wm more y4 y5, H' mo = some (.lst wm) ∧ RefsX p HO.tup (fun H us L => Ivs H us L) H' wm more ∧ more.length ≤ i ∧ (∀ M, M ∈ more ↔ ∃ L ∈ sets.take i, M = L ++ [(cc, rc)] ∧ ∀ q ∈ L, ¬ TogC os (cc, rc) q) ∧ σ = [some (.ref a), some (.ref b), some (.ref tc), some (.ref mo), y4, y5])
        ⟨fun b' o _ e => e, [], [], _, _, emo, .nil, Nat.le_refl _, fun M => ⟨fun h => (nomatch h), fun ⟨L, hL, _⟩ => by simp at hL⟩, rfl⟩ (fun i σ H' _ h => SqL.of (h.1 _ _ bmo eb5)) ?_ ?_
      · rintro i v σ H6 hi ⟨k6, wm, more, y4, y5, em, rm, lm, mm, rfl⟩
        obtain ⟨L, tl, ul, el, rfl, na, etl, ivl⟩ := rx5.2 i v hi
        have il := (List.getElem?_eq_some_iff.mp hi).1
        have nt5 : ∀ {x : Addr} {xs : List V}, H5 x = some (.tup xs) → H6 x = some (.tup xs) := fun {x xs} e => k6 _ _ (fun z => by rw [z, emo] at e; cases e) e
        have t56 : Tps H5 H6 := fun x xs e => nt5 e
        have etl6 := nt5 etl
        have ivl6 := ivl.tps t56
        have cellL := so.cell L (List.mem_of_getElem? el)
        have lL : L.length ≤ 16 := by
          have nd : L.Nodup := (so.sep L (List.mem_of_getElem? el)).imp_of_mem fun {x y} hx hy n e => n (by
            rw [e]
            obtain ⟨k, ek, hk⟩ := mem_cellsA.mp (List.mem_of_mem_take (cellL y hy))
            refine tog_of (l := y.1) (r := y.1) ⟨Int.le_refl _, Int.le_refl _⟩ ⟨Int.le_refl _, Int.le_refl _⟩ (fun k' h1 h2 => ?_) (fun k' h1 h2 => ?_) <;> rw [show k' = k by omega] <;> exact hk)
          have := nodup_le nd (m := cellsC os os.length) fun q hq => List.mem_of_mem_take (cellL q hq)
          omega
        have lul := ivl6.length
        have a6 := nt5 (s5 _ _ (s04 _ _ ha))
        have ov6 := (((ovs.same s04).same s5).tps t56)
        have tc6 := nt5 (s5 _ _ htc)
        refine ⟨.ref tl, rfl, tl, rfl, ⟨_, SqT.of etl6⟩, fun D nD => ?_⟩
        refine lcT (K := K) (a := tl) (xs := ul) (fun j H' ws => (ws.length ≤ j ∧ (ws.isEmpty = true ↔ ∀ q ∈ L.take j, ¬ TogC os (cc, rc) q))) nD (fun H' s => SqT.of (s _ _ (etl6))) (by omega) (fun _ _ _ _ t r => r) (fun j H' ws r => r.1) (fun _ => ⟨Nat.le_refl _, ⟨fun _ q hq => by simp at hq, fun _ => rfl⟩⟩) ?_ ?_
        · rintro j2 o H' N acc hj2 sm eA sz ⟨rr1, rr2⟩ no yes
          obtain ⟨tj, cj, rj, rfl, ecj, htj⟩ := ivl6.get hj2
          obtain ⟨kj, ekj, hkj⟩ := mem_cellsA.mp (List.mem_of_mem_take (cellL _ (List.mem_of_getElem? ecj)))
          have ekj : cj = kj := ekj
          have kjl : kj < os.length := by
            obtain ⟨_, _, e, _⟩ := colAt_true hkj
            exact (List.getElem?_eq_some_iff.mp e).1
          refine ⟨rfl, .ref a, rfl, .ref tc, rfl, .ref tj, rfl, a, tc, tj, us, os, cc, rc, cj, rj, rfl, sm _ _ a6, ov6.same sm, by omega, sm _ _ tc6, sm _ _ htj, ⟨by omega, by omega⟩, ⟨by omega, by omega⟩, fun H10 k s10 hk => ?_⟩
          have hk : k = true ↔ ¬ TogC os (cc, rc) (cj, rj) := hk
          refine ⟨k, rfl, ?_⟩
          have tk : L.take (j2 + 1) = L.take j2 ++ [(cj, rj)] := by
            rw [List.take_add_one, ecj]
            rfl
          rw [tk] at no yes
          cases k with
          | true =>
            refine iteF (no H10 s10 ⟨by omega, rr2.trans ⟨fun h q hq => ?_, fun h q hq => h q (List.mem_append_left _ hq)⟩⟩)
            rcases List.mem_append.mp hq with hq | hq
            · exact h q hq
            · rw [List.mem_singleton.mp hq]
              exact hk.mp rfl
          | false =>
            refine iteT ⟨.ref tj, rfl, yes H10 _ s10 ⟨by rw [List.length_append]; show _ + 1 ≤ _; omega, ⟨fun h => ?_, fun h => ?_⟩⟩⟩
            · have := List.isEmpty_iff.mp h
              simp at this
            · exact absurd (hk.mpr (h _ (List.mem_append_right _ (List.mem_singleton.mpr rfl)))) Bool.false_ne_true
        intro H7 w7 s7 eD rr
        rw [lul, List.take_length] at rr
        refine ⟨by show 0 ≤ sizeLine; decide, fun e ne => ?_⟩
        have s8 := same_new (o := .lst []) ne
        have ee := upd_same (H := H7) (a := e) (o := .lst [])
        generalize upd H7 e (.lst []) = H8 at *
        have s68 := s7.trans s8
        refine ⟨D, e, w7, rfl, rfl, SqL.of (s8 _ _ eD), SqL.of ee, _, rfl, ?_⟩
        have k8 : ∀ (b' : Addr) (o : HO), b' ≠ mo → H5 b' = some o → H8 b' = some o := fun b' o nb e => s68 _ _ (k6 _ _ nb e)
        have em8 := s68 _ _ em
        have rm8 : RefsX p HO.tup (fun H us L => Ivs H us L) H8 wm more := rm.kept (fun b o _ e => s68 _ _ e) (fun us x r => r.same s68)
        have tk : sets.take (i + 1) = sets.take i ++ [L] := by
          rw [List.take_add_one, el]
          rfl
        cases he : w7.isEmpty with
        | false =>
          refine iteF ⟨k8, wm, more, _, _, em8, rm8, by omega, fun M => (mm M).trans ?_, rfl⟩
          rw [tk]
          constructor
          · rintro ⟨L', hL', r⟩
            exact ⟨L', List.mem_append_left _ hL', r⟩
          · rintro ⟨L', hL', r⟩
            rcases List.mem_append.mp hL' with h | h
            · exact ⟨L', h, r⟩
            · rw [List.mem_singleton.mp h] at r
              rw [rr.2.mpr r.2] at he
              cases he
        | true =>
          have lwm := rm8.1
          refine iteT ⟨.ref mo, rfl, .inl ⟨rfl, _, SqL.of em8⟩, .ref tl, rfl, .ref tc, rfl, by show 1 ≤ sizeLine; decide, fun tn ntn => ?_⟩
          have s9 := same_new (o := .tup [.ref tc]) ntn
          have etn := upd_same (H := H8) (a := tn) (o := .tup [.ref tc])
          generalize upd H8 tn (.tup [.ref tc]) = H9 at *
          refine catA_any (s9 _ _ (s68 _ _ etl6)) etn (by rw [sizeLine_eq]; show _ + 1 ≤ _; omega) (fun Ha t2 sa et2 => ?_)
          have s8a := s9.trans sa
          have ema := s8a _ _ em8
          refine ⟨mo, wm, _, rfl, rfl, ema, by rw [sizeLine_eq]; omega, ?_⟩
          have iv2 : Ivs Ha (ul ++ [V.ref tc]) (L ++ [(cc, rc)]) := ((ivl6.same s68).same s8a).snoc (s8a _ _ (s68 _ _ tc6))
          have tl4 := Tps.lst (vs := wm ++ [V.ref t2]) ema
          have rma : RefsX p HO.tup (fun H us L => Ivs H us L) Ha wm more := rm8.kept (fun b o _ e => s8a _ _ e) (fun us x r => r.same s8a)
          have pmo : p ≠ mo := ne_of_none (s4 _ _ ep) nmo
          have ep5 := s5 _ _ (s4 _ _ ep)
          have rxf := (rma.tps tl4 (fun us x r => r.tps tl4)).snoc (ne_of et2 (s8a _ _ (k8 _ _ pmo ep5)) (fun z => by cases z)) (tl4 _ _ et2) (iv2.tps tl4)
          refine ⟨fun b' o nb e => ?_, _, _, _, _, upd_same, rxf, by rw [List.length_append]; show _ + 1 ≤ _; omega, fun M => ?_, rfl⟩
          · rw [upd_ne nb]
            exact s8a _ _ (k8 _ _ nb e)
          · rw [List.mem_append, List.mem_singleton, mm, tk]
            constructor
            · rintro (⟨L', hL', r⟩ | rfl)
              · exact ⟨L', List.mem_append_left _ hL', r⟩
              · exact ⟨L, List.mem_append_right _ (List.mem_singleton.mpr rfl), rfl, rr.2.mp he⟩
            · rintro ⟨L', hL', r⟩
              rcases List.mem_append.mp hL' with h | h
              · exact .inl ⟨L', h, r⟩
              · rw [List.mem_singleton.mp h] at r
                exact .inr r.1
      rintro σ H6 ⟨k6, wm, more, y4, y5, em, rm, lm, mm, rfl⟩
      have eb6 := k6 _ _ bmo eb5
      have t56 : Tps H5 H6 := fun x xs e => k6 _ _ (fun z => by rw [z, emo] at e; cases e) e
      have lwm := rm.1
      refine ⟨.ref b, rfl, .ref mo, rfl, b, mo, _, _, rfl, rfl, eb6, em, by rw [sizeLine_eq]; omega, fun b2 nb2 => ?_⟩
      have s7 := same_new (o := .lst (vs ++ wm)) nb2
      rw [show vs.length = sets.length from lvs, List.take_length] at mm
      have tk : (cellsC os os.length).take (j + 1) = (cellsC os os.length).take j ++ [(cc, rc)] := by
        rw [List.take_add_one, ec]
        rfl
      have rxa : RefsX p HO.tup (fun H us L => Ivs H us L) (upd H6 b2 (.lst (vs ++ wm))) (vs ++ wm) (sets ++ more) := ((rx5.tps t56 (fun us x r => r.tps t56)).app rm).tps (Tps.same s7) (fun us x r => r.same s7)
      refine ⟨fun b' o e => s7 _ _ (k6 _ _ (ne_of_none (s4 _ _ e) nmo) (s5 _ _ (s4 _ _ e))), b2, _, _, _, _, _, _, upd_same, rxa, ?_, ?_, by rw [List.length_append]; omega, rfl⟩
      · rw [tk]
        refine so.snoc (fun q hq => ?_) mm
        obtain ⟨i, hi⟩ := List.getElem?_of_mem hq
        have il := (List.getElem?_eq_some_iff.mp hi).1
        rw [List.length_take] at il
        rw [List.getElem?_take_of_lt (by omega)] at hi
        obtain ⟨z1, w1⟩ := List.getElem?_eq_some_iff.mp hi
        obtain ⟨z2, w2⟩ := List.getElem?_eq_some_iff.mp ec
        have := List.pairwise_iff_getElem.mp casc i j z1 z2 (by omega)
        rw [w1, w2] at this
        exact this
      · rw [List.length_append, Nat.pow_succ]
        omega
    · rintro σ H4 ⟨s4, b, vs, sets, y2, y3, y4, y5, eb4, rx, so, ln, pos, rfl⟩
      rw [lw, List.take_length] at so
      have l16 : sets.length ≤ 65536 := Nat.le_trans ln (pow16 (by omega))
      have lvs := rx.1
      refine ⟨.ref b, rfl, b, rfl, ⟨_, SqL.of eb4⟩, fun D nD => ?_⟩
      refine lcLb (K := K) (a := b) (xs := vs) (fun j H' ws => ws = ((sets.map fun L => (L.length : Int)).take j).map V.int) nD (fun H' s => SqL.of (s _ _ eb4)) (by omega) (fun _ _ _ _ _ r => r) (fun j H' ws r => by rw [r, List.length_map]; exact List.length_take_le _ _) (fun _ => rfl) ?_ ?_
      · rintro i v H' N acc hi sj eA sz rr no yes
        obtain ⟨L, tl, ul, el, rfl, na, etl, ivl⟩ := rx.2 i v hi
        refine ⟨rfl, .ref tl, rfl, tl, ul, rfl, .inr (SqT.of (sj _ _ etl)), yes H' _ (Same.refl _) ?_⟩
        rw [rr, List.take_add_one, List.getElem?_map, el, List.map_append, ivl.length]
        rfl
      intro H5 w5 s5 eD rr
      rw [lvs, show sets.length = (sets.map fun L => (L.length : Int)).length by rw [List.length_map], List.take_length] at rr
      subst rr
      refine ⟨D, _, rfl, SqL.of eD, by rw [List.length_map]; exact pos, fun m hm allm => ?_⟩
      refine q H5 m (s03.trans (s4.trans s5)) fun rs cs c => ?_
      have h1 := allm _ (List.mem_map.mpr ⟨cs, so.all cs (cs_asc c) (cs_cell c) (cs_sep c), rfl⟩)
      obtain ⟨L, hL, rfl⟩ := List.mem_map.mp hm
      have h2 := most_le c (so.cell L hL) (so.sep L hL)
      have h3 := c.len
      omega

/-! ### t * k, any k from 0 on -/
theorem tuple_mulZ (l : Addr) (items : Array Value) (n : Nat) (dd : Option Addr) (sl : Array (Option Value)) (u : Tok) (hi : items.isEmpty = false) :
    Meets (Builtin.«tuple.__mul__» ⟨[.ref l, .int 0 u], []⟩) (fun _ R s => s.heap.get? l = some { cls := .type "tuple", dict := dd, data := .seq items n, slots := sl } ∧
      R (.ok (.ret (Value.ref s.heap.objs.size))) { s with heap := s.heap.push { cls := Value.type "tuple", data := Data.seq #[] }, toks := s.toks }) :=
  .of_wp fun prog w A R s h => by
    obtain ⟨hp, g, d, tk, os⟩ := s
    obtain ⟨hl, h⟩ := h
    have f1 := AutoSeq1.idx_int
    have c1 : (items.isEmpty || (0 : Int) == 1) = false := by rw [hi]; rfl
    have c2 : (decide ((0 : Int) ≤ 0) || items.isEmpty) = true := by rw [hi]; rfl
    wp_walk using wpAny_loadPart' hl
    repeat (first
      | (refine wpAny_ite_false (by decide) ?_; wp_walk using wpAny_loadPart' hl)
      | (refine wpAny_ite_false (decide_eq_false (by rw [c1]; exact Bool.false_ne_true)) ?_; wp_walk using wpAny_loadPart' hl)
      | (refine wpAny_ite_true (by rw [c2]; rfl) ?_; wp_walk using wpAny_loadPart' hl)
      | (refine wpAny_ite_true (by rw [c2]) ?_; wp_walk using wpAny_loadPart' hl)
      | (refine wpAny_ite_true (decide_eq_true c2) ?_; wp_walk using wpAny_loadPart' hl))
    exact ⟨_, rfl, h⟩
section
variable {X : Cx}
def rRep0 (K : PySem.W.Frag) : R2 := fun x y H Q => ∃ l xs, x = .ref l ∧ y = .int 0 ∧ SqT K H l xs ∧ xs ≠ [] ∧ ∀ p, H p = none → Q (.ref p) (upd H p (.tup []))
theorem op_rep0 : OpR X (binaryOp .Mult) (rRep0 X.K) := by
  intro pins s σ H x y v u Q I rx ry ⟨l, xs, ex, ey, hT, hne, q⟩
  subst ex ey
  cases rx
  obtain ⟨t, rfl⟩ := ry
  obtain ⟨its, r, ⟨⟨cl, dd, dt, sl⟩, ho, hc, n, hd⟩, _⟩ := I.tuple hT
  simp only at hc hd
  subst hc hd
  have hi : its.toArray.isEmpty = false := by
    cases r with
    | nil => exact absurd rfl hne
    | cons a b => rfl
  have isT : Shared.TypeIs s (.ref l) "tuple" := Exists.intro _ (And.intro ho rfl)
  refine wpAny_binaryOp_repeat_ref (T := "tuple") (U := "int") (by decide) isT (fun s' => typeIs_int s' 0 t) noFill_tuple_mul F.fills_int_mul F.slot_int_rmul repeat_tuple F.slot_int_index.lookup ?_
  refine call_meets F.slot_int_rmul (typeIs_int s 0 t) F.entry_int_rmul (F.args_int_rmul_2 _ _) (int_rmul_tuple 0 t l _ n dd sl) (And.intro ho (And.intro rfl (And.intro isT ?_)))
  refine call_meets F.slot_tuple_mul isT F.entry_tuple_mul (F.args_tuple_mul_2 _ _) (tuple_mulZ l _ n dd sl t hi) (And.intro ho ?_)
  refine ⟨.ref s.heap.objs.size, _, I.laid (t' := s.toks) (o := .tup []) (fun b ob q => Heap.get?_push_of_some _ q) (Nat.le_refl _) ?_, rfl, q _ (I.hok.fresh (Nat.le_refl _))⟩
  exact ⟨by decide, _, .nil, IsTup.new _ _⟩
end

theorem rep_any {K : PySem.W.Frag} {H : Hp} {l : Addr} {x : V} {k : Nat} {Q : VK} (hl : H l = some (.tup [x])) (hk : k ≤ 1000) (h : ∀ H' t, Same H H' → H' t = some (.tup (List.replicate k x)) → Q (.ref t) H') : (rRepT K (.ref l) (.int (k : Nat)) H Q ∨ rRep1 K (.ref l) (.int (k : Nat)) H Q) ∨ rRep0 K (.ref l) (.int (k : Nat)) H Q := by
  match k, hk, h with
  | 0, _, h => exact .inr ⟨l, _, rfl, rfl, SqT.of hl, (fun e => nomatch e), fun p np => h _ p (same_new np) upd_same⟩
  | 1, _, h => exact .inl (.inr ⟨l, _, rfl, rfl, SqT.of hl, h H l (Same.refl _) hl⟩)
  | k + 2, hk, h =>
    refine .inl (.inl ⟨l, _, _, rfl, rfl, SqT.of hl, (fun e => nomatch e), by omega, by omega, by show 1 ≤ 1000; decide, fun p np => h _ p (same_new np) ?_⟩)
    have e : (List.replicate ((k + 2 : Nat) : Int).toNat [x]).flatten = List.replicate (k + 2) x := by
      rw [Int.toNat_natCast]
      generalize k + 2 = n
      induction n with
      | zero => rfl
      | succ n ih =>
        rw [List.replicate_succ, List.replicate_succ, List.flatten_cons, ih]
        rfl
    rw [e]
    exact upd_same

/-- a comprehension over zip of a tuple and a list of one length -/
theorem lcZM {K : PySem.W.Frag} {a b : Addr} {xs ys : List V} {g : TG} {tt : TT} {te : TE} {vs : List Nat} {σ : L2.St} {H1 : Hp} {D : Addr} {Qd : Hp → Prop} (R : Nat → Hp → List V → Prop) (nD : H1 D = none) (ha : ∀ H', Same H1 H' → SqT K H' a xs) (hb : ∀ H', Same H1 H' → SqL K H' b ys) (same : ys.length = xs.length) (few : xs.length < 1000)
    (mono : ∀ i H' H'' ws, Tps H' H'' → R i H' ws → R i H'' ws) (len : ∀ i H' ws, R i H' ws → ws.length ≤ i) (r0 : ∀ H', R 0 H' [])
    (hs : ∀ i x y T H' (N : Hp → Prop) acc, xs[i]? = some x → ys[i]? = some y → Same H1 H' → H' T = some (.tup [x, y]) → H' D = some (.lst acc) → acc.length < sizeLine → R i H' acc → (∀ H'', Same H' H'' → R (i + 1) H'' acc → N H'') → (∀ H'' y, Same H' H'' → R (i + 1) H'' (acc ++ [y]) → ∃ acc', H'' D = some (.lst acc') ∧ acc'.length < sizeLine ∧ N (upd H'' D (.lst (acc' ++ [y])))) →
      g (.ref T) (wipe σ vs) H' fun σ2 H2 => wipe σ2 vs = wipe σ vs ∧ tt σ2 H2 fun b H3 => if b = true then te σ2 H3 fun y H4 => ∃ acc, H4 D = some (.lst acc) ∧ acc.length < sizeLine ∧ N (upd H4 D (.lst (acc ++ [y]))) else N H3)
    (hd : ∀ H' ws, Same H1 H' → H' D = some (.lst ws) → R xs.length H' ws → Qd H') :
    ∃ W : Nat → Nat → Hp → Prop, (∃ m, W 0 m (upd H1 D (.lst []))) ∧ ∀ i m H, W i m H →
      ((ItzM K a b).stop i H ∧ Qd H) ∨ ((ItzM K a b).go i H ∧ ∃ Nx : Hp → Prop, (∀ H', Nx H' → ∃ m', m' < m ∧ W (i + 1) m' H') ∧ ∀ x H', (ItzM K a b).yld i H x H' → g x (wipe σ vs) H' fun σ2 H2 => wipe σ2 vs = wipe σ vs ∧ tt σ2 H2 fun b H3 =>
        if b = true then te σ2 H3 fun y H4 => ∃ acc, H4 D = some (.lst acc) ∧ acc.length < sizeLine ∧ Nx (upd H4 D (.lst (acc ++ [y]))) else Nx H3) := by
  refine ⟨fun i m H => m = xs.length - i ∧ i ≤ xs.length ∧ Same H1 H ∧ ∃ ws, H D = some (.lst ws) ∧ R i H ws, ⟨_, rfl, Nat.zero_le _, same_new nD, [], upd_same, r0 _⟩, ?_⟩
  rintro i m H ⟨rfl, hi, sm, ws, eD, r⟩
  have q1 := ha H sm
  have q2 := hb H sm
  by_cases c : i < xs.length
  · have c2 : i < ys.length := by omega
    refine .inr ⟨⟨xs, ys, xs[i], ys[i], ⟨q1, List.getElem?_eq_getElem c⟩, q2, List.getElem?_eq_getElem c2⟩, (fun H => i + 1 ≤ xs.length ∧ Same H1 H ∧ ∃ ws, H D = some (.lst ws) ∧ R (i + 1) H ws), fun H' p' => ⟨xs.length - (i + 1), by omega, rfl, p'⟩, fun v H' hy => ?_⟩
    obtain ⟨T, x, y, ⟨rfl, nT, rfl⟩, f1, f2⟩ := hy
    have sT := same_new (o := .tup [x, y]) nT
    have lw := len i H ws r
    have sz : ws.length < sizeLine := few_line (by omega)
    refine hs i x y T _ _ ws (f1 xs q1) (f2 ys q2) (sm.trans sT) upd_same (sT _ _ eD) sz (mono _ _ _ _ (Tps.same sT) r) (fun H'' s r2 => ⟨c, sm.trans (sT.trans s), ws, s _ _ (sT _ _ eD), r2⟩) (fun H'' y s r2 => ?_)
    exact ⟨ws, s _ _ (sT _ _ eD), sz, c, same_off nD (sm.trans (sT.trans s)), _, upd_same, mono _ _ _ _ (Tps.lst (s _ _ (sT _ _ eD))) r2⟩
  · have e : i = xs.length := by omega
    subst e
    exact .inl ⟨⟨xs, ys, q1, q2, ⟨Nat.le_refl _, by omega⟩, .inl rfl⟩, hd H ws sm eD r⟩
theorem c_nd {os : List (Option (Int × Int))} {rs : List Rect} {cs : List (Int × Int)} (c : CovOk os rs cs) : cs.Nodup := c.casc.imp fun {a b} h e => by
  rw [e] at h
  omega
def kvS (Ls : List (List Int)) : List (List Key × V) := Ls.map fun st => (st.map Sum.inl, V.bl true)
theorem inl_inj {a b : List Int} (h : a.map (Sum.inl : Int → Key) = b.map Sum.inl) : a = b := (List.map_inj_right fun x y e => Sum.inl.inj e).mp h
theorem putS {Ls : List (List Int)} {st : List Int} : putK (kvS Ls) (st.map Sum.inl) (.bl true) = kvS (if st ∈ Ls then Ls else Ls ++ [st]) := by
  unfold putK
  by_cases h : st ∈ Ls
  · rw [if_pos h, if_pos]
    · unfold kvS
      rw [List.map_map]
      refine List.map_congr_left fun z hz => ?_
      show (if z.map (Sum.inl : Int → Key) = st.map Sum.inl then (z.map (Sum.inl : Int → Key), V.bl true) else (z.map (Sum.inl : Int → Key), V.bl true)) = _
      rw [ite_self]
    · unfold kvS
      rw [List.any_eq_true]
      exact ⟨_, List.mem_map.mpr ⟨st, h, rfl⟩, decide_eq_true rfl⟩
  · rw [if_neg h, if_neg]
    · unfold kvS
      rw [List.map_append]
      rfl
    · unfold kvS
      rw [List.any_eq_true]
      rintro ⟨kv, hkv, e⟩
      obtain ⟨z, hz, rfl⟩ := List.mem_map.mp hkv
      exact h (by rw [← inl_inj (of_decide_eq_true e)]; exact hz)
theorem map_inl (st : List Int) : ((st.map Sum.inl : List Key)).map kV = st.map V.int := by
  rw [List.map_map]
  rfl
theorem keys_refs {D : Addr} {H : Hp} {dd : List V} (eD : H D = some (.lst dd)) : ∀ {Ls : List (List Int)} {bs : List Addr}, IsKeys H (kvS Ls) bs → RefsX D HO.tup (fun _ us st => us = st.map V.int) H (bs.map V.ref) Ls
  | [], bs, h => by
    cases h
    exact .nil
  | st :: Ls, bs, h => by
    cases h with
    | cons e r =>
      rename_i b bs
      have ih := keys_refs eD (Ls := Ls) (bs := bs) r
      have e : H b = some (.tup (st.map V.int)) := by
        rw [← map_inl]
        exact e
      refine ⟨by rw [List.map_cons, List.length_cons, List.length_cons, ih.1], fun i v hi => ?_⟩
      cases i with
      | zero =>
        cases hi
        exact ⟨st, b, _, rfl, rfl, ne_of e eD (fun z => by cases z), e, rfl⟩
      | succ i =>
        obtain ⟨x, a, us, e1, r⟩ := ih.2 i v hi
        exact ⟨x, a, us, e1, r⟩
theorem inV_ints (x : Int) (ns : List Int) : inV (.int x) (ns.map V.int) = decide (x ∈ ns) := by
  unfold inV
  induction ns with
  | nil => rfl
  | cons n r ih =>
    rw [List.map_cons, List.any_cons, ih]
    show ((n == x) || decide (x ∈ r)) = decide (x ∈ n :: r)
    by_cases e : n = x
    · subst e
      simp
    · have e2 : (n == x) = false := beq_eq_false_iff_ne.mpr e
      rw [e2, Bool.false_or]
      apply decide_eq_decide.mpr
      rw [List.mem_cons]
      constructor
      · exact .inr
      · rintro (z | z)
        · exact absurd z.symm e
        · exact z
theorem flat_ints (ns : List Int) : (ns.map V.int).all flatV = true := by
  rw [List.all_eq_true]
  intro v hv
  obtain ⟨n, _, rfl⟩ := List.mem_map.mp hv
  rfl
theorem shaped_pairsL (ps : List (Int × Int)) : SeqAt.shaped (.list (ps.map pairD)) = true := shaped_pairs ps
def sp_fewest : Sp := fun vs H Q _ => ∃ (a : Addr) (us : List V) (os : List (Option (Int × Int))) (rs : List Rect) (cs : List (Int × Int)), vs = [.ref a] ∧ H a = some (.tup us) ∧ OVs H us os ∧ os.length ≤ 4 ∧ (∀ x y, some (x, y) ∈ os → 0 ≤ x ∧ x ≤ y ∧ y < 4) ∧ CovOk os rs cs ∧
  ∀ H', Same H H' → Q (.int (cs.length : Nat)) H'
theorem ok_law_fewest (T : Tx K mg f_depth_changes f_find_blocks f_has_position f_contains f_serves f_conflict f_demands_at_blocks f_is_open f_open_demands f_shadow_target f_decisive_demands f_largest_independent f_unserved_demands f_helpful_piece f_smallest_solution f_row_runs f_rows_of_runs f_tallest_rectangle f_cover_board f_law_draws f_law_next f_law_column f_law_board f_law_is_int f_law_inside f_law_full f_law_is_rectangle f_law_apart f_law_levels f_law_ascends f_law_covered f_law_is_cell f_law_holds f_law_board_cells f_law_number f_law_tallest f_law_fewest f_law_most f_law d_depth_changes d_find_blocks d_has_position d_contains d_serves d_conflict d_demands_at_blocks d_is_open d_open_demands d_shadow_target d_decisive_demands d_largest_independent d_unserved_demands d_helpful_piece d_smallest_solution d_row_runs d_rows_of_runs d_tallest_rectangle d_cover_board d_law_draws d_law_next d_law_column d_law_board d_law_is_int d_law_inside d_law_full d_law_is_rectangle d_law_apart d_law_levels d_law_ascends d_law_covered d_law_is_cell d_law_holds d_law_board_cells d_law_number d_law_tallest d_law_fewest d_law_most d_law) : FnOk P w K mg base CX0 2 f_law_fewest d_law_fewest ["_law_board_here"] sp_fewest := by
  refine T.F_law_fewest.ok sc_law_fewest (fun vs H Q E h => ?_) (fun cdv A outer s H vs Q E hr h => ?_)
  · obtain ⟨a, us, os, rs, cs, rfl, _⟩ := h
    rfl
  · obtain ⟨a, us, os, rs, cs, rfl, ha, ovs, few, rows, cov, q⟩ := h
    refine ⟨_, (pss_cons (ps_set (i := 1) sc_law_fewest.nd rfl (Or.inl rfl) (pe_lst pa_nil))
      (pss_cons (ps_set (i := 2) sc_law_fewest.nd rfl (Or.inl rfl) (pe_call (ok_law_board_cells T) (hr.mono (by decide)) (by rfl) T.g_law_board_cells T.F_law_board_cells.kp T.b_law_board_cells .nil pass0 (pa_cons (pv 0) pa_nil)))
      (pss_cons (ps_for PassesOwn.never rfl (pi_list (pe_call (ok_law_tallest T) (hr.mono (by decide)) (by rfl) T.g_law_tallest T.F_law_tallest.kp T.b_law_tallest .nil pass0 (pa_cons (pv 0) pa_nil))) (pg_name (i := 3) sc_law_fewest.nd rfl (Or.inr rfl))
      (pss_one (ps_expr (pe_bm PySem.F.plainAttrs_list PySem.F.slot_list_append PySem.F.type_list_append mt_append (pv 1) (pa_cons (pe_lc (own := [("_law_cell", 4)]) (g := (gName 4)) (tt := tYes) (by rfl) sc_law_fewest.nd (pi_list (pv 2)) (blkOk_by (own := [("_law_cell", 4)]) (N := N_law_fewest) (sc := defScope s_law_fewest) (by decide +kernel)) (fun _ _ _ _ _ => (pg_name (i := 4) sc_law_fewest.nd rfl (Or.inl rfl))) (fun _ _ _ _ _ => pts_nil) (fun _ _ _ _ _ => (pe_callTy call_int1 (by rfl) T.z_int (by decide +kernel) (pa_cons (pe_cmpR (show OpR _ (compareOp .In) (rInD K) from (op_inD (units65 hr))) (pv 4) (pv 3) (by rfl)) pa_nil)))) pa_nil)))))
      (pss_cons (ps_set (i := 5) sc_law_fewest.nd rfl (Or.inl rfl) (pe_lst (pa_cons (pe_op (OpR.or (OpR.or op_repT op_rep1) op_rep0) (pe_tup (pa_cons pe_int pa_nil)) (pe_callB call_len_seq (by rfl) T.z_len PySem.boot_len (pa_cons (pv 2) pa_nil))) pa_nil)))
      (pss_cons (ps_for PassesOwn.never rfl (pi_range1 (by rfl) T.z_range (pa_cons (pe_op op_add (pe_callB call_len_seq (by rfl) T.z_len PySem.boot_len (pa_cons (pv 2) pa_nil)) pe_int) pa_nil)) (pg_name (i := 6) sc_law_fewest.nd rfl (Or.inl rfl))
      (pss_cons (ps_if (pt_cmpR (op_neL hr.units0) (pe_lc (own := [("_law_state", 7)]) (g := (gName 7)) (by rfl) sc_law_fewest.nd (pi_list (pv 5)) (blkOk_by (own := [("_law_state", 7)]) (N := N_law_fewest) (sc := defScope s_law_fewest) (by decide +kernel)) (fun _ _ _ _ _ => (pg_name (i := 7) sc_law_fewest.nd rfl (Or.inl rfl))) (fun _ _ _ _ _ => pts_one (pt_cmpR (show OpR _ (compareOp .NotIn) (rIn K true) from op_notIn_seq) pe_int (pv 7) (by rfl))) (fun _ _ _ _ _ => (pv 7))) (pe_lst pa_nil) (nomark _))
      (pss_one (ps_ret (pv 6)))
      pss_nil)
      (pss_cons (ps_set (i := 8) sc_law_fewest.nd rfl (Or.inl rfl) pe_dnewT)
      (pss_cons (ps_for PassesOwn.never rfl (pi_list (pv 5)) (pg_name (i := 7) sc_law_fewest.nd rfl (Or.inl rfl))
      (pss_one (ps_for PassesOwn.never rfl (pi_list (pv 1)) (pg_name (i := 9) sc_law_fewest.nd rfl (Or.inl rfl))
      (pss_one (ps_dput (hu_of hr) (pv 8) (pe_callTy call_tuple_of (by rfl) T.z_tuple (by decide +kernel) (pa_cons (pe_lc (own := [("_law_a", 10), ("_law_b", 11)]) (g := (gTup K 2 (gCons (gName 10) (gCons (gName 11) gNil)))) (tt := tYes) (by rfl) sc_law_fewest.nd (pi_zipM (by rfl) T.z_zip (pa_cons (pv 7) (pa_cons (pv 9) pa_nil))) (blkOk_by (own := [("_law_a", 10), ("_law_b", 11)]) (N := N_law_fewest) (sc := defScope s_law_fewest) (by decide +kernel)) (fun _ _ _ _ _ => (pg_tup rfl (pgs_cons (pg_name (i := 10) sc_law_fewest.nd rfl (Or.inl rfl)) (pgs_cons (pg_name (i := 11) sc_law_fewest.nd rfl (Or.inl rfl)) pgs_nil)))) (fun _ _ _ _ _ => pts_nil) (fun _ _ _ _ _ => (pe_callB (call_max2 rfl) (by rfl) T.z_max (by decide +kernel) (pa_cons (pv 10) (pa_cons (pv 11) pa_nil))))) pa_nil)) pe_bl rfl)))))
      (pss_one (ps_set (i := 5) sc_law_fewest.nd rfl (Or.inl rfl) (pe_callTy (call_list_dT rfl) (by rfl) T.z_list (by decide +kernel) (pa_cons (pv 8) pa_nil))))))))
      (pss_one (ps_ret pe_non))))))), ?_⟩
    have lu := ovs.1
    refine ⟨by show 0 ≤ sizeLine; decide, fun pm npm => ?_⟩
    have s1 := same_new (o := .lst []) npm
    have epm := upd_same (H := H) (a := pm) (o := .lst [])
    generalize upd H pm (.lst []) = H1 at *
    refine ⟨.ref a, rfl, a, us, os, rfl, s1 _ _ ha, ovs.same s1, few, rows, fun H2 pc wc s2 npc epc ivc => ?_⟩
    have lc := cellsC_len rows os.length
    have lwc := ivc.length
    have s12 := s1.trans s2
    refine ⟨.ref a, rfl, a, us, os, rfl, s12 _ _ ha, ovs.same s12, few, rows, fun H3 p ws Ts s3 np ep rx tok l16 n16 => ?_⟩
    have lws := rx.1
    have epm3 := s3 _ _ (s2 _ _ epm)
    have epc3 := s3 _ _ epc
    have ivc3 := ivc.same s3
    have pcm : pc ≠ pm := (ne_of_none epm npc).symm
    have ppm : p ≠ pm := (ne_of_none (s2 _ _ epm) np).symm
    generalize ecl : cellsC os os.length = cells at *
    refine ⟨p, rfl, ⟨_, SqL.of ep⟩, ?_⟩
    refine for_list (K := K) (a := p) (xs := ws) (D := ⟨_, _, fun _ _ => True, fun _ _ => True⟩) (fun j σ H' => (∀ (b : Addr) (o : HO), b ≠ pm → H3 b = some o → H' b = some o) ∧ ∃ wm y3 y4 y5 y6 y7 y8 y9 y10 y11, H' pm = some (.lst wm) ∧ RefsX pm HO.lst (fun _ us m => us = m.map V.int) H' wm ((Ts.take j).map (maskO cells)) ∧ σ = [some (.ref a), some (.ref pm), some (.ref pc), y3, y4, y5, y6, y7, y8, y9, y10, y11])
      ⟨fun b o _ e => e, [], _, _, _, _, _, _, _, _, _, epm3, .nil, rfl⟩ (fun j σ H' _ h => SqL.of (h.1 _ _ ppm ep)) ?_ ?_
    · rintro j v σ H4 hj ⟨k4, wm, y3, y4, y5, y6, y7, y8, y9, y10, y11, em, rm, rfl⟩
      obtain ⟨R, ra, ur, er, rfl, nra, era, ivr⟩ := rx.2 j v hj
      have hR := l16 R (List.mem_of_getElem? er)
      have lur := ivr.length
      have jl := (List.getElem?_eq_some_iff.mp er).1
      have rapm : ra ≠ pm := fun z => by
        rw [z, epm3] at era
        injection era with e
        injection e with e
        rw [← e] at lur
        have lur : 0 = R.length := lur
        omega
      have t34 : Tps H3 H4 := fun x xs e => k4 _ _ (fun z => by rw [z, epm3] at e; cases e) e
      have epc4 := k4 _ _ pcm epc3
      have ivc4 := ivc3.tps t34
      have era4 := k4 _ _ rapm era
      have ivr4 := ivr.tps t34
      refine ⟨.ref pm, rfl, .inl ⟨rfl, _, SqL.of em⟩, .ref pc, rfl, pc, rfl, ⟨_, SqL.of epc4⟩, fun D nD => ?_⟩
      refine lcL (K := K) (a := pc) (xs := wc) (fun j H' ws => ws = ((maskO cells R).take j).map V.int) nD (fun H' s => SqL.of (s _ _ (epc4))) (by omega) (fun _ _ _ _ t r => r) (fun j H' ws r => (by rw [r, List.length_map]; exact List.length_take_le _ _)) (fun _ => rfl) ?_ ?_
      · rintro i v H' N acc hi sj eA sz rr no yes
        obtain ⟨tc, cc, rc, rfl, ec, htc⟩ := ivc4.get hi
        refine ⟨rfl, .ref tc, rfl, .ref ra, rfl, pairD (cc, rc), R.map pairD, .tup (SqT.of (sj _ _ htc)) (.cons (.int _) (.cons (.int _) .nil)), .lst (SqL.of (sj _ _ era4)) (ivr4.same sj).dp, rfl, shaped_pairsL R, .inr ⟨_, rfl, yes H' _ (Same.refl _) ?_⟩⟩
        rw [rr, show ((R.map pairD).any fun z => PyData.eqv z (pairD (cc, rc))) = decide ((cc, rc) ∈ R) from any_pair cc rc R]
        unfold maskO
        rw [List.take_add_one, List.getElem?_map, ec, List.map_append]
        rfl
      intro H5 w5 s5 eD rr
      have lmc : wc.length = (maskO cells R).length := by
        unfold maskO
        rw [List.length_map]
        exact lwc
      rw [lmc, List.take_length] at rr
      subst rr
      have em5 := s5 _ _ em
      have lwm := rm.1
      rw [List.length_map, List.length_take] at lwm
      refine ⟨pm, wm, _, rfl, rfl, em5, small1000 (by omega), ?_⟩
      have Dpm : D ≠ pm := (ne_of_none em nD).symm
      have k5 : ∀ (b : Addr) (o : HO), b ≠ pm → H5 b = some o → upd H5 pm (.lst (wm ++ [V.ref D])) b = some o := fun b o nb e => by
        rw [upd_ne nb]
        exact e
      have rm5 : RefsX pm HO.lst (fun _ us m => us = m.map V.int) (upd H5 pm (.lst (wm ++ [V.ref D]))) wm ((Ts.take j).map (maskO cells)) := rm.kept (fun b o nb e => k5 _ _ nb (s5 _ _ e)) (fun us x r => r)
      have rm6 := rm5.snoc (x := maskO cells R) Dpm (k5 _ _ Dpm eD) rfl
      refine ⟨fun b o nb e => k5 _ _ nb (s5 _ _ (k4 _ _ nb e)), _, _, _, _, _, _, _, _, _, _, upd_same, ?_, rfl⟩
      rw [List.take_add_one, er, List.map_append]
      exact rm6
    rintro σ H4 ⟨k4, wm, y3, y4, y5, y6, y7, y8, y9, y10, y11, em, rm, rfl⟩
    rw [lws, List.take_length] at rm
    have s4 : Same H H4 := fun b o e => k4 _ _ (ne_of_none e npm) (s3 _ _ (s12 _ _ e))
    have epc4 := k4 _ _ pcm epc3
    have lcl : cells.length ≤ 16 := by omega
    have csl : cs.length ≤ cells.length := by
      have nd : cs.Nodup := c_nd cov
      exact nodup_le nd fun q hq => by
        rw [← ecl]
        exact cs_cell cov q hq
    clear rx l16 ep epc3 epm3 ivc3 s3
    -- the first level
    refine ⟨by show 1 ≤ sizeLine; decide, fun z0 nz0 => ?_⟩
    have s5 := same_new (o := .tup [.int 0]) nz0
    have ez0 := upd_same (H := H4) (a := z0) (o := .tup [.int 0])
    generalize upd H4 z0 (.tup [.int 0]) = H5 at *
    refine ⟨.ref pc, rfl, pc, wc, rfl, .inl (SqL.of (s5 _ _ epc4)), rep_any ez0 (by omega) fun H6 tz s6 etz => ⟨by show 1 ≤ sizeLine; decide, fun lv nlv => ?_⟩⟩
    have s7 := same_new (o := .lst [.ref tz]) nlv
    have elv := upd_same (H := H6) (a := lv) (o := .lst [.ref tz])
    generalize upd H6 lv (.lst [.ref tz]) = H7 at *
    have s47 := s5.trans (s6.trans s7)
    have epc7 := s47 _ _ epc4
    have em7 := s47 _ _ em
    have rm7 : RefsX pm HO.lst (fun _ us m => us = m.map V.int) H7 wm (Ts.map (maskO cells)) := rm.kept (fun b o _ e => s47 _ _ e) (fun us x r => r)
    have etz7 := s7 _ _ etz
    have rx7 : RefsX pc HO.tup (fun _ us st => us = st.map V.int) H7 [V.ref tz] [List.replicate cells.length 0] := by
      have := RefsX.nil (α := List Int) (D := pc) (tag := HO.tup) (ok := fun _ us st => us = st.map V.int) (H := H7) |>.snoc (x := List.replicate cells.length 0) (ne_of etz7 epc7 (fun z => by cases z)) etz7 (by rw [lwc, List.map_replicate])
      exact this
    refine ⟨.ref pc, rfl, pc, wc, rfl, .inl (SqL.of epc7), _, _, rfl, rfl, _, rfl, by omega, by omega, ?_⟩
    have lwm := rm7.1
    rw [List.length_map] at lwm
    have s07 : Same H H7 := s4.trans s47
    have pmpc : pm ≠ pc := pcm.symm
    refine for_range (D := ⟨_, _, fun _ _ => True, fun _ _ => True⟩) (n := ((wc.length : Int) + 1).toNat) (fun k σ H' => Same H7 H' ∧ (∃ b vs Ls y3 y4 y6 y7 y8 y9 y10 y11, H' b = some (.lst vs) ∧ RefsX pc HO.tup (fun _ us st => us = st.map V.int) H' vs Ls ∧ LvOk cells Ts k Ls ∧ σ = [some (.ref a), some (.ref pm), some (.ref pc), y3, y4, some (.ref b), y6, y7, y8, y9, y10, y11]) ∧ k ≤ cs.length)
      ⟨Same.refl _, ⟨lv, _, _, _, _, _, _, _, _, _, _, elv, rx7, LvOk.zero cells Ts, rfl⟩, Nat.zero_le _⟩ ?_ ?_
    · rintro k σ H8 hk ⟨s8, ⟨b, vs, Ls, y3, y4, y6, y7, y8, y9, y10, y11, eb, rx, lok, rfl⟩, kn⟩
      have lL := lok.len lcl
      have lvs := rx.1
      -- is it enough?
      refine ⟨.ref b, rfl, b, rfl, ⟨_, SqL.of eb⟩, fun D nD => ?_⟩
      refine lcLb (K := K) (a := b) (xs := vs) (fun j H' ws => ws.length ≤ j ∧ (ws.isEmpty = true ↔ ∀ st ∈ Ls.take j, (0 : Int) ∈ st)) nD (fun H' s => SqL.of (s _ _ eb)) (by omega) (fun _ _ _ _ _ r => r) (fun j H' ws r => r.1) (fun _ => ⟨Nat.le_refl _, ⟨fun _ st h => by simp at h, fun _ => rfl⟩⟩) ?_ ?_
      · rintro i v H' N acc hi sj eA sz ⟨rr1, rr2⟩ no yes
        obtain ⟨st, tl, ul, el, rfl, na, etl, rfl⟩ := rx.2 i v hi
        have tk : Ls.take (i + 1) = Ls.take i ++ [st] := by
          rw [List.take_add_one, el]
          rfl
        rw [tk] at no yes
        refine ⟨rfl, .ref tl, rfl, tl, _, rfl, .inr (SqT.of (sj _ _ etl)), rfl, flat_ints st, ?_⟩
        rw [inV_ints]
        by_cases h0 : (0 : Int) ∈ st
        · rw [decide_eq_true h0]
          refine ⟨_, rfl, iteF (no H' (Same.refl _) ⟨by omega, rr2.trans ⟨fun h s' hs => ?_, fun h s' hs => h s' (List.mem_append_left _ hs)⟩⟩)⟩
          rcases List.mem_append.mp hs with hs | hs
          · exact h s' hs
          · rw [List.mem_singleton.mp hs]
            exact h0
        · rw [decide_eq_false h0]
          refine ⟨_, rfl, iteT ⟨.ref tl, rfl, yes H' _ (Same.refl _) ⟨by rw [List.length_append]; show _ + 1 ≤ _; omega, ⟨fun h => ?_, fun h => ?_⟩⟩⟩⟩
          · have := List.isEmpty_iff.mp h
            simp at this
          · exact absurd (h _ (List.mem_append_right _ (List.mem_singleton.mpr rfl))) h0
      intro H9 w9 s9 eD rr
      rw [lvs, List.take_length] at rr
      refine ⟨by show 0 ≤ sizeLine; decide, fun e ne => ?_⟩
      have s10 := same_new (o := .lst []) ne
      have ee := upd_same (H := H9) (a := e) (o := .lst [])
      generalize upd H9 e (.lst []) = H10 at *
      have s8a := s9.trans s10
      refine ⟨D, e, w9, rfl, rfl, SqL.of (s10 _ _ eD), SqL.of ee, _, rfl, ?_⟩
      cases he : w9.isEmpty with
      | false =>
        have kN : k = cs.length := by
          have : ¬ ∀ st ∈ Ls, (0 : Int) ∈ st := fun h => by
            rw [rr.2.mpr h] at he
            cases he
          have : ∃ st ∈ Ls, (0 : Int) ∉ st := Classical.byContradiction fun n => this fun st hs => Classical.byContradiction fun z => n ⟨st, hs, z⟩
          obtain ⟨st, hs, h0⟩ := this
          obtain ⟨Rs, l, sub, rfl⟩ := (lok.mem st).mp hs
          have cb := stO_full.mp h0
          rw [← ecl] at cb
          have := tall_ge cov tok sub cb
          omega
        refine iteT ⟨.int (0 + (k : Nat)), rfl, ?_⟩
        rw [Int.zero_add, kN]
        exact q _ (s07.trans (s8.trans s8a))
      | true =>
        have kN : k < cs.length := by
          refine Nat.lt_of_le_of_ne kn fun e => ?_
          obtain ⟨Rs, l, sub, cb⟩ := tall_le cov tok
          rw [ecl] at cb
          have := cov.len
          exact stO_full.mpr cb (rr.2.mp he _ ((lok.mem _).mpr ⟨Rs, by omega, sub, rfl⟩))
        refine iteF ?_
        refine fun Dd nDd => ?_
        have s11 := same_new (o := .dT []) nDd
        have eDd := upd_same (H := H10) (a := Dd) (o := .dT [])
        generalize upd H10 Dd (.dT []) = H11 at *
        have s8b := s8a.trans s11
        have eb11 := s8b _ _ eb
        have bD : b ≠ Dd := ne_of_none (s8a _ _ eb) nDd
        have pmD : pm ≠ Dd := ne_of_none (s8a _ _ (s8 _ _ em7)) nDd
        have em11 := s8b _ _ (s8 _ _ em7)
        have rx11 : RefsX pc HO.tup (fun _ us st => us = st.map V.int) H11 vs Ls := rx.tps (Tps.same s8b) (fun us x r => r)
        have rm11 : RefsX pm HO.lst (fun _ us m => us = m.map V.int) H11 wm (Ts.map (maskO cells)) := rm7.kept (fun b o _ e => s8b _ _ (s8 _ _ e)) (fun us x r => r)
        refine ⟨.ref b, rfl, b, rfl, ⟨_, SqL.of eb11⟩, ?_⟩
        refine for_list (K := K) (a := b) (xs := vs) (D := ⟨_, _, fun _ _ => True, fun _ _ => True⟩) (fun j σ H' => (∀ (b : Addr) (o : HO), b ≠ Dd → H11 b = some o → H' b = some o) ∧ ∃ Ls' y7 y9 y10 y11, H' Dd = some (.dT (kvS Ls')) ∧ Ls'.Nodup ∧ (∀ s' ∈ Ls', ∃ s ∈ Ls, ∃ R ∈ Ts, s' = List.zipWith mxZ s (maskO cells R)) ∧ (∀ s ∈ Ls.take j, ∀ R ∈ Ts, List.zipWith mxZ s (maskO cells R) ∈ Ls') ∧ σ = [some (.ref a), some (.ref pm), some (.ref pc), y3, y4, some (.ref b), some (.int (0 + (k : Nat))), y7, some (.ref Dd), y9, y10, y11])
          ⟨fun b o _ e => e, [], _, _, _, _, eDd, List.nodup_nil, fun s' h => (nomatch h), fun s h => by simp at h, rfl⟩ (fun j σ H' _ h => SqL.of (h.1 _ _ bD eb11)) ?_ ?_
        · rintro j v σ H12 hj ⟨k12, Ls1, y7, y9, y10, y11, eD1, nd1, sn1, cp1, rfl⟩
          obtain ⟨st, tl, ul, el, rfl, na, etl, rfl⟩ := rx11.2 j v hj
          have hst := List.mem_of_getElem? el
          obtain ⟨Rs0, _, _, est⟩ := (lok.mem st).mp hst
          have lst : st.length = cells.length := by
            rw [est]
            unfold stO
            rw [List.length_map]
          have nDt : ∀ {x : Addr} {xs : List V}, H11 x = some (.tup xs) → x ≠ Dd := fun {x xs} e z => by
            rw [z, eDd] at e
            cases e
          refine ⟨.ref pm, rfl, pm, rfl, ⟨_, SqL.of (k12 _ _ pmD em11)⟩, ?_⟩
          refine for_list (K := K) (a := pm) (xs := wm) (D := ⟨_, _, fun _ _ => True, fun _ _ => True⟩) (fun i σ H' => (∀ (b : Addr) (o : HO), b ≠ Dd → H11 b = some o → H' b = some o) ∧ ∃ Ls' y9 y10 y11, H' Dd = some (.dT (kvS Ls')) ∧ Ls'.Nodup ∧ (∀ s' ∈ Ls', ∃ s ∈ Ls, ∃ R ∈ Ts, s' = List.zipWith mxZ s (maskO cells R)) ∧ (∀ s ∈ Ls.take j, ∀ R ∈ Ts, List.zipWith mxZ s (maskO cells R) ∈ Ls') ∧ (∀ R ∈ Ts.take i, List.zipWith mxZ st (maskO cells R) ∈ Ls') ∧ σ = [some (.ref a), some (.ref pm), some (.ref pc), y3, y4, some (.ref b), some (.int (0 + (k : Nat))), some (.ref tl), some (.ref Dd), y9, y10, y11])
            ⟨k12, Ls1, _, _, _, eD1, nd1, sn1, cp1, fun R h => by simp at h, rfl⟩ (fun i σ H' _ h => SqL.of (h.1 _ _ pmD em11)) ?_ ?_
          · rintro i v σ H13 hi ⟨k13, Ls2, y9, y10, y11, eD2, nd2, sn2, cp2, cq2, rfl⟩
            obtain ⟨mk, ma, um, emk, rfl, nma, ema, rfl⟩ := rm11.2 i v hi
            rw [List.getElem?_map] at emk
            obtain ⟨R, eR, rfl⟩ := Option.map_eq_some_iff.mp emk
            have maD : ma ≠ Dd := fun z => by
              rw [z, eDd] at ema
              cases ema
            have etl13 := k13 _ _ (nDt etl) etl
            have ema13 := k13 _ _ maD ema
            have lmk : (maskO cells R).length = cells.length := by
              unfold maskO
              rw [List.length_map]
            have hRT := List.mem_of_getElem? eR
            have bnd : ∀ Lx : List (List Int), Lx.Nodup → (∀ s' ∈ Lx, ∃ s ∈ Ls, ∃ R ∈ Ts, s' = List.zipWith mxZ s (maskO cells R)) → Lx.length ≤ 65536 := fun Lx nd sn => by
              have := nodup_le nd (m := bitsL cells.length) fun s' hs => by
                obtain ⟨s0, hs0, R0, _, rfl⟩ := sn s' hs
                obtain ⟨Rs1, _, _, rfl⟩ := (lok.mem s0).mp hs0
                rw [stO_cons]
                exact stO_bits _ cells
              rw [bitsL_len] at this
              have := pow16 lcl
              omega
            refine ⟨.ref Dd, rfl, .ref tl, rfl, .ref ma, rfl, tl, ma, _, _, rfl, SqT.of etl13, SqL.of ema13, fun D5 nD5 => ?_⟩
            refine lcZM (K := K) (a := tl) (b := ma) (xs := st.map V.int) (ys := (maskO cells R).map V.int) (fun j H' ws => ws = ((List.zipWith mxZ st (maskO cells R)).take j).map V.int) nD5 (fun H' s => SqT.of (s _ _ etl13)) (fun H' s => SqL.of (s _ _ ema13)) (by rw [List.length_map, List.length_map, lst, lmk]) (by rw [List.length_map, lst]; omega) (fun _ _ _ _ _ r => r) (fun j H' ws r => by rw [r, List.length_map]; exact List.length_take_le _ _) (fun _ => rfl) ?_ ?_
            · rintro i2 x y T2 H' N acc hx hy sm eT eA sz rr no yes
              rw [List.getElem?_map] at hx hy
              obtain ⟨sx, ex, rfl⟩ := Option.map_eq_some_iff.mp hx
              obtain ⟨my, ey, rfl⟩ := Option.map_eq_some_iff.mp hy
              refine ⟨T2, _, rfl, SqT.of eT, rfl, .int sx, [.int my], rfl, .int my, [], rfl, rfl, rfl, .int sx, rfl, .int my, rfl, _, _, rfl, yes H' _ (Same.refl _) ?_⟩
              rw [rr, List.take_add_one, List.getElem?_zipWith, ex, ey, List.map_append]
              rfl
            intro H14 w14 s14 eD5 rr
            have lzw : (List.zipWith mxZ st (maskO cells R)).length = (st.map V.int).length := by
              rw [List.length_zipWith, List.length_map, lst, lmk, Nat.min_self]
            rw [← lzw, List.take_length] at rr
            subst rr
            refine ⟨D5, _, rfl, .inl ⟨SqL.of eD5, fun tn ntn => ?_⟩⟩
            generalize enw : List.zipWith mxZ st (maskO cells R) = nw at *
            have s15 := same_new (o := .tup (nw.map V.int)) ntn
            have etn := upd_same (H := H14) (a := tn) (o := .tup (nw.map V.int))
            generalize upd H14 tn (.tup (nw.map V.int)) = H15 at *
            have eD15 := s15 _ _ (s14 _ _ eD2)
            have e5 : H15 tn = some (.tup ((nw.map Sum.inl : List Key).map kV)) := by
              rw [map_inl]
              exact etn
            have lnk : (kvS Ls2).length < sizeLine := by
              have := bnd Ls2 nd2 sn2
              unfold kvS
              rw [List.length_map, sizeLine_eq]
              omega
            refine ⟨Dd, _, rfl, DPut.t eD15 e5 lnk, ?_⟩
            rw [putS]
            have tkR : Ts.take (i + 1) = Ts.take i ++ [R] := by
              rw [List.take_add_one, eR]
              rfl
            have key : ∀ Lx : List (List Int), (∀ x, x ∈ Lx ↔ x ∈ Ls2 ∨ x = nw) → Lx.Nodup → Lx.Nodup ∧ (∀ s' ∈ Lx, ∃ s ∈ Ls, ∃ R ∈ Ts, s' = List.zipWith mxZ s (maskO cells R)) ∧ (∀ s ∈ Ls.take j, ∀ R ∈ Ts, List.zipWith mxZ s (maskO cells R) ∈ Lx) ∧ ∀ R ∈ Ts.take (i + 1), List.zipWith mxZ st (maskO cells R) ∈ Lx := fun Lx hx nx => by
              refine ⟨nx, fun s' hs => ?_, fun s0 hs R0 hR0 => (hx _).mpr (.inl (cp2 s0 hs R0 hR0)), fun R0 hR0 => (hx _).mpr ?_⟩
              · rcases (hx s').mp hs with h | rfl
                · exact sn2 s' h
                · exact ⟨st, hst, R, hRT, enw.symm⟩
              · rw [tkR] at hR0
                rcases List.mem_append.mp hR0 with h | h
                · exact .inl (cq2 R0 h)
                · rw [List.mem_singleton.mp h]
                  exact .inr enw
            have fin : ∃ Lx : List (List Int), (if nw ∈ Ls2 then Ls2 else Ls2 ++ [nw]) = Lx ∧ Lx.Nodup ∧ (∀ s' ∈ Lx, ∃ s ∈ Ls, ∃ R ∈ Ts, s' = List.zipWith mxZ s (maskO cells R)) ∧ (∀ s ∈ Ls.take j, ∀ R ∈ Ts, List.zipWith mxZ s (maskO cells R) ∈ Lx) ∧ ∀ R ∈ Ts.take (i + 1), List.zipWith mxZ st (maskO cells R) ∈ Lx := by
              by_cases hm : nw ∈ Ls2
              · rw [if_pos hm]
                exact ⟨_, rfl, key _ (fun x => ⟨.inl, fun h => by rcases h with h | h; exact h; rw [h]; exact hm⟩) nd2⟩
              · rw [if_neg hm]
                exact ⟨_, rfl, key (Ls2 ++ [nw]) (fun x => by rw [List.mem_append, List.mem_singleton]) (List.nodup_append.mpr ⟨nd2, by simp, fun x hx y hy z => by rw [List.mem_singleton.mp hy] at z; rw [z] at hx; exact hm hx⟩)⟩
            obtain ⟨Lx, eLx, g1, g2, g3, g4⟩ := fin
            rw [eLx]
            exact ⟨fun b' o nb e => by rw [upd_ne nb]; exact s15 _ _ (s14 _ _ (k13 _ _ nb e)), Lx, _, _, _, upd_same, g1, g2, g3, g4, rfl⟩
          · rintro σ H13 ⟨k13, Ls2, y9, y10, y11, eD2, nd2, sn2, cp2, cq2, rfl⟩
            rw [lwm, List.take_length] at cq2
            refine ⟨k13, Ls2, _, _, _, _, eD2, nd2, sn2, fun s0 hs R0 hR0 => ?_, rfl⟩
            rw [List.take_add_one, el] at hs
            rcases List.mem_append.mp hs with h | h
            · exact cp2 s0 h R0 hR0
            · rw [List.mem_singleton.mp h]
              exact cq2 R0 hR0
        · rintro σ H12 ⟨k12, Ls1, y7, y9, y10, y11, eD1, nd1, sn1, cp1, rfl⟩
          rw [lvs, List.take_length] at cp1
          have lok2 := lok.succ nd1 sn1 cp1
          refine ⟨.ref Dd, rfl, Dd, _, rfl, .inl eD1, fun p2 bs np2 ks => ?_⟩
          have s13 := same_new (o := .lst (bs.map V.ref)) np2
          have s7d : Same H7 (upd H12 p2 (.lst (bs.map V.ref))) := fun b' o e => s13 _ _ (k12 _ _ (ne_of_none (s8a _ _ (s8 _ _ e)) nDd) (s8b _ _ (s8 _ _ e)))
          refine ⟨s7d, ⟨p2, _, Ls1, _, _, _, _, _, _, _, _, upd_same, (keys_refs (D := pc) (k12 _ _ (ne_of_none (s8a _ _ (s8 _ _ epc7)) nDd) (s8b _ _ (s8 _ _ epc7))) ks).tps (Tps.same s13) (fun us x r => r), lok2, rfl⟩, kN⟩
    · rintro σ H8 ⟨s8, ⟨b, vs, Ls, y3, y4, y6, y7, y8, y9, y10, y11, eb, rx, lok, rfl⟩, kn⟩
      omega

def sp_law (K : PySem.W.Frag) (pT : Addr) : Sp := fun vs H Q _ => ∃ (a : Addr) (ns : List Int), vs = [.ref a] ∧ SqL K H a (ns.map V.int) ∧ ns.length ≤ 63 ∧ H pT = some (.tbl #[]) ∧ ∀ H', Q (.bl true) H'
theorem ok_law (T : Tx K mg f_depth_changes f_find_blocks f_has_position f_contains f_serves f_conflict f_demands_at_blocks f_is_open f_open_demands f_shadow_target f_decisive_demands f_largest_independent f_unserved_demands f_helpful_piece f_smallest_solution f_row_runs f_rows_of_runs f_tallest_rectangle f_cover_board f_law_draws f_law_next f_law_column f_law_board f_law_is_int f_law_inside f_law_full f_law_is_rectangle f_law_apart f_law_levels f_law_ascends f_law_covered f_law_is_cell f_law_holds f_law_board_cells f_law_number f_law_tallest f_law_fewest f_law_most f_law d_depth_changes d_find_blocks d_has_position d_contains d_serves d_conflict d_demands_at_blocks d_is_open d_open_demands d_shadow_target d_decisive_demands d_largest_independent d_unserved_demands d_helpful_piece d_smallest_solution d_row_runs d_rows_of_runs d_tallest_rectangle d_cover_board d_law_draws d_law_next d_law_column d_law_board d_law_is_int d_law_inside d_law_full d_law_is_rectangle d_law_apart d_law_levels d_law_ascends d_law_covered d_law_is_cell d_law_holds d_law_board_cells d_law_number d_law_tallest d_law_fewest d_law_most d_law) (hT : TabH base mg d_helpful_piece pT) : FnG P w K mg base (lgN+13) f_law d_law ["_law_script"] (sp_law K pT) := by
  refine FnG.of T.F_law sc_law (fun {vs H Q} h => ?_) (fun cdv A outer s H vs Q hr hq h => ?_)
  · obtain ⟨a, ns, rfl, _⟩ := h
    rfl
  · obtain ⟨a, ns, rfl, hS, hlen, hP, q⟩ := h
    refine ⟨_, (pss_cons (ps_set (i := 1) sc_law.nd rfl (Or.inl rfl) (pe_call (ok_law_draws (pT := pT) T) (hr.mono (by decide)) (by rfl) T.g_law_draws T.F_law_draws.kp T.b_law_draws .nil pass0 (pa_cons (pv 0) pa_nil)))
      (pss_cons (ps_for PassesOwn.never rfl (pi_range1 (by rfl) T.z_range (pa_cons pe_int pa_nil)) (pg_name (i := 2) sc_law.nd rfl (Or.inl rfl))
      (pss_cons (ps_set (i := 3) sc_law.nd rfl (Or.inl rfl) (pe_call (ok_law_board T) (hr.mono (by decide)) (by rfl) T.g_law_board T.F_law_board.kp T.b_law_board .nil pass0 (pa_cons (pv 1) (pa_cons pe_int (pa_cons pe_int pa_nil)))))
      (pss_cons (ps_set (i := 4) sc_law.nd rfl (Or.inl rfl) (pe_call (ok_law_number T hT) (hr.mono (by decide)) (by rfl) T.g_law_number T.F_law_number.kp T.b_law_number .nil pass0 (pa_cons (pv 3) pa_nil)))
      (pss_one (ps_if (PW.pt (pw_or (pt_cmpR op_isN (pv 4) pe_non (nomark _)) (pw_or (pt_cmpR op_ne (pv 4) (pe_call (ok_law_fewest T) (hr.mono (by decide)) (by rfl) T.g_law_fewest T.F_law_fewest.kp T.b_law_fewest .nil pass0 (pa_cons (pv 3) pa_nil)) (nomark _)) (pw_or1 (pt_cmpR op_ne (pv 4) (pe_call (ok_law_most T) (hr.mono (by decide)) (by rfl) T.g_law_most T.F_law_most.kp T.b_law_most .nil pass0 (pa_cons (pv 3) pa_nil)) (nomark _))))))
      (pss_one (ps_ret pe_bl))
      pss_nil)))))
      (pss_one (ps_ret pe_bl)))), ?_⟩
    refine ⟨.ref a, rfl, a, ns, rfl, hS, hlen, LamX.TabS.nil hP, fun H1 d c s1 nd ct dk0 => ?_⟩
    refine ⟨4, rfl, by decide, by decide, for_range (D := ⟨_, _, fun _ _ => True, fun _ _ => True⟩) (n := 4) (fun i σ H' => (∃ n : Int, Dk H' d c n ∧ 0 ≤ n ∧ n ≤ 50 * i) ∧ ∃ y2 y3 y4, σ = [some (.ref a), some (.ref d), y2, y3, y4])
      ⟨⟨0, dk0, by decide, by decide⟩, _, _, _, rfl⟩ ?_ (fun σ H' _ => q H')⟩
    rintro i σ H2 hi ⟨⟨n, dk2, n0, n1⟩, y2, y3, y4, rfl⟩
    refine ⟨.ref d, rfl, d, c, n, 4, 4, rfl, dk2, n0, by omega, by decide, by decide, by decide, by decide, fun H3 bd us bs m3 kp3 dk3 b30 b31 ebd ovs lb1 lb2 okb => ?_⟩
    have few : bs.length ≤ 4 := by omega
    have rows4 : ∀ x y, some (x, y) ∈ bs → 0 ≤ x ∧ x ≤ y ∧ y < 4 := fun x y h => okb _ h
    have rows : ∀ x y, some (x, y) ∈ bs → 0 ≤ x ∧ x ≤ y ∧ y ≤ 1000000000000 := fun x y h => by
      have := rows4 x y h
      omega
    have bok : BdOk bs := fun x y h => ⟨(rows x y h).1, (rows x y h).2.1⟩
    refine ⟨.ref bd, rfl, d, c, m3, bd, us, bs, rfl, ct, dk3, ebd, ovs, by omega, rows, fun H4 ts rs cs kp4 dk4 rl cr n1' => ?_⟩
    have cov := cr.ok bok (by omega)
    have num := (cr.num rl bok (by omega)).2
    have t4 := kp4.tps dk3
    have ebd := t4 _ _ ebd
    have ovs := ovs.tps t4
    refine ⟨.int (needO ts [] : Nat), rfl, rfl, _, rfl, ite2 (fun cc => nomatch of_decide_eq_true cc) (fun _ => ?_)⟩
    refine ⟨.int (needO ts [] : Nat), rfl, .ref bd, rfl, bd, us, bs, rs, cs, rfl, ebd, ovs, few, rows4, cov, fun H5 s5 => ?_⟩
    rw [num]
    refine ⟨rfl, _, rfl, iteNS rfl ?_⟩
    refine ⟨.int (needO ts [] : Nat), rfl, .ref bd, rfl, bd, us, bs, rfl, s5 _ _ ebd, ovs.same s5, few, rows4, fun H6 m s6 hm => ?_⟩
    rw [hm rs cs cov, num]
    refine ⟨rfl, _, rfl, iteNS rfl ?_⟩
    exact ⟨⟨m3, dk4.kept (s5.trans s6), by omega, by omega⟩, _, _, _, rfl⟩

end
theorem all_mk {l : PySem.W.OpenLaw} {w : World} {K : PySem.W.Frag} {h : Heap} {mg : Str → Option Value} {fa f1 f2 f3 f4 f5 f6 f7 f8 f9 f10 f11 f12 f13 f14 f15 f16 f17 f18 f19 f20 f21 f22 f23 f24 f25 f26 f27 f28 f29 f30 f31 f32 f33 f34 f35 f36 f37 f38 f39 : Addr} (X : K.In h) (G : h.Ns mainGlobals mg) (hfa : mg "law" = some (.ref fa))
    {od1 an1 od2 an2 od3 an3 od4 an4 od5 an5 od6 an6 od7 an7 od8 an8 od9 an9 od10 an10 od11 an11 od12 an12 od13 an13 od14 an14 od15 an15 od16 an16 od17 an17 od18 an18 od19 an19 od20 an20 od21 an21 od22 an22 od23 an23 od24 an24 od25 an25 od26 an26 od27 an27 od28 an28 od29 an29 od30 an30 od31 an31 od32 an32 od33 an33 od34 an34 od35 an35 od36 an36 od37 an37 od38 an38 od39 an39 : Option Addr} {sl1 sl2 sl3 sl4 sl5 sl6 sl7 sl8 sl9 sl10 sl11 sl12 sl13 sl14 sl15 sl16 sl17 sl18 sl19 sl20 sl21 sl22 sl23 sl24 sl25 sl26 sl27 sl28 sl29 sl30 sl31 sl32 sl33 sl34 sl35 sl36 sl37 sl38 sl39 : Array (Option Value)} {oc1 kV1 dc1 pm1 cd1 ct1 oc2 kV2 dc2 pm2 cd2 ct2 oc3 kV3 dc3 pm3 cd3 ct3 oc4 kV4 dc4 pm4 cd4 ct4 oc5 kV5 dc5 pm5 cd5 ct5 oc6 kV6 dc6 pm6 cd6 ct6 oc7 kV7 dc7 pm7 cd7 ct7 oc8 kV8 dc8 pm8 cd8 ct8 oc9 kV9 dc9 pm9 cd9 ct9 oc10 kV10 dc10 pm10 cd10 ct10 oc11 kV11 dc11 pm11 cd11 ct11 oc12 kV12 dc12 pm12 cd12 ct12 oc13 kV13 dc13 pm13 cd13 ct13 oc14 kV14 dc14 pm14 cd14 ct14 oc15 kV15 dc15 pm15 cd15 ct15 oc16 kV16 dc16 pm16 cd16 ct16 oc17 kV17 dc17 pm17 cd17 ct17 oc18 kV18 dc18 pm18 cd18 ct18 oc19 kV19 dc19 pm19 cd19 ct19 oc20 kV20 dc20 pm20 cd20 ct20 oc21 kV21 dc21 pm21 cd21 ct21 oc22 kV22 dc22 pm22 cd22 ct22 oc23 kV23 dc23 pm23 cd23 ct23 oc24 kV24 dc24 pm24 cd24 ct24 oc25 kV25 dc25 pm25 cd25 ct25 oc26 kV26 dc26 pm26 cd26 ct26 oc27 kV27 dc27 pm27 cd27 ct27 oc28 kV28 dc28 pm28 cd28 ct28 oc29 kV29 dc29 pm29 cd29 ct29 oc30 kV30 dc30 pm30 cd30 ct30 oc31 kV31 dc31 pm31 cd31 ct31 oc32 kV32 dc32 pm32 cd32 ct32 oc33 kV33 dc33 pm33 cd33 ct33 oc34 kV34 dc34 pm34 cd34 ct34 oc35 kV35 dc35 pm35 cd35 ct35 oc36 kV36 dc36 pm36 cd36 ct36 oc37 kV37 dc37 pm37 cd37 ct37 oc38 kV38 dc38 pm38 cd38 ct38 oc39 kV39 dc39 pm39 cd39 ct39 : Value} {cc PP : Addr}
    (a1 : PySem.W.nsIn K mainGlobals "depth_changes" = some (some (.ref f1))) (l1 : K.lookup f1 = some ⟨oc1, od1, .func (PySem.W.fnOf "depth_changes" "depth_changes" (defArgs s_depth_changes) (defBody s_depth_changes) (defScope s_depth_changes) .none kV1 dc1 pm1 an1 cd1 ct1), sl1⟩) (c1 : PySem.W.codeIn K cd1 "depth_changes" = true) (k1 : PySem.W.keepIn K (.ref f1) = true)
    (a2 : PySem.W.nsIn K mainGlobals "find_blocks" = some (some (.ref f2))) (l2 : K.lookup f2 = some ⟨oc2, od2, .func (PySem.W.fnOf "find_blocks" "find_blocks" (defArgs s_find_blocks) (defBody s_find_blocks) (defScope s_find_blocks) .none kV2 dc2 pm2 an2 cd2 ct2), sl2⟩) (c2 : PySem.W.codeIn K cd2 "find_blocks" = true) (k2 : PySem.W.keepIn K (.ref f2) = true)
    (a3 : PySem.W.nsIn K mainGlobals "has_position" = some (some (.ref f3))) (l3 : K.lookup f3 = some ⟨oc3, od3, .func (PySem.W.fnOf "has_position" "has_position" (defArgs s_has_position) (defBody s_has_position) (defScope s_has_position) .none kV3 dc3 pm3 an3 cd3 ct3), sl3⟩) (c3 : PySem.W.codeIn K cd3 "has_position" = true) (k3 : PySem.W.keepIn K (.ref f3) = true)
    (a4 : PySem.W.nsIn K mainGlobals "contains" = some (some (.ref f4))) (l4 : K.lookup f4 = some ⟨oc4, od4, .func (PySem.W.fnOf "contains" "contains" (defArgs s_contains) (defBody s_contains) (defScope s_contains) .none kV4 dc4 pm4 an4 cd4 ct4), sl4⟩) (c4 : PySem.W.codeIn K cd4 "contains" = true) (k4 : PySem.W.keepIn K (.ref f4) = true)
    (a5 : PySem.W.nsIn K mainGlobals "serves" = some (some (.ref f5))) (l5 : K.lookup f5 = some ⟨oc5, od5, .func (PySem.W.fnOf "serves" "serves" (defArgs s_serves) (defBody s_serves) (defScope s_serves) .none kV5 dc5 pm5 an5 cd5 ct5), sl5⟩) (c5 : PySem.W.codeIn K cd5 "serves" = true) (k5 : PySem.W.keepIn K (.ref f5) = true)
    (a6 : PySem.W.nsIn K mainGlobals "conflict" = some (some (.ref f6))) (l6 : K.lookup f6 = some ⟨oc6, od6, .func (PySem.W.fnOf "conflict" "conflict" (defArgs s_conflict) (defBody s_conflict) (defScope s_conflict) .none kV6 dc6 pm6 an6 cd6 ct6), sl6⟩) (c6 : PySem.W.codeIn K cd6 "conflict" = true) (k6 : PySem.W.keepIn K (.ref f6) = true)
    (a7 : PySem.W.nsIn K mainGlobals "demands_at_blocks" = some (some (.ref f7))) (l7 : K.lookup f7 = some ⟨oc7, od7, .func (PySem.W.fnOf "demands_at_blocks" "demands_at_blocks" (defArgs s_demands_at_blocks) (defBody s_demands_at_blocks) (defScope s_demands_at_blocks) .none kV7 dc7 pm7 an7 cd7 ct7), sl7⟩) (c7 : PySem.W.codeIn K cd7 "demands_at_blocks" = true) (k7 : PySem.W.keepIn K (.ref f7) = true)
    (a8 : PySem.W.nsIn K mainGlobals "is_open" = some (some (.ref f8))) (l8 : K.lookup f8 = some ⟨oc8, od8, .func (PySem.W.fnOf "is_open" "is_open" (defArgs s_is_open) (defBody s_is_open) (defScope s_is_open) .none kV8 dc8 pm8 an8 cd8 ct8), sl8⟩) (c8 : PySem.W.codeIn K cd8 "is_open" = true) (k8 : PySem.W.keepIn K (.ref f8) = true)
    (a9 : PySem.W.nsIn K mainGlobals "open_demands" = some (some (.ref f9))) (l9 : K.lookup f9 = some ⟨oc9, od9, .func (PySem.W.fnOf "open_demands" "open_demands" (defArgs s_open_demands) (defBody s_open_demands) (defScope s_open_demands) .none kV9 dc9 pm9 an9 cd9 ct9), sl9⟩) (c9 : PySem.W.codeIn K cd9 "open_demands" = true) (k9 : PySem.W.keepIn K (.ref f9) = true)
    (a10 : PySem.W.nsIn K mainGlobals "shadow_target" = some (some (.ref f10))) (l10 : K.lookup f10 = some ⟨oc10, od10, .func (PySem.W.fnOf "shadow_target" "shadow_target" (defArgs s_shadow_target) (defBody s_shadow_target) (defScope s_shadow_target) .none kV10 dc10 pm10 an10 cd10 ct10), sl10⟩) (c10 : PySem.W.codeIn K cd10 "shadow_target" = true) (k10 : PySem.W.keepIn K (.ref f10) = true)
    (a11 : PySem.W.nsIn K mainGlobals "decisive_demands" = some (some (.ref f11))) (l11 : K.lookup f11 = some ⟨oc11, od11, .func (PySem.W.fnOf "decisive_demands" "decisive_demands" (defArgs s_decisive_demands) (defBody s_decisive_demands) (defScope s_decisive_demands) .none kV11 dc11 pm11 an11 cd11 ct11), sl11⟩) (c11 : PySem.W.codeIn K cd11 "decisive_demands" = true) (k11 : PySem.W.keepIn K (.ref f11) = true)
    (a12 : PySem.W.nsIn K mainGlobals "largest_independent" = some (some (.ref f12))) (l12 : K.lookup f12 = some ⟨oc12, od12, .func (PySem.W.fnOf "largest_independent" "largest_independent" (defArgs s_largest_independent) (defBody s_largest_independent) (defScope s_largest_independent) .none kV12 dc12 pm12 an12 cd12 ct12), sl12⟩) (c12 : PySem.W.codeIn K cd12 "largest_independent" = true) (k12 : PySem.W.keepIn K (.ref f12) = true)
    (a13 : PySem.W.nsIn K mainGlobals "unserved_demands" = some (some (.ref f13))) (l13 : K.lookup f13 = some ⟨oc13, od13, .func (PySem.W.fnOf "unserved_demands" "unserved_demands" (defArgs s_unserved_demands) (defBody s_unserved_demands) (defScope s_unserved_demands) .none kV13 dc13 pm13 an13 cd13 ct13), sl13⟩) (c13 : PySem.W.codeIn K cd13 "unserved_demands" = true) (k13 : PySem.W.keepIn K (.ref f13) = true)
    (a14 : PySem.W.nsIn K mainGlobals "helpful_piece" = some (some (.ref f14))) (l14 : K.lookup f14 = some ⟨oc14, od14, .func (PySem.W.fnOf "helpful_piece" "helpful_piece" (defArgs s_helpful_piece) (defBody s_helpful_piece) (defScope s_helpful_piece) .none kV14 dc14 pm14 an14 cd14 ct14), sl14⟩) (c14 : PySem.W.codeIn K cd14 "helpful_piece" = true) (k14 : PySem.W.keepIn K (.ref f14) = true)
    (a15 : PySem.W.nsIn K mainGlobals "smallest_solution" = some (some (.ref f15))) (l15 : K.lookup f15 = some ⟨oc15, od15, .func (PySem.W.fnOf "smallest_solution" "smallest_solution" (defArgs s_smallest_solution) (defBody s_smallest_solution) (defScope s_smallest_solution) .none kV15 dc15 pm15 an15 cd15 ct15), sl15⟩) (c15 : PySem.W.codeIn K cd15 "smallest_solution" = true) (k15 : PySem.W.keepIn K (.ref f15) = true)
    (a16 : PySem.W.nsIn K mainGlobals "row_runs" = some (some (.ref f16))) (l16 : K.lookup f16 = some ⟨oc16, od16, .func (PySem.W.fnOf "row_runs" "row_runs" (defArgs s_row_runs) (defBody s_row_runs) (defScope s_row_runs) .none kV16 dc16 pm16 an16 cd16 ct16), sl16⟩) (c16 : PySem.W.codeIn K cd16 "row_runs" = true) (k16 : PySem.W.keepIn K (.ref f16) = true)
    (a17 : PySem.W.nsIn K mainGlobals "rows_of_runs" = some (some (.ref f17))) (l17 : K.lookup f17 = some ⟨oc17, od17, .func (PySem.W.fnOf "rows_of_runs" "rows_of_runs" (defArgs s_rows_of_runs) (defBody s_rows_of_runs) (defScope s_rows_of_runs) .none kV17 dc17 pm17 an17 cd17 ct17), sl17⟩) (c17 : PySem.W.codeIn K cd17 "rows_of_runs" = true) (k17 : PySem.W.keepIn K (.ref f17) = true)
    (a18 : PySem.W.nsIn K mainGlobals "tallest_rectangle" = some (some (.ref f18))) (l18 : K.lookup f18 = some ⟨oc18, od18, .func (PySem.W.fnOf "tallest_rectangle" "tallest_rectangle" (defArgs s_tallest_rectangle) (defBody s_tallest_rectangle) (defScope s_tallest_rectangle) .none kV18 dc18 pm18 an18 cd18 ct18), sl18⟩) (c18 : PySem.W.codeIn K cd18 "tallest_rectangle" = true) (k18 : PySem.W.keepIn K (.ref f18) = true)
    (a19 : PySem.W.nsIn K mainGlobals "cover_board" = some (some (.ref f19))) (l19 : K.lookup f19 = some ⟨oc19, od19, .func (PySem.W.fnOf "cover_board" "cover_board" (defArgs s_cover_board) (defBody s_cover_board) (defScope s_cover_board) .none kV19 dc19 pm19 an19 cd19 ct19), sl19⟩) (c19 : PySem.W.codeIn K cd19 "cover_board" = true) (k19 : PySem.W.keepIn K (.ref f19) = true)
    (a20 : PySem.W.nsIn K mainGlobals "_law_draws" = some (some (.ref f20))) (l20 : K.lookup f20 = some ⟨oc20, od20, .func (PySem.W.fnOf "_law_draws" "_law_draws" (defArgs s_law_draws) (defBody s_law_draws) (defScope s_law_draws) .none kV20 dc20 pm20 an20 cd20 ct20), sl20⟩) (c20 : PySem.W.codeIn K cd20 "_law_draws" = true) (k20 : PySem.W.keepIn K (.ref f20) = true)
    (a21 : PySem.W.nsIn K mainGlobals "_law_next" = some (some (.ref f21))) (l21 : K.lookup f21 = some ⟨oc21, od21, .func (PySem.W.fnOf "_law_next" "_law_next" (defArgs s_law_next) (defBody s_law_next) (defScope s_law_next) .none kV21 dc21 pm21 an21 cd21 ct21), sl21⟩) (c21 : PySem.W.codeIn K cd21 "_law_next" = true) (k21 : PySem.W.keepIn K (.ref f21) = true)
    (a22 : PySem.W.nsIn K mainGlobals "_law_column" = some (some (.ref f22))) (l22 : K.lookup f22 = some ⟨oc22, od22, .func (PySem.W.fnOf "_law_column" "_law_column" (defArgs s_law_column) (defBody s_law_column) (defScope s_law_column) .none kV22 dc22 pm22 an22 cd22 ct22), sl22⟩) (c22 : PySem.W.codeIn K cd22 "_law_column" = true) (k22 : PySem.W.keepIn K (.ref f22) = true)
    (a23 : PySem.W.nsIn K mainGlobals "_law_board" = some (some (.ref f23))) (l23 : K.lookup f23 = some ⟨oc23, od23, .func (PySem.W.fnOf "_law_board" "_law_board" (defArgs s_law_board) (defBody s_law_board) (defScope s_law_board) .none kV23 dc23 pm23 an23 cd23 ct23), sl23⟩) (c23 : PySem.W.codeIn K cd23 "_law_board" = true) (k23 : PySem.W.keepIn K (.ref f23) = true)
    (a24 : PySem.W.nsIn K mainGlobals "_law_is_int" = some (some (.ref f24))) (l24 : K.lookup f24 = some ⟨oc24, od24, .func (PySem.W.fnOf "_law_is_int" "_law_is_int" (defArgs s_law_is_int) (defBody s_law_is_int) (defScope s_law_is_int) .none kV24 dc24 pm24 an24 cd24 ct24), sl24⟩) (c24 : PySem.W.codeIn K cd24 "_law_is_int" = true) (k24 : PySem.W.keepIn K (.ref f24) = true)
    (a25 : PySem.W.nsIn K mainGlobals "_law_inside" = some (some (.ref f25))) (l25 : K.lookup f25 = some ⟨oc25, od25, .func (PySem.W.fnOf "_law_inside" "_law_inside" (defArgs s_law_inside) (defBody s_law_inside) (defScope s_law_inside) .none kV25 dc25 pm25 an25 cd25 ct25), sl25⟩) (c25 : PySem.W.codeIn K cd25 "_law_inside" = true) (k25 : PySem.W.keepIn K (.ref f25) = true)
    (a26 : PySem.W.nsIn K mainGlobals "_law_full" = some (some (.ref f26))) (l26 : K.lookup f26 = some ⟨oc26, od26, .func (PySem.W.fnOf "_law_full" "_law_full" (defArgs s_law_full) (defBody s_law_full) (defScope s_law_full) .none kV26 dc26 pm26 an26 cd26 ct26), sl26⟩) (c26 : PySem.W.codeIn K cd26 "_law_full" = true) (k26 : PySem.W.keepIn K (.ref f26) = true)
    (a27 : PySem.W.nsIn K mainGlobals "_law_is_rectangle" = some (some (.ref f27))) (l27 : K.lookup f27 = some ⟨oc27, od27, .func (PySem.W.fnOf "_law_is_rectangle" "_law_is_rectangle" (defArgs s_law_is_rectangle) (defBody s_law_is_rectangle) (defScope s_law_is_rectangle) .none kV27 dc27 pm27 an27 cd27 ct27), sl27⟩) (c27 : PySem.W.codeIn K cd27 "_law_is_rectangle" = true) (k27 : PySem.W.keepIn K (.ref f27) = true)
    (a28 : PySem.W.nsIn K mainGlobals "_law_apart" = some (some (.ref f28))) (l28 : K.lookup f28 = some ⟨oc28, od28, .func (PySem.W.fnOf "_law_apart" "_law_apart" (defArgs s_law_apart) (defBody s_law_apart) (defScope s_law_apart) .none kV28 dc28 pm28 an28 cd28 ct28), sl28⟩) (c28 : PySem.W.codeIn K cd28 "_law_apart" = true) (k28 : PySem.W.keepIn K (.ref f28) = true)
    (a29 : PySem.W.nsIn K mainGlobals "_law_levels" = some (some (.ref f29))) (l29 : K.lookup f29 = some ⟨oc29, od29, .func (PySem.W.fnOf "_law_levels" "_law_levels" (defArgs s_law_levels) (defBody s_law_levels) (defScope s_law_levels) .none kV29 dc29 pm29 an29 cd29 ct29), sl29⟩) (c29 : PySem.W.codeIn K cd29 "_law_levels" = true) (k29 : PySem.W.keepIn K (.ref f29) = true)
    (a30 : PySem.W.nsIn K mainGlobals "_law_ascends" = some (some (.ref f30))) (l30 : K.lookup f30 = some ⟨oc30, od30, .func (PySem.W.fnOf "_law_ascends" "_law_ascends" (defArgs s_law_ascends) (defBody s_law_ascends) (defScope s_law_ascends) .none kV30 dc30 pm30 an30 cd30 ct30), sl30⟩) (c30 : PySem.W.codeIn K cd30 "_law_ascends" = true) (k30 : PySem.W.keepIn K (.ref f30) = true)
    (a31 : PySem.W.nsIn K mainGlobals "_law_covered" = some (some (.ref f31))) (l31 : K.lookup f31 = some ⟨oc31, od31, .func (PySem.W.fnOf "_law_covered" "_law_covered" (defArgs s_law_covered) (defBody s_law_covered) (defScope s_law_covered) .none kV31 dc31 pm31 an31 cd31 ct31), sl31⟩) (c31 : PySem.W.codeIn K cd31 "_law_covered" = true) (k31 : PySem.W.keepIn K (.ref f31) = true)
    (a32 : PySem.W.nsIn K mainGlobals "_law_is_cell" = some (some (.ref f32))) (l32 : K.lookup f32 = some ⟨oc32, od32, .func (PySem.W.fnOf "_law_is_cell" "_law_is_cell" (defArgs s_law_is_cell) (defBody s_law_is_cell) (defScope s_law_is_cell) .none kV32 dc32 pm32 an32 cd32 ct32), sl32⟩) (c32 : PySem.W.codeIn K cd32 "_law_is_cell" = true) (k32 : PySem.W.keepIn K (.ref f32) = true)
    (a33 : PySem.W.nsIn K mainGlobals "_law_holds" = some (some (.ref f33))) (l33 : K.lookup f33 = some ⟨oc33, od33, .func (PySem.W.fnOf "_law_holds" "_law_holds" (defArgs s_law_holds) (defBody s_law_holds) (defScope s_law_holds) .none kV33 dc33 pm33 an33 cd33 ct33), sl33⟩) (c33 : PySem.W.codeIn K cd33 "_law_holds" = true) (k33 : PySem.W.keepIn K (.ref f33) = true)
    (a34 : PySem.W.nsIn K mainGlobals "_law_board_cells" = some (some (.ref f34))) (l34 : K.lookup f34 = some ⟨oc34, od34, .func (PySem.W.fnOf "_law_board_cells" "_law_board_cells" (defArgs s_law_board_cells) (defBody s_law_board_cells) (defScope s_law_board_cells) .none kV34 dc34 pm34 an34 cd34 ct34), sl34⟩) (c34 : PySem.W.codeIn K cd34 "_law_board_cells" = true) (k34 : PySem.W.keepIn K (.ref f34) = true)
    (a35 : PySem.W.nsIn K mainGlobals "_law_number" = some (some (.ref f35))) (l35 : K.lookup f35 = some ⟨oc35, od35, .func (PySem.W.fnOf "_law_number" "_law_number" (defArgs s_law_number) (defBody s_law_number) (defScope s_law_number) .none kV35 dc35 pm35 an35 cd35 ct35), sl35⟩) (c35 : PySem.W.codeIn K cd35 "_law_number" = true) (k35 : PySem.W.keepIn K (.ref f35) = true)
    (a36 : PySem.W.nsIn K mainGlobals "_law_tallest" = some (some (.ref f36))) (l36 : K.lookup f36 = some ⟨oc36, od36, .func (PySem.W.fnOf "_law_tallest" "_law_tallest" (defArgs s_law_tallest) (defBody s_law_tallest) (defScope s_law_tallest) .none kV36 dc36 pm36 an36 cd36 ct36), sl36⟩) (c36 : PySem.W.codeIn K cd36 "_law_tallest" = true) (k36 : PySem.W.keepIn K (.ref f36) = true)
    (a37 : PySem.W.nsIn K mainGlobals "_law_fewest" = some (some (.ref f37))) (l37 : K.lookup f37 = some ⟨oc37, od37, .func (PySem.W.fnOf "_law_fewest" "_law_fewest" (defArgs s_law_fewest) (defBody s_law_fewest) (defScope s_law_fewest) .none kV37 dc37 pm37 an37 cd37 ct37), sl37⟩) (c37 : PySem.W.codeIn K cd37 "_law_fewest" = true) (k37 : PySem.W.keepIn K (.ref f37) = true)
    (a38 : PySem.W.nsIn K mainGlobals "_law_most" = some (some (.ref f38))) (l38 : K.lookup f38 = some ⟨oc38, od38, .func (PySem.W.fnOf "_law_most" "_law_most" (defArgs s_law_most) (defBody s_law_most) (defScope s_law_most) .none kV38 dc38 pm38 an38 cd38 ct38), sl38⟩) (c38 : PySem.W.codeIn K cd38 "_law_most" = true) (k38 : PySem.W.keepIn K (.ref f38) = true)
    (a39 : PySem.W.nsIn K mainGlobals "law" = some (some (.ref f39))) (l39 : K.lookup f39 = some ⟨oc39, od39, .func (PySem.W.fnOf "law" "law" (defArgs s_law) (defBody s_law) (defScope s_law) .none kV39 dc39 pm39 an39 cd39 ct39), sl39⟩) (c39 : PySem.W.codeIn K cd39 "law" = true) (k39 : PySem.W.keepIn K (.ref f39) = true)
    (z0 : PySem.W.nsIn K mainGlobals "any" = some none) (z1 : PySem.W.nsIn K mainGlobals "bool" = some none) (z2 : PySem.W.nsIn K mainGlobals "enumerate" = some none) (z3 : PySem.W.nsIn K mainGlobals "int" = some none) (z4 : PySem.W.nsIn K mainGlobals "isinstance" = some none) (z5 : PySem.W.nsIn K mainGlobals "len" = some none) (z6 : PySem.W.nsIn K mainGlobals "list" = some none) (z7 : PySem.W.nsIn K mainGlobals "max" = some none) (z8 : PySem.W.nsIn K mainGlobals "min" = some none) (z9 : PySem.W.nsIn K mainGlobals "piece" = some none) (z10 : PySem.W.nsIn K mainGlobals "range" = some none) (z11 : PySem.W.nsIn K mainGlobals "set" = some none) (z12 : PySem.W.nsIn K mainGlobals "sorted" = some none) (z13 : PySem.W.nsIn K mainGlobals "tuple" = some none) (z14 : PySem.W.nsIn K mainGlobals "zip" = some none) (hcc : cd14 = .ref cc) :
    ∃ fd : FuncData, (∀ (s : Shared) (v : Value), BindsTo s fd ⟨[v], []⟩ [("_law_script", v)]) ∧ ∀ base : Heap, K.In base → base.Ns mainGlobals mg → (∃ mm, base.Ns sysModules mm) → LamX.TabB base mg cc PP → FnG l.prog w K mg base 205 fa fd ["_law_script"] (sp_law K PP) := by
  have e := hfa.symm.trans (PySem.W.mg_of X G a39)
  cases e
  have F1 := fun_mk (st := s_depth_changes) l1 c1 k1
  have b1 := F1.binds (ps := ["intervals"]) fun _ _ _ _ _ _ us hl => match us, hl with | [_], _ => rfl
  have F2 := fun_mk (st := s_find_blocks) l2 c2 k2
  have b2 := F2.binds (ps := ["intervals"]) fun _ _ _ _ _ _ us hl => match us, hl with | [_], _ => rfl
  have F3 := fun_mk (st := s_has_position) l3 c3 k3
  have b3 := F3.binds (ps := ["interval", "position"]) fun _ _ _ _ _ _ us hl => match us, hl with | [_, _], _ => rfl
  have F4 := fun_mk (st := s_contains) l4 c4 k4
  have b4 := F4.binds (ps := ["outer", "inner"]) fun _ _ _ _ _ _ us hl => match us, hl with | [_, _], _ => rfl
  have F5 := fun_mk (st := s_serves) l5 c5 k5
  have b5 := F5.binds (ps := ["piece", "demand"]) fun _ _ _ _ _ _ us hl => match us, hl with | [_, _], _ => rfl
  have F6 := fun_mk (st := s_conflict) l6 c6 k6
  have b6 := F6.binds (ps := ["first", "second"]) fun _ _ _ _ _ _ us hl => match us, hl with | [_, _], _ => rfl
  have F7 := fun_mk (st := s_demands_at_blocks) l7 c7 k7
  have b7 := F7.binds (ps := ["targets", "blocks"]) fun _ _ _ _ _ _ us hl => match us, hl with | [_, _], _ => rfl
  have F8 := fun_mk (st := s_is_open) l8 c8 k8
  have b8 := F8.binds (ps := ["pieces", "demand"]) fun _ _ _ _ _ _ us hl => match us, hl with | [_, _], _ => rfl
  have F9 := fun_mk (st := s_open_demands) l9 c9 k9
  have b9 := F9.binds (ps := ["targets", "pieces"]) fun _ _ _ _ _ _ us hl => match us, hl with | [_, _], _ => rfl
  have F10 := fun_mk (st := s_shadow_target) l10 c10 k10
  have b10 := F10.binds (ps := ["targets", "demand"]) fun _ _ _ _ _ _ us hl => match us, hl with | [_, _], _ => rfl
  have F11 := fun_mk (st := s_decisive_demands) l11 c11 k11
  have b11 := F11.binds (ps := ["targets", "pieces"]) fun _ _ _ _ _ _ us hl => match us, hl with | [_, _], _ => rfl
  have F12 := fun_mk (st := s_largest_independent) l12 c12 k12
  have b12 := F12.binds (ps := ["demands"]) fun _ _ _ _ _ _ us hl => match us, hl with | [_], _ => rfl
  have F13 := fun_mk (st := s_unserved_demands) l13 c13 k13
  have b13 := F13.binds (ps := ["demands", "piece"]) fun _ _ _ _ _ _ us hl => match us, hl with | [_, _], _ => rfl
  have F14 := fun_mk (st := s_helpful_piece) l14 c14 k14
  have b14 := F14.binds (ps := ["demands", "blocks"]) fun _ _ _ _ _ _ us hl => match us, hl with | [_, _], _ => rfl
  have F15 := fun_mk (st := s_smallest_solution) l15 c15 k15
  have b15 := F15.binds (ps := ["targets", "pieces"]) fun _ _ _ _ _ _ us hl => match us, hl with | [_, _], _ => rfl
  have F16 := fun_mk (st := s_row_runs) l16 c16 k16
  have b16 := F16.binds (ps := ["board", "row"]) fun _ _ _ _ _ _ us hl => match us, hl with | [_, _], _ => rfl
  have F17 := fun_mk (st := s_rows_of_runs) l17 c17 k17
  have b17 := F17.binds (ps := ["board"]) fun _ _ _ _ _ _ us hl => match us, hl with | [_], _ => rfl
  have F18 := fun_mk (st := s_tallest_rectangle) l18 c18 k18
  have b18 := F18.binds (ps := ["board", "piece"]) fun _ _ _ _ _ _ us hl => match us, hl with | [_, _], _ => rfl
  have F19 := fun_mk (st := s_cover_board) l19 c19 k19
  have b19 := F19.binds (ps := ["board"]) fun _ _ _ _ _ _ us hl => match us, hl with | [_], _ => rfl
  have F20 := fun_mk (st := s_law_draws) l20 c20 k20
  have b20 := F20.binds (ps := ["_law_script"]) fun _ _ _ _ _ _ us hl => match us, hl with | [_], _ => rfl
  have F21 := fun_mk (st := s_law_next) l21 c21 k21
  have b21 := F21.binds (ps := ["_law_drawn", "_law_many"]) fun _ _ _ _ _ _ us hl => match us, hl with | [_, _], _ => rfl
  have F22 := fun_mk (st := s_law_column) l22 c22 k22
  have b22 := F22.binds (ps := ["_law_drawn", "_law_height"]) fun _ _ _ _ _ _ us hl => match us, hl with | [_, _], _ => rfl
  have F23 := fun_mk (st := s_law_board) l23 c23 k23
  have b23 := F23.binds (ps := ["_law_drawn", "_law_most_here", "_law_height"]) fun _ _ _ _ _ _ us hl => match us, hl with | [_, _, _], _ => rfl
  have F24 := fun_mk (st := s_law_is_int) l24 c24 k24
  have b24 := F24.binds (ps := ["_law_value", "_law_low", "_law_high"]) fun _ _ _ _ _ _ us hl => match us, hl with | [_, _, _], _ => rfl
  have F25 := fun_mk (st := s_law_inside) l25 c25 k25
  have b25 := F25.binds (ps := ["_law_board_here", "_law_column_here", "_law_row"]) fun _ _ _ _ _ _ us hl => match us, hl with | [_, _, _], _ => rfl
  have F26 := fun_mk (st := s_law_full) l26 c26 k26
  have b26 := F26.binds (ps := ["_law_board_here", "_law_left", "_law_right", "_law_bottom", "_law_top"]) fun _ _ _ _ _ _ us hl => match us, hl with | [_, _, _, _, _], _ => rfl
  have F27 := fun_mk (st := s_law_is_rectangle) l27 c27 k27
  have b27 := F27.binds (ps := ["_law_board_here", "_law_value"]) fun _ _ _ _ _ _ us hl => match us, hl with | [_, _], _ => rfl
  have F28 := fun_mk (st := s_law_apart) l28 c28 k28
  have b28 := F28.binds (ps := ["_law_board_here", "_law_first", "_law_second"]) fun _ _ _ _ _ _ us hl => match us, hl with | [_, _, _], _ => rfl
  have F29 := fun_mk (st := s_law_levels) l29 c29 k29
  have b29 := F29.binds (ps := ["_law_board_here"]) fun _ _ _ _ _ _ us hl => match us, hl with | [_], _ => rfl
  have F30 := fun_mk (st := s_law_ascends) l30 c30 k30
  have b30 := F30.binds (ps := ["_law_items"]) fun _ _ _ _ _ _ us hl => match us, hl with | [_], _ => rfl
  have F31 := fun_mk (st := s_law_covered) l31 c31 k31
  have b31 := F31.binds (ps := ["_law_board_here", "_law_rectangles"]) fun _ _ _ _ _ _ us hl => match us, hl with | [_, _], _ => rfl
  have F32 := fun_mk (st := s_law_is_cell) l32 c32 k32
  have b32 := F32.binds (ps := ["_law_board_here", "_law_value"]) fun _ _ _ _ _ _ us hl => match us, hl with | [_, _], _ => rfl
  have F33 := fun_mk (st := s_law_holds) l33 c33 k33
  have b33 := F33.binds (ps := ["_law_board_here", "_law_value"]) fun _ _ _ _ _ _ us hl => match us, hl with | [_, _], _ => rfl
  have F34 := fun_mk (st := s_law_board_cells) l34 c34 k34
  have b34 := F34.binds (ps := ["_law_board_here"]) fun _ _ _ _ _ _ us hl => match us, hl with | [_], _ => rfl
  have F35 := fun_mk (st := s_law_number) l35 c35 k35
  have b35 := F35.binds (ps := ["_law_board_here"]) fun _ _ _ _ _ _ us hl => match us, hl with | [_], _ => rfl
  have F36 := fun_mk (st := s_law_tallest) l36 c36 k36
  have b36 := F36.binds (ps := ["_law_board_here"]) fun _ _ _ _ _ _ us hl => match us, hl with | [_], _ => rfl
  have F37 := fun_mk (st := s_law_fewest) l37 c37 k37
  have b37 := F37.binds (ps := ["_law_board_here"]) fun _ _ _ _ _ _ us hl => match us, hl with | [_], _ => rfl
  have F38 := fun_mk (st := s_law_most) l38 c38 k38
  have b38 := F38.binds (ps := ["_law_board_here"]) fun _ _ _ _ _ _ us hl => match us, hl with | [_], _ => rfl
  have F39 := fun_mk (st := s_law) l39 c39 k39
  have b39 := F39.binds (ps := ["_law_script"]) fun _ _ _ _ _ _ us hl => match us, hl with | [_], _ => rfl
  have T : Tx K mg _ _ _ _ _ _ _ _ _ _ _ _ _ _ _ _ _ _ _ _ _ _ _ _ _ _ _ _ _ _ _ _ _ _ _ _ _ _ _  _ _ _ _ _ _ _ _ _ _ _ _ _ _ _ _ _ _ _ _ _ _ _ _ _ _ _ _ _ _ _ _ _ _ _ _ _ _ _ := ⟨F1, b1, PySem.W.mg_of X G a1, F2, b2, PySem.W.mg_of X G a2, F3, b3, PySem.W.mg_of X G a3, F4, b4, PySem.W.mg_of X G a4, F5, b5, PySem.W.mg_of X G a5, F6, b6, PySem.W.mg_of X G a6, F7, b7, PySem.W.mg_of X G a7, F8, b8, PySem.W.mg_of X G a8, F9, b9, PySem.W.mg_of X G a9, F10, b10, PySem.W.mg_of X G a10, F11, b11, PySem.W.mg_of X G a11, F12, b12, PySem.W.mg_of X G a12, F13, b13, PySem.W.mg_of X G a13, F14, b14, PySem.W.mg_of X G a14, F15, b15, PySem.W.mg_of X G a15, F16, b16, PySem.W.mg_of X G a16, F17, b17, PySem.W.mg_of X G a17, F18, b18, PySem.W.mg_of X G a18, F19, b19, PySem.W.mg_of X G a19, F20, b20, PySem.W.mg_of X G a20, F21, b21, PySem.W.mg_of X G a21, F22, b22, PySem.W.mg_of X G a22, F23, b23, PySem.W.mg_of X G a23, F24, b24, PySem.W.mg_of X G a24, F25, b25, PySem.W.mg_of X G a25, F26, b26, PySem.W.mg_of X G a26, F27, b27, PySem.W.mg_of X G a27, F28, b28, PySem.W.mg_of X G a28, F29, b29, PySem.W.mg_of X G a29, F30, b30, PySem.W.mg_of X G a30, F31, b31, PySem.W.mg_of X G a31, F32, b32, PySem.W.mg_of X G a32, F33, b33, PySem.W.mg_of X G a33, F34, b34, PySem.W.mg_of X G a34, F35, b35, PySem.W.mg_of X G a35, F36, b36, PySem.W.mg_of X G a36, F37, b37, PySem.W.mg_of X G a37, F38, b38, PySem.W.mg_of X G a38, F39, b39, PySem.W.mg_of X G a39, PySem.W.mg_none_of X G z0, PySem.W.mg_none_of X G z1, PySem.W.mg_none_of X G z2, PySem.W.mg_none_of X G z3, PySem.W.mg_none_of X G z4, PySem.W.mg_none_of X G z5, PySem.W.mg_none_of X G z6, PySem.W.mg_none_of X G z7, PySem.W.mg_none_of X G z8, PySem.W.mg_none_of X G z9, PySem.W.mg_none_of X G z10, PySem.W.mg_none_of X G z11, PySem.W.mg_none_of X G z12, PySem.W.mg_none_of X G z13, PySem.W.mg_none_of X G z14⟩
  exact ⟨_, fun s v => .of_eq rfl, fun base _ _ hM hB => ok_law T ⟨cc, hB, hcc⟩⟩
end L9
open PySem PySem.W PyProof.Rows
set_option maxHeartbeats 0 in
theorem PySem.Challenge.cw_fewspans_k63_whole_small_boards_searched_holds : PySem.Challenge.rw_fewspans_k63_whole_small_boards_searched.Holds := by
  w_on; o_law; k_head; (case hw => w_witness2)
  k_fill
  refine L9.quiet_walkT (l := PySem.Challenge.rw_fewspans_k63_whole_small_boards_searched) (n := 63) (k := 205) (x := "_law_script") (by decide +kernel) rfl (by decide) rfl ⟨rfl, by decide, by decide⟩ (fun w h Y => PySem.W.km_in_of Y) ?F
  case F =>
    intro w mg fa h KX G hmg tabOf
    refine' L9.endT tabOf (y := "helpful_piece") ?ta ?tl ?te ?tc ?tv (by decide +kernel) ?noT (L9.all_mk KX G hmg ?a1 ?l1 ?c1 ?k1 ?a2 ?l2 ?c2 ?k2 ?a3 ?l3 ?c3 ?k3 ?a4 ?l4 ?c4 ?k4 ?a5 ?l5 ?c5 ?k5 ?a6 ?l6 ?c6 ?k6 ?a7 ?l7 ?c7 ?k7 ?a8 ?l8 ?c8 ?k8 ?a9 ?l9 ?c9 ?k9 ?a10 ?l10 ?c10 ?k10 ?a11 ?l11 ?c11 ?k11 ?a12 ?l12 ?c12 ?k12 ?a13 ?l13 ?c13 ?k13 ?a14 ?l14 ?c14 ?k14 ?a15 ?l15 ?c15 ?k15 ?a16 ?l16 ?c16 ?k16 ?a17 ?l17 ?c17 ?k17 ?a18 ?l18 ?c18 ?k18 ?a19 ?l19 ?c19 ?k19 ?a20 ?l20 ?c20 ?k20 ?a21 ?l21 ?c21 ?k21 ?a22 ?l22 ?c22 ?k22 ?a23 ?l23 ?c23 ?k23 ?a24 ?l24 ?c24 ?k24 ?a25 ?l25 ?c25 ?k25 ?a26 ?l26 ?c26 ?k26 ?a27 ?l27 ?c27 ?k27 ?a28 ?l28 ?c28 ?k28 ?a29 ?l29 ?c29 ?k29 ?a30 ?l30 ?c30 ?k30 ?a31 ?l31 ?c31 ?k31 ?a32 ?l32 ?c32 ?k32 ?a33 ?l33 ?c33 ?k33 ?a34 ?l34 ?c34 ?k34 ?a35 ?l35 ?c35 ?k35 ?a36 ?l36 ?c36 ?k36 ?a37 ?l37 ?c37 ?k37 ?a38 ?l38 ?c38 ?k38 ?a39 ?l39 ?c39 ?k39 ?z0 ?z1 ?z2 ?z3 ?z4 ?z5 ?z6 ?z7 ?z8 ?z9 ?z10 ?z11 ?z12 ?z13 ?z14 ?hcc) (fun H a ns hl h0 hS => ⟨a, ns, rfl, hS, hl, h0, fun _ => rfl⟩)
    (case ta => k_is)
    (case tl => k_is)
    (case te => rfl)
    (case tc => k_is)
    (case tv => rfl)
    (case noT => kernel_rfl)
    (case a1 => k_is)
    (case l1 => k_is)
    (case c1 => k_is)
    (case k1 => k_is)
    (case a2 => k_is)
    (case l2 => k_is)
    (case c2 => k_is)
    (case k2 => k_is)
    (case a3 => k_is)
    (case l3 => k_is)
    (case c3 => k_is)
    (case k3 => k_is)
    (case a4 => k_is)
    (case l4 => k_is)
    (case c4 => k_is)
    (case k4 => k_is)
    (case a5 => k_is)
    (case l5 => k_is)
    (case c5 => k_is)
    (case k5 => k_is)
    (case a6 => k_is)
    (case l6 => k_is)
    (case c6 => k_is)
    (case k6 => k_is)
    (case a7 => k_is)
    (case l7 => k_is)
    (case c7 => k_is)
    (case k7 => k_is)
    (case a8 => k_is)
    (case l8 => k_is)
    (case c8 => k_is)
    (case k8 => k_is)
    (case a9 => k_is)
    (case l9 => k_is)
    (case c9 => k_is)
    (case k9 => k_is)
    (case a10 => k_is)
    (case l10 => k_is)
    (case c10 => k_is)
    (case k10 => k_is)
    (case a11 => k_is)
    (case l11 => k_is)
    (case c11 => k_is)
    (case k11 => k_is)
    (case a12 => k_is)
    (case l12 => k_is)
    (case c12 => k_is)
    (case k12 => k_is)
    (case a13 => k_is)
    (case l13 => k_is)
    (case c13 => k_is)
    (case k13 => k_is)
    (case a14 => k_is)
    (case l14 => k_is)
    (case c14 => k_is)
    (case k14 => k_is)
    (case a15 => k_is)
    (case l15 => k_is)
    (case c15 => k_is)
    (case k15 => k_is)
    (case a16 => k_is)
    (case l16 => k_is)
    (case c16 => k_is)
    (case k16 => k_is)
    (case a17 => k_is)
    (case l17 => k_is)
    (case c17 => k_is)
    (case k17 => k_is)
    (case a18 => k_is)
    (case l18 => k_is)
    (case c18 => k_is)
    (case k18 => k_is)
    (case a19 => k_is)
    (case l19 => k_is)
    (case c19 => k_is)
    (case k19 => k_is)
    (case a20 => k_is)
    (case l20 => k_is)
    (case c20 => k_is)
    (case k20 => k_is)
    (case a21 => k_is)
    (case l21 => k_is)
    (case c21 => k_is)
    (case k21 => k_is)
    (case a22 => k_is)
    (case l22 => k_is)
    (case c22 => k_is)
    (case k22 => k_is)
    (case a23 => k_is)
    (case l23 => k_is)
    (case c23 => k_is)
    (case k23 => k_is)
    (case a24 => k_is)
    (case l24 => k_is)
    (case c24 => k_is)
    (case k24 => k_is)
    (case a25 => k_is)
    (case l25 => k_is)
    (case c25 => k_is)
    (case k25 => k_is)
    (case a26 => k_is)
    (case l26 => k_is)
    (case c26 => k_is)
    (case k26 => k_is)
    (case a27 => k_is)
    (case l27 => k_is)
    (case c27 => k_is)
    (case k27 => k_is)
    (case a28 => k_is)
    (case l28 => k_is)
    (case c28 => k_is)
    (case k28 => k_is)
    (case a29 => k_is)
    (case l29 => k_is)
    (case c29 => k_is)
    (case k29 => k_is)
    (case a30 => k_is)
    (case l30 => k_is)
    (case c30 => k_is)
    (case k30 => k_is)
    (case a31 => k_is)
    (case l31 => k_is)
    (case c31 => k_is)
    (case k31 => k_is)
    (case a32 => k_is)
    (case l32 => k_is)
    (case c32 => k_is)
    (case k32 => k_is)
    (case a33 => k_is)
    (case l33 => k_is)
    (case c33 => k_is)
    (case k33 => k_is)
    (case a34 => k_is)
    (case l34 => k_is)
    (case c34 => k_is)
    (case k34 => k_is)
    (case a35 => k_is)
    (case l35 => k_is)
    (case c35 => k_is)
    (case k35 => k_is)
    (case a36 => k_is)
    (case l36 => k_is)
    (case c36 => k_is)
    (case k36 => k_is)
    (case a37 => k_is)
    (case l37 => k_is)
    (case c37 => k_is)
    (case k37 => k_is)
    (case a38 => k_is)
    (case l38 => k_is)
    (case c38 => k_is)
    (case k38 => k_is)
    (case a39 => k_is)
    (case l39 => k_is)
    (case c39 => k_is)
    (case k39 => k_is)
    (case z0 => k_is)
    (case z1 => k_is)
    (case z2 => k_is)
    (case z3 => k_is)
    (case z4 => k_is)
    (case z5 => k_is)
    (case z6 => k_is)
    (case z7 => k_is)
    (case z8 => k_is)
    (case z9 => k_is)
    (case z10 => k_is)
    (case z11 => k_is)
    (case z12 => k_is)
    (case z13 => k_is)
    (case z14 => k_is)
    (case hcc => rfl)
