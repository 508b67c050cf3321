import PyProof.Rows.All
import Wide.All
import OpenK.AllK
import Wide.FinOn
import PySem.Challenge.RW_fewspans_k32_whole_small_families
import HandS.ForMost
import HandS.Wide
import HandS.IsInst
import HandS.Conv
import HandS.TupLe
import HandS.Strs
import HandS.SetFor
import HandS.Style
import HandS.TupSets
import HandS.Keys
import HandS.Sort
import HandS.SortOrd
import HandS.SortRule
import HandS.SortKw
import HandS.SetBool
import HandS.TupAny
import HandS.Zip
import HandS.NoneIn
import HandS.Deep
import KE.KMinBuiltin
import PyProof.NeKinds
set_option Elab.async false
set_option linter.all false
set_option maxRecDepth 100000
set_option maxHeartbeats 4000000
namespace L9
open PySem PySem.Spec PyProof.Rows L2
/-! ### set(xs), xs a list of ints: the library has it of tuples; the walk is a list's here -/
section
variable {P : Program} {w : World} {A : Around} {E : Value → Shared → Prop} {s : Shared}
abbrev noSet (w : World) : Obj := { cls := .type "set", dict := none, data := .set #[] 0 (.fresh 0 0 (!w.params.followText "set-order")) }
theorem setL_ints {l : Addr} {its : Array Value} (ns : List Int) {Q : Value → Shared → Prop} (quiet : A.handled = none) (isL : s.heap.IsList l its) (allI : IntsAre its.toList ns) (few : ns.length + 1 < scanBound)
    (fin : ∀ (h2 : Heap) (tk n : Nat), SetR w h2 s.heap.objs.size (fun j => decide (j ∈ ns)) n → n ≤ ns.length → (∀ b o, s.heap.get? b = some o → h2.get? b = some o) → Q (.ref s.heap.objs.size) { s with heap := h2, toks := tk }) :
    wpAny (model P w) A (call (.type "set") [.ref l]) Q E s := by
  have size : its.size = ns.length := by
    rw [← Array.length_toList]
    exact allI.length
  obtain ⟨cA, tA, mA⟩ := F.called_set.mro
  have f1 := F.called_set.made
  have f2 := F.called_set.sub
  refine wpAny_call (codeAny_of_tree (?_ : wpAny _ _ (callAny (.type "set") _) _ _ _))
  refine wpAny_pure (And.intro (Code.quiet_builtin _ (by decide +kernel)) (codeAny_builtin F.entry_type_call ?_))
  rw [Around.under_plain (weight_type_call_type "set" [Value.ref l] []) rfl]
  have f3 := F.called_set.notType
  have f4 := F.called_set.canCreate
  have f5 := F.typeCall_set_1 (Value.ref l)
  repeat any_goals first | assumption | wp_step
  refine codeAny_mono (code_set_led1 (.ref l) (E := E) (Q₁ := fun v s1 => v = .ref s.heap.objs.size ∧ s1 = { s with heap := s.heap.push (noSet w) }) (And.intro rfl rfl)) fun r s1 h1 => ?_
  match r, h1 with
  | .error e, h1 => exact h1
  | .ok (.ret v), h1 =>
    obtain ⟨rfl, rfl⟩ := h1
    have at0 : (s.heap.push (noSet w)).get? s.heap.objs.size = some (noSet w) := Heap.get?_push_size _ rfl
    have ty0 : Shared.TypeIs { s with heap := s.heap.push (noSet w) } (.ref s.heap.objs.size) "set" := Exists.intro _ (And.intro at0 rfl)
    have f6 := F.called_set.init.lookup
    have f7 := F.called_set.init.bind (Value.ref s.heap.objs.size)
    repeat any_goals first | assumption | wp_step
    let Z : Value → Shared → Prop := fun v s2 => v = .none ∧ ∃ h2 tk n, s2 = { s with heap := h2, toks := tk } ∧ SetR w h2 s.heap.objs.size (fun j => decide (j ∈ ns)) n ∧ n ≤ ns.length ∧ ∀ b o, s.heap.get? b = some o → h2.get? b = some o
    refine codeAny_mono (codeAny_call_builtin (R := wants Z E) F.called_set.init.plain F.entry_set_init (check_set_init_1 ty0 ?_)) fun r2 s2 h2 => ?_
    · obtain ⟨o, eo, ec, k, ed⟩ := isL
      obtain ⟨oc, od, oD, oS⟩ := o
      simp only at ec ed
      subst ec ed
      have lt : l < s.heap.objs.size := Heap.lt_size eo
      have eo1 : (s.heap.push (noSet w)).get? l = some { cls := .type "list", dict := od, data := .seq its k, slots := oS } := Heap.get?_push_of_some _ eo
      have g1 := F.sub_list_set
      have g2 := F.sub_list_frozenset
      have g3 : (Value.type "list" == Value.type "dict") = false := by decide
      have isL1 : (s.heap.push (noSet w)).IsList l its := Exists.intro _ (And.intro eo1 (And.intro rfl (Exists.intro k rfl)))
      unfold Builtin.«set.__init__» Builtin.Frozenset.updateFrom noKeywords
      generalize keep : pyIter = itr
      wp_walk
      subst keep
      refine wpAny_pyIter_list isL1 (wpAny_bind (wpAny_runValue ?_))
      have quiet3 : A.in1.in1.in1.handled = none := by simp [quiet]
      have sz : (s.heap.push (noSet w)).objs.size = s.heap.objs.size + 1 := Heap.size_push ..
      have lI : l ≠ (s.heap.push (noSet w)).objs.size := by
        rw [sz]
        exact Nat.ne_of_lt (Nat.lt_succ_of_lt lt)
      have out : s.heap.objs.size ∉ [(s.heap.push (noSet w)).objs.size, l] := by
        rw [sz]
        intro z
        rcases List.mem_cons.mp z with z | z
        · exact absurd z (Nat.ne_of_lt (Nat.lt_succ_self _))
        · exact absurd (List.mem_singleton.mp z) (Nat.ne_of_gt lt)
      have vals : ∀ (i : Nat) (v : Value), its[i]? = some v → ∃ j t, ns[i]? = some j ∧ v = .int j t := fun i v hv => by
        have lti : i < ns.length := by
          rw [← size]
          exact (Array.getElem?_eq_some_iff.mp hv).1
        obtain ⟨t, e⟩ := allI.int_at i v (by rw [Array.getElem?_toList]; exact hv)
        have en := List.getElem?_eq_getElem lti
        refine ⟨_, t, en, e.trans ?_⟩
        rw [List.getD_eq_getElem?_getD, en]
        rfl
      refine set_update_ints (Walks.list quiet3 _ l lI its).toS s.heap.objs.size out ns size few vals (its.size - 0) 0 _ rfl (Nat.zero_le _) (And.intro (Exists.intro _ (And.intro (Heap.get?_push_size _ rfl) (And.intro rfl rfl))) (isL1.push _)) ?start ?last
      case start =>
        exact ⟨0, Nat.le_refl _, setR_new_at (Heap.get?_push_of_some _ at0)⟩
      case last =>
        intro s3 n mv le R
        obtain ⟨h3, g3', d3, tk3, o3⟩ := s3
        have m1 : g3' = s.gens := mv.gens
        have m2 : d3 = s.drawn := mv.drawn
        have m3 : o3 = s.os := mv.os
        subst m1 m2 m3
        refine wpAny_pure (?_ : wpAny _ _ (ret Value.none) _ _ _)
        rw [size] at le
        refine wpAny_pure (And.intro rfl ⟨h3, tk3, n, rfl, R, le, fun b o e => ?_⟩)
        have lb := Heap.lt_size e
        refine mv.heap b o (fun z => ?_) (Heap.get?_push_of_some _ (Heap.get?_push_of_some _ e))
        rcases List.mem_cons.mp z with z | z
        · exact absurd z (Nat.ne_of_lt lb)
        · have z1 := List.mem_singleton.mp z
          rw [sz] at z1
          exact absurd z1 (Nat.ne_of_lt (Nat.lt_succ_of_lt lb))
    · match r2, h2 with
      | .error e, h2 => exact h2
      | .ok (.ret v), h2 =>
        obtain ⟨rfl, h', tk, n, rfl, R, le, kp⟩ := h2
        repeat any_goals first | assumption | wp_step
        exact fin h' tk n R le kp
      | .ok .next, h2 => exact h2
      | .ok .brk, h2 => exact h2
      | .ok .cont, h2 => exact h2
  | .ok .next, h1 => exact h1
  | .ok .brk, h1 => exact h1
  | .ok .cont, h1 => exact h1
end
section
variable {X : Cx}
def rSetOfI (K : PySem.W.Frag) (w : World) : List V → Hp → VK → Prop := fun xs H Q => ∃ (l : Addr) (ns : List Int), xs = [V.ref l] ∧ SqL K H l (ns.map V.int) ∧ ns.length < 60 ∧
  ∀ (H' : Hp) a n, Same H H' → H a = none → H' a = some (SetO w a (fun j => decide (j ∈ ns)) n) → n ≤ ns.length → Q (.ref a) H'
theorem cr_setOfI (calm : X.calm = true) : CallR X (.type "set") (rSetOfI X.K X.w) := by
  intro pins s σ H xs us Q I r h
  obtain ⟨l, ns, rfl, hl, few, q⟩ := h
  rw [Vals.ref1 r]
  obtain ⟨its, rv, pl, _⟩ := I.list hl
  refine setL_ints (P := X.prog) (w := X.w) ns (I.ok.hd calm) pl.isList (ints_of_vals rv) (by unfold scanBound; omega) fun h2 tk n R le kp => ?_
  exact ⟨.ref s.heap.objs.size, _, I.laid (t' := tk) kp (Nat.le_refl _) (setO_new R), rfl, q _ _ n (fun b x e => by rw [upd_ne (ne_of_none e (I.hok.fresh (Nat.le_refl _)))]; exact e) (I.hok.fresh (Nat.le_refl _)) upd_same le⟩
end

/-! ### defs that are run where no text-making of the machine is under way (repr, str of nested data ask for it) -/
abbrev Quiet (A : Around) : Prop := A.guards = some []
structure FnG (P : Program) (w : World) (K : PySem.W.Frag) (mg : Str → Option Value) (base : Heap) (k : Nat) (f : Addr) (fd : FuncData) (ps : List Str) (sp : Sp) : Prop where
  size : ∀ {vs H Q}, sp vs H Q E0 → vs.length = ps.length
  go : ∀ {A outer s H us vs Q}, Room k A → Quiet A → Env0 P w K mg base A outer s H → BindsTo s fd ⟨us, []⟩ (ps.zip us) → Vals vs us → sp vs H Q E0 →
    codeAny (model P w) A (.call (.ref f) ⟨us, []⟩) (CR CX0 outer P w H s Q E0) s
section
variable {P : Program} {w : World} {K : PySem.W.Frag} {mg : Str → Option Value} {base : Heap}
theorem FnG.of {x qual : Str} {st : Stmt} {f : Addr} {fd : FuncData} {N ps : List Str} {k : Nat} {sp : Sp} (F : Fun K x qual st f fd) (S : FnScope N ps (defScope st))
    (size : ∀ {vs H Q}, sp vs H Q E0 → vs.length = ps.length)
    (body : ∀ cdv A outer s H vs Q, Room k (A.deeper (envOfC qual (defScope st) s.heap.objs.size f cdv)) → Quiet (A.deeper (envOfC qual (defScope st) s.heap.objs.size f cdv)) → sp vs H Q E0 →
      ∃ t, PSs (cxOf CX0 P w K mg base N qual (defScope st) f cdv A outer s H E0).nox (defBody st) t ∧ t { nx := fun _ H' => Q .non H', rt := Q } (start N vs) H) :
    FnG P w K mg base (k + 1) f fd ps sp := by
  obtain ⟨oc, od, kV, doc, pm, an, cdv, ct, osl, rfl, look, code⟩ := F.ex
  constructor
  · exact size
  intro A outer s H us vs Q room quiet e0 bind rel want
  have inH : K.In s.heap := e0.mod.kin.keeps fun b o q => (e0.bs b o q).1
  have lim := e0.mod.nolimit.keeps (fun b o q => (e0.bs b o q).1)
  have kinds : ∀ y ∈ ps.zip us, (defScope st).names.lookup y.1 = some .local ∨ ((defScope st).names.lookup y.1 = some .cell ∧ ((cellsFrom (s.heap.objs.size + 1) (defScope st).names []).lookup y.1).isSome = true) := by
    rintro ⟨n, v⟩ hy
    have hn := (List.of_mem_zip hy).1
    cases S.par n hn with
    | inl q => exact Or.inl q
    | inr q => exact Or.inr ⟨q, PySem.W.cellsFrom_some _ _ _ (Or.inl q)⟩
  apply codeAny_call_function room.depth (inH _ _ look) rfl S.co S.gen rfl (PySem.W.codeRec_of inH code)
  apply bind
  apply wpAny_newFunctionEnv_cells S.kind kinds
  intro env he s1 x
  subst he
  refine And.intro (lim.keeps x.toInCall.keep) (codeAny_func ?_)
  obtain ⟨t, ht, hq⟩ := body cdv A outer s H vs Q (room.deeper _) quiet want
  have I := inv_start (CX := CX0) (E := E0) S room.hd e0 (size want) rel x
  apply wpAny_mono (ht.nox.run [] s1 (start N vs) H _ I hq)
  · intro fl s' hs
    cases fl with
    | ret u =>
      obtain ⟨v, σ', H', J, rv, q⟩ := hs
      exact Exists.intro v ⟨H', J.os, J.bare, J.base, J.hok, rv, q⟩
    | next =>
      obtain ⟨σ', H', J, q⟩ := hs
      exact Exists.intro V.non ⟨H', J.os, J.bare, J.base, J.hok, rfl, q⟩
    | brk => exact hs.elim fun _ h => h.elim fun _ h => h.2.elim
    | cont => exact hs.elim fun _ h => h.elim fun _ h => h.2.elim
  · intro e s' hs
    exact hs
end
section
variable {X : Cx} {k : Nat} {f : Addr} {fd : FuncData} {ps : List Str} {sp : Sp} {x : Str} {p pos : Pos} {e : Expr} {es : List Expr} {t : TA}
theorem pe_callG (F : FnG X.prog X.w X.K X.mg X.base k f fd ps sp) (room : Room k X.A) (quiet : Quiet X.A) (hg : Gl X x) (hm : X.mg x = some (.ref f)) (keep : PySem.W.keepIn X.K (.ref f) = true) (bind : Binds X.K fd ps [])
    (args : PA X (e :: es) t) (hdb : (x == ("__debug__" : Str)) = false := by decide) (star : starEach (e :: es) X.env = (false, eval e X.env) :: starEach es X.env := by rfl) (plain : (backTo pos (starEach es X.env)).any (·.1) = false := by rfl) :
    PE X (.Call (.Name x p) (e :: es) [] pos) (tCall sp [] E0 t) := by
  constructor
  intro pins s σ H Q I h
  apply wpAny_Call_Name_kw
  apply ld_glob I hg hm _ hdb
  apply PySem.W.callWith_K (h₀ := X.base) I.ok.mod.kin keep _ star plain
  apply thn (args.run pos pins s σ H _ I h)
  rintro us s1 ⟨vs, H1, I1, rel, q⟩
  refine And.intro I1.kIn ?_
  have q' : sp vs H1 Q E0 := by
    have z := q
    rw [List.append_nil] at z
    exact z
  have same : us.length = ps.length := rel.length.symm.trans (F.size q')
  have b := bind s1 us I1.kIn (by rw [List.append_nil]; exact same)
  rw [List.append_nil] at b
  apply wpAny_call
  apply codeAny_mono (F.go room quiet I1.env0 b rel q')
  intro r s' hr
  match r, hr with
  | .error _, hr => exact hr.elim
  | .ok (.ret u), hr => exact I1.after hr
  | .ok .next, hr => exact False.elim hr
  | .ok .brk, hr => exact False.elim hr
  | .ok .cont, hr => exact False.elim hr
end
/-! ### repr of data at any depth -/
structure Sm (n dp : Nat) (d : PyData) : Prop where
  shows : d.showable = true
  short : d.leavesShort 40 = true
  small : d.weight ≤ n
  flat : d.depth ≤ dp
theorem Sm.mono {n m dp dq : Nat} {d : PyData} (h : Sm n dp d) (h1 : n ≤ m) (h2 : dp ≤ dq) : Sm m dq d := ⟨h.shows, h.short, Nat.le_trans h.small h1, Nat.le_trans h.flat h2⟩
theorem Sm.none : Sm 0 0 .none := ⟨rfl, rfl, Nat.le_refl _, Nat.le_refl _⟩
theorem Sm.bool (b : Bool) : Sm 0 0 (.bool b) := ⟨rfl, rfl, Nat.le_refl _, Nat.le_refl _⟩
theorem log2_small {i : Int} (h : i.natAbs < 10 ^ 30) : i.natAbs.log2 < 100 := PySem.Flt.log2_lt_of (by decide) (Nat.lt_trans h (by decide))
theorem Sm.int {i : Int} (h : i.natAbs < 10 ^ 30) : Sm 100 0 (.int i) := by
  have l := log2_small h
  refine ⟨decide_eq_true (Nat.lt_trans l (by decide)), decide_eq_true ?_, ?_, Nat.le_refl _⟩
  · have q := int_text_length_le10 (a := i) (k := 30) (by decide) h
    show (Str.ofString (toString i)).length ≤ 40
    rw [PySem.ofString_length]
    exact Nat.le_trans q (by decide)
  · show (if i == 0 then 0 else i.natAbs.log2 + 1) ≤ 100
    split <;> omega
theorem smAll {n dp : Nat} : ∀ {ds : List PyData}, (∀ d ∈ ds, Sm n dp d) → PyData.showableAll ds = true ∧ PyData.leavesShortAll 40 ds = true ∧ PyData.weightAll ds ≤ ds.length * (n + 1) ∧ PyData.depthAll ds ≤ dp
  | [], _ => ⟨rfl, rfl, Nat.zero_le _, Nat.zero_le _⟩
  | d :: ds, h => by
    obtain ⟨a, b, c, e⟩ := smAll (ds := ds) fun x hx => h x (List.mem_cons_of_mem _ hx)
    have z := h d List.mem_cons_self
    refine ⟨?_, ?_, ?_, ?_⟩
    · show (d.showable && PyData.showableAll ds) = true
      rw [z.shows, a]
      rfl
    · show (d.leavesShort 40 && PyData.leavesShortAll 40 ds) = true
      rw [z.short, b]
      rfl
    · show d.weight + 1 + PyData.weightAll ds ≤ (ds.length + 1) * (n + 1)
      have := z.small
      rw [Nat.add_mul]
      omega
    · show max d.depth (PyData.depthAll ds) ≤ dp
      exact Nat.max_le.mpr ⟨z.flat, e⟩
theorem Sm.tup {n dp : Nat} {ds : List PyData} (h : ∀ d ∈ ds, Sm n dp d) : Sm (ds.length * (n + 1)) (dp + 1) (.tuple ds) :=
  let ⟨a, b, c, e⟩ := smAll h
  ⟨a, b, c, Nat.succ_le_succ e⟩
theorem Sm.lst {n dp : Nat} {ds : List PyData} (h : ∀ d ∈ ds, Sm n dp d) : Sm (ds.length * (n + 1)) (dp + 1) (.list ds) :=
  let ⟨a, b, c, e⟩ := smAll h
  ⟨a, b, c, Nat.succ_le_succ e⟩
theorem Sm.fits {n dp : Nat} {d : PyData} (h : Sm n dp d) (hn : n ≤ 300000) : d.shown.length ≤ sizeLine := by
  have q := PyData.shown_le 40 (by decide) d h.short
  have := h.small
  have e : sizeLine = 16777216 := by decide
  rw [e]
  omega
/-- data with dicts in it; its lists stand in the heap by themselves -/
def keyD : Key → PyData
  | .inl i => .int i
  | .inr x => .str x
mutual
inductive Dv (K : PySem.W.Frag) (H : Hp) : V → PyData → Prop
  | non : Dv K H .non .none
  | bl (b : Bool) : Dv K H (.bl b) (.bool b)
  | int (i : Int) : Dv K H (.int i) (.int i)
  | str (x : Str) : Dv K H (.str x) (.str x)
  | lst {a : Addr} {xs : List V} {ds : List PyData} : H a = some (.lst xs) → DvAll K H xs ds → Dv K H (.ref a) (.list ds)
  | tup {a : Addr} {xs : List V} {ds : List PyData} : H a = some (.tup xs) → DvAll K H xs ds → Dv K H (.ref a) (.tuple ds)
  | dic {a : Addr} {kvs : List (Key × V)} {ds : List PyData} : H a = some (.dK kvs) → DvAll K H (kvs.map (·.2)) ds → Dv K H (.ref a) (.dict ((kvs.map fun p => keyD p.1).zip ds))
inductive DvAll (K : PySem.W.Frag) (H : Hp) : List V → List PyData → Prop
  | nil : DvAll K H [] []
  | cons {v : V} {vs : List V} {d : PyData} {ds : List PyData} : Dv K H v d → DvAll K H vs ds → DvAll K H (v :: vs) (d :: ds)
end
theorem DvAll.length {K : PySem.W.Frag} {H : Hp} : ∀ {vs : List V} {ds : List PyData}, DvAll K H vs ds → vs.length = ds.length
  | _, _, .nil => rfl
  | _, _, .cons _ h => by rw [List.length_cons, List.length_cons, h.length]
theorem keys_read {P : Program} {w : World} {h : Heap} : ∀ {es : List DictEntry} {vs : List (Key × Value)}, Pairs (mixKind P w) es vs → ReadsAll h (es.map (·.key)) (vs.map fun p => keyD p.1) []
  | _, _, .nil => .nil
  | _, _, .cons (e := e) (kv := kv) hk _ r => by
    have one : Reads h e.key (keyD kv.1) [] := by
      rcases keyIs_shape hk with ⟨i, t, e1, e2⟩ | ⟨x, t, e1, e2⟩
      · rw [e1, e2]
        exact .int i t
      · rw [e1, e2]
        exact .str x t
    exact ReadsAll.cons one (keys_read r)
theorem vals_read {P : Program} {w : World} : ∀ {es : List DictEntry} {vs : List (Key × Value)}, Pairs (mixKind P w) es vs → es.map (·.val) = vs.map (·.2)
  | _, _, .nil => rfl
  | _, _, .cons _ hv r => by rw [List.map_cons, List.map_cons, hv, vals_read r]
theorem kv_vals : ∀ {kvs : List (Key × V)} {vs : List (Key × Value)}, KV kvs vs → Vals (kvs.map (·.2)) (vs.map (·.2)) ∧ (vs.map fun p => keyD p.1) = kvs.map fun p => keyD p.1
  | _, _, .nil => ⟨.nil, rfl⟩
  | _, _, .cons h r => by
    obtain ⟨a, b⟩ := kv_vals r
    refine ⟨.cons h.2 a, ?_⟩
    rw [List.map_cons, List.map_cons, b, h.1]
section
variable {X : Cx} {pins : List (Addr × Obj)} {σ : L2.St} {H : Hp} {s : Shared}
theorem Dv.reads (I : Inv X pins σ H s) (mods : ∃ mm, X.base.Ns sysModules mm) {v : V} {d : PyData} (h : Dv X.K H v d) : ∀ u : Value, RelV v u → ∃ as, Reads s.heap u d as ∧ sysModules ∉ as := by
  have free : H sysModules = none := by
    obtain ⟨mm, o, es, ep, e, _⟩ := mods
    exact (I.bs _ o e).2
  refine Dv.rec (K := X.K) (H := H) (motive_1 := fun v d _ => ∀ u : Value, RelV v u → ∃ as, Reads s.heap u d as ∧ sysModules ∉ as) (motive_2 := fun vs ds _ => ∀ us : List Value, Vals vs us → ∃ as, ReadsAll s.heap us ds as ∧ sysModules ∉ as) ?_ ?_ ?_ ?_ ?_ ?_ ?_ ?_ ?_ h
  · intro u r
    cases r
    exact ⟨_, .none, fun z => nomatch z⟩
  · intro b u r
    cases r
    exact ⟨_, .bool b, fun z => nomatch z⟩
  · intro i u r
    obtain ⟨t, rfl⟩ := r
    exact ⟨_, .int i t, fun z => nomatch z⟩
  · intro x u r
    obtain ⟨t, rfl⟩ := r
    exact ⟨_, .str x t, fun z => nomatch z⟩
  · intro a xs ds e _ ih u r
    cases r
    obtain ⟨_, its, n, rv, q⟩ := I.hok a _ e
    obtain ⟨as, ra, na⟩ := ih _ rv
    refine ⟨a :: as, .list q rfl rfl (by simpa using ra), fun z => ?_⟩
    rcases List.mem_cons.mp z with z | z
    · rw [← z, free] at e
      cases e
    · exact na z
  · intro a xs ds e _ ih u r
    cases r
    obtain ⟨_, its, rv, o, ho, hc, n, hd⟩ := I.hok a _ e
    obtain ⟨as, ra, na⟩ := ih _ rv
    exact ⟨as, .tuple ho hc hd (by simpa using ra), na⟩
  · intro a kvs ds e hall ih u r
    cases r
    obtain ⟨_, hne, vs, kv, o, es, ep, ho, ex, hd, _, prs, _⟩ := I.hok a _ e
    obtain ⟨rv, ek⟩ := kv_vals kv
    obtain ⟨as, ra, na⟩ := ih _ rv
    have len : (kvs.map fun p => keyD p.1).length = ds.length := by
      have z := hall.length
      rw [List.length_map] at z
      rw [List.length_map, z]
    refine ⟨_, .dict ho ex.1 hd (as := []) (bs := as) ?_ ?_, fun z => ?_⟩
    · rw [List.map_fst_zip (by omega), ← ek]
      exact keys_read prs
    · rw [List.map_snd_zip (by omega), vals_read prs]
      exact ra
    · rcases List.mem_cons.mp z with z | z
      · rw [← z] at hne
        exact absurd hne (by decide)
      · exact na z
  · intro us r
    cases r
    exact ⟨_, .nil, fun z => nomatch z⟩
  · intro v vs d ds _ _ ih1 ih2 us r
    cases r with
    | cons r1 r2 =>
      obtain ⟨as, ra, na⟩ := ih1 _ r1
      obtain ⟨bs, rb, nb⟩ := ih2 _ r2
      refine ⟨_, .cons ra rb, fun z => ?_⟩
      rcases List.mem_append.mp z with z | z
      · exact na z
      · exact nb z
theorem call_reprV (mods : ∃ mm, X.base.Ns sysModules mm) (quiet : Quiet X.A) (units : X.A.units + 64 < cLine) : CallR X (.builtin "repr")
    (fun xs H Q => ∃ v d n dp, xs = [v] ∧ Dv X.K H v d ∧ Sm n dp d ∧ n ≤ 300000 ∧ dp ≤ 60 ∧ Q (.str d.shown) H) := by
  intro pins s σ H xs us Q I r h
  obtain ⟨v, d, n, dp, rfl, hd, sm, hn, hdp, q⟩ := h
  obtain ⟨u, rfl, ru⟩ := vals1 r
  have fits := sm.fits hn
  have flat := sm.flat
  obtain ⟨as, rd, off⟩ := Dv.reads I mods hd _ ru
  cases hd with
  | non =>
    cases ru
    exact PySem.P.repr_of_none ⟨.str _, H, I.tok _, ⟨_, rfl⟩, q⟩
  | bl b =>
    cases ru
    exact PySem.P.repr_of_bool ⟨.str _, H, I.tok _, ⟨_, rfl⟩, q⟩
  | int i =>
    obtain ⟨t, rfl⟩ := ru
    exact PySem.P.repr_of_int (of_decide_eq_true sm.shows) ⟨.str _, H, I.tok _, ⟨_, rfl⟩, q⟩
  | str x =>
    obtain ⟨t, rfl⟩ := ru
    exact PySem.P.repr_of_str ⟨.str _, H, I.tok _, ⟨_, rfl⟩, q⟩ fits
  | _ =>
    cases ru
    exact repr_of_reads' rd sm.shows (fun _ => off) quiet (by omega) (fun _ _ e => e) (fun h' t tk more => ⟨.str _, H, I.kept more, ⟨_, rfl⟩, q⟩) fits
end
theorem Dp.noDict {K : PySem.W.Frag} {H : Hp} {v : V} {d : PyData} (h : Dp K H v d) : d.hasDict = false := by
  refine Dp.rec (K := K) (H := H) (motive_1 := fun v d _ => d.hasDict = false) (motive_2 := fun vs ds _ => PyData.hasDictAll ds = false) ?_ ?_ ?_ ?_ ?_ ?_ ?_ ?_ h
  all_goals intros
  all_goals simp_all [PyData.hasDict, PyData.hasDictAll]
section
variable {X : Cx}
theorem call_reprD (quiet : Quiet X.A) (units : X.A.units + 64 < cLine) : CallR X (.builtin "repr")
    (fun xs H Q => ∃ v d n dp, xs = [v] ∧ Dp X.K H v d ∧ Sm n dp d ∧ n ≤ 300000 ∧ dp ≤ 60 ∧ Q (.str d.shown) H) := by
  intro pins s σ H xs us Q I r h
  obtain ⟨v, d, n, dp, rfl, hd, sm, hn, hdp, q⟩ := h
  obtain ⟨u, rfl, ru⟩ := vals1 r
  have fits := sm.fits hn
  have flat := sm.flat
  obtain ⟨as, rd⟩ := Dp.reads I d v u hd ru
  cases hd with
  | non =>
    cases ru
    exact PySem.P.repr_of_none ⟨.str _, H, I.tok _, ⟨_, rfl⟩, q⟩
  | bl b =>
    cases ru
    exact PySem.P.repr_of_bool ⟨.str _, H, I.tok _, ⟨_, rfl⟩, q⟩
  | int i =>
    obtain ⟨t, rfl⟩ := ru
    exact PySem.P.repr_of_int (of_decide_eq_true sm.shows) ⟨.str _, H, I.tok _, ⟨_, rfl⟩, q⟩
  | str x =>
    obtain ⟨t, rfl⟩ := ru
    exact PySem.P.repr_of_str ⟨.str _, H, I.tok _, ⟨_, rfl⟩, q⟩ fits
  | lst h1 h2 =>
    cases ru
    exact repr_of_reads' rd sm.shows (PyData.noDict_hsm (Dp.noDict (Dp.lst h1 h2))) quiet (by omega) (fun _ _ e => e) (fun h' t tk more => ⟨.str _, H, I.kept more, ⟨_, rfl⟩, q⟩) fits
  | tup h1 h2 =>
    cases ru
    exact repr_of_reads' rd sm.shows (PyData.noDict_hsm (Dp.noDict (Dp.tup h1 h2))) quiet (by omega) (fun _ _ e => e) (fun h' t tk more => ⟨.str _, H, I.kept more, ⟨_, rfl⟩, q⟩) fits
end
/-! ### the end of a law row whose def is of the quiet kind -/
theorem quiet_law {P : Program} {w : World} {K : PySem.W.Frag} {mg mb : Str → Option Value} {k : Nat} {fa a : Addr} {fd : FuncData} {x : Str} {sp : Sp} {s₁ : Shared} {vs : List Value} {ns : List Int}
    (inK : K.In s₁.heap) (glob : s₁.heap.Ns mainGlobals mg) (blt : s₁.heap.Ns builtinsNs mb) (bltIs : ∀ y : Str, y ≠ "__name__" → mb y = bootBuiltins y) (lim : s₁.heap.NoLimit) (gens : s₁.gens = #[]) (mods : ∃ mm, s₁.heap.Ns sysModules mm)
    (here : s₁.heap.get? a = some { cls := .type "list", data := .seq vs.toArray }) (whole : IntsAre vs ns) (few : ns.length ≤ sizeLine) (room : Room k callerA)
    (F : ∀ base : Heap, K.In base → base.Ns mainGlobals mg → (∃ mm, base.Ns sysModules mm) → FnG P w K mg base k fa fd [x] sp) (bind : ∀ (s : Shared) (u : Value), BindsTo s fd ⟨[u], []⟩ [(x, u)])
    (want : ∀ H : Hp, Only H → SqL K H a (ns.map V.int) → sp [.ref a] H (fun v _ => v = .bl true) E0) :
    codeAny (model P w) callerA (.call (.ref fa) ⟨[.ref a], []⟩) (fun r s' => r = .ok (.ret (.bool true)) ∧ OldK s₁.heap s'.heap ∧ s'.os = s₁.os ∧ AllBare s'.gens) s₁ := by
  have rel := vals_ints whole
  -- H: the script alone, or nothing
  have main : ∀ H : Hp, Only H → SqL K H a (ns.map V.int) → HOk P w H s₁.heap → (∀ b u, H b = some u → b = a ∧ K.lookup b = none) →
      codeAny (model P w) callerA (.call (.ref fa) ⟨[.ref a], []⟩) (fun r s' => r = .ok (.ret (.bool true)) ∧ OldK s₁.heap s'.heap ∧ s'.os = s₁.os ∧ AllBare s'.gens) s₁ := by
    intro H only sq ok apart
    have untold : ∀ {b o}, s₁.heap.get? b = some o → (b = a → False) → H b = none := by
      intro b o e ne
      cases q : H b with
      | none => rfl
      | some u => exact (ne (apart b u q).1).elim
    have ns1 : ∀ {b m}, s₁.heap.Ns b m → (hidT s₁.heap H).Ns b m := by
      rintro b m ⟨o, es, ep, e, d, r⟩
      refine ⟨o, es, ep, hidT_get e (untold e fun z => ?_), d, r⟩
      subst z
      rw [here] at e
      cases e
      cases d
    have kIn : K.In (hidT s₁.heap H) := by
      intro b o e
      apply hidT_get (inK b o e)
      cases q : H b with
      | none => rfl
      | some u =>
        have z := (apart b u q).2
        rw [e] at z
        cases z
    have lim1 : (hidT s₁.heap H).NoLimit := by
      obtain ⟨mc, h1, h2⟩ := lim
      exact ⟨mc, ns1 h1, h2⟩
    have e0 : Env0 P w K mg (hidT s₁.heap H) callerA [] s₁ H := {
      frames := rfl, mod := ⟨kIn, ns1 glob, ⟨mb, ns1 blt, bltIs⟩, lim1⟩, bs := fun _ _ e => of_hidT e, bsz := Nat.le_of_eq (hidT_size _ _), funs := True.intro, frf := (fun _ hb => nomatch hb), hok := ok, bare := .of_eq gens }
    apply codeAny_mono ((F _ kIn (ns1 glob) (mods.elim fun mm h => ⟨mm, ns1 h⟩)).go (us := [.ref a]) (vs := [.ref a]) room rfl e0 (bind s₁ _) (.cons rfl .nil) (want H only sq))
    intro r s' hr
    match r, hr with
    | .error _, hr => exact hr.elim
    | .ok .next, hr => exact False.elim hr
    | .ok .brk, hr => exact False.elim hr
    | .ok .cont, hr => exact False.elim hr
    | .ok (.ret u), hr =>
      obtain ⟨v, H', os, bare, un, ok', rv, q⟩ := hr
      cases (show v = V.bl true from q)
      cases (show u = Value.bool true from rv)
      refine ⟨rfl, OldK.of_keep ?_, os, bare⟩
      intro b o e
      cases only b with
      | inl n => exact un.keep b o e n (fun z => nomatch z) (fun z => nomatch z)
      | inr n =>
        obtain ⟨ob, xs, z⟩ := n
        have e1 := (ok b _ z).1
        have e2 := (ok' b _ (un.frzs b ob _ z)).1
        rw [e] at e1
        cases e1
        exact e2
  have small : (ns.map V.int).length ≤ sizeLine := by rw [List.length_map]; exact few
  cases known : K.lookup a with
  | some o =>
    have e := inK a o known
    rw [here] at e
    cases e
    have sz : vs.length ≤ sizeLine := by rw [← rel.length]; exact small
    exact main (fun _ => none) (fun _ => .inl rfl) (.inr ⟨_, vs.toArray, _, known, rfl, rfl, rfl, by simpa using sz, by simpa using rel⟩) (fun _ _ z => nomatch z) (fun _ _ z => nomatch z)
  | none =>
    have at1 : ∀ {b u}, (if b = a then some (HO.frz { cls := .type "list", data := .seq vs.toArray } (.lst (ns.map V.int))) else none) = some u → b = a := by
      intro b u z
      by_cases hb : b = a
      · exact hb
      · rw [if_neg hb] at z
        cases z
    refine main (fun b => if b = a then some (.frz { cls := .type "list", data := .seq vs.toArray } (.lst (ns.map V.int))) else none) (fun b => ?_) (.inl (.inr ⟨{ cls := .type "list", data := .seq vs.toArray }, if_pos rfl⟩)) (fun b u z => ?_) (fun b u z => ?_)
    · by_cases hb : b = a
      · exact .inr ⟨_, _, if_pos hb⟩
      · exact .inl (if_neg hb)
    · have hb := at1 z
      subst hb
      have z2 := (if_pos rfl).symm.trans z
      cases z2
      exact ⟨here, small, vs, _, rel, here⟩
    · have hb := at1 z
      subst hb
      exact ⟨rfl, known⟩
theorem quiet_walk {l : PySem.W.OpenLaw} {n k : Nat} {q : Program} {loose : List Str} {XP : (Str → Option Value) → Heap → Prop} {YP : World → Heap → Prop} {d : DefRec} {K : Params → PySem.W.Frag} {sp : World → Sp} {x : Str}
    (noImport : importsNone q = true) (most : l.most = some n) (n2 : n ≤ sizeLine) (defaults : d.params.defaults = []) (room : Room k callerA) (hY : ∀ (w : World) (h : Heap), YP w h → (K w.params).In h)
    (F : ∀ (w : World) (mg : Str → Option Value) (fa : Addr) (h : Heap), (K w.params).In h → h.Ns mainGlobals mg → mg d.name = some (.ref fa) →
      ∃ fd : FuncData, (∀ (s : Shared) (u : Value), BindsTo s fd ⟨[u], []⟩ [(x, u)]) ∧ ∀ base : Heap, (K w.params).In base → base.Ns mainGlobals mg → (∃ mm, base.Ns sysModules mm) → FnG l.prog w (K w.params) mg base k fa fd [x] (sp w))
    (want : ∀ (w : World) (H : Hp) (a : Addr) (ns : List Int), ns.length ≤ n → Only H → SqL (K w.params) H a (ns.map V.int) → sp w [.ref a] H (fun v _ => v = .bl true) E0) :
    PySem.W.WalkO q loose XP YP l.row.toRowW d [] (fun f vs => PySem.call f vs) := by
  apply Att.attach_call most defaults
  intro w s₀ s₁ mg mb fa o pm cd doc a vs ns G Y ho hd hcd hmg hobj hints hlen hg
  obtain ⟨fd, hb, hF⟩ := F w mg fa _ (hY w _ Y) G.T.g hmg
  exact quiet_law (hY w _ Y) G.T.g G.T.b G.T.builtins G.T.nolimit hg ((G.T.seer noImport).mods.elim fun mm h => ⟨mm, h.1⟩) hobj hints (Nat.le_trans hlen n2) room hF hb fun H o1 s1 => want w H a ns hlen o1 s1

/-! ### a op1 b op2 c op3 .. : chains of any length -/
section
variable {X : Cx}
structure PCh (X : Cx) (ops : List CmpOp) (es : List Expr) (t : V → TE) : Prop where
  run : ∀ (pos : Pos) (pins : List (Addr × Obj)) (s : Shared) (σ : L2.St) (H : Hp) (Q : VK) (x : V) (v : Value), Inv X pins σ H s → RelV x v → t x σ H Q → wpAny (model X.prog X.w) X.A (compareChain pos v ops (evalEach es X.env)) (EP X pins σ Q) X.xe s
structure PChT (X : Cx) (ops : List CmpOp) (es : List Expr) (t : V → TE) : Prop where
  run : ∀ (pos : Pos) (pins : List (Addr × Obj)) (s : Shared) (σ : L2.St) (H : Hp) (Q : Bool → Hp → Prop) (x : V) (v : Value), Inv X pins σ H s → RelV x v → (t x σ H fun y H' => ∃ k, y = .bl k ∧ Q k H') → wpAny (model X.prog X.w) X.A (testChain pos v ops (evalEach es X.env)) (TP X pins σ Q) X.xe s
def tLast (r : R2) (tb : TE) : V → TE := fun x σ H Q => tb σ H fun y H2 => r x y H2 Q
def tLink (r : R2) (tb : TE) (rest : V → TE) : V → TE := fun x σ H Q => tb σ H fun y H2 => r x y H2 fun z H3 => ∃ k, z = .bl k ∧ (if k = true then rest y σ H3 Q else Q (.bl false) H3)
def tCh (ta : TE) (rest : V → TE) : TE := fun σ H Q => ta σ H fun x H1 => rest x σ H1 Q
theorem pch_last {op : CmpOp} {r : R2} {b : Expr} {tb : TE} (ho : OpR X (compareOp op) r) (hb : PE X b tb) : PCh X [op] [b] (tLast r tb) :=
  ⟨fun pos pins s σ H Q x v I rx h => chain_last (thn (hb.run pins s σ H _ I h) fun u s2 ⟨y, H2, I2, r2, q2⟩ => ho pins s2 σ H2 x y v u Q I2 rx r2 q2)⟩
theorem pch_link {op op' : CmpOp} {ops : List CmpOp} {r : R2} {b b' : Expr} {bs : List Expr} {tb : TE} {rest : V → TE} (ho : OpR X (compareOp op) r) (hb : PE X b tb) (hr : PCh X (op' :: ops) (b' :: bs) rest) : PCh X (op :: op' :: ops) (b :: b' :: bs) (tLink r tb rest) := by
  refine ⟨fun pos pins s σ H Q x v I rx h => ?_⟩
  refine chain_link (thn (hb.run pins s σ H _ I h) fun u s2 ⟨y, H2, I2, r2, q2⟩ => thn (ho pins s2 σ H2 x y v u _ I2 rx r2 q2) fun d s3 ⟨z, H3, I3, r3, k, e, q3⟩ => ?_)
  subst e
  cases r3
  refine wpAny_truthy_bool ?_
  cases k with
  | false => exact ite_ff ⟨.bl false, H3, I3, rfl, q3⟩
  | true => exact ite_tt (hr.run pos pins s3 σ H3 Q y u I3 r2 q3)
theorem pe_chN {op op' : CmpOp} {ops : List CmpOp} {a b b' : Expr} {bs : List Expr} {pos : Pos} {ta : TE} {rest : V → TE} (ha : PE X a ta) (hr : PCh X (op :: op' :: ops) (b :: b' :: bs) rest)
    (hm : lastMarks (op :: op' :: ops) (b :: b' :: bs) = false := by with_unfolding_all rfl) : PE X (.Compare a (op :: op' :: ops) (b :: b' :: bs) pos) (tCh ta rest) :=
  ⟨fun pins s σ H Q I h => Compare_chain (thn (ha.run pins s σ H _ I h) fun v s1 ⟨x, H1, I1, r1, q1⟩ => hr.run pos pins s1 σ H1 Q x v I1 r1 q1) hm⟩
theorem pchT_last {op : CmpOp} {r : R2} {b : Expr} {tb : TE} (ho : OpR X (compareOp op) r) (hb : PE X b tb) : PChT X [op] [b] (tLast r tb) := by
  refine ⟨fun pos pins s σ H Q x v I rx h => ?_⟩
  refine test_last (thn (hb.run pins s σ H _ I h) fun u s2 ⟨y, H2, I2, r2, q2⟩ => thn (ho pins s2 σ H2 x y v u _ I2 rx r2 q2) fun d s3 ⟨z, H3, I3, r3, k, e, q3⟩ => ?_)
  subst e
  cases r3
  exact wpAny_truthy_bool ⟨H3, I3, q3⟩
theorem pchT_link {op op' : CmpOp} {ops : List CmpOp} {r : R2} {b b' : Expr} {bs : List Expr} {tb : TE} {rest : V → TE} (ho : OpR X (compareOp op) r) (hb : PE X b tb) (hr : PChT X (op' :: ops) (b' :: bs) rest) : PChT X (op :: op' :: ops) (b :: b' :: bs) (tLink r tb rest) := by
  refine ⟨fun pos pins s σ H Q x v I rx h => ?_⟩
  refine test_link (thn (hb.run pins s σ H _ I h) fun u s2 ⟨y, H2, I2, r2, q2⟩ => thn (ho pins s2 σ H2 x y v u _ I2 rx r2 q2) fun d s3 ⟨z, H3, I3, r3, k, e, q3⟩ => ?_)
  subst e
  cases r3
  refine wpAny_truthy_bool ?_
  cases k with
  | false =>
    obtain ⟨k', e', q'⟩ := q3
    cases e'
    exact ite_ff ⟨H3, I3, q'⟩
  | true => exact ite_tt (hr.run pos pins s3 σ H3 Q y u I3 r2 q3)
theorem pt_chN {op op' : CmpOp} {ops : List CmpOp} {a b b' : Expr} {bs : List Expr} {pos : Pos} {ta : TE} {rest : V → TE} (ha : PE X a ta) (hr : PChT X (op :: op' :: ops) (b :: b' :: bs) rest)
    (hm : lastMarks (op :: op' :: ops) (b :: b' :: bs) = false := by with_unfolding_all rfl) : PT X (.Compare a (op :: op' :: ops) (b :: b' :: bs) pos) (tTest (tCh ta rest)) :=
  ⟨fun pins s σ H Q I h => isTrue_chain (thn (ha.run pins s σ H _ I h) fun v s1 ⟨x, H1, I1, r1, q1⟩ => hr.run pos pins s1 σ H1 Q x v I1 r1 q1) hm⟩
end

theorem pi_listK {X : Cx} {K : PySem.W.Frag} {tg l : Expr} {tl : TE} (hK : X.K = K) (hl : PE X l tl) : PI X tg l (iList K tl) := hK ▸ pi_list hl
theorem pi_tupK {X : Cx} {K : PySem.W.Frag} {tg l : Expr} {tl : TE} (hK : X.K = K) (hl : PE X l tl) : PI X tg l (iTup K tl) := hK ▸ pi_tup hl

/-! ### t[::-1] of a tuple; xs == [], xs != [] of a list that may hold anything -/
section
open HT
variable {prog : Program} {w : World} {A : Around} {E : Value → Shared → Prop} {s : Shared}
theorem adjust_rev (n : Nat) : Builtin.Slice.sliceAdjust none none (-1) (n : Int) = ((n : Int) - 1, -1) := by
  unfold Builtin.Slice.sliceAdjust
  have h1 : (-1 : Int) < 0 := by decide
  simp only [h1, if_true]
theorem places_rev (n : Nat) : Builtin.Slice.slicePlaces ((n : Int) - 1) (-1) (-1) = n := by
  unfold Builtin.Slice.slicePlaces
  have h1 : ¬ ((-1 : Int) > 0) := by decide
  simp only [h1, if_false]
  have h2 : (-(-1) : Int) = 1 := by decide
  rw [h2, Int.ediv_one]
  split <;> omega
theorem sliceApplied_rev {sl : Addr} {vl vu vs : Value} {n : Nat} {Q : Int × Int × Nat → Shared → Prop} (hs : s.heap.IsSliceOf sl vl vu vs) (pl : IsPart vl none) (pu : IsPart vu none) (pt : IsPart vs (some (-1)))
    (h : Q ((n : Int) - 1, -1, n) s) : wpAny (model prog w) A (Builtin.Slice.sliceApplied (.ref sl) (pure (n : Int))) Q E s := by
  obtain ⟨os, hos, hcs, hds⟩ := id hs
  unfold Builtin.Slice.sliceApplied Builtin.Slice.sliceFields
  refine wpAny_bind (wpAny_bind (wpAny_field hos hds (x := vl) rfl (wpAny_bind (wpAny_field hos hds (x := vu) rfl (wpAny_bind (wpAny_field hos hds (x := vs) rfl (wpAny_pure ?_)))))))
  refine wpAny_bind (slicePart_ pt ?_)
  show wpAny _ _ (if ((-1 : Int) == 0) = true then _ else _) _ _ s
  rw [if_neg (by decide)]
  refine wpAny_bind (slicePart_ pl (wpAny_bind (slicePart_ pu (wpAny_bind (wpAny_pure ?_)))))
  show wpAny _ _ (match Builtin.Slice.sliceAdjust none none (-1) (n : Int) with | (lo, hi) => pure (lo, (-1 : Int), Builtin.Slice.slicePlaces lo hi (-1))) _ _ s
  rw [adjust_rev]
  show wpAny _ _ (pure ((n : Int) - 1, (-1 : Int), Builtin.Slice.slicePlaces ((n : Int) - 1) (-1) (-1))) _ _ s
  rw [places_rev]
  exact wpAny_pure h
theorem pick_rev (xs : Array Value) : ((List.range xs.size).filterMap fun (k : Nat) => xs[((xs.size : Int) - 1 + (k : Int) * (-1)).toNat]?) = xs.toList.reverse := by
  have e : ∀ m : Nat, m ≤ xs.size → ((List.range m).filterMap fun (k : Nat) => xs[((xs.size : Int) - 1 + (k : Int) * (-1)).toNat]?) = xs.toList.reverse.take m := by
    intro m
    induction m with
    | zero => intro _; rfl
    | succ m ih =>
      intro hm
      rw [List.range_succ, List.filterMap_append, ih (by omega), List.take_add_one]
      congr 1
      have e1 : ((xs.size : Int) - 1 + (m : Int) * (-1)).toNat = xs.size - 1 - m := by omega
      have e2 : xs.toList.reverse[m]? = xs[xs.size - 1 - m]? := by
        rw [List.getElem?_reverse (by rw [Array.length_toList]; omega), Array.length_toList, Array.getElem?_toList]
      rw [e2]
      have lt : xs.size - 1 - m < xs.size := by omega
      simp only [List.filterMap_cons, List.filterMap_nil, e1]
      rw [Array.getElem?_eq_getElem lt]
      rfl
  rw [e _ (Nat.le_refl _), List.take_of_length_le (by rw [List.length_reverse, Array.length_toList]; exact Nat.le_refl _)]
theorem getItem_tuple_rev {t sl : Addr} {items : Array Value} {vl vu vs : Value} {Q : Value → Shared → Prop} (ht : IsTup s.heap t items) (hs : s.heap.IsSliceOf sl vl vu vs) (pl : IsPart vl none) (pu : IsPart vu none) (pt : IsPart vs (some (-1)))
    (h : Q (.ref s.heap.objs.size) { s with heap := s.heap.push { cls := .type "tuple", data := .seq items.toList.reverse.toArray } })
    (hsz : items.size ≤ sizeLine) : wpAny (model prog w) A (getItem (.ref t) (.ref sl)) Q E s := by
  have htake : sizeOk (.seq items.toList.reverse.toArray) := by
    show items.toList.reverse.toArray.size ≤ sizeLine
    rw [List.size_toArray, List.length_reverse, Array.length_toList]
    omega
  obtain ⟨os, hos, hcs, hds⟩ := id hs
  have hTs : s.TypeIs (.ref sl) "slice" := ⟨os, hos, hcs⟩
  unfold getItem
  try with_reducible refine wpAny_holding ?_
  first | refine wpAny_bind (wpAny_pure ?_) | skip
  refine wpAny_bind (wpAny_sequenceKey ht.typeIs (by decide) ?_)
  refine wpAny_bind (wpAny_callSpecial?_slot (name := Str.ofString "__getitem__") ht.typeIs PyProof.Rows.slot_tuple_getitem
    (wpAny_call_entry PyProof.Rows.slot_tuple_getitem ht.typeIs entry_tuple_getitem ?_ (args_tuple_getitem _ _)))
  show wpAny _ _ (Builtin.Tuple.tupleItemsOf (.ref t) >>= _) _ _ s
  refine wpAny_bind (tupleItemsOf_ ht ?_)
  refine wpAny_bind (wpAny_typeOf hTs ?_)
  rw [if_pos (by decide)]
  refine wpAny_bind (sliceApplied_rev hs pl pu pt ?_)
  have hno : ¬ ((((items.size : Int) - 1) == 0 && (-1 : Int) == 1 && items.size == items.size) = true) := by
    intro q
    rw [Bool.and_eq_true, Bool.and_eq_true] at q
    exact absurd q.1.2 (by decide)
  show wpAny _ _ (if (((items.size : Int) - 1) == 0 && (-1 : Int) == 1 && items.size == items.size) = true then _ else _) _ _ s
  rw [if_neg hno, pick_rev]
  first
    | exact wpAny_bind (m := Builtin.Tuple.tupleExact _) (wpAny_newObj_type (wpAny_pure ⟨_, rfl, wpAny_pure h⟩) htake)
    | exact wpAny_bind (m := Builtin.Tuple.tupleExact _) (wpAny_newObj_type (wpAny_bind (wpAny_pure (wpAny_pure ⟨_, rfl, wpAny_pure h⟩))) htake)
    | exact wpAny_bind (wpAny_bind (m := Builtin.Tuple.tupleExact _) (wpAny_newObj_type (wpAny_pure (wpAny_pure ⟨_, rfl, wpAny_pure h⟩)) htake))
    | exact wpAny_bind (wpAny_bind (m := Builtin.Tuple.tupleExact _) (wpAny_newObj_type (wpAny_pure ⟨_, rfl, wpAny_pure h⟩) htake))
end
section
variable {X : Cx}
def tRevT (K : PySem.W.Frag) (te : TE) : TE := fun σ H Q => te σ H fun x H1 => ∃ a xs, x = .ref a ∧ SqT K H1 a xs ∧ ∀ p, H1 p = none → Q (.ref p) (upd H1 p (.tup xs.reverse))
theorem pe_revT {e : Expr} {te : TE} {k : Nat} {p1 p2 p3 pos : Pos} (he : PE X e te) : PE X (.Subscript e (.Slice none none (some (.UnaryOp .USub (.Constant (.int 1) k p1) p2)) p3) pos) (tRevT X.K te) := by
  refine ⟨fun pins s σ H Q I h => ?_⟩
  refine Subscript_ (thn (he.run pins s σ H _ I h) fun v s1 ⟨x, H1, I1, r1, q1⟩ => ?_)
  obtain ⟨a, xs, ex, hx, q⟩ := q1
  subst ex
  cases r1
  have hst : PO X (some (.UnaryOp .USub (.Constant (.int 1) k p1) p2)) (tPart (tUn (rU fun i => .int (-i)) (tC (.int 1)))) := po_some (pe_un un_neg pe_int)
  refine wpAny_Slice (thn (po_none.run pins s1 σ H1 (fun o H2 => o = none ∧ H2 = H1) I1 ⟨rfl, rfl⟩) fun vl s2 ⟨l, H2, I2, pl, el, e2⟩ => ?_)
  subst el e2
  refine thn (po_none.run pins s2 σ H2 (fun o H3 => o = none ∧ H3 = H2) I2 ⟨rfl, rfl⟩) fun vu s3 ⟨u, H3, I3, pu, eu, e3⟩ => ?_
  subst eu e3
  refine thn (hst.run pins s3 σ H3 (fun o H4 => o = some (-1) ∧ H4 = H3) I3 ⟨1, rfl, -1, rfl, rfl, rfl⟩) fun vs s4 ⟨o, H4, I4, ps, eo, e4⟩ => ?_
  subst eo e4
  have I5 : Inv X pins σ H4 { s4 with heap := s4.heap.push { cls := .type "slice", data := .fields #[vl, vu, vs] } } := I4.kept (t' := s4.toks) fun b ob q => Heap.get?_push_of_some _ q
  obtain ⟨its, r, ht, hz⟩ := I5.tuple hx
  have hlen := r.length
  show wpAny (model X.prog X.w) X.A (subscriptTail e (.Slice none none (some (.UnaryOp .USub (.Constant (.int 1) k p1) p2)) p3) (.ref a) (.ref s4.heap.objs.size)) (EP X pins σ Q) X.xe { s4 with heap := s4.heap.push { cls := .type "slice", data := .fields #[vl, vu, vs] } }
  refine tail_any (ops := [.ref a, .ref s4.heap.objs.size]) ht.typeIs (PyProof.Rows.slot_tuple_getitem.lookup) ?_ (by with_unfolding_all rfl)
  refine getItem_tuple_rev ht (Heap.IsSliceOf.new _ vl vu vs) pl pu ps ?_ (by rw [List.size_toArray]; omega)
  refine ⟨.ref _, _, I5.laid (t' := s4.toks) (o := .tup xs.reverse) (fun b ob q => Heap.get?_push_of_some _ q) (Nat.le_refl _) ?_, rfl, q _ (I5.hok.fresh (Nat.le_refl _))⟩
  exact ⟨by rw [List.length_reverse]; exact hz, _, r.reverse, IsTup.new _ _⟩
def rEqL (K : PySem.W.Frag) : R2 := fun x y H Q => ∃ (a b : Addr) (xs : List V), x = .ref a ∧ y = .ref b ∧ SqL K H a xs ∧ SqL K H b [] ∧ Q (.bl xs.isEmpty) H
def rNeL (K : PySem.W.Frag) : R2 := fun x y H Q => ∃ (a b : Addr) (xs : List V), x = .ref a ∧ y = .ref b ∧ SqL K H a xs ∧ SqL K H b [] ∧ Q (.bl (!xs.isEmpty)) H
theorem op_eqL (units : X.A.units < cLine) : OpR X (compareOp .Eq) (rEqL X.K) := by
  intro pins s σ H x y v u Q I rx ry h
  obtain ⟨a, b, xs, rfl, rfl, ha, hb, q⟩ := h
  cases rx
  cases ry
  obtain ⟨its, r1, p1, _⟩ := I.list ha
  obtain ⟨its2, r2, p2, _⟩ := I.list hb
  cases r2
  cases r1 with
  | nil =>
    exact SeqAt.eq_listAt (e := fun _ => true) p1.isList p2.isList rfl units (fun j h1 h2 => absurd h2 (Nat.not_lt_zero j)) ⟨.bl true, H, I, rfl, q⟩
  | cons r t =>
    exact SeqAt.eq_list_lengthsAt p1.isList p2.isList (by simp) units ⟨.bl false, H, I, rfl, q⟩
theorem op_neL (units : X.A.units < cLine) : OpR X (compareOp .NotEq) (rNeL X.K) := by
  intro pins s σ H x y v u Q I rx ry h
  obtain ⟨a, b, xs, rfl, rfl, ha, hb, q⟩ := h
  cases rx
  cases ry
  obtain ⟨its, r1, p1, _⟩ := I.list ha
  obtain ⟨its2, r2, p2, _⟩ := I.list hb
  cases r2
  cases r1 with
  | nil =>
    exact SeqAt.RcNeAt.lists (e := fun _ => true) p1.isList p2.isList rfl units (fun j h1 h2 => absurd h2 (Nat.not_lt_zero j)) X.prog X.w X.xe (EP X pins σ Q) ⟨.bl false, H, I, rfl, q⟩
  | cons r t =>
    exact SeqAt.RcNeAt.lists_lengths p1.isList p2.isList (by simp) units X.prog X.w X.xe (EP X pins σ Q) ⟨.bl true, H, I, rfl, q⟩
end

/-! ### x in t, x not in t, for a tuple of data -/
theorem units65 {k : Nat} {A : Around} (r : Room k A) : A.units + 65 < cLine := by
  have := r.un
  omega
section
variable {X : Cx}
def rInT (K : PySem.W.Frag) : R2 := fun x y H Q => ∃ d ds, Dp K H x d ∧ Dp K H y (.tuple ds) ∧ SeqAt.shaped d = true ∧ SeqAt.shaped (.tuple ds) = true ∧ Q (.bl (ds.any fun z => PyData.eqv z d)) H
def rNotInT (K : PySem.W.Frag) : R2 := fun x y H Q => ∃ d ds, Dp K H x d ∧ Dp K H y (.tuple ds) ∧ SeqAt.shaped d = true ∧ SeqAt.shaped (.tuple ds) = true ∧ Q (.bl (!ds.any fun z => PyData.eqv z d)) H
theorem op_inT (units : X.A.units + 65 < cLine) : OpR X (compareOp .In) (rInT X.K) := by
  intro pins s σ H x y v u Q I rx ry ⟨d, ds, dx, dy, sx, sy, q⟩
  obtain ⟨_, r1⟩ := Dp.reads I d x v dx rx
  obtain ⟨_, r2⟩ := Dp.reads I (.tuple ds) y u dy ry
  have l2 : PyData.canLayAll0 ds = true := SeqAt.canLay_of_shaped sy
  exact SeqAt.in_tuple_reads r2 r1 l2 (SeqAt.canLay_of_shaped sx) (room_in_shaped sx units) (Exists.intro (V.bl _) ⟨H, I, rfl, q⟩)
theorem op_notInT (units : X.A.units + 65 < cLine) : OpR X (compareOp .NotIn) (rNotInT X.K) := by
  intro pins s σ H x y v u Q I rx ry ⟨d, ds, dx, dy, sx, sy, q⟩
  obtain ⟨_, r1⟩ := Dp.reads I d x v dx rx
  obtain ⟨_, r2⟩ := Dp.reads I (.tuple ds) y u dy ry
  have l2 : PyData.canLayAll0 ds = true := SeqAt.canLay_of_shaped sy
  exact SeqAt.notIn_tuple_reads r2 r1 l2 (SeqAt.canLay_of_shaped sx) (room_in_shaped sx units) (Exists.intro (V.bl _) ⟨H, I, rfl, q⟩)
end
theorem for_zipU {K : PySem.W.Frag} {a b : Addr} {xs ys : List V} {g : TG} {tb : TS} {D : Ends} {σ : L2.St} {H : Hp} (Pv : Nat → L2.St → Hp → Prop) (h0 : Pv 0 σ H) (hq : ∀ i σ H, Pv i σ H → SqT K H a xs ∧ SqT K H b ys)
    (hs : ∀ (i : Nat) (x y : V) (T : Addr) (σ : L2.St) (H : Hp), xs[i]? = some x → ys[i]? = some y → Pv i σ H → H T = none → g (.ref T) σ (upd H T (.tup [x, y])) fun σ2 H2 => tb { D with nx := Pv (i + 1), ct := Pv (i + 1), bk := D.nx } σ2 H2) (hd : ∀ i σ H, i ≤ xs.length → Pv i σ H → D.nx σ H) :
    ∃ W : Nat → Nat → L2.St → Hp → Prop, (∃ m, W 0 m σ H) ∧ ∀ i m σ H, W i m σ H →
      ((RZ.ItzT K a b).stop i H ∧ D.nx σ H) ∨ ((RZ.ItzT K a b).go i H ∧ ∃ N : L2.St → Hp → Prop, (∀ σ' H', N σ' H' → ∃ m', m' < m ∧ W (i + 1) m' σ' H') ∧ ∀ v H', (RZ.ItzT K a b).yld i H v H' → g v σ H' fun σ2 H2 => tb { D with nx := N, ct := N, bk := D.nx } σ2 H2) := by
  refine ⟨fun i m σ H => m = xs.length - i ∧ i ≤ xs.length ∧ Pv i σ H, ⟨_, rfl, Nat.zero_le _, h0⟩, ?_⟩
  rintro i m σ H ⟨rfl, hi, p⟩
  obtain ⟨q1, q2⟩ := hq i σ H p
  by_cases c : i < xs.length ∧ i < ys.length
  · refine .inr ⟨⟨xs, ys, xs[i]'c.1, ys[i]'c.2, q1, q2, List.getElem?_eq_getElem c.1, List.getElem?_eq_getElem c.2⟩, Pv (i + 1), fun σ' H' p' => ⟨xs.length - (i + 1), by omega, rfl, by omega, p'⟩, fun v H' hy => ?_⟩
    obtain ⟨T, x, y, rfl, nT, rfl, f1, f2⟩ := hy
    exact hs i x y T σ H (f1 xs q1) (f2 ys q2) p nT
  · exact .inl ⟨⟨xs, ys, q1, q2, by omega⟩, hd i σ H hi p⟩

/-- a statement that is never come to -/
theorem ps_never {X : Cx} {st : Stmt} : PS X st (fun _ _ _ => False) := ⟨fun _ _ _ _ _ _ h => h.elim⟩

/-! ### a walk over a tuple, whatever its body is (comprehensions with two for) -/
theorem walkT {K : PySem.W.Frag} {a : Addr} {xs : List V} {B : V → Hp → (Hp → Prop) → Prop} {H0 : Hp} {Qd : Hp → Prop} (Pv : Nat → Hp → Prop) (h0 : Pv 0 H0) (hl : ∀ i H, i ≤ xs.length → Pv i H → SqT K H a xs)
    (hs : ∀ i x H, xs[i]? = some x → Pv i H → B x H (Pv (i + 1))) (hd : ∀ H, Pv xs.length H → Qd H) :
    ∃ W : Nat → Nat → Hp → Prop, (∃ m, W 0 m H0) ∧ ∀ i m H, W i m H →
      ((Itt K a).stop i H ∧ Qd H) ∨ ((Itt K a).go i H ∧ ∃ Nx : Hp → Prop, (∀ H', Nx H' → ∃ m', m' < m ∧ W (i + 1) m' H') ∧ ∀ x H', (Itt K a).yld i H x H' → B x H' Nx) := by
  refine ⟨fun i m H => m = xs.length - i ∧ i ≤ xs.length ∧ Pv i H, ⟨xs.length, by simp, Nat.zero_le _, h0⟩, ?_⟩
  rintro i m H ⟨rfl, hi, p⟩
  have q := hl i H hi p
  by_cases hlt : i < xs.length
  · refine .inr ⟨⟨xs, xs[i], q, by simp [hlt]⟩, Pv (i + 1), fun H' p' => ⟨xs.length - (i + 1), by omega, rfl, hlt, p'⟩, fun x H' y => ?_⟩
    obtain ⟨e, y⟩ := y
    subst e
    exact hs i x _ (y xs q) p
  · have e : i = xs.length := by omega
    subst e
    exact .inl ⟨⟨xs, q, by omega⟩, hd H p⟩

/-! ### max(xs, key=f), f a built-in that makes an int of an item and changes nothing -/
section
variable {prog : Program} {w : World} {A : Around} {E : Value → Shared → Prop} {s : Shared} {l : Addr} {kid : String} {vs : List Value} {Q : Value → Shared → Prop}
/-- all objects stay -/
abbrev Stay (h h' : Heap) : Prop := ∀ b o, h.get? b = some o → h'.get? b = some o
theorem isL_stay {h h' : Heap} {a : Addr} {xs : Array Value} (k : Stay h h') (x : h.IsList a xs) : h'.IsList a xs := let ⟨o, e, r⟩ := x; ⟨o, k _ _ e, r⟩
theorem isT_stay {h h' : Heap} {a : Addr} {xs : Array Value} (k : Stay h h') (x : IsTup h a xs) : IsTup h' a xs := let ⟨o, e, r⟩ := x; ⟨o, k _ _ e, r⟩
def KeyAt (prog : Program) (w : World) (A : Around) (s : Shared) (f : Value) (vs : List Value) (kf : Nat → Int) : Prop :=
  ∀ (i : Nat) (v : Value), vs[i]? = some v → ∀ (h : Heap) (tk : Nat), Stay s.heap h →
    wpAny (model prog w) A (call f [v]) (fun x s' => ∃ h' tk' t, s' = { s with heap := h', toks := tk' } ∧ x = .int (kf i) t ∧ Stay h h') (fun _ _ => False) { s with heap := h, toks := tk }
/-- the first of the greatest keys -/
def Topmost (kf : Nat → Int) (n i : Nat) : Prop := ∀ j, j < n → kf j ≤ kf i ∧ (j < i → kf j < kf i)
theorem maxKey_loop {I S : Addr} {R : Result → Shared → Prop} (kf : Nat → Int) (hh : A.handled = none) (isL : s.heap.IsList l vs.toArray) (lI : l ≠ I) (SI : S ≠ I) (nI : s.heap.get? I = none) (nS : s.heap.get? S = none) (key : KeyAt prog w A.in1 s (.builtin kid) vs kf)
    (fin : ∀ i v h' tk', vs[i]? = some v → Topmost kf vs.length i → Stay s.heap h' → R (.ok (.ret v)) { s with heap := h', toks := tk' }) :
    ∀ (r j i : Nat) (h : Heap) (tk : Nat) (vb : Value) (tb : Tok) (c : Nat), vs.length - (j + 1) = r → j + 1 ≤ vs.length → Stay s.heap h →
      h.get? S = some (seqObj "list" #[vb, .int (kf i) tb] c) → h.IsListIter I l (j + 1) → vs[i]? = some vb → i ≤ j → Topmost kf (j + 1) i →
      codeAny (model prog w) A (.builtin "max.loop" ⟨[.ref I, .builtin kid, .ref S], []⟩) R { s with heap := h, toks := tk } := by
  have nm : (toString "max" ++ toString ".loop" : String) = "max.loop" := by decide
  have wk := Walks.list (prog := prog) (w := w) (A := A.in1) hh I l lI vs.toArray
  have sz : vs.toArray.size = vs.length := List.size_toArray ..
  have off : ∀ {h h' : Heap} {x : Addr}, s.heap.get? x = none → Stay s.heap h → (∀ b o, b ≠ x → h.get? b = some o → h'.get? b = some o) → Stay s.heap h' := fun nx st k b o e => k b o (fun z => by rw [z, nx] at e; cases e) (st b o e)
  intro r
  induction r with
  | zero =>
    intro j i h tk vb tb c er jl st gS it ev ij top
    have last : j + 1 = vs.length := by omega
    refine codeAny_builtin (b := _) PySem.F.entry_max_loop ?_
    rw [Around.under_plainId (PySem.F.plain_max_loop) _]
    show wpAny _ A.in1 (seqItems? (Value.ref S) >>= _) _ _ _
    refine wpAny_bind (wpAny_seqItems (gS) rfl ?_)
    show wpAny _ A.in1 (tryCatch (pyNext (Value.ref I)) _ >>= _) _ _ _
    refine wpAny_bind (wpAny_tryCatch (wk.done _ _ _ ⟨by rw [sz, ← last]; exact it, isL_stay st isL⟩ fun h1 tk1 k1 => ?_))
    have st1 := off nI st (fun b o nb e => k1 b o (fun z => nb (List.mem_singleton.mp z)) e)
    have gS1 := k1 S _ (fun z => SI (List.mem_singleton.mp z)) gS
    have u1 := Heap.SameBut.update h1 S (Obj.mapSeq (fun _ => (#[] : Array Value)))
    show wpAny _ A.in1 (updateSeq S (fun _ => #[]) >>= fun _ => _) _ _ _
    refine wpAny_bind (wpAny_updateSeq gS1 rfl (wpAny_bind (wpAny_letGo (wpAny_pure ?_))))
    exact fin i vb _ _ ev (by rw [← last]; exact top) (off nS st1 fun b o nb e => (u1.2 b nb).trans e)
  | succ r ih =>
    intro j i h tk vb tb c er jl st gS it ev ij top
    have more : j + 1 < vs.length := by omega
    refine codeAny_builtin (b := _) PySem.F.entry_max_loop ?_
    rw [Around.under_plainId (PySem.F.plain_max_loop) _]
    show wpAny _ A.in1 (seqItems? (Value.ref S) >>= _) _ _ _
    refine wpAny_bind (wpAny_seqItems (gS) rfl ?_)
    show wpAny _ A.in1 (tryCatch (pyNext (Value.ref I)) _ >>= _) _ _ _
    refine wpAny_bind (wpAny_tryCatch (wk.item (j + 1) _ _ _ (by rw [sz]; exact more) ⟨it, isL_stay st isL⟩ fun v h1 tk1 pv it1 k1 => ?_))
    have ev1 : vs[j + 1]? = some v := by simpa using pv
    obtain ⟨oI, gI, cI, dI⟩ := it1.1
    have st1 := off nI st (fun b o nb e => k1 b o (fun z => nb (List.mem_singleton.mp z)) e)
    have gS1 := k1 S _ (fun z => SI (List.mem_singleton.mp z)) gS
    show wpAny _ A.in1 (tryCatch (holding [v] (call (Value.builtin kid) [v])) _ >>= _) _ _ _
    refine wpAny_bind (wpAny_tryCatch (wpAny_holding (wpAny_mono (key (j + 1) v ev1 h1 tk1 st1) (fun x s2 hx => ?_) (fun _ _ no => no.elim))))
    obtain ⟨h2, tk2, t2, rfl, rfl, k2⟩ := hx
    have st2 : Stay s.heap h2 := fun b o e => k2 b o (st1 b o e)
    have gS2 := k2 _ _ gS1
    have gI2 := k2 _ _ gI
    show wpAny _ A.in1 (tryCatch (holding [v, Value.int (kf (j + 1)) t2] (richCompare .Gt (.int (kf (j + 1)) t2) (.int (kf i) tb) >>= _)) _ >>= _) _ _ _
    refine wpAny_bind (wpAny_tryCatch (wpAny_holding (wpAny_bind (CmpOf.ints_gt (prog := prog) (w := w) (A := A.in1) (P := fun n u => ∃ t, u = .int (kf n) t) kf (fun n u z => z) (j + 1) i _ _ _ _ _ ⟨t2, rfl⟩ ⟨tb, rfl⟩ ?_))))
    refine wpAny_bind (wpAny_holding (wpAny_truthy_bool (wpAny_bind (wpAny_letGo (wpAny_pure ?_)))))
    by_cases up : kf (j + 1) > kf i
    · have u1 := Heap.SameBut.update h2 S (Obj.mapSeq (fun _ => #[v, .int (kf (j + 1)) t2]))
      obtain ⟨c2, gS3⟩ : ∃ c2, (h2.update S (Obj.mapSeq fun _ => #[v, .int (kf (j + 1)) t2])).get? S = some (seqObj "list" #[v, .int (kf (j + 1)) t2] c2) := ⟨_, get?_update_seq gS2 fun _ => _⟩
      simp only [up, decide_true, if_true]
      refine wpAny_bind (wpAny_updateSeq gS2 rfl (wpAny_bind (wpAny_letGo ?_)))
      rw [nm]
      refine wpAny_pure ⟨plainId_quiet (PySem.F.plain_max_loop) _, ih (j + 1) (j + 1) _ _ v t2 c2 (by omega) more (off nS st2 fun b o nb e => (u1.2 b nb).trans e) gS3 ⟨oI, (u1.2 I SI.symm).trans gI2, cI, dI⟩ ev1 (Nat.le_refl _) fun n hn => ?_⟩
      by_cases e : n = j + 1
      · subst e
        exact ⟨Int.le_refl _, fun z => absurd z (Nat.lt_irrefl _)⟩
      · have := (top n (by omega)).1
        exact ⟨by omega, fun _ => by omega⟩
    · simp only [up, decide_false, Bool.false_eq_true, if_false]
      refine wpAny_bind (wpAny_letGo ?_)
      rw [nm]
      refine wpAny_pure ⟨plainId_quiet (PySem.F.plain_max_loop) _, ih (j + 1) i _ _ vb tb c (by omega) more st2 gS2 ⟨oI, gI2, cI, dI⟩ ev (by omega) fun n hn => ?_⟩
      by_cases e : n = j + 1
      · subst e
        exact ⟨by omega, fun z => absurd z (by omega)⟩
      · exact top n (by omega)
theorem maxKey (kf : Nat → Int) (hh : A.handled = none) (isL : s.heap.IsList l vs.toArray) (some1 : 0 < vs.length) (key : KeyAt prog w A.in1 s (.builtin kid) vs kf)
    (fin : ∀ i v h' tk', vs[i]? = some v → Topmost kf vs.length i → Stay s.heap h' → Q v { s with heap := h', toks := tk' }) :
    wpAny (model prog w) A (call (.builtin "max") [.ref l] [(Str.ofString "key", .builtin kid)]) Q E s := by
  have nm : (toString "max" ++ toString ".loop" : String) = "max.loop" := by decide
  have isL0 := isL
  obtain ⟨ol, gl, _⟩ := isL0
  have ll : l < s.heap.objs.size := Heap.lt_size gl
  refine kmb_tree PySem.F.kind_max PySem.F.plain_max PySem.F.entry_max (kmb_max_key _ _) ?_
  show wpAny _ A.in1 (Builtin.Builtins.bindParams "max" ["key", "default"] 0 ⟨[], [(Str.ofString "key", Value.builtin kid)]⟩ >>= _) _ _ s
  refine wpAny_bind (wpAny_of_eq (show Builtin.Builtins.bindParams "max" ["key", "default"] 0 ⟨[], [(Str.ofString "key", Value.builtin kid)]⟩ = pure [some (.builtin kid), none] from rfl) ?_)
  refine wpAny_bind (wpAny_pure (wpAny_bind (wpAny_pyIter_list isL (wpAny_bind (wpAny_newList ?_ (Nat.zero_le _))))))
  rw [nm]
  have it0 := Heap.get?_push_size s.heap (o := { cls := .type "list_iterator", data := .fields #[.ref l, .int 0 0] }) rfl
  have z1 : (s.heap.push { cls := .type "list_iterator", data := .fields #[.ref l, .int 0 0] }).objs.size = s.heap.objs.size + 1 := Heap.size_push ..
  have k1 : Stay s.heap (s.heap.push { cls := .type "list_iterator", data := .fields #[.ref l, .int 0 0] }) := fun b o e => Heap.get?_push_of_some _ e
  generalize s.heap.push { cls := .type "list_iterator", data := .fields #[.ref l, .int 0 0] } = g1 at *
  have gS := Heap.get?_push_size g1 (o := seqObj "list" #[] 0) rfl
  have k2 : Stay g1 (g1.push (seqObj "list" #[] 0)) := fun b o e => Heap.get?_push_of_some _ e
  have gI := k2 _ _ it0
  generalize g1.push (seqObj "list" #[] 0) = g2 at *
  rw [z1] at gS ⊢
  have st2 : Stay s.heap g2 := fun b o e => k2 b o (k1 b o e)
  have nI : s.heap.get? s.heap.objs.size = none := Heap.get?_none_of_le (Nat.le_refl _)
  have nS : s.heap.get? (s.heap.objs.size + 1) = none := Heap.get?_none_of_le (Nat.le_succ _)
  have SI : s.heap.objs.size + 1 ≠ s.heap.objs.size := Nat.succ_ne_self _
  have lI : l ≠ s.heap.objs.size := Nat.ne_of_lt ll
  have wk := Walks.list (prog := prog) (w := w) (A := A.in1) hh s.heap.objs.size l lI vs.toArray
  have sz : vs.toArray.size = vs.length := List.size_toArray ..
  have off : ∀ {h h' : Heap} {x : Addr}, s.heap.get? x = none → Stay s.heap h → (∀ b o, b ≠ x → h.get? b = some o → h'.get? b = some o) → Stay s.heap h' := fun nx st k b o e => k b o (fun z => by rw [z, nx] at e; cases e) (st b o e)
  refine wpAny_pure ⟨plainId_quiet (PySem.F.plain_max_loop) _, codeAny_builtin (b := _) PySem.F.entry_max_loop ?_⟩
  rw [Around.under_plainId (PySem.F.plain_max_loop) _]
  show wpAny _ A.in1 (seqItems? (Value.ref _) >>= _) _ _ _
  refine wpAny_bind (wpAny_seqItems (gS) rfl ?_)
  show wpAny _ A.in1 (tryCatch (pyNext (Value.ref s.heap.objs.size)) _ >>= _) _ _ _
  refine wpAny_bind (wpAny_tryCatch (wk.item 0 _ _ _ (by rw [sz]; exact some1) ⟨⟨_, gI, rfl, rfl⟩, isL_stay st2 isL⟩ fun v h1 tk1 pv it1 kk => ?_))
  have ev1 : vs[0]? = some v := by simpa using pv
  obtain ⟨oI, gI1, cI, dI⟩ := it1.1
  have st1 := off nI st2 (fun b o nb e => kk b o (fun z => nb (List.mem_singleton.mp z)) e)
  have gS1 := kk _ _ (fun z => SI (List.mem_singleton.mp z)) gS
  show wpAny _ A.in1 (tryCatch (holding [v] (call (Value.builtin kid) [v])) _ >>= _) _ _ _
  refine wpAny_bind (wpAny_tryCatch (wpAny_holding (wpAny_mono (key 0 v ev1 h1 tk1 st1) (fun x s2 hx => ?_) (fun _ _ no => no.elim))))
  obtain ⟨h2, tk2, t2, rfl, rfl, k3⟩ := hx
  have gS2 := k3 _ _ gS1
  have u1 := Heap.SameBut.update h2 (s.heap.objs.size + 1) (Obj.mapSeq (fun _ => #[v, .int (kf 0) t2]))
  obtain ⟨c2, gS3⟩ : ∃ c2, (h2.update (s.heap.objs.size + 1) (Obj.mapSeq fun _ => #[v, .int (kf 0) t2])).get? (s.heap.objs.size + 1) = some (seqObj "list" #[v, .int (kf 0) t2] c2) := ⟨_, get?_update_seq gS2 fun _ => _⟩
  show wpAny _ A.in1 (updateSeq (s.heap.objs.size + 1) (fun _ => #[v, .int (kf 0) t2]) >>= _) _ _ _
  refine wpAny_bind (wpAny_updateSeq gS2 rfl ?_)
  rw [nm]
  refine wpAny_pure ⟨plainId_quiet (PySem.F.plain_max_loop) _, maxKey_loop kf hh isL lI SI nI nS key fin _ 0 0 _ _ v t2 c2 rfl some1 (off nS (fun b o e => k3 b o (st1 b o e)) fun b o nb e => (u1.2 b nb).trans e) gS3 ⟨oI, (u1.2 _ SI.symm).trans (k3 _ _ gI1), cI, dI⟩ ev1 (Nat.le_refl _) fun n hn => ?_⟩
  have e : n = 0 := by omega
  subst e
  exact ⟨Int.le_refl _, fun z => absurd z (Nat.lt_irrefl _)⟩
end
/-- max([x, y], key=len), x and y tuples -/
def rMaxLen (K : PySem.W.Frag) : List V → Hp → VK → Prop := fun vs H Q => ∃ (a b c : Addr) (xs ys : List V), vs = [.ref a] ∧ SqL K H a [.ref b, .ref c] ∧ SqT K H b xs ∧ SqT K H c ys ∧ Q (.ref (if xs.length < ys.length then c else b)) H
theorem pe_maxLen {X : Cx} {e : Expr} {p q kp pos : Pos} {t : TA} (hc : X.calm = true) (hg : Gl X "max") (hm : X.mg "max" = none) (hg2 : Gl X "len") (hm2 : X.mg "len" = none) (ha : PA X [e] t)
    (he : backTo pos (starEach [e] X.env) = (false, eval e X.env) :: backTo pos (starEach [] X.env) := by rfl) (hpl : (backTo pos (starEach [e] X.env)).any (·.1) = false := by rfl) :
    PE X (.Call (.Name "max" p) [e] [⟨some "key", .Name "len" q, kp⟩] pos) (tCB (rMaxLen X.K) t) := by
  refine ⟨fun pins s σ H Q I h => ?_⟩
  refine wpAny_Call_Name_kw (ld_blt (u := .builtin "max") I hg hm (by decide +kernel) ?_)
  refine PyProof.Rows.callWith_kw (thn (ha.run pos pins s σ H _ I h) fun us s1 ⟨vs, H1, I1, r1, q1⟩ => ?_) he hpl (by rfl) (by rfl)
  show wpAny _ _ (evalAll [(do let v ← eval (.Name "len" q) X.env; standAt pos; pure v)]) _ _ s1
  refine wpAny_evalAll_cons (wpAny_bind (ld_blt (u := .builtin "len") I1 hg2 hm2 (by decide +kernel) (wpAny_bind (wpAny_standAt (wpAny_pure (wpAny_evalAll_nil ?_))))))
  obtain ⟨a, b, c, xs, ys, rfl, hl, hb, hc2, qq⟩ := q1
  rw [Vals.ref1 r1]
  obtain ⟨its, rv, isL, _⟩ := I1.list hl
  obtain ⟨u, u', rfl, ru, ru'⟩ := vals2 rv
  obtain rfl : u = Value.ref b := ru
  obtain rfl : u' = Value.ref c := ru'
  obtain ⟨i1, v1, t1, z1⟩ := I1.tuple hb
  obtain ⟨i2, v2, t2, z2⟩ := I1.tuple hc2
  have l1 := v1.length
  have l2 := v2.length
  have fit : ∀ {n : Nat}, n ≤ sizeLine → ((n : Nat) : Int) < 2 ^ 63 := fun {n} z => by
    rw [show sizeLine = 16777216 by decide] at z
    omega
  refine maxKey (vs := [Value.ref b, Value.ref c]) (fun i => if i = 0 then (i1.length : Int) else i2.length) (I1.ok.hd hc) isL.isList (Nat.zero_lt_succ _) (fun i v hv h' tk st => ?_) (fun i v h' tk' hv top st => ?_)
  · match i, hv with
    | 0, hv =>
      cases hv
      refine PyProof.Rows.len_tuple (isT_stay st t1) (fit (by rw [List.size_toArray, ← l1]; exact z1)) ⟨_, _, _, rfl, by rw [List.size_toArray]; rfl, fun _ _ e => e⟩
    | 1, hv =>
      cases hv
      refine PyProof.Rows.len_tuple (isT_stay st t2) (fit (by rw [List.size_toArray, ← l2]; exact z2)) ⟨_, _, _, rfl, by rw [List.size_toArray]; rfl, fun _ _ e => e⟩
  · match i, hv with
    | 0, hv =>
      cases hv
      have := (top 1 (Nat.lt_succ_self 1)).1
      replace this : (i2.length : Int) ≤ i1.length := this
      rw [if_neg (by omega)] at qq
      exact ⟨V.ref _, H1, I1.kept st, rfl, qq⟩
    | 1, hv =>
      cases hv
      have := (top 0 (Nat.zero_lt_succ _)).2 (by decide)
      replace this : (i1.length : Int) < i2.length := this
      rw [if_pos (by omega)] at qq
      exact ⟨V.ref _, H1, I1.kept st, rfl, qq⟩

/-! ### a min-max theorem: demands are rectangles, intervals are points -/
abbrev Dem := Int × Int × Int
def sv (z : Int × Int) (d : Dem) : Bool := decide (d.2.1 ≤ z.1 ∧ z.1 ≤ d.1 ∧ d.1 ≤ z.2 ∧ z.2 ≤ d.2.2)
def cf (d e : Dem) : Bool := decide ((e.2.1 ≤ d.1 ∧ d.1 ≤ e.2.2) ∧ d.2.1 ≤ e.1 ∧ e.1 ≤ d.2.2)
def Vd (d : Dem) : Prop := d.2.1 ≤ d.1 ∧ d.1 ≤ d.2.2
theorem sv_iff' {z : Int × Int} {d : Dem} : sv z d = true ↔ d.2.1 ≤ z.1 ∧ z.1 ≤ d.1 ∧ d.1 ≤ z.2 ∧ z.2 ≤ d.2.2 := decide_eq_true_iff
theorem cf_iff {d e : Dem} : cf d e = true ↔ (e.2.1 ≤ d.1 ∧ d.1 ≤ e.2.2) ∧ d.2.1 ≤ e.1 ∧ e.1 ≤ d.2.2 := decide_eq_true_iff
theorem cf_comm (d e : Dem) : cf d e = cf e d := by
  rw [Bool.eq_iff_iff, cf_iff, cf_iff]
  exact ⟨fun h => ⟨h.2, h.1⟩, fun h => ⟨h.2, h.1⟩⟩
theorem cf_of_sv {z : Int × Int} {d e : Dem} (h1 : sv z d = true) (h2 : sv z e = true) : cf d e = true := by
  rw [sv_iff'] at h1 h2
  rw [cf_iff]
  omega
theorem cf_self {d : Dem} (h : Vd d) : cf d d = true := by
  rw [cf_iff]
  exact ⟨h, h⟩
/-- how many of the demands the point serves -/
def cov (L : List Dem) (z : Int × Int) : Nat := L.countP (sv z)
theorem cov_nil (z : Int × Int) : cov [] z = 0 := rfl
theorem cov_cons (d : Dem) (L : List Dem) (z : Int × Int) : cov (d :: L) z = cov L z + (if sv z d = true then 1 else 0) := List.countP_cons
theorem cov_app (L M : List Dem) (z : Int × Int) : cov (L ++ M) z = cov L z + cov M z := List.countP_append
theorem cov_perm {L M : List Dem} (h : L.Perm M) (z : Int × Int) : cov L z = cov M z := h.countP_eq _
/-- no two of them conflict -/
def Ind (L : List Dem) : Prop := L.Pairwise fun d e => cf d e = false
theorem Ind.cov_le {L : List Dem} (h : Ind L) (z : Int × Int) : cov L z ≤ 1 := by
  induction L with
  | nil => exact Nat.zero_le _
  | cons d L ih =>
    have p := List.pairwise_cons.mp h
    rw [cov_cons]
    split
    · next s =>
      have e : cov L z = 0 := List.countP_eq_zero.mpr fun e he c => by
        have := p.1 e he
        rw [cf_of_sv s c] at this
        cases this
      omega
    · have := ih p.2
      omega
structure Fam (F : List Dem) : Prop where
  ok : ∀ d ∈ F, 0 ≤ d.2.1 ∧ Vd d
  ex : ∀ d ∈ F, ∀ e ∈ F, d.1 < e.1 → d.2.1 < e.2.1 → d.2.2 < e.2.2 → cf d e = true → (d.1, e.2) ∈ F ∧ (e.1, d.2) ∈ F
  cross : ∀ d ∈ F, ∀ e ∈ F, cf d e = true → d.2 = e.2 ∨ (d.2.1 < e.2.1 ∧ d.2.2 < e.2.2) ∨ (e.2.1 < d.2.1 ∧ e.2.2 < d.2.2)
theorem sv_exch {z : Int × Int} {d e : Dem} (h1 : d.1 < e.1) (h2 : d.2.1 < e.2.1) (h3 : d.2.2 < e.2.2) (c : cf d e = true) :
    (if sv z (d.1, e.2) = true then 1 else 0) + (if sv z (e.1, d.2) = true then 1 else 0) ≤ (if sv z d = true then 1 else 0) + (if sv z e = true then 1 else 0) := by
  have c := cf_iff.mp c
  simp only [sv_iff']
  split <;> split <;> split <;> split <;> omega
def pot (L : List Dem) : Int := (L.map fun d => d.1 * (d.2.1 + d.2.2)).sum
theorem pot_cons (d : Dem) (L : List Dem) : pot (d :: L) = d.1 * (d.2.1 + d.2.2) + pot L := by
  unfold pot
  rw [List.map_cons, List.sum_cons]
theorem pot_nonneg {L : List Dem} (h : ∀ d ∈ L, 0 ≤ d.2.1 ∧ Vd d) : 0 ≤ pot L := by
  induction L with
  | nil => exact Int.le_refl _
  | cons d L ih =>
    rw [pot_cons]
    have := ih fun e he => h e (List.mem_cons_of_mem _ he)
    have q := h d List.mem_cons_self
    unfold Vd at q
    have : 0 ≤ d.1 * (d.2.1 + d.2.2) := Int.mul_nonneg (by omega) (by omega)
    omega
theorem pot_perm {L M : List Dem} (h : L.Perm M) : pot L = pot M := by
  induction h with
  | nil => rfl
  | cons x _ ih => rw [pot_cons, pot_cons, ih]
  | swap x y l =>
    rw [pot_cons, pot_cons, pot_cons, pot_cons]
    omega
  | trans _ _ i1 i2 => rw [i1, i2]
def Corner (d e : Dem) : Prop := cf d e = true ∧ d.1 < e.1 ∧ d.2.1 < e.2.1 ∧ d.2.2 < e.2.2
theorem pull2 {L : List Dem} {d e : Dem} (hd : d ∈ L) (he : e ∈ L) (ne : d ≠ e) : ∃ R, L.Perm (d :: e :: R) := by
  have p1 := List.perm_cons_erase hd
  have he' : e ∈ L.erase d := (List.mem_erase_of_ne (Ne.symm ne)).mpr he
  exact ⟨(L.erase d).erase e, p1.trans ((List.perm_cons_erase he').cons d)⟩
theorem uncross {F : List Dem} (fam : Fam F) : ∀ (n : Nat) (L : List Dem), (∀ d ∈ L, d ∈ F) → (pot L).toNat < n → ∃ M : List Dem, (∀ d ∈ M, d ∈ F) ∧ M.length = L.length ∧ (∀ z, cov M z ≤ cov L z) ∧ ∀ d ∈ M, ∀ e ∈ M, ¬ Corner d e := by
  intro n
  induction n with
  | zero => exact fun _ _ h => absurd h (Nat.not_lt_zero _)
  | succ n ih =>
    intro L hL hn
    by_cases c : ∀ d ∈ L, ∀ e ∈ L, ¬ Corner d e
    · exact ⟨L, hL, rfl, fun _ => Nat.le_refl _, c⟩
    · have ⟨d, hd, e, he, k⟩ : ∃ d ∈ L, ∃ e ∈ L, Corner d e := by
        refine Classical.byContradiction fun z => c fun d hd e he k => z ⟨d, hd, e, he, k⟩
      obtain ⟨k1, k2, k3, k4⟩ := k
      have ne : d ≠ e := fun z => by
        subst z
        exact absurd k2 (Int.lt_irrefl _)
      obtain ⟨R, pm⟩ := pull2 hd he ne
      have x := fam.ex d (hL d hd) e (hL e he) k2 k3 k4 k1
      have hR : ∀ f ∈ R, f ∈ F := fun f hf => hL f (pm.mem_iff.mpr (List.mem_cons_of_mem _ (List.mem_cons_of_mem _ hf)))
      have hN : ∀ f ∈ (d.1, e.2) :: (e.1, d.2) :: R, f ∈ F := fun f hf => by
        rcases List.mem_cons.mp hf with rfl | hf
        · exact x.1
        rcases List.mem_cons.mp hf with rfl | hf
        · exact x.2
        · exact hR f hf
      have less : pot ((d.1, e.2) :: (e.1, d.2) :: R) < pot L := by
        rw [pot_perm pm, pot_cons, pot_cons, pot_cons, pot_cons]
        show d.1 * (e.2.1 + e.2.2) + (e.1 * (d.2.1 + d.2.2) + pot R) < d.1 * (d.2.1 + d.2.2) + (e.1 * (e.2.1 + e.2.2) + pot R)
        have : 0 < (e.1 - d.1) * ((e.2.1 + e.2.2) - (d.2.1 + d.2.2)) := Int.mul_pos (by omega) (by omega)
        rw [Int.sub_mul, Int.mul_sub, Int.mul_sub] at this
        omega
      have nn := pot_nonneg fun f hf => fam.ok f (hN f hf)
      obtain ⟨M, m1, m2, m3, m4⟩ := ih _ hN (by omega)
      refine ⟨M, m1, by rw [m2, pm.length_eq]; rfl, fun z => Nat.le_trans (m3 z) ?_, m4⟩
      rw [cov_perm pm, cov_cons, cov_cons, cov_cons, cov_cons]
      have := sv_exch (z := z) k2 k3 k4 k1
      omega
/-- e lies across d -/
def Und (e d : Dem) : Prop := d.2.1 ≤ e.2.1 ∧ e.1 ≤ d.1 ∧ d.2.2 ≤ e.2.2
theorem und_of {F : List Dem} (fam : Fam F) {d e : Dem} (hd : d ∈ F) (he : e ∈ F) (c : cf d e = true) (n1 : ¬ Corner d e) (n2 : ¬ Corner e d) : Und d e ∨ Und e d := by
  unfold Und
  rcases fam.cross d hd e he c with h | h | h
  · rw [h]
    omega
  · have : ¬ d.1 < e.1 := fun z => n1 ⟨c, z, h.1, h.2⟩
    omega
  · have : ¬ e.1 < d.1 := fun z => n2 ⟨by rw [cf_comm]; exact c, z, h.1, h.2⟩
    omega
def leD (d e : Dem) : Bool := decide (d.1 - d.2.1 < e.1 - e.2.1 ∨ (d.1 - d.2.1 = e.1 - e.2.1 ∧ e.2.2 ≤ d.2.2))
theorem leD_total (a b : Dem) : (leD a b || leD b a) = true := by
  unfold leD
  rw [Bool.or_eq_true, decide_eq_true_eq, decide_eq_true_eq]
  omega
theorem leD_trans (a b c : Dem) : leD a b = true → leD b c = true → leD a c = true := by
  unfold leD
  rw [decide_eq_true_eq, decide_eq_true_eq, decide_eq_true_eq]
  omega
theorem und_le {F : List Dem} (fam : Fam F) {f e : Dem} (hf : f ∈ F) (he : e ∈ F) (c : cf f e = true) (n1 : ¬ Corner f e) (n2 : ¬ Corner e f) (le : leD f e = true) : Und f e := by
  have le := of_decide_eq_true le
  rcases und_of fam hf he c n1 n2 with h | h
  · exact h
  · unfold Und at *
    omega
def gre : Nat → List Dem → List Dem
  | 0, _ => []
  | _, [] => []
  | n + 1, d :: R => d :: gre n (R.filter fun e => !cf d e)
def lef : Nat → List Dem → List Dem
  | 0, L => L
  | _, [] => []
  | n + 1, d :: R => (R.filter fun e => cf d e) ++ lef n (R.filter fun e => !cf d e)
theorem gre_lef : ∀ (n : Nat) (L : List Dem), L.Perm (gre n L ++ lef n L)
  | 0, L => List.Perm.refl _
  | n + 1, [] => List.Perm.refl _
  | n + 1, d :: R => by
    have ih := gre_lef n (R.filter fun e => !cf d e)
    show (d :: R).Perm (d :: (gre n (R.filter fun e => !cf d e) ++ ((R.filter fun e => cf d e) ++ lef n (R.filter fun e => !cf d e))))
    refine List.Perm.cons d ?_
    have p1 := (List.filter_append_perm (fun e => cf d e) R).symm
    refine p1.trans ?_
    refine ((List.Perm.refl (R.filter fun e => cf d e)).append ih).trans ?_
    rw [← List.append_assoc, ← List.append_assoc]
    exact List.perm_append_comm.append_right _
theorem gre_sub (n : Nat) (L : List Dem) : ∀ d ∈ gre n L, d ∈ L := fun d hd => (gre_lef n L).mem_iff.mpr (List.mem_append_left _ hd)
theorem lef_sub (n : Nat) (L : List Dem) : ∀ d ∈ lef n L, d ∈ L := fun d hd => (gre_lef n L).mem_iff.mpr (List.mem_append_right _ hd)
theorem gre_ind : ∀ (n : Nat) (L : List Dem), Ind (gre n L)
  | 0, _ => List.Pairwise.nil
  | n + 1, [] => List.Pairwise.nil
  | n + 1, d :: R => by
    refine List.pairwise_cons.mpr ⟨fun e he => ?_, gre_ind n _⟩
    have := (List.mem_filter.mp (gre_sub n _ e he)).2
    rw [Bool.not_eq_true'] at this
    exact this
theorem gre_in : ∀ (n : Nat) (A B : List Dem) (e : Dem), A.length < n → e ∈ gre n (A ++ e :: B) ∨ ∃ f ∈ A, cf f e = true
  | 0, _, _, _, h => absurd h (Nat.not_lt_zero _)
  | n + 1, [], B, e, _ => .inl List.mem_cons_self
  | n + 1, d :: A, B, e, h => by
    by_cases c : cf d e = true
    · exact .inr ⟨d, List.mem_cons_self, c⟩
    · have eq : (A ++ e :: B).filter (fun x => !cf d x) = A.filter (fun x => !cf d x) ++ e :: B.filter (fun x => !cf d x) := by
        rw [List.filter_append, List.filter_cons_of_pos (by rw [Bool.not_eq_true] at c; rw [c]; rfl)]
      have l : (A.filter fun x => !cf d x).length < n := Nat.lt_of_le_of_lt (List.length_filter_le _ _) (Nat.lt_of_succ_lt_succ h)
      rcases gre_in n (A.filter fun x => !cf d x) (B.filter fun x => !cf d x) e l with g | ⟨f, hf, k⟩
      · refine .inl (List.mem_cons_of_mem _ ?_)
        show e ∈ gre n ((A ++ e :: B).filter fun x => !cf d x)
        rw [eq]
        exact g
      · exact .inr ⟨f, List.mem_cons_of_mem _ (List.mem_filter.mp hf).1, k⟩
theorem cov_lt {z w : Int × Int} {f : Dem} : ∀ {L : List Dem}, f ∈ L → (∀ c ∈ L, sv z c = true → sv w c = true) → sv z f = false → sv w f = true → cov L z < cov L w
  | [], hf, _, _, _ => nomatch hf
  | d :: L, hf, h, n, y => by
    rw [cov_cons, cov_cons]
    have le : cov L z ≤ cov L w := List.countP_mono_left fun c hc => h c (List.mem_cons_of_mem _ hc)
    have h1 := h d List.mem_cons_self
    rcases List.mem_cons.mp hf with rfl | hf
    · rw [n, y]
      simp
      omega
    · have ih := cov_lt hf (fun c hc => h c (List.mem_cons_of_mem _ hc)) n y
      split
      · next s => rw [if_pos (h1 s)]; omega
      · split <;> omega
theorem first_of {p : Dem → Bool} : ∀ {L : List Dem}, (∃ d ∈ L, p d = true) → ∃ A e B, L = A ++ e :: B ∧ p e = true ∧ ∀ f ∈ A, p f = false
  | [], h => by
    obtain ⟨d, hd, _⟩ := h
    cases hd
  | d :: L, h => by
    by_cases c : p d = true
    · exact ⟨[], d, L, rfl, c, fun f hf => nomatch hf⟩
    · obtain ⟨x, hx, px⟩ := h
      rcases List.mem_cons.mp hx with rfl | hx
      · exact absurd px c
      · obtain ⟨A, e, B, r1, r2, r3⟩ := first_of ⟨x, hx, px⟩
        refine ⟨d :: A, e, B, by rw [r1]; rfl, r2, fun f hf => ?_⟩
        rcases List.mem_cons.mp hf with rfl | hf
        · exact Bool.not_eq_true _ ▸ c
        · exact r3 f hf
theorem lef_cov {F : List Dem} (fam : Fam F) {L : List Dem} (hL : ∀ d ∈ L, d ∈ F) (nc : ∀ d ∈ L, ∀ e ∈ L, ¬ Corner d e) (srt : L.Pairwise fun d e => leD d e = true) {m : Nat} (hm : ∀ z, cov L z ≤ m + 1) (z : Int × Int) : cov (lef L.length L) z ≤ m := by
  have sum := cov_perm (gre_lef L.length L) z
  rw [cov_app] at sum
  have top := hm z
  by_cases g : ∃ d ∈ gre L.length L, sv z d = true
  · have : 0 < cov (gre L.length L) z := List.countP_pos_iff.mpr g
    omega
  · by_cases s : ∃ d ∈ L, sv z d = true
    · obtain ⟨A, e, B, rfl, se, nA⟩ := first_of s
      have la : A.length < (A ++ e :: B).length := by
        rw [List.length_append, List.length_cons]
        omega
      rcases gre_in _ A B e la with q | ⟨f, hf, k⟩
      · exact absurd ⟨e, q, se⟩ g
      · have mf : f ∈ A ++ e :: B := List.mem_append_left _ hf
        have me : e ∈ A ++ e :: B := List.mem_append_right _ List.mem_cons_self
        have pw := List.pairwise_append.mp srt
        have u1 := und_le fam (hL f mf) (hL e me) k (nc f mf e me) (nc e me f mf) (pw.2.2 f hf e List.mem_cons_self)
        have w : cov (A ++ e :: B) z < cov (A ++ e :: B) (f.1, z.2) := by
          have vf := (fam.ok f (hL f mf)).2
          have ve := sv_iff'.mp se
          refine cov_lt mf (fun c hc sc => ?_) (nA f hf) ?_
          · have u2 : Und e c := by
              rcases List.mem_append.mp hc with h | h
              · rw [nA c h] at sc
                cases sc
              · rcases List.mem_cons.mp h with rfl | h
                · exact ⟨Int.le_refl _, Int.le_refl _, Int.le_refl _⟩
                · exact und_le fam (hL e me) (hL c hc) (cf_of_sv se sc) (nc e me c hc) (nc c hc e me) ((List.pairwise_cons.mp pw.2.1).1 c h)
            have sc := sv_iff'.mp sc
            rw [sv_iff']
            unfold Und Vd at *
            show c.2.1 ≤ f.1 ∧ f.1 ≤ c.1 ∧ c.1 ≤ z.2 ∧ z.2 ≤ c.2.2
            omega
          · rw [sv_iff']
            unfold Und Vd at *
            show f.2.1 ≤ f.1 ∧ f.1 ≤ f.1 ∧ f.1 ≤ z.2 ∧ z.2 ≤ f.2.2
            omega
        have := hm (f.1, z.2)
        omega
    · have : cov L z = 0 := List.countP_eq_zero.mpr fun d hd c => s ⟨d, hd, c⟩
      omega
theorem len_le {F : List Dem} (fam : Fam F) {k : Nat} (hk : ∀ I, Ind I → (∀ d ∈ I, d ∈ F) → I.length ≤ k) : ∀ (m : Nat) (L : List Dem), (∀ d ∈ L, d ∈ F) → (∀ d ∈ L, ∀ e ∈ L, ¬ Corner d e) → (∀ z, cov L z ≤ m) → L.length ≤ m * k
  | 0, L, hL, _, hm => by
    cases L with
    | nil => exact Nat.zero_le _
    | cons d L =>
      have v := (fam.ok d (hL d List.mem_cons_self)).2
      have := hm (d.1, d.1)
      rw [cov_cons, if_pos (sv_iff'.mpr (by unfold Vd at v; exact ⟨v.1, Int.le_refl _, Int.le_refl _, v.2⟩))] at this
      omega
  | m + 1, L, hL, nc, hm => by
    have pm := List.mergeSort_perm L leD
    have srt := List.pairwise_mergeSort leD_trans leD_total L
    generalize L.mergeSort leD = S at *
    have hS : ∀ d ∈ S, d ∈ L := fun d hd => pm.mem_iff.mp hd
    have hl := lef_cov fam (fun d hd => hL d (hS d hd)) (fun d hd e he => nc d (hS d hd) e (hS e he)) srt (m := m) (fun z => by rw [cov_perm pm]; exact hm z)
    have sub := lef_sub S.length S
    have ih := len_le fam hk m (lef S.length S) (fun d hd => hL d (hS d (sub d hd))) (fun d hd e he => nc d (hS d (sub d hd)) e (hS e (sub e he))) hl
    have g := hk _ (gre_ind S.length S) fun d hd => hL d (hS d (gre_sub _ _ d hd))
    have e := (gre_lef S.length S).length_eq
    have e2 := pm.length_eq
    rw [List.length_append] at e
    rw [Nat.add_mul]
    omega
theorem sum_lt {α : Type} {f : α → Nat} : ∀ {Z : List α} {w : α}, w ∈ Z → (∀ x ∈ Z, f x ≤ 1) → f w = 0 → (Z.map f).sum + 1 ≤ Z.length
  | [], _, h, _, _ => nomatch h
  | x :: Z, w, h, h1, h0 => by
    have le : ∀ Y : List α, (∀ x ∈ Y, f x ≤ 1) → (Y.map f).sum ≤ Y.length := by
      intro Y
      induction Y with
      | nil => exact fun _ => Nat.le_refl _
      | cons y Y ih =>
        intro hy
        have := ih fun x hx => hy x (List.mem_cons_of_mem _ hx)
        have := hy y List.mem_cons_self
        rw [List.map_cons, List.sum_cons, List.length_cons]
        omega
    have r := le Z fun x hx => h1 x (List.mem_cons_of_mem _ hx)
    have hx := h1 x List.mem_cons_self
    rw [List.map_cons, List.sum_cons, List.length_cons]
    rcases List.mem_cons.mp h with rfl | h
    · omega
    · have := sum_lt h (fun x hx => h1 x (List.mem_cons_of_mem _ hx)) h0
      omega
theorem cov_flat {α : Type} (I : α → List Dem) (z : Int × Int) : ∀ Z : List α, cov (Z.flatMap I) z = (Z.map fun w => cov (I w) z).sum
  | [] => rfl
  | x :: Z => by
    rw [List.flatMap_cons, cov_app, cov_flat I z Z, List.map_cons, List.sum_cons]
theorem len_flat {α β : Type} (I : α → List β) {k : Nat} : ∀ Z : List α, (∀ w ∈ Z, (I w).length = k) → (Z.flatMap I).length = Z.length * k
  | [], _ => by simp
  | x :: Z, h => by
    rw [List.flatMap_cons, List.length_append, len_flat I Z fun w hw => h w (List.mem_cons_of_mem _ hw), h x List.mem_cons_self, List.length_cons, Nat.add_mul]
    omega
theorem top_of (F : List Dem) : ∃ M : Nat, ∀ d ∈ F, d.2.2 ≤ M := by
  induction F with
  | nil => exact ⟨0, fun d hd => nomatch hd⟩
  | cons d F ih =>
    obtain ⟨M, h⟩ := ih
    refine ⟨M + d.2.2.toNat, fun e he => ?_⟩
    rcases List.mem_cons.mp he with rfl | he
    · omega
    · have := h e he
      omega
def box (M : Nat) : List (Int × Int) := (List.range (M + 1)).flatMap fun (x : Nat) => (List.range (M + 1)).map fun (y : Nat) => ((x : Int), (y : Int))
theorem mem_box {M : Nat} {z : Int × Int} (h : 0 ≤ z.1 ∧ z.1 ≤ M) (h2 : 0 ≤ z.2 ∧ z.2 ≤ M) : z ∈ box M := by
  unfold box
  refine List.mem_flatMap.mpr ⟨z.1.toNat, List.mem_range.mpr (by omega), List.mem_map.mpr ⟨z.2.toNat, List.mem_range.mpr (by omega), ?_⟩⟩
  exact Prod.ext (by show ((z.1.toNat : Nat) : Int) = z.1; omega) (by show ((z.2.toNat : Nat) : Int) = z.2; omega)
/-- a point that every largest selection has to pay for -/
theorem hits {F : List Dem} (fam : Fam F) {k : Nat} (hk : ∀ I, Ind I → (∀ d ∈ I, d ∈ F) → I.length ≤ k + 1) : ∃ z, ∀ I, Ind I → (∀ d ∈ I, d ∈ F) → I.length = k + 1 → ∃ d ∈ I, sv z d = true := by
  refine Classical.byContradiction fun no => ?_
  have miss : ∀ z, ∃ I, Ind I ∧ (∀ d ∈ I, d ∈ F) ∧ I.length = k + 1 ∧ ∀ d ∈ I, sv z d = false := fun z => by
    refine Classical.byContradiction fun h => no ⟨z, fun I i1 i2 i3 => Classical.byContradiction fun n => h ⟨I, i1, i2, i3, fun d hd => ?_⟩⟩
    rw [← Bool.not_eq_true]
    exact fun s => n ⟨d, hd, s⟩
  obtain ⟨I, hI⟩ := Classical.axiomOfChoice miss
  obtain ⟨M, hM⟩ := top_of F
  have hsub : ∀ d ∈ (box M).flatMap I, d ∈ F := fun d hd => by
    obtain ⟨w, _, h⟩ := List.mem_flatMap.mp hd
    exact (hI w).2.1 d h
  have hlen := len_flat I (k := k + 1) (box M) fun w _ => (hI w).2.2.1
  have pos : 0 < (box M).length := List.length_pos_of_mem (mem_box (M := M) (z := (0, 0)) ⟨by decide, by show (0 : Int) ≤ M; omega⟩ ⟨by decide, by show (0 : Int) ≤ M; omega⟩)
  have hc : ∀ z, cov ((box M).flatMap I) z ≤ (box M).length - 1 := fun z => by
    by_cases b : (0 ≤ z.1 ∧ z.1 ≤ M) ∧ 0 ≤ z.2 ∧ z.2 ≤ M
    · have s := sum_lt (f := fun w => cov (I w) z) (mem_box b.1 b.2) (fun x _ => (hI x).1.cov_le z) (List.countP_eq_zero.mpr fun d hd c => by
        rw [(hI z).2.2.2 d hd] at c
        cases c)
      rw [cov_flat]
      omega
    · have : cov ((box M).flatMap I) z = 0 := List.countP_eq_zero.mpr fun d hd c => b (by
        have c := sv_iff'.mp c
        have o := fam.ok d (hsub d hd)
        have t := hM d (hsub d hd)
        unfold Vd at o
        omega)
      omega
  obtain ⟨N, n1, n2, n3, n4⟩ := uncross fam _ _ hsub (Nat.lt_succ_self _)
  have := len_le fam hk ((box M).length - 1) N n1 n4 fun z => Nat.le_trans (n3 z) (hc z)
  rw [n2, hlen] at this
  obtain ⟨b, eb⟩ : ∃ b, (box M).length = b + 1 := ⟨(box M).length - 1, by omega⟩
  rw [eb, Nat.add_sub_cancel, Nat.add_mul, Nat.one_mul] at this
  omega
theorem Fam.rest {F : List Dem} (fam : Fam F) (z : Int × Int) : Fam (F.filter fun d => !sv z d) := by
  have hs : ∀ d, d ∈ F.filter (fun d => !sv z d) → d ∈ F ∧ sv z d = false := fun d hd => by
    have := List.mem_filter.mp hd
    exact ⟨this.1, by rw [← Bool.not_eq_true']; exact this.2⟩
  refine ⟨fun d hd => fam.ok d (hs d hd).1, fun d hd e he h1 h2 h3 c => ?_, fun d hd e he c => fam.cross d (hs d hd).1 e (hs e he).1 c⟩
  have x := fam.ex d (hs d hd).1 e (hs e he).1 h1 h2 h3 c
  have y := sv_exch (z := z) h1 h2 h3 c
  rw [(hs d hd).2, (hs e he).2] at y
  simp at y
  exact ⟨List.mem_filter.mpr ⟨x.1, by rw [y.1]; rfl⟩, List.mem_filter.mpr ⟨x.2, by rw [y.2]; rfl⟩⟩
/-- as many points as the largest selection has serve all -/
theorem min_max : ∀ (k : Nat) {F : List Dem}, Fam F → (∀ I, Ind I → (∀ d ∈ I, d ∈ F) → I.length ≤ k) → ∃ S : List (Int × Int), S.length ≤ k ∧ ∀ d ∈ F, ∃ z ∈ S, sv z d = true
  | 0, F, fam, hk => ⟨[], Nat.le_refl _, fun d hd => by
    have := hk [d] (List.pairwise_singleton _ _) fun e he => by
      rw [List.mem_singleton.mp he]
      exact hd
    exact absurd this (by simp)⟩
  | k + 1, F, fam, hk => by
    obtain ⟨z, hz⟩ := hits fam hk
    obtain ⟨S, s1, s2⟩ := min_max k (fam.rest z) fun I i1 i2 => by
      have sub : ∀ d ∈ I, d ∈ F ∧ sv z d = false := fun d hd => by
        have := List.mem_filter.mp (i2 d hd)
        exact ⟨this.1, by rw [← Bool.not_eq_true']; exact this.2⟩
      have le := hk I i1 fun d hd => (sub d hd).1
      by_cases e : I.length = k + 1
      · obtain ⟨d, hd, s⟩ := hz I i1 (fun d hd => (sub d hd).1) e
        rw [(sub d hd).2] at s
        cases s
      · omega
    refine ⟨z :: S, by rw [List.length_cons]; omega, fun d hd => ?_⟩
    by_cases s : sv z d = true
    · exact ⟨z, List.mem_cons_self, s⟩
    · obtain ⟨w, hw, q⟩ := s2 d (List.mem_filter.mpr ⟨hd, by rw [Bool.not_eq_true] at s; rw [s]; rfl⟩)
      exact ⟨w, List.mem_cons_of_mem _ hw, q⟩

def topS (i : Nat) : Stmt := PySem.Challenge.pw_fewspans_k32_whole_small_families.main.body.getD i (.Pass ⟨0, 0, 0, 0⟩)
abbrev s_depth_changes : Stmt := topS 1
abbrev N_depth_changes : List Str := ["intervals", "changes", "low", "high"]
theorem sc_depth_changes : FnScope N_depth_changes ["intervals"] (defScope s_depth_changes) := ⟨rfl, rfl, rfl, by decide +kernel, rfl, by decide +kernel, by decide +kernel⟩
abbrev s_find_blocks : Stmt := topS 2
abbrev N_find_blocks : List Str := ["intervals", "changes", "borders", "blocks", "depth", "low", "after"]
theorem sc_find_blocks : FnScope N_find_blocks ["intervals"] (defScope s_find_blocks) := ⟨rfl, rfl, rfl, by decide +kernel, rfl, by decide +kernel, by decide +kernel⟩
abbrev s_has_position : Stmt := topS 5
abbrev N_has_position : List Str := ["interval", "position"]
theorem sc_has_position : FnScope N_has_position ["interval", "position"] (defScope s_has_position) := ⟨rfl, rfl, rfl, by decide +kernel, rfl, by decide +kernel, by decide +kernel⟩
abbrev s_contains : Stmt := topS 6
abbrev N_contains : List Str := ["outer", "inner"]
theorem sc_contains : FnScope N_contains ["outer", "inner"] (defScope s_contains) := ⟨rfl, rfl, rfl, by decide +kernel, rfl, by decide +kernel, by decide +kernel⟩
abbrev s_serves : Stmt := topS 8
abbrev N_serves : List Str := ["piece", "demand", "position", "target"]
theorem sc_serves : FnScope N_serves ["piece", "demand"] (defScope s_serves) := ⟨rfl, rfl, rfl, by decide +kernel, rfl, by decide +kernel, by decide +kernel⟩
abbrev s_conflict : Stmt := topS 9
abbrev N_conflict : List Str := ["first", "second"]
theorem sc_conflict : FnScope N_conflict ["first", "second"] (defScope s_conflict) := ⟨rfl, rfl, rfl, by decide +kernel, rfl, by decide +kernel, by decide +kernel⟩
abbrev s_demands_at_blocks : Stmt := topS 10
abbrev N_demands_at_blocks : List Str := ["targets", "blocks", "low", "high", "target"]
theorem sc_demands_at_blocks : FnScope N_demands_at_blocks ["targets", "blocks"] (defScope s_demands_at_blocks) := ⟨rfl, rfl, rfl, by decide +kernel, rfl, by decide +kernel, by decide +kernel⟩
abbrev s_is_open : Stmt := topS 11
abbrev N_is_open : List Str := ["pieces", "demand", "piece"]
theorem sc_is_open : FnScope N_is_open ["pieces", "demand"] (defScope s_is_open) := ⟨rfl, rfl, rfl, by decide +kernel, rfl, by decide +kernel, by decide +kernel⟩
abbrev s_open_demands : Stmt := topS 12
abbrev N_open_demands : List Str := ["targets", "pieces", "demands", "demand"]
theorem sc_open_demands : FnScope N_open_demands ["targets", "pieces"] (defScope s_open_demands) := ⟨rfl, rfl, rfl, by decide +kernel, rfl, by decide +kernel, by decide +kernel⟩
abbrev s_shadow_target : Stmt := topS 13
abbrev N_shadow_target : List Str := ["targets", "demand", "position", "whole", "target"]
theorem sc_shadow_target : FnScope N_shadow_target ["targets", "demand"] (defScope s_shadow_target) := ⟨rfl, rfl, rfl, by decide +kernel, rfl, by decide +kernel, by decide +kernel⟩
abbrev s_require_few_blocks : Stmt := topS 18
abbrev N_require_few_blocks : List Str := ["intervals"]
theorem sc_require_few_blocks : FnScope N_require_few_blocks ["intervals"] (defScope s_require_few_blocks) := ⟨rfl, rfl, rfl, by decide +kernel, rfl, by decide +kernel, by decide +kernel⟩
abbrev s_decisive_demands : Stmt := topS 19
abbrev N_decisive_demands : List Str := ["targets", "pieces", "demand"]
theorem sc_decisive_demands : FnScope N_decisive_demands ["targets", "pieces"] (defScope s_decisive_demands) := ⟨rfl, rfl, rfl, by decide +kernel, rfl, by decide +kernel, by decide +kernel⟩
abbrev s_largest_independent : Stmt := topS 20
abbrev N_largest_independent : List Str := ["demands", "first", "rest", "chosen", "demand", "position", "target"]
theorem sc_largest_independent : FnScope N_largest_independent ["demands"] (defScope s_largest_independent) := ⟨rfl, rfl, rfl, by decide +kernel, rfl, by decide +kernel, by decide +kernel⟩
abbrev s_count_needed : Stmt := topS 21
abbrev N_count_needed : List Str := ["targets", "pieces"]
theorem sc_count_needed : FnScope N_count_needed ["targets", "pieces"] (defScope s_count_needed) := ⟨rfl, rfl, rfl, by decide +kernel, rfl, by decide +kernel, by decide +kernel⟩
abbrev s_law_draws : Stmt := topS 23
abbrev N_law_draws : List Str := ["_law_script", "_law_cells", "_law_cell"]
theorem sc_law_draws : FnScope N_law_draws ["_law_script"] (defScope s_law_draws) := ⟨rfl, rfl, rfl, by decide +kernel, rfl, by decide +kernel, by decide +kernel⟩
abbrev s_law_next : Stmt := topS 24
abbrev N_law_next : List Str := ["_law_state", "_law_many", "_law_cells", "_law_count", "_law_rests", "_law_index", "_law_digit", "_law_mixed"]
theorem sc_law_next : FnScope N_law_next ["_law_state", "_law_many"] (defScope s_law_next) := ⟨rfl, rfl, rfl, by decide +kernel, rfl, by decide +kernel, by decide +kernel⟩
abbrev s_law_one : Stmt := topS 25
abbrev N_law_one : List Str := ["_law_state", "_law_items"]
theorem sc_law_one : FnScope N_law_one ["_law_state", "_law_items"] (defScope s_law_one) := ⟨rfl, rfl, rfl, by decide +kernel, rfl, by decide +kernel, by decide +kernel⟩
abbrev s_law_spans : Stmt := topS 26
abbrev N_law_spans : List Str := ["_law_state", "_law_width", "_law_many", "_law_found", "_law_k", "_law_low"]
theorem sc_law_spans : FnScope N_law_spans ["_law_state", "_law_width", "_law_many"] (defScope s_law_spans) := ⟨rfl, rfl, rfl, by decide +kernel, rfl, by decide +kernel, by decide +kernel⟩
abbrev s_law_covers : Stmt := topS 28
abbrev N_law_covers : List Str := ["_law_pieces", "_law_target", "_law_free", "_law_low", "_law_high"]
theorem sc_law_covers : FnScope N_law_covers ["_law_pieces", "_law_target"] (defScope s_law_covers) := ⟨rfl, rfl, rfl, by decide +kernel, rfl, by decide +kernel, by decide +kernel⟩
abbrev s_law_every : Stmt := topS 29
abbrev N_law_every : List Str := ["_law_width", "_law_found", "_law_low", "_law_high"]
theorem sc_law_every : FnScope N_law_every ["_law_width"] (defScope s_law_every) := ⟨rfl, rfl, rfl, by decide +kernel, rfl, by decide +kernel, by decide +kernel⟩
abbrev s_law_least : Stmt := topS 30
abbrev N_law_least : List Str := ["_law_width", "_law_targets_here", "_law_pieces", "_law_every_here", "_law_rows", "_law_size", "_law_row", "_law_target", "_law_longer", "_law_one_here"]
theorem sc_law_least : FnScope N_law_least ["_law_width", "_law_targets_here", "_law_pieces"] (defScope s_law_least) := ⟨rfl, rfl, rfl, by decide +kernel, rfl, by decide +kernel, by decide +kernel⟩
abbrev s_law_served : Stmt := topS 31
abbrev N_law_served : List Str := ["_law_piece", "_law_demand", "_law_place", "_law_target"]
theorem sc_law_served : FnScope N_law_served ["_law_piece", "_law_demand"] (defScope s_law_served) := ⟨rfl, rfl, rfl, by decide +kernel, rfl, by decide +kernel, by decide +kernel⟩
abbrev s_law_clash : Stmt := topS 32
abbrev N_law_clash : List Str := ["_law_one_here", "_law_other", "_law_low", "_law_high"]
theorem sc_law_clash : FnScope N_law_clash ["_law_one_here", "_law_other"] (defScope s_law_clash) := ⟨rfl, rfl, rfl, by decide +kernel, rfl, by decide +kernel, by decide +kernel⟩
abbrev s_law_most : Stmt := topS 33
abbrev N_law_most : List Str := ["_law_width", "_law_targets_here", "_law_pieces", "_law_demands", "_law_target", "_law_place", "_law_one_here", "_law_piece", "_law_rows", "_law_demand", "_law_free", "_law_row"]
theorem sc_law_most : FnScope N_law_most ["_law_width", "_law_targets_here", "_law_pieces"] (defScope s_law_most) := ⟨rfl, rfl, rfl, by decide +kernel, rfl, by decide +kernel, by decide +kernel⟩
abbrev s_law_right : Stmt := topS 34
abbrev N_law_right : List Str := ["_law_width", "_law_targets_here", "_law_pieces", "_law_many"]
theorem sc_law_right : FnScope N_law_right ["_law_width", "_law_targets_here", "_law_pieces"] (defScope s_law_right) := ⟨rfl, rfl, rfl, by decide +kernel, rfl, by decide +kernel, by decide +kernel⟩
abbrev s_law : Stmt := topS 35
abbrev N_law : List Str := ["_law_script", "_law_state", "_law_rows", "_law_one_here", "_law_row", "_law_piece", "_law_turn", "_law_targets_here"]
theorem sc_law : FnScope N_law ["_law_script"] (defScope s_law) := ⟨rfl, rfl, rfl, by decide +kernel, rfl, by decide +kernel, by decide +kernel⟩
/-! ### the deck of three: the cells, how many draws, the rests of large cells -/
structure Dk (H : Hp) (d : Addr) (c : Addr × Addr) (n : Int) : Prop where
  ex : ∃ (xs ys : List Int), H d = some (.lst [.ref c.2, .int n, .ref c.1]) ∧ H c.2 = some (.lst (xs.map V.int)) ∧ H c.1 = some (.lst (ys.map V.int)) ∧ c.2 ≠ c.1 ∧ 0 < xs.length ∧ xs.length ≤ 64 ∧ ys.length = xs.length ∧ ∀ y ∈ ys, 0 ≤ y
theorem ints_ne {H : Hp} {d c e : Addr} {n : Int} {ys : List Int} (h1 : H d = some (.lst [.ref e, .int n, .ref c])) (h3 : H c = some (.lst (ys.map V.int))) : c ≠ d := by
  intro z
  subst z
  have q := h3.symm.trans h1
  match ys, q with
  | [], q => cases q
  | y :: r, q => cases q
def Kp (d : Addr) (c : Addr × Addr) (H H' : Hp) : Prop := ∀ b o, b ≠ d → b ≠ c.1 → H b = some o → H' b = some o
theorem Kp.trans {d : Addr} {c : Addr × Addr} {H H1 H2 : Hp} (h1 : Kp d c H H1) (h2 : Kp d c H1 H2) : Kp d c H H2 := fun b o n1 n2 e => h2 b o n1 n2 (h1 b o n1 n2 e)
theorem Kp.same {d : Addr} {c : Addr × Addr} {H H1 : Hp} (h : Same H H1) : Kp d c H H1 := fun b o _ _ e => h b o e
theorem Dk.two {H : Hp} {d : Addr} {c : Addr × Addr} {n : Int} (h : Dk H d c n) : (∃ us, H d = some (.lst us)) ∧ (∃ us, H c.1 = some (.lst us)) ∧ ∃ us, H c.2 = some (.lst us) := by
  obtain ⟨xs, ys, h1, h2, h3, _⟩ := h.ex
  exact ⟨⟨_, h1⟩, ⟨_, h3⟩, _, h2⟩
theorem Kp.none {d : Addr} {c : Addr × Addr} {H H' : Hp} (k : Kp d c H H') {n m : Int} (h : Dk H d c n) (h' : Dk H' d c m) {t : Addr} (e : H' t = none) : H t = none := by
  obtain ⟨⟨u1, e1⟩, ⟨u2, e2⟩, _⟩ := h'.two
  by_cases c1 : t = d
  · rw [c1, e1] at e
    cases e
  · by_cases c2 : t = c.1
    · rw [c2, e2] at e
      cases e
    · cases q : H t with
      | none => rfl
      | some o =>
        rw [k t o c1 c2 q] at e
        cases e
theorem Dk.kept {H H' : Hp} {d : Addr} {c : Addr × Addr} {n : Int} (h : Dk H d c n) (s : Same H H') : Dk H' d c n :=
  let ⟨xs, ys, h1, h2, h3, r⟩ := h.ex
  ⟨xs, ys, s _ _ h1, s _ _ h2, s _ _ h3, r⟩
theorem Dk.eq {H : Hp} {d : Addr} {c : Addr × Addr} {n m : Int} (h : Dk H d c n) (e : n = m) : Dk H d c m := e ▸ h
theorem same_new {H : Hp} {p : Addr} {o : HO} (h : H p = none) : Same H (upd H p o) := fun b x e => by
  rw [upd_ne (ne_of_none e h)]
  exact e
theorem cutTo (xs : List V) (j : Nat) : cutV xs none (some (j : Int)) = xs.take j := by
  unfold cutV
  rw [HT.sIx_none, show HT.sIx xs.length xs.length (some (j : Int)) = min j xs.length from HT.sIx_nat xs.length xs.length j]
  rw [Nat.sub_zero, List.drop_zero]
  rcases Nat.le_total j xs.length with h | h
  · rw [Nat.min_eq_left h]
  · rw [Nat.min_eq_right h, List.take_length, List.take_of_length_le h]
/-- p is no part of the deck -/
abbrev Off (d : Addr) (c : Addr × Addr) (p : Addr) : Prop := p ≠ d ∧ p ≠ c.1 ∧ p ≠ c.2
theorem Kp.keep {d : Addr} {c : Addr × Addr} {H H' : Hp} (k : Kp d c H H') {a : Addr} {o : HO} (n1 : Off d c a) (h : H a = some o) : H' a = some o := k a o n1.1 n1.2.1 h
theorem Kp.tup {d : Addr} {c : Addr × Addr} {n : Int} {H H' : Hp} (k : Kp d c H H') (dk : Dk H d c n) {a : Addr} {xs : List V} (h : H a = some (.tup xs)) : H' a = some (.tup xs) := by
  obtain ⟨⟨u1, e1⟩, ⟨u2, e2⟩, _⟩ := dk.two
  exact k a _ (ne_of h e1 (fun z => by cases z)) (ne_of h e2 (fun z => by cases z)) h
theorem Dk.off {H : Hp} {d : Addr} {c : Addr × Addr} {n : Int} (h : Dk H d c n) {p : Addr} (e : H p = none) : Off d c p := by
  obtain ⟨⟨u1, e1⟩, ⟨u2, e2⟩, u3, e3⟩ := h.two
  exact ⟨(ne_of_none e1 e).symm, (ne_of_none e2 e).symm, (ne_of_none e3 e).symm⟩
theorem Dk.upd {H : Hp} {d : Addr} {c : Addr × Addr} {n : Int} (h : Dk H d c n) {p : Addr} {o : HO} (off : Off d c p) : Dk (upd H p o) d c n := by
  obtain ⟨xs, ys, h1, h2, h3, r⟩ := h.ex
  exact ⟨xs, ys, by rw [upd_ne off.1.symm]; exact h1, by rw [upd_ne off.2.2.symm]; exact h2, by rw [upd_ne off.2.1.symm]; exact h3, r⟩
def mxI (i j : Int) : Int := if j > i then j else i
def mnI (i j : Int) : Int := if j < i then j else i
def sp_law_draws (K : PySem.W.Frag) : Sp := fun vs H Q _ => ∃ (a : Addr) (ns : List Int), vs = [.ref a] ∧ SqL K H a (ns.map V.int) ∧ ns.length ≤ 63 ∧
  ∀ H' d c, Same H H' → H d = none → Dk H' d c 0 → Q (.ref d) H'
def sp_law_next : Sp := fun vs H Q _ => ∃ (d : Addr) (c : Addr × Addr) (n lim : Int), vs = [.ref d, .int lim] ∧ Dk H d c n ∧ 0 ≤ n ∧ n < 1000000 ∧ 0 < lim ∧ lim < 2 ^ 63 ∧
  ∀ H' r, Kp d c H H' → Dk H' d c (n + 1) → 0 ≤ r → r < lim → Q (.int r) H'
section
structure Tx (K : PySem.W.Frag) (mg : Str → Option Value) (f_depth_changes f_find_blocks f_has_position f_contains f_serves f_conflict f_demands_at_blocks f_is_open f_open_demands f_shadow_target f_require_few_blocks f_decisive_demands f_largest_independent f_count_needed f_law_draws f_law_next f_law_one f_law_spans f_law_covers f_law_every f_law_least f_law_served f_law_clash f_law_most f_law_right f_law : Addr) (d_depth_changes d_find_blocks d_has_position d_contains d_serves d_conflict d_demands_at_blocks d_is_open d_open_demands d_shadow_target d_require_few_blocks d_decisive_demands d_largest_independent d_count_needed d_law_draws d_law_next d_law_one d_law_spans d_law_covers d_law_every d_law_least d_law_served d_law_clash d_law_most d_law_right d_law : FuncData) (t_MAX_BLOCKS : Tok) : Prop where
  F_depth_changes : Fun K "depth_changes" "depth_changes" s_depth_changes f_depth_changes d_depth_changes
  b_depth_changes : Binds K d_depth_changes ["intervals"] []
  g_depth_changes : mg "depth_changes" = some (.ref f_depth_changes)
  F_find_blocks : Fun K "find_blocks" "find_blocks" s_find_blocks f_find_blocks d_find_blocks
  b_find_blocks : Binds K d_find_blocks ["intervals"] []
  g_find_blocks : mg "find_blocks" = some (.ref f_find_blocks)
  F_has_position : Fun K "has_position" "has_position" s_has_position f_has_position d_has_position
  b_has_position : Binds K d_has_position ["interval", "position"] []
  g_has_position : mg "has_position" = some (.ref f_has_position)
  F_contains : Fun K "contains" "contains" s_contains f_contains d_contains
  b_contains : Binds K d_contains ["outer", "inner"] []
  g_contains : mg "contains" = some (.ref f_contains)
  F_serves : Fun K "serves" "serves" s_serves f_serves d_serves
  b_serves : Binds K d_serves ["piece", "demand"] []
  g_serves : mg "serves" = some (.ref f_serves)
  F_conflict : Fun K "conflict" "conflict" s_conflict f_conflict d_conflict
  b_conflict : Binds K d_conflict ["first", "second"] []
  g_conflict : mg "conflict" = some (.ref f_conflict)
  F_demands_at_blocks : Fun K "demands_at_blocks" "demands_at_blocks" s_demands_at_blocks f_demands_at_blocks d_demands_at_blocks
  b_demands_at_blocks : Binds K d_demands_at_blocks ["targets", "blocks"] []
  g_demands_at_blocks : mg "demands_at_blocks" = some (.ref f_demands_at_blocks)
  F_is_open : Fun K "is_open" "is_open" s_is_open f_is_open d_is_open
  b_is_open : Binds K d_is_open ["pieces", "demand"] []
  g_is_open : mg "is_open" = some (.ref f_is_open)
  F_open_demands : Fun K "open_demands" "open_demands" s_open_demands f_open_demands d_open_demands
  b_open_demands : Binds K d_open_demands ["targets", "pieces"] []
  g_open_demands : mg "open_demands" = some (.ref f_open_demands)
  F_shadow_target : Fun K "shadow_target" "shadow_target" s_shadow_target f_shadow_target d_shadow_target
  b_shadow_target : Binds K d_shadow_target ["targets", "demand"] []
  g_shadow_target : mg "shadow_target" = some (.ref f_shadow_target)
  F_require_few_blocks : Fun K "require_few_blocks" "require_few_blocks" s_require_few_blocks f_require_few_blocks d_require_few_blocks
  b_require_few_blocks : Binds K d_require_few_blocks ["intervals"] []
  g_require_few_blocks : mg "require_few_blocks" = some (.ref f_require_few_blocks)
  F_decisive_demands : Fun K "decisive_demands" "decisive_demands" s_decisive_demands f_decisive_demands d_decisive_demands
  b_decisive_demands : Binds K d_decisive_demands ["targets", "pieces"] []
  g_decisive_demands : mg "decisive_demands" = some (.ref f_decisive_demands)
  F_largest_independent : Fun K "largest_independent" "largest_independent" s_largest_independent f_largest_independent d_largest_independent
  b_largest_independent : Binds K d_largest_independent ["demands"] []
  g_largest_independent : mg "largest_independent" = some (.ref f_largest_independent)
  F_count_needed : Fun K "count_needed" "count_needed" s_count_needed f_count_needed d_count_needed
  b_count_needed : Binds K d_count_needed ["targets", "pieces"] []
  g_count_needed : mg "count_needed" = some (.ref f_count_needed)
  F_law_draws : Fun K "_law_draws" "_law_draws" s_law_draws f_law_draws d_law_draws
  b_law_draws : Binds K d_law_draws ["_law_script"] []
  g_law_draws : mg "_law_draws" = some (.ref f_law_draws)
  F_law_next : Fun K "_law_next" "_law_next" s_law_next f_law_next d_law_next
  b_law_next : Binds K d_law_next ["_law_state", "_law_many"] []
  g_law_next : mg "_law_next" = some (.ref f_law_next)
  F_law_one : Fun K "_law_one" "_law_one" s_law_one f_law_one d_law_one
  b_law_one : Binds K d_law_one ["_law_state", "_law_items"] []
  g_law_one : mg "_law_one" = some (.ref f_law_one)
  F_law_spans : Fun K "_law_spans" "_law_spans" s_law_spans f_law_spans d_law_spans
  b_law_spans : Binds K d_law_spans ["_law_state", "_law_width", "_law_many"] []
  g_law_spans : mg "_law_spans" = some (.ref f_law_spans)
  F_law_covers : Fun K "_law_covers" "_law_covers" s_law_covers f_law_covers d_law_covers
  b_law_covers : Binds K d_law_covers ["_law_pieces", "_law_target"] []
  g_law_covers : mg "_law_covers" = some (.ref f_law_covers)
  F_law_every : Fun K "_law_every" "_law_every" s_law_every f_law_every d_law_every
  b_law_every : Binds K d_law_every ["_law_width"] []
  g_law_every : mg "_law_every" = some (.ref f_law_every)
  F_law_least : Fun K "_law_least" "_law_least" s_law_least f_law_least d_law_least
  b_law_least : Binds K d_law_least ["_law_width", "_law_targets_here", "_law_pieces"] []
  g_law_least : mg "_law_least" = some (.ref f_law_least)
  F_law_served : Fun K "_law_served" "_law_served" s_law_served f_law_served d_law_served
  b_law_served : Binds K d_law_served ["_law_piece", "_law_demand"] []
  g_law_served : mg "_law_served" = some (.ref f_law_served)
  F_law_clash : Fun K "_law_clash" "_law_clash" s_law_clash f_law_clash d_law_clash
  b_law_clash : Binds K d_law_clash ["_law_one_here", "_law_other"] []
  g_law_clash : mg "_law_clash" = some (.ref f_law_clash)
  F_law_most : Fun K "_law_most" "_law_most" s_law_most f_law_most d_law_most
  b_law_most : Binds K d_law_most ["_law_width", "_law_targets_here", "_law_pieces"] []
  g_law_most : mg "_law_most" = some (.ref f_law_most)
  F_law_right : Fun K "_law_right" "_law_right" s_law_right f_law_right d_law_right
  b_law_right : Binds K d_law_right ["_law_width", "_law_targets_here", "_law_pieces"] []
  g_law_right : mg "_law_right" = some (.ref f_law_right)
  F_law : Fun K "law" "law" s_law f_law d_law
  b_law : Binds K d_law ["_law_script"] []
  g_law : mg "law" = some (.ref f_law)
  c_MAX_BLOCKS : mg "MAX_BLOCKS" = some (.int 8 t_MAX_BLOCKS)
  z_abs : mg "abs" = none
  z_any : mg "any" = none
  z_int : mg "int" = none
  z_len : mg "len" = none
  z_max : mg "max" = none
  z_min : mg "min" = none
  z_range : mg "range" = none
  z_repr : mg "repr" = none
  z_set : mg "set" = none
  z_sorted : mg "sorted" = none
  z_tuple : mg "tuple" = none
  z_zip : mg "zip" = none
variable {P : Program} {w : World} {K : PySem.W.Frag} {mg : Str → Option Value} {base : Heap} {f_depth_changes f_find_blocks f_has_position f_contains f_serves f_conflict f_demands_at_blocks f_is_open f_open_demands f_shadow_target f_require_few_blocks f_decisive_demands f_largest_independent f_count_needed f_law_draws f_law_next f_law_one f_law_spans f_law_covers f_law_every f_law_least f_law_served f_law_clash f_law_most f_law_right f_law : Addr} {d_depth_changes d_find_blocks d_has_position d_contains d_serves d_conflict d_demands_at_blocks d_is_open d_open_demands d_shadow_target d_require_few_blocks d_decisive_demands d_largest_independent d_count_needed d_law_draws d_law_next d_law_one d_law_spans d_law_covers d_law_every d_law_least d_law_served d_law_clash d_law_most d_law_right d_law : FuncData} {t_MAX_BLOCKS : Tok}
abbrev TxA (K : PySem.W.Frag) (mg : Str → Option Value) (f_depth_changes f_find_blocks f_has_position f_contains f_serves f_conflict f_demands_at_blocks f_is_open f_open_demands f_shadow_target f_require_few_blocks f_decisive_demands f_largest_independent f_count_needed f_law_draws f_law_next f_law_one f_law_spans f_law_covers f_law_every f_law_least f_law_served f_law_clash f_law_most f_law_right f_law : Addr) (d_depth_changes d_find_blocks d_has_position d_contains d_serves d_conflict d_demands_at_blocks d_is_open d_open_demands d_shadow_target d_require_few_blocks d_decisive_demands d_largest_independent d_count_needed d_law_draws d_law_next d_law_one d_law_spans d_law_covers d_law_every d_law_least d_law_served d_law_clash d_law_most d_law_right d_law : FuncData) (t_MAX_BLOCKS : Tok) := Tx K mg f_depth_changes f_find_blocks f_has_position f_contains f_serves f_conflict f_demands_at_blocks f_is_open f_open_demands f_shadow_target f_require_few_blocks f_decisive_demands f_largest_independent f_count_needed f_law_draws f_law_next f_law_one f_law_spans f_law_covers f_law_every f_law_least f_law_served f_law_clash f_law_most f_law_right f_law d_depth_changes d_find_blocks d_has_position d_contains d_serves d_conflict d_demands_at_blocks d_is_open d_open_demands d_shadow_target d_require_few_blocks d_decisive_demands d_largest_independent d_count_needed d_law_draws d_law_next d_law_one d_law_spans d_law_covers d_law_every d_law_least d_law_served d_law_clash d_law_most d_law_right d_law t_MAX_BLOCKS 
theorem ok_law_draws (T : Tx K mg f_depth_changes f_find_blocks f_has_position f_contains f_serves f_conflict f_demands_at_blocks f_is_open f_open_demands f_shadow_target f_require_few_blocks f_decisive_demands f_largest_independent f_count_needed f_law_draws f_law_next f_law_one f_law_spans f_law_covers f_law_every f_law_least f_law_served f_law_clash f_law_most f_law_right f_law d_depth_changes d_find_blocks d_has_position d_contains d_serves d_conflict d_demands_at_blocks d_is_open d_open_demands d_shadow_target d_require_few_blocks d_decisive_demands d_largest_independent d_count_needed d_law_draws d_law_next d_law_one d_law_spans d_law_covers d_law_every d_law_least d_law_served d_law_clash d_law_most d_law_right d_law t_MAX_BLOCKS) : FnOk P w K mg base CX0 1 f_law_draws d_law_draws ["_law_script"] (sp_law_draws K) := by
  refine T.F_law_draws.ok sc_law_draws (fun vs H Q E h => ?_) (fun cdv A outer s H vs Q E hr h => ?_)
  · obtain ⟨a, ns0, rfl, _⟩ := h
    rfl
  · obtain ⟨a, ns0, rfl, hS, hlen, q⟩ := h
    refine ⟨_, (pss_cons (ps_set (i := 1) sc_law_draws.nd rfl (Or.inl rfl) (pe_op op_cat (pe_lc (own := [("_law_cell", 2)]) (g := (gName 2)) (tt := tYes) (by rfl) sc_law_draws.nd (pi_list (pe_slice sl_list (pv 0) po_none (po_some pe_int))) (blkOk_by (own := [("_law_cell", 2)]) (N := N_law_draws) (sc := defScope s_law_draws) (by decide +kernel)) (fun _ _ _ _ _ => (pg_name (i := 2) sc_law_draws.nd rfl (Or.inl rfl))) (fun _ _ _ _ _ => pts_nil) (fun _ _ _ _ _ => (pe_callB call_abs (by rfl) T.z_abs (by decide +kernel) (pa_cons (pv 2) pa_nil)))) (pe_op op_rep (pe_lst (pa_cons pe_int pa_nil)) (pe_callTy call_int1 (by rfl) T.z_int (by decide +kernel) (pa_cons (pe_cmpR op_eq (pe_callB call_len_seq (by rfl) T.z_len PySem.boot_len (pa_cons (pv 0) pa_nil)) pe_int (nomark _)) pa_nil)))))
      (pss_one (ps_ret (pe_lst (pa_cons (pv 1) (pa_cons pe_int (pa_cons (pe_lc (own := [("_law_cell", 2)]) (g := (gName 2)) (tt := tYes) (by rfl) sc_law_draws.nd (pi_list (pv 1)) (blkOk_by (own := [("_law_cell", 2)]) (N := N_law_draws) (sc := defScope s_law_draws) (by decide +kernel)) (fun _ _ _ _ _ => (pg_name (i := 2) sc_law_draws.nd rfl (Or.inl rfl))) (fun _ _ _ _ _ => pts_nil) (fun _ _ _ _ _ => (pe_op op_mul (pv 2) (pe_callTy call_int1 (by rfl) T.z_int (by decide +kernel) (pa_cons (pe_cmpR op_ge (pv 2) (pe_op op_pow pe_int pe_int) (nomark _)) pa_nil))))) pa_nil))))))), ?_⟩
    refine ⟨.ref a, rfl, 63, rfl, a, ns0.map V.int, rfl, hS, fun p np => ?_⟩
    rw [show cutV (ns0.map V.int) none (some 63) = (ns0.take 63).map V.int by rw [List.map_take]; exact cutTo _ 63]
    have tk : ns0.take 63 = ns0 := List.take_of_length_le hlen
    rw [tk]
    have s1 := same_new (o := .lst (ns0.map V.int)) np
    have e1 := upd_same (H := H) (a := p) (o := .lst (ns0.map V.int))
    generalize upd H p (.lst (ns0.map V.int)) = H1 at *
    have hS1 := s1.seq hS
    refine ⟨p, rfl, ⟨_, SqL.of e1⟩, fun D nD => ?_⟩
    refine lc_list (K := K) (a := p) (xs := ns0.map V.int) (fun i H' => Same H1 H' ∧ H' D = some (.lst (((ns0.take i).map fun (x : Int) => if x < 0 then -x else x).map V.int))) ⟨same_new nD, upd_same⟩ (fun i H' _ h => SqL.of (h.1 _ _ e1)) ?_ ?_
    · rintro i x H' hi ⟨sm, eD⟩
      rw [List.getElem?_map] at hi
      obtain ⟨n, en, rfl⟩ := Option.map_eq_some_iff.mp hi
      refine ⟨rfl, .int n, rfl, n, rfl, _, eD, ?_, ?_, ?_⟩
      · have : (List.take i ns0).length ≤ ns0.length := List.length_take_le' i ns0
        simp only [List.length_map]
        exact small1000 (by omega)
      · intro b o e
        rw [upd_ne (ne_of_none e nD)]
        exact sm b o e
      · rw [upd_same, List.take_add_one, en]
        simp
    rintro H2 ⟨s2, eD⟩
    rw [List.length_map, List.take_length] at eD
    have s12 := s1.trans s2
    refine ⟨by show 1 ≤ sizeLine; decide, fun z nz => ?_⟩
    have s3 := same_new (o := .lst [.int 0]) nz
    have ez := upd_same (H := H2) (a := z) (o := .lst [.int 0])
    generalize upd H2 z (.lst [.int 0]) = H3 at *
    have s13 := s12.trans s3
    refine ⟨.ref a, rfl, a, _, rfl, .inl (s13.seq hS), rfl, .inr ⟨_, rfl, ?_⟩⟩
    obtain ⟨k, ek⟩ : ∃ k : Int, k = (if decide (V.int ((ns0.map V.int).length : Int) = V.int 0) = true then 1 else 0) := ⟨_, rfl⟩
    have ek2 : (k = 1 ∧ ns0.length = 0) ∨ (k = 0 ∧ 0 < ns0.length) := by
      rw [List.length_map] at ek
      by_cases c : ns0.length = 0
      · rw [if_pos (decide_eq_true (by rw [c]; rfl))] at ek
        exact .inl ⟨ek, c⟩
      · rw [if_neg (fun z => c (by have := of_decide_eq_true z; injection this with this; omega))] at ek
        exact .inr ⟨ek, by omega⟩
    rw [← ek]
    refine ⟨z, k, _, rfl, rfl, ez, by omega, by omega, by rw [show sizeLine = 16777216 by decide]; show 1 * _ ≤ _; omega, fun zz nzz => ?_⟩
    have s4 := same_new (o := .lst (List.replicate k.toNat [V.int 0]).flatten) nzz
    have ezz := upd_same (H := H3) (a := zz) (o := .lst (List.replicate k.toNat [V.int 0]).flatten)
    generalize upd H3 zz (.lst (List.replicate k.toNat [V.int 0]).flatten) = H4 at *
    obtain ⟨cs, ecs⟩ : ∃ cs : List Int, cs = ((ns0.map fun (x : Int) => if x < 0 then -x else x) ++ List.replicate k.toNat 0) := ⟨_, rfl⟩
    have elst : (ns0.map fun (x : Int) => if x < 0 then -x else x).map V.int ++ (List.replicate k.toNat [V.int 0]).flatten = cs.map V.int := by
      rw [ecs, List.map_append, List.map_replicate]
      rcases ek2 with ⟨e, _⟩ | ⟨e, _⟩ <;> rw [e] <;> rfl
    have lcs : 0 < cs.length ∧ cs.length ≤ 64 := by
      rw [ecs, List.length_append, List.length_map, List.length_replicate]
      omega
    have pcs : ∀ x ∈ cs, 0 ≤ x := fun x hx => by
      rw [ecs] at hx
      rcases List.mem_append.mp hx with hx | hx
      · obtain ⟨y, _, rfl⟩ := List.mem_map.mp hx
        split <;> omega
      · rw [(List.mem_replicate.mp hx).2]
        exact Int.le_refl _
    have s34 := s3.trans s4
    refine ⟨D, zz, _, _, rfl, rfl, s34 _ _ eD, ezz, ?_, fun e ne => ?_⟩
    · have := congrArg List.length elst
      rw [List.length_append, List.length_map (f := V.int)] at this
      rw [show sizeLine = 16777216 by decide]
      simp only [List.length_map] at *
      omega
    rw [elst]
    have s5 := same_new (o := .lst (cs.map V.int)) ne
    have ee := upd_same (H := H4) (a := e) (o := .lst (cs.map V.int))
    generalize upd H4 e (.lst (cs.map V.int)) = H5 at *
    have s05 := s12.trans (s34.trans s5)
    refine ⟨.ref e, rfl, .ref e, rfl, e, rfl, ⟨_, SqL.of ee⟩, fun c nc => ?_⟩
    refine lc_list (K := K) (a := e) (xs := cs.map V.int) (fun i H' => Same H5 H' ∧ ∃ ys : List Int, H' c = some (.lst (ys.map V.int)) ∧ ys.length = i ∧ ∀ y ∈ ys, 0 ≤ y) ⟨same_new nc, [], upd_same, rfl, fun y hy => nomatch hy⟩ (fun i H' _ h => SqL.of (h.1 _ _ ee)) ?_ ?_
    · rintro i x H' hi ⟨sm, ys, eC, ly, py⟩
      have il := (List.getElem?_eq_some_iff.mp hi).1
      rw [List.getElem?_map] at hi
      obtain ⟨n, en, rfl⟩ := Option.map_eq_some_iff.mp hi
      have pn := pcs n (List.mem_of_getElem? en)
      rw [List.length_map] at il
      refine ⟨rfl, .int n, rfl, .int n, rfl, 10, 18, rfl, rfl, ⟨by decide, by decide, by decide⟩, _, _, rfl, rfl, .inr ⟨_, rfl, ?_⟩⟩
      obtain ⟨k2, ek3, h0, h1⟩ : ∃ k2 : Int, (if decide ((10 : Int) ^ (18 : Int).toNat ≤ n) = true then 1 else 0) = k2 ∧ 0 ≤ k2 ∧ k2 ≤ 1 := ⟨_, rfl, by split <;> decide, by split <;> decide⟩
      rw [ek3]
      refine ⟨_, _, rfl, rfl, .inr ⟨by omega, by omega⟩, ys.map V.int, eC, by rw [List.length_map]; exact small1000 (by omega), (fun b u e => by rw [upd_ne (ne_of_none e nc)]; exact sm b u e), ys ++ [n * k2], ?_, by rw [List.length_append, ly]; rfl, fun y hy => ?_⟩
      · rw [upd_same, List.map_append]
        rfl
      · rcases List.mem_append.mp hy with hy | hy
        · exact py y hy
        · rw [List.mem_singleton.mp hy]
          exact Int.mul_nonneg pn h0
    rintro H6 ⟨s6, ys, eC, ly, py⟩
    rw [List.length_map] at ly
    refine ⟨by show 3 ≤ sizeLine; decide, fun d nd => ?_⟩
    have s7 := same_new (o := .lst [.ref e, .int 0, .ref c]) nd
    have s07 := s05.trans (s6.trans s7)
    refine q _ d (c, e) s07 ((s05.trans s6).free nd) ⟨cs, ys, upd_same, s7 _ _ (s6 _ _ ee), s7 _ _ eC, ne_of_none ee nc, lcs.1, lcs.2, ly, py⟩
theorem ok_law_next (T : Tx K mg f_depth_changes f_find_blocks f_has_position f_contains f_serves f_conflict f_demands_at_blocks f_is_open f_open_demands f_shadow_target f_require_few_blocks f_decisive_demands f_largest_independent f_count_needed f_law_draws f_law_next f_law_one f_law_spans f_law_covers f_law_every f_law_least f_law_served f_law_clash f_law_most f_law_right f_law d_depth_changes d_find_blocks d_has_position d_contains d_serves d_conflict d_demands_at_blocks d_is_open d_open_demands d_shadow_target d_require_few_blocks d_decisive_demands d_largest_independent d_count_needed d_law_draws d_law_next d_law_one d_law_spans d_law_covers d_law_every d_law_least d_law_served d_law_clash d_law_most d_law_right d_law t_MAX_BLOCKS) : FnOk P w K mg base CX0 1 f_law_next d_law_next ["_law_state", "_law_many"] sp_law_next := by
  refine T.F_law_next.ok sc_law_next (fun vs H Q E h => ?_) (fun cdv A outer s H vs Q E hr h => ?_)
  · obtain ⟨d, c, n, lim, rfl, _⟩ := h
    rfl
  · obtain ⟨d, c, n, lim, rfl, dk, n0, n1, l0, l1, q⟩ := h
    refine ⟨_, (pss_cons (ps_asg (pv 0) (pg_unl rfl (pgs_cons (pg_name (i := 2) sc_law_next.nd rfl (Or.inl rfl)) (pgs_cons (pg_name (i := 3) sc_law_next.nd rfl (Or.inl rfl)) (pgs_cons (pg_name (i := 4) sc_law_next.nd rfl (Or.inl rfl)) pgs_nil)))))
      (pss_cons (ps_set (i := 5) sc_law_next.nd rfl (Or.inl rfl) (pe_op op_mod (pv 3) (pe_callB call_len_seq (by rfl) T.z_len PySem.boot_len (pa_cons (pv 2) pa_nil))))
      (pss_cons (ps_asg (pe_op op_add (pv 3) pe_int) (pg_sub (pv 0) pe_int set_list))
      (pss_cons (ps_if (pt_cmpR op_gt (pe_ix ix_list (pv 4) (pv 5) (fun _ _ => rfl)) pe_int (nomark _))
      (pss_cons (ps_set (i := 6) sc_law_next.nd rfl (Or.inl rfl) (pe_op op_mod (pe_ix ix_list (pv 4) (pv 5) (fun _ _ => rfl)) (pv 1)))
      (pss_cons (ps_asg (pe_op op_fdivW (pe_ix ix_list (pv 4) (pv 5) (fun _ _ => rfl)) (pv 1)) (pg_sub (pv 4) (pv 5) set_list))
      (pss_one (ps_ret (pv 6)))))
      pss_nil)
      (pss_cons (ps_set (i := 7) sc_law_next.nd rfl (Or.inl rfl) (pe_op op_mod (pe_op op_pow (pe_op op_add (pe_op op_add (pe_op op_mod (pe_ix ix_list (pv 2) (pv 5) (fun _ _ => rfl)) pe_int) (pe_op op_mulW pe_int (pv 3))) pe_int) pe_int) pe_int))
      (pss_cons (ps_set (i := 7) sc_law_next.nd rfl (Or.inl rfl) (pe_op op_mod (pe_op op_pow (pe_op op_add (pe_op op_add (pv 7) (pe_op op_mulW (pe_op op_mulW pe_int (pv 3)) (pv 3))) pe_int) pe_int) pe_int))
      (pss_one (ps_ret (pe_op op_mod (pe_op op_fdivW (pe_op op_mod (pe_op op_mulW (pv 7) pe_int) pe_int) pe_int) (pv 1)))))))))), ?_⟩
    obtain ⟨xs, ys, h1, h2, h3, ec, x0, x64, ly, py⟩ := dk.ex
    have nd1 : c.1 ≠ d := ints_ne h1 h3
    have nd2 : c.2 ≠ d := fun z => by
      have q := (z ▸ h2).symm.trans h1
      match xs, q with
      | [], q => cases q
      | y :: r, q => cases q
    have n64 : n.natAbs < 2 ^ 64 := by omega
    have l64 : lim.natAbs < 2 ^ 64 := by omega
    refine ⟨.ref d, rfl, d, _, rfl, SqL.of h1, rfl, .ref c.2, _, rfl, .int n, _, rfl, .ref c.1, [], rfl, rfl, ?_⟩
    refine ⟨.int n, rfl, .ref c.2, rfl, c.2, _, rfl, .inl (SqL.of h2), _, _, rfl, rfl, by rw [List.length_map]; omega, ?_⟩
    rw [List.length_map]
    obtain ⟨j, ej, jl⟩ : ∃ j : Nat, n % (xs.length : Int) = j ∧ j < xs.length := ⟨(n % (xs.length : Int)).toNat, (Int.toNat_of_nonneg (Int.emod_nonneg _ (by omega))).symm, by
      have := Int.emod_lt_of_pos n (show (0 : Int) < xs.length by omega)
      have := Int.emod_nonneg n (show (xs.length : Int) ≠ 0 by omega)
      omega⟩
    show gName 5 (V.int (n % (xs.length : Int))) _ _ _
    rw [ej]
    have gx : (xs.map V.int)[j]? = some (.int xs[j]) := by rw [List.getElem?_map, List.getElem?_eq_getElem jl]; rfl
    have jl2 : j < ys.length := by omega
    have gy : (ys.map V.int)[j]? = some (.int ys[j]) := by rw [List.getElem?_map, List.getElem?_eq_getElem jl2]; rfl
    have yp := py _ (List.getElem_mem jl2)
    generalize ys[j] = y at *
    generalize xs[j] = x at *
    refine ⟨.int n, rfl, _, _, rfl, rfl, .ref d, rfl, d, _, 1, 1, rfl, rfl, h1, rfl, ?_⟩
    generalize eH : upd H d (.lst ([V.ref c.2, V.int n, V.ref c.1].set 1 (.int (n + 1)))) = H1
    have d1 : H1 d = some (.lst [.ref c.2, .int (n + 1), .ref c.1]) := by
      rw [← eH, upd_same]
      rfl
    have kp1 : Kp d c H H1 := fun b o nb _ e => by
      rw [← eH, upd_ne nb]
      exact e
    have a2 : H1 c.2 = some (.lst (xs.map V.int)) := by rw [← eH, upd_ne nd2]; exact h2
    have a3 : H1 c.1 = some (.lst (ys.map V.int)) := by rw [← eH, upd_ne nd1]; exact h3
    have dk1 : Dk H1 d c (n + 1) := ⟨xs, ys, d1, a2, a3, ec, x0, x64, ly, py⟩
    refine ⟨.ref c.1, rfl, .int j, rfl, c.1, _, _, .int y, rfl, rfl, SqL.of a3, atI_nat gy, _, _, rfl, rfl, _, rfl, ite2 (fun e => ?_) (fun e => ?_)⟩
    · refine ⟨.ref c.1, rfl, .int j, rfl, c.1, _, _, .int y, rfl, rfl, SqL.of a3, atI_nat gy, .int lim, rfl, _, _, rfl, rfl, l0, ?_⟩
      refine ⟨.ref c.1, rfl, .int j, rfl, c.1, _, _, .int y, rfl, rfl, SqL.of a3, atI_nat gy, .int lim, rfl, _, _, rfl, rfl, wide_div l0 l64 (by decide) (by decide), .ref c.1, rfl, .int j, rfl, c.1, _, _, j, rfl, rfl, a3, ?_, ?_⟩
      · unfold ixN
        rw [if_pos (by omega), if_pos (by rw [List.length_map]; omega)]
        rfl
      refine ⟨_, rfl, ?_⟩
      refine q _ _ (fun b o nb nc e => ?_) ⟨xs, ys.set j (y / lim), ?_, ?_, ?_, ec, x0, x64, by rw [List.length_set]; exact ly, fun z hz => ?_⟩ (Int.emod_nonneg _ (by omega)) (Int.emod_lt_of_pos _ l0)
      · rw [upd_ne nc]
        exact kp1 b o nb nc e
      · rw [upd_ne nd1.symm]
        exact d1
      · rw [upd_ne ec]
        exact a2
      · rw [upd_same, List.map_set]
      · rcases List.mem_or_eq_of_mem_set hz with hm | he
        · exact py z hm
        · rw [he]
          exact Int.ediv_nonneg yp (by omega)
    · refine ⟨.ref c.2, rfl, .int j, rfl, c.2, _, _, .int x, rfl, rfl, SqL.of a2, atI_nat gx, _, _, rfl, rfl, (by show (0 : Int) < 2147483629; decide), .int n, rfl, _, _, rfl, rfl, wide_mul (a := 17) (b := 64) (by decide) n64 (by decide) (by decide) (by decide), _, _, rfl, rfl, _, _, rfl, rfl, _, _, rfl, rfl, ⟨by decide, by decide, ?_⟩, _, _, rfl, rfl, (by show (0 : Int) < 2147483587; decide), ?_⟩
      · have a0 := Int.emod_nonneg x (show (2147483629 : Int) ≠ 0 by decide)
        have a1 := Int.emod_lt_of_pos x (show (0 : Int) < 2147483629 by decide)
        omega
      generalize (x % 2147483629 + 40009 * n + 6287) ^ (3 : Int).toNat = big
      have b0 := Int.emod_nonneg big (show (2147483587 : Int) ≠ 0 by decide)
      have b1 := Int.emod_lt_of_pos big (show (0 : Int) < 2147483587 by decide)
      have nn : (5003 * n * n).natAbs ≤ 5003 * 1000000 * 1000000 := by
        rw [Int.natAbs_mul, Int.natAbs_mul]
        exact Nat.mul_le_mul (Nat.mul_le_mul (by decide) (by omega)) (by omega)
      have nn0 : 0 ≤ 5003 * n * n := Int.mul_nonneg (Int.mul_nonneg (by decide) n0) n0
      refine ⟨_, rfl, .int n, rfl, _, _, rfl, rfl, wide_mul (a := 17) (b := 64) (by decide) n64 (by decide) (by decide) (by decide), .int n, rfl, _, _, rfl, rfl, wide_mul (a := 100) (b := 64) ?_ n64 (by decide) (by decide) (by decide), _, _, rfl, rfl, _, _, rfl, rfl, _, _, rfl, rfl, ⟨by decide, by decide, ?_⟩, _, _, rfl, rfl, (by show (0 : Int) < 2147483563; decide), ?_⟩
      · have : (5003 * n).natAbs ≤ 5003 * 1000000 := by
          rw [Int.natAbs_mul]
          exact Nat.mul_le_mul (by decide) (by omega)
        omega
      · omega
      generalize (big % 2147483587 + 5003 * n * n + 29) ^ (3 : Int).toNat = big2
      have c0 := Int.emod_nonneg big2 (show (2147483563 : Int) ≠ 0 by decide)
      have c1 := Int.emod_lt_of_pos big2 (show (0 : Int) < 2147483563 by decide)
      refine ⟨_, rfl, _, _, rfl, rfl, wide_mul (a := 40) (b := 18) (by show (big2 % 2147483563).natAbs < _; omega) (by decide) (by decide) (by decide) (by decide), _, _, rfl, rfl, (by show (0 : Int) < 2305843009213693951; decide), _, _, rfl, rfl, wide_div (b := 5) (by decide) (by decide) (by decide) (by decide), .int lim, rfl, _, _, rfl, rfl, l0, ?_⟩
      exact q _ _ kp1 dk1 (Int.emod_nonneg _ (by omega)) (Int.emod_lt_of_pos _ l0)

/-! ### what stays when the heap grows, or the deck is drawn from -/
theorem rd_same {H H' : Hp} (s : Same H H') {a : Addr} {u : HO} (h : Rd H a u) : Rd H' a u := by
  rcases h with h | ⟨o, h⟩
  · exact .inl (s _ _ h)
  · exact .inr ⟨o, s _ _ h⟩
theorem sqT_same {K : PySem.W.Frag} {H H' : Hp} (s : Same H H') {a : Addr} {xs : List V} (h : SqT K H a xs) : SqT K H' a xs := by
  rcases h with h | h
  · exact .inl (rd_same s h)
  · exact .inr h
theorem dp_same {K : PySem.W.Frag} {H H' : Hp} (s : Same H H') {v : V} {d : PyData} (h : Dp K H v d) : Dp K H' v d := by
  refine Dp.rec (K := K) (H := H) (motive_1 := fun v d _ => Dp K H' v d) (motive_2 := fun vs ds _ => DpAll K H' vs ds) .non (fun b => .bl b) (fun i => .int i) (fun x => .str x) (fun hs _ q => .lst (s.seq hs) q) (fun hs _ q => .tup (sqT_same s hs) q) .nil (fun _ _ a b => .cons a b) h
theorem dp2 {K : PySem.W.Frag} {H : Hp} {t : Addr} {x y : Int} (h : H t = some (.tup [.int x, .int y])) : Dp K H (.ref t) (.tuple [.int x, .int y]) := .tup (SqT.of h) (.cons (.int x) (.cons (.int y) .nil))
theorem sm2 {x y : Int} (h1 : x.natAbs < 10 ^ 30) (h2 : y.natAbs < 10 ^ 30) : Sm 202 1 (.tuple [.int x, .int y]) := by
  have h := Sm.tup (n := 100) (dp := 0) (ds := [.int x, .int y]) (fun d hd => by
    rcases List.mem_cons.mp hd with rfl | hd
    · exact Sm.int h1
    · rcases List.mem_cons.mp hd with rfl | hd
      · exact Sm.int h2
      · cases hd)
  exact h
/-- an interval, or None -/
def optD : Option (Int × Int) → PyData
  | none => .none
  | some (x, y) => .tuple [.int x, .int y]
def OV (H : Hp) (v : V) : Option (Int × Int) → Prop
  | none => v = .non
  | some (x, y) => ∃ t, v = .ref t ∧ H t = some (.tup [.int x, .int y])
theorem OV.same {H H' : Hp} (s : Same H H') {v : V} {o : Option (Int × Int)} (h : OV H v o) : OV H' v o := by
  match o, h with
  | none, h => exact h
  | some (x, y), h =>
    obtain ⟨t, e, z⟩ := h
    exact ⟨t, e, s _ _ z⟩
theorem OV.kp {d : Addr} {c : Addr × Addr} {n : Int} {H H' : Hp} (k : Kp d c H H') (dk : Dk H d c n) {v : V} {o : Option (Int × Int)} (h : OV H v o) : OV H' v o := by
  match o, h with
  | none, h => exact h
  | some (x, y), h =>
    obtain ⟨t, e, z⟩ := h
    exact ⟨t, e, k.tup dk z⟩
theorem OV.dp {K : PySem.W.Frag} {H : Hp} {v : V} {o : Option (Int × Int)} (h : OV H v o) : Dp K H v (optD o) := by
  match o, h with
  | none, h =>
    cases h
    exact .non
  | some (x, y), h =>
    obtain ⟨t, e, z⟩ := h
    subst e
    exact dp2 z

/-! ### rows of intervals -/
inductive Ivs (H : Hp) : List V → List (Int × Int) → Prop
  | nil : Ivs H [] []
  | cons {a : Addr} {x y : Int} {vs : List V} {ps : List (Int × Int)} : H a = some (.tup [.int x, .int y]) → Ivs H vs ps → Ivs H (.ref a :: vs) ((x, y) :: ps)
theorem Ivs.length {H : Hp} {vs : List V} {ps : List (Int × Int)} (h : Ivs H vs ps) : vs.length = ps.length := by
  induction h with
  | nil => rfl
  | cons _ _ ih => rw [List.length_cons, List.length_cons, ih]
theorem Ivs.same {H H' : Hp} (s : Same H H') {vs : List V} {ps : List (Int × Int)} (h : Ivs H vs ps) : Ivs H' vs ps := by
  induction h with
  | nil => exact .nil
  | cons e _ ih => exact .cons (s _ _ e) ih
theorem Ivs.kp {d : Addr} {c : Addr × Addr} {n : Int} {H H' : Hp} (k : Kp d c H H') (dk : Dk H d c n) {vs : List V} {ps : List (Int × Int)} (h : Ivs H vs ps) : Ivs H' vs ps := by
  induction h with
  | nil => exact .nil
  | cons e _ ih => exact .cons (k.tup dk e) ih
theorem Ivs.get {H : Hp} {vs : List V} {ps : List (Int × Int)} (h : Ivs H vs ps) : ∀ {i : Nat} {v : V}, vs[i]? = some v → ∃ a x y, v = .ref a ∧ ps[i]? = some (x, y) ∧ H a = some (.tup [.int x, .int y]) := by
  induction h with
  | nil =>
    intro i v e
    simp at e
  | cons e _ ih =>
    intro i v q
    cases i with
    | zero =>
      cases q
      exact ⟨_, _, _, rfl, rfl, e⟩
    | succ i => exact ih q
theorem Ivs.snoc {H : Hp} {vs : List V} {ps : List (Int × Int)} {a : Addr} {x y : Int} (h : Ivs H vs ps) (e : H a = some (.tup [.int x, .int y])) : Ivs H (vs ++ [.ref a]) (ps ++ [(x, y)]) := by
  induction h with
  | nil => exact .cons e .nil
  | cons z _ ih => exact .cons z ih
def pairD (p : Int × Int) : PyData := .tuple [.int p.1, .int p.2]
theorem Ivs.dp {K : PySem.W.Frag} {H : Hp} {vs : List V} {ps : List (Int × Int)} (h : Ivs H vs ps) : DpAll K H vs (ps.map pairD) := by
  induction h with
  | nil => exact .nil
  | cons e _ ih => exact .cons (dp2 e) ih

/-! ### comprehensions that change nothing but make new objects -/
/-- the tuples stay -/
def Tps (H H' : Hp) : Prop := ∀ b xs, H b = some (.tup xs) → H' b = some (.tup xs)
theorem Tps.refl (H : Hp) : Tps H H := fun _ _ e => e
theorem Tps.trans {H H1 H2 : Hp} (h : Tps H H1) (h2 : Tps H1 H2) : Tps H H2 := fun b xs e => h2 b xs (h b xs e)
theorem Tps.same {H H1 : Hp} (h : Same H H1) : Tps H H1 := fun b xs e => h b _ e
theorem Kp.tps {d : Addr} {c : Addr × Addr} {n : Int} {H H' : Hp} (k : Kp d c H H') (dk : Dk H d c n) : Tps H H' := fun _ _ e => k.tup dk e
theorem Tps.lst {H : Hp} {D : Addr} {ws vs : List V} (e : H D = some (.lst ws)) : Tps H (upd H D (.lst vs)) := fun b xs h => by
  rw [upd_ne (ne_of h e (fun z => by cases z))]
  exact h
theorem same_off {H0 H : Hp} {D : Addr} {o : HO} (n : H0 D = none) (s : Same H0 H) : Same H0 (upd H D o) := fun b u e => by
  rw [upd_ne (ne_of_none e n)]
  exact s b u e
theorem few_line {n : Nat} (h : n < 1000) : n < sizeLine := by
  rw [show sizeLine = 16777216 by decide]
  omega
theorem lcL {K : PySem.W.Frag} {a : Addr} {xs : List V} {g : TG} {tt : TT} {te : TE} {vs : List Nat} {σ : L2.St} {H1 : Hp} {D : Addr} {Qd : Hp → Prop} (R : Nat → Hp → List V → Prop) (nD : H1 D = none) (hl : ∀ H', Same H1 H' → SqL K H' a xs) (few : xs.length < 1000)
    (mono : ∀ i H' H'' ws, Tps H' H'' → R i H' ws → R i H'' ws) (len : ∀ i H' ws, R i H' ws → ws.length ≤ i) (r0 : ∀ H', R 0 H' [])
    (hs : ∀ i x H' (N : Hp → Prop) acc, xs[i]? = some x → Same H1 H' → H' D = some (.lst acc) → acc.length < sizeLine → R i H' acc → (∀ H'', Same H' H'' → R (i + 1) H'' acc → N H'') → (∀ H'' y, Same H' H'' → R (i + 1) H'' (acc ++ [y]) → ∃ acc', H'' D = some (.lst acc') ∧ acc'.length < sizeLine ∧ N (upd H'' D (.lst (acc' ++ [y])))) →
      g x (wipe σ vs) H' fun σ2 H2 => wipe σ2 vs = wipe σ vs ∧ tt σ2 H2 fun b H3 => if b = true then te σ2 H3 fun y H4 => ∃ acc, H4 D = some (.lst acc) ∧ acc.length < sizeLine ∧ N (upd H4 D (.lst (acc ++ [y]))) else N H3)
    (hd : ∀ H' ws, Same H1 H' → H' D = some (.lst ws) → R xs.length H' ws → Qd H') :
    ∃ W : Nat → Nat → Hp → Prop, (∃ m, W 0 m (upd H1 D (.lst []))) ∧ ∀ i m H, W i m H →
      ((Itl K a).stop i H ∧ Qd H) ∨ ((Itl K a).go i H ∧ ∃ Nx : Hp → Prop, (∀ H', Nx H' → ∃ m', m' < m ∧ W (i + 1) m' H') ∧ ∀ x H', (Itl K a).yld i H x H' → g x (wipe σ vs) H' fun σ2 H2 => wipe σ2 vs = wipe σ vs ∧ tt σ2 H2 fun b H3 =>
        if b = true then te σ2 H3 fun y H4 => ∃ acc, H4 D = some (.lst acc) ∧ acc.length < sizeLine ∧ Nx (upd H4 D (.lst (acc ++ [y]))) else Nx H3) := by
  refine lc_list (K := K) (a := a) (xs := xs) (fun i H' => Same H1 H' ∧ ∃ ws, H' D = some (.lst ws) ∧ R i H' ws) ⟨same_new nD, [], upd_same, r0 _⟩ (fun i H' _ h => hl H' h.1) ?_ ?_
  · rintro i x H' hi ⟨sm, ws, eD, r⟩
    have lt := (List.getElem?_eq_some_iff.mp hi).1
    have lw := len i H' ws r
    have sz : ws.length < sizeLine := few_line (by omega)
    refine hs i x H' _ ws hi sm eD sz r (fun H'' s r2 => ⟨sm.trans s, ws, s _ _ eD, r2⟩) (fun H'' y s r2 => ?_)
    exact ⟨ws, s _ _ eD, sz, same_off nD (sm.trans s), _, upd_same, mono _ _ _ _ (Tps.lst (s _ _ eD)) r2⟩
  · rintro H' ⟨sm, ws, eD, r⟩
    exact hd H' ws sm eD r
theorem lcT {K : PySem.W.Frag} {a : Addr} {xs : List V} {g : TG} {tt : TT} {te : TE} {vs : List Nat} {σ : L2.St} {H1 : Hp} {D : Addr} {Qd : Hp → Prop} (R : Nat → Hp → List V → Prop) (nD : H1 D = none) (hl : ∀ H', Same H1 H' → SqT K H' a xs) (few : xs.length < 1000)
    (mono : ∀ i H' H'' ws, Tps H' H'' → R i H' ws → R i H'' ws) (len : ∀ i H' ws, R i H' ws → ws.length ≤ i) (r0 : ∀ H', R 0 H' [])
    (hs : ∀ i x H' (N : Hp → Prop) acc, xs[i]? = some x → Same H1 H' → H' D = some (.lst acc) → acc.length < sizeLine → R i H' acc → (∀ H'', Same H' H'' → R (i + 1) H'' acc → N H'') → (∀ H'' y, Same H' H'' → R (i + 1) H'' (acc ++ [y]) → ∃ acc', H'' D = some (.lst acc') ∧ acc'.length < sizeLine ∧ N (upd H'' D (.lst (acc' ++ [y])))) →
      g x (wipe σ vs) H' fun σ2 H2 => wipe σ2 vs = wipe σ vs ∧ tt σ2 H2 fun b H3 => if b = true then te σ2 H3 fun y H4 => ∃ acc, H4 D = some (.lst acc) ∧ acc.length < sizeLine ∧ N (upd H4 D (.lst (acc ++ [y]))) else N H3)
    (hd : ∀ H' ws, Same H1 H' → H' D = some (.lst ws) → R xs.length H' ws → Qd H') :
    ∃ W : Nat → Nat → Hp → Prop, (∃ m, W 0 m (upd H1 D (.lst []))) ∧ ∀ i m H, W i m H →
      ((Itt K a).stop i H ∧ Qd H) ∨ ((Itt K a).go i H ∧ ∃ Nx : Hp → Prop, (∀ H', Nx H' → ∃ m', m' < m ∧ W (i + 1) m' H') ∧ ∀ x H', (Itt K a).yld i H x H' → g x (wipe σ vs) H' fun σ2 H2 => wipe σ2 vs = wipe σ vs ∧ tt σ2 H2 fun b H3 =>
        if b = true then te σ2 H3 fun y H4 => ∃ acc, H4 D = some (.lst acc) ∧ acc.length < sizeLine ∧ Nx (upd H4 D (.lst (acc ++ [y]))) else Nx H3) := by
  refine lc_tup (K := K) (a := a) (xs := xs) (fun i H' => Same H1 H' ∧ ∃ ws, H' D = some (.lst ws) ∧ R i H' ws) ⟨same_new nD, [], upd_same, r0 _⟩ (fun i H' _ h => hl H' h.1) ?_ ?_
  · rintro i x H' hi ⟨sm, ws, eD, r⟩
    have lt := (List.getElem?_eq_some_iff.mp hi).1
    have lw := len i H' ws r
    have sz : ws.length < sizeLine := few_line (by omega)
    refine hs i x H' _ ws hi sm eD sz r (fun H'' s r2 => ⟨sm.trans s, ws, s _ _ eD, r2⟩) (fun H'' y s r2 => ?_)
    exact ⟨ws, s _ _ eD, sz, same_off nD (sm.trans s), _, upd_same, mono _ _ _ _ (Tps.lst (s _ _ eD)) r2⟩
  · rintro H' ⟨sm, ws, eD, r⟩
    exact hd H' ws sm eD r
theorem map_filter_len {α : Type} {ns : List α} {p : α → Bool} {f : α → V} (i : Nat) : (((ns.take i).filter p).map f).length ≤ i := by
  rw [List.length_map]
  exact Nat.le_trans (List.length_filter_le _ _) (List.length_take_le _ _)
theorem take_filter {α : Type} {ns : List α} {i : Nat} {n : α} {p : α → Bool} (h : ns[i]? = some n) : (ns.take (i + 1)).filter p = (ns.take i).filter p ++ (if p n = true then [n] else []) := by
  rw [List.take_add_one, h, List.filter_append]
  congr 1
  show List.filter p [n] = _
  rw [List.filter_cons]
  split <;> rfl
theorem nodup_le {α : Type} [DecidableEq α] : ∀ {l m : List α}, l.Nodup → (∀ x ∈ l, x ∈ m) → l.length ≤ m.length
  | [], _, _, _ => Nat.zero_le _
  | a :: l, m, h, hs => by
    have hm := hs a List.mem_cons_self
    have h' := List.nodup_cons.mp h
    have ih := nodup_le (l := l) (m := m.erase a) h'.2 (fun x hx => (List.mem_erase_of_ne (fun e => h'.1 (by rw [← e]; exact hx))).mpr (hs x (List.mem_cons_of_mem _ hx)))
    rw [List.length_erase_of_mem hm] at ih
    have := List.length_pos_of_mem hm
    rw [List.length_cons]
    omega

/-! ### demands, and rows of them -/
structure Dm (H : Hp) (v : V) (p lo hi : Int) : Prop where
  ex : ∃ u t, v = .ref u ∧ H u = some (.tup [.int p, .ref t]) ∧ H t = some (.tup [.int lo, .int hi])
  low : lo ≤ p
  high : p ≤ hi
theorem Dm.tps {H H' : Hp} (s : Tps H H') {v : V} {p lo hi : Int} (h : Dm H v p lo hi) : Dm H' v p lo hi := by
  obtain ⟨u, t, rfl, e1, e2⟩ := h.ex
  exact ⟨⟨u, t, rfl, s _ _ e1, s _ _ e2⟩, h.low, h.high⟩
theorem Dm.same {H H' : Hp} (s : Same H H') {v : V} {p lo hi : Int} (h : Dm H v p lo hi) : Dm H' v p lo hi := h.tps (Tps.same s)
inductive Dms (H : Hp) : List V → List (Int × Int × Int) → Prop
  | nil : Dms H [] []
  | cons {v : V} {p lo hi : Int} {vs : List V} {ds : List (Int × Int × Int)} : Dm H v p lo hi → Dms H vs ds → Dms H (v :: vs) ((p, lo, hi) :: ds)
theorem Dms.length {H : Hp} {vs : List V} {ds : List (Int × Int × Int)} (h : Dms H vs ds) : vs.length = ds.length := by
  induction h with
  | nil => rfl
  | cons _ _ ih => rw [List.length_cons, List.length_cons, ih]
theorem Dms.tps {H H' : Hp} (s : Tps H H') {vs : List V} {ds : List (Int × Int × Int)} (h : Dms H vs ds) : Dms H' vs ds := by
  induction h with
  | nil => exact .nil
  | cons e _ ih => exact .cons (e.tps s) ih
theorem Dms.same {H H' : Hp} (s : Same H H') {vs : List V} {ds : List (Int × Int × Int)} (h : Dms H vs ds) : Dms H' vs ds := h.tps (Tps.same s)
theorem Dms.get {H : Hp} {vs : List V} {ds : List (Int × Int × Int)} (h : Dms H vs ds) : ∀ {i : Nat} {v : V}, vs[i]? = some v → ∃ p lo hi, ds[i]? = some (p, lo, hi) ∧ Dm H v p lo hi := by
  induction h with
  | nil =>
    intro i v e
    simp at e
  | cons e _ ih =>
    intro i v q
    cases i with
    | zero =>
      cases q
      exact ⟨_, _, _, rfl, e⟩
    | succ i => exact ih q
theorem Dms.append {H : Hp} {vs us : List V} {ds es : List (Int × Int × Int)} (h : Dms H vs ds) (h2 : Dms H us es) : Dms H (vs ++ us) (ds ++ es) := by
  induction h with
  | nil => exact h2
  | cons e _ ih => exact .cons e ih
theorem Dms.snoc {H : Hp} {vs : List V} {ds : List (Int × Int × Int)} {v : V} {p lo hi : Int} (h : Dms H vs ds) (e : Dm H v p lo hi) : Dms H (vs ++ [v]) (ds ++ [(p, lo, hi)]) := h.append (.cons e .nil)
theorem Dms.take {H : Hp} {vs : List V} {ds : List (Int × Int × Int)} (h : Dms H vs ds) : ∀ n : Nat, Dms H (vs.take n) (ds.take n) := by
  induction h with
  | nil =>
    intro n
    rw [List.take_nil, List.take_nil]
    exact .nil
  | cons e _ ih =>
    intro n
    cases n with
    | zero => exact .nil
    | succ n => exact .cons e (ih n)
theorem Dms.reverse {H : Hp} {vs : List V} {ds : List (Int × Int × Int)} (h : Dms H vs ds) : Dms H vs.reverse ds.reverse := by
  induction h with
  | nil => exact .nil
  | cons e _ ih =>
    rw [List.reverse_cons, List.reverse_cons]
    exact ih.snoc e
theorem Dms.isEmpty {H : Hp} {vs : List V} {ds : List (Int × Int × Int)} (h : Dms H vs ds) : vs.isEmpty = ds.isEmpty := by
  cases h <;> rfl
theorem Dms.ok {H : Hp} {vs : List V} {ds : List (Int × Int × Int)} (h : Dms H vs ds) : ∀ q ∈ ds, q.2.1 ≤ q.1 ∧ q.1 ≤ q.2.2 := by
  induction h with
  | nil =>
    intro q hq
    cases hq
  | cons e _ ih =>
    intro q hq
    rcases List.mem_cons.mp hq with rfl | hq
    · exact ⟨e.low, e.high⟩
    · exact ih q hq
/-! ### comprehensions over a range that draw -/
theorem lcK {d : Addr} {c : Addr × Addr} {n0 per : Int} {lo : Int} {n : Nat} {g : TG} {tt : TT} {te : TE} {vs : List Nat} {σ : L2.St} {H1 : Hp} {D : Addr} {Qd : Hp → Prop} (R : Nat → Hp → List V → Prop) (nD : H1 D = none) (dk : Dk H1 d c n0) (few : n < 1000)
    (mono : ∀ i H' H'' ws, Tps H' H'' → R i H' ws → R i H'' ws) (len : ∀ i H' ws, R i H' ws → ws.length ≤ i) (r0 : ∀ H', R 0 H' [])
    (hs : ∀ i H' (N : Hp → Prop) acc, i < n → Kp d c H1 H' → Dk H' d c (n0 + per * i) → H' D = some (.lst acc) → R i H' acc → (∀ H'' y, Kp d c H' H'' → Dk H'' d c (n0 + per * i + per) → R (i + 1) H'' (acc ++ [y]) → ∃ acc', H'' D = some (.lst acc') ∧ acc'.length < sizeLine ∧ N (upd H'' D (.lst (acc' ++ [y])))) →
      g (.int (lo + i)) (wipe σ vs) H' fun σ2 H2 => wipe σ2 vs = wipe σ vs ∧ tt σ2 H2 fun b H3 => if b = true then te σ2 H3 fun y H4 => ∃ acc, H4 D = some (.lst acc) ∧ acc.length < sizeLine ∧ N (upd H4 D (.lst (acc ++ [y]))) else N H3)
    (hd : ∀ H' ws, Kp d c H1 H' → Dk H' d c (n0 + per * n) → H' D = some (.lst ws) → R n H' ws → Qd H') :
    ∃ W : Nat → Nat → Hp → Prop, (∃ m, W 0 m (upd H1 D (.lst []))) ∧ ∀ i m H, W i m H →
      ((Itr lo n).stop i H ∧ Qd H) ∨ ((Itr lo n).go i H ∧ ∃ Nx : Hp → Prop, (∀ H', Nx H' → ∃ m', m' < m ∧ W (i + 1) m' H') ∧ ∀ x H', (Itr lo n).yld i H x H' → g x (wipe σ vs) H' fun σ2 H2 => wipe σ2 vs = wipe σ vs ∧ tt σ2 H2 fun b H3 =>
        if b = true then te σ2 H3 fun y H4 => ∃ acc, H4 D = some (.lst acc) ∧ acc.length < sizeLine ∧ Nx (upd H4 D (.lst (acc ++ [y]))) else Nx H3) := by
  have off := dk.off nD
  refine lc_range (lo := lo) (n := n) (fun i H' => Kp d c H1 H' ∧ Dk H' d c (n0 + per * i) ∧ ∃ ws, H' D = some (.lst ws) ∧ R i H' ws) ⟨Kp.same (same_new nD), (dk.upd off).eq (by simp), [], upd_same, r0 _⟩ ?_ ?_
  · rintro i H' hi ⟨kp, dk', ws, eD, r⟩
    have lw := len i H' ws r
    have sz : ws.length < sizeLine := few_line (by omega)
    refine hs i H' _ ws hi kp dk' eD r (fun H'' y kp2 dk2 r2 => ?_)
    have eD2 := kp2.keep off eD
    refine ⟨ws, eD2, sz, fun b o n1 n2 e => ?_, (dk2.upd off).eq ?_, _, upd_same, mono _ _ _ _ (Tps.lst eD2) r2⟩
    · rw [upd_ne (ne_of_none e nD)]
      exact kp2 b o n1 n2 (kp b o n1 n2 e)
    · rw [Int.natCast_succ, Int.mul_add, Int.mul_one]
      omega
  · rintro H' ⟨kp, dk', ws, eD, r⟩
    exact hd H' ws kp dk' eD r

theorem Ivs.tps {H H' : Hp} (s : Tps H H') {vs : List V} {ps : List (Int × Int)} (h : Ivs H vs ps) : Ivs H' vs ps := by
  induction h with
  | nil => exact .nil
  | cons e _ ih => exact .cons (s _ _ e) ih
theorem Ivs.append {H : Hp} {vs us : List V} {ps qs : List (Int × Int)} (h : Ivs H vs ps) (h2 : Ivs H us qs) : Ivs H (vs ++ us) (ps ++ qs) := by
  induction h with
  | nil => exact h2
  | cons e _ ih => exact .cons e ih
theorem Ivs.isEmpty {H : Hp} {vs : List V} {ps : List (Int × Int)} (h : Ivs H vs ps) : vs.isEmpty = ps.isEmpty := by
  cases h <;> rfl

/-! ### the program: contains, has_position, serves -/
def inI (x y u v : Int) : Bool := decide (x ≤ u) && decide (v ≤ y)
def atP (x y p : Int) : Bool := decide (x ≤ p) && decide (p ≤ y)
def sp_contains : Sp := fun vs H Q _ => ∃ (a b : Addr) (x y u v : Int), vs = [.ref a, .ref b] ∧ H a = some (.tup [.int x, .int y]) ∧ H b = some (.tup [.int u, .int v]) ∧ Q (.bl (inI x y u v)) H
theorem ok_contains (T : Tx K mg f_depth_changes f_find_blocks f_has_position f_contains f_serves f_conflict f_demands_at_blocks f_is_open f_open_demands f_shadow_target f_require_few_blocks f_decisive_demands f_largest_independent f_count_needed f_law_draws f_law_next f_law_one f_law_spans f_law_covers f_law_every f_law_least f_law_served f_law_clash f_law_most f_law_right f_law d_depth_changes d_find_blocks d_has_position d_contains d_serves d_conflict d_demands_at_blocks d_is_open d_open_demands d_shadow_target d_require_few_blocks d_decisive_demands d_largest_independent d_count_needed d_law_draws d_law_next d_law_one d_law_spans d_law_covers d_law_every d_law_least d_law_served d_law_clash d_law_most d_law_right d_law t_MAX_BLOCKS) : FnOk P w K mg base CX0 1 f_contains d_contains ["outer", "inner"] sp_contains := by
  refine T.F_contains.ok sc_contains (fun vs H Q E h => ?_) (fun cdv A outer s H vs Q E hr h => ?_)
  · obtain ⟨a, b, x, y, u, v, rfl, _⟩ := h
    rfl
  · obtain ⟨a, b, x, y, u, v, rfl, ha, hb, q⟩ := h
    refine ⟨_, (pss_one (ps_ret (pe_and (pe_cmpR op_le (pe_ix ix_tup (pv 0) pe_int (fun _ _ => rfl)) (pe_ix ix_tup (pv 1) pe_int (fun _ _ => rfl)) (nomark _)) (pe_one (pe_cmpR op_le (pe_ix ix_tup (pv 1) pe_int (fun _ _ => rfl)) (pe_ix ix_tup (pv 0) pe_int (fun _ _ => rfl)) (nomark _)))))), ?_⟩
    unfold inI at q
    refine ⟨.ref a, rfl, a, _, 0, .int x, rfl, rfl, SqT.of ha, rfl, .ref b, rfl, b, _, 0, .int u, rfl, rfl, SqT.of hb, rfl, _, _, rfl, rfl, _, rfl, ite2 (fun e => ?_) (fun e => ?_)⟩
    · refine ⟨.ref b, rfl, b, _, 1, .int v, rfl, rfl, SqT.of hb, rfl, .ref a, rfl, a, _, 1, .int y, rfl, rfl, SqT.of ha, rfl, _, _, rfl, rfl, ?_⟩
      rw [e] at q
      exact q
    · rw [Bool.not_eq_true] at e
      rw [e] at q
      exact q
def sp_has_position : Sp := fun vs H Q _ => ∃ (a : Addr) (x y p : Int), vs = [.ref a, .int p] ∧ H a = some (.tup [.int x, .int y]) ∧ Q (.bl (atP x y p)) H
theorem ok_has_position (T : Tx K mg f_depth_changes f_find_blocks f_has_position f_contains f_serves f_conflict f_demands_at_blocks f_is_open f_open_demands f_shadow_target f_require_few_blocks f_decisive_demands f_largest_independent f_count_needed f_law_draws f_law_next f_law_one f_law_spans f_law_covers f_law_every f_law_least f_law_served f_law_clash f_law_most f_law_right f_law d_depth_changes d_find_blocks d_has_position d_contains d_serves d_conflict d_demands_at_blocks d_is_open d_open_demands d_shadow_target d_require_few_blocks d_decisive_demands d_largest_independent d_count_needed d_law_draws d_law_next d_law_one d_law_spans d_law_covers d_law_every d_law_least d_law_served d_law_clash d_law_most d_law_right d_law t_MAX_BLOCKS) : FnOk P w K mg base CX0 1 f_has_position d_has_position ["interval", "position"] sp_has_position := by
  refine T.F_has_position.ok sc_has_position (fun vs H Q E h => ?_) (fun cdv A outer s H vs Q E hr h => ?_)
  · obtain ⟨a, x, y, p, rfl, _⟩ := h
    rfl
  · obtain ⟨a, x, y, p, rfl, ha, q⟩ := h
    refine ⟨_, (pss_one (ps_ret (pe_chain op_le op_le (pe_ix ix_tup (pv 0) pe_int (fun _ _ => rfl)) (pv 1) (pe_ix ix_tup (pv 0) pe_int (fun _ _ => rfl))))), ?_⟩
    unfold atP at q
    refine ⟨.ref a, rfl, a, _, 0, .int x, rfl, rfl, SqT.of ha, rfl, .int p, rfl, _, _, rfl, rfl, _, rfl, ite2 (fun e => ?_) (fun e => ?_)⟩
    · refine ⟨.ref a, rfl, a, _, 1, .int y, rfl, rfl, SqT.of ha, rfl, _, _, rfl, rfl, ?_⟩
      rw [e] at q
      exact q
    · rw [Bool.not_eq_true] at e
      rw [e] at q
      exact q
def svI (x y p lo hi : Int) : Bool := inI lo hi x y && atP x y p
def sp_serves : Sp := fun vs H Q _ => ∃ (a u t : Addr) (x y p lo hi : Int), vs = [.ref a, .ref u] ∧ H a = some (.tup [.int x, .int y]) ∧ H u = some (.tup [.int p, .ref t]) ∧ H t = some (.tup [.int lo, .int hi]) ∧ Q (.bl (svI x y p lo hi)) H
theorem ok_serves (T : Tx K mg f_depth_changes f_find_blocks f_has_position f_contains f_serves f_conflict f_demands_at_blocks f_is_open f_open_demands f_shadow_target f_require_few_blocks f_decisive_demands f_largest_independent f_count_needed f_law_draws f_law_next f_law_one f_law_spans f_law_covers f_law_every f_law_least f_law_served f_law_clash f_law_most f_law_right f_law d_depth_changes d_find_blocks d_has_position d_contains d_serves d_conflict d_demands_at_blocks d_is_open d_open_demands d_shadow_target d_require_few_blocks d_decisive_demands d_largest_independent d_count_needed d_law_draws d_law_next d_law_one d_law_spans d_law_covers d_law_every d_law_least d_law_served d_law_clash d_law_most d_law_right d_law t_MAX_BLOCKS) : FnOk P w K mg base CX0 2 f_serves d_serves ["piece", "demand"] sp_serves := by
  refine T.F_serves.ok sc_serves (fun vs H Q E h => ?_) (fun cdv A outer s H vs Q E hr h => ?_)
  · obtain ⟨a, u, t, x, y, p, lo, hi, rfl, _⟩ := h
    rfl
  · obtain ⟨a, u, t, x, y, p, lo, hi, rfl, ha, hu, ht, q⟩ := h
    refine ⟨_, (pss_cons (ps_asg (pv 1) (pg_tup rfl (pgs_cons (pg_name (i := 2) sc_serves.nd rfl (Or.inl rfl)) (pgs_cons (pg_name (i := 3) sc_serves.nd rfl (Or.inl rfl)) pgs_nil))))
      (pss_one (ps_ret (pe_and (pe_call (ok_contains T) (hr.mono (by decide)) (by rfl) T.g_contains T.F_contains.kp T.b_contains .nil pass0 (pa_cons (pv 3) (pa_cons (pv 0) pa_nil))) (pe_one (pe_call (ok_has_position T) (hr.mono (by decide)) (by rfl) T.g_has_position T.F_has_position.kp T.b_has_position .nil pass0 (pa_cons (pv 0) (pa_cons (pv 2) pa_nil)))))))), ?_⟩
    unfold svI at q
    refine ⟨.ref u, rfl, u, _, rfl, SqT.of hu, rfl, .int p, [.ref t], rfl, .ref t, [], rfl, rfl, ?_⟩
    refine ⟨.ref t, rfl, .ref a, rfl, t, a, lo, hi, x, y, rfl, ht, ha, _, rfl, ite2 (fun e => ?_) (fun e => ?_)⟩
    · refine ⟨.ref a, rfl, .int p, rfl, a, x, y, p, rfl, ha, ?_⟩
      rw [e] at q
      exact q
    · rw [Bool.not_eq_true] at e
      rw [e] at q
      exact q

def strI (f s : Int) (p : Int × Int) : Int × Int := (p.1 * f + s, p.2 * f + f - 1 + s)

/-! ### blocks, position by position -/
def depI (row : List (Int × Int)) (p : Int) : Int := (row.map fun q => if q.1 ≤ p ∧ p ≤ q.2 then (1 : Int) else 0).sum
def delI (row : List (Int × Int)) (p : Int) : Int := (row.map fun q => (if q.1 = p then (1 : Int) else 0) - (if q.2 + 1 = p then 1 else 0)).sum
def Bd (row : List (Int × Int)) (p : Int) : Prop := ∃ q ∈ row, q.1 = p ∨ q.2 + 1 = p
def Good (row : List (Int × Int)) : Prop := ∀ q ∈ row, 0 ≤ q.1 ∧ q.1 ≤ q.2
instance (row : List (Int × Int)) (p : Int) : Decidable (Bd row p) := by
  unfold Bd
  infer_instance
theorem Good.tail {q : Int × Int} {row : List (Int × Int)} (g : Good (q :: row)) : Good row := fun x hx => g x (List.mem_cons_of_mem _ hx)
theorem dep_step : ∀ {row : List (Int × Int)}, Good row → ∀ p : Int, depI row p = depI row (p - 1) + delI row p
  | [], _, _ => rfl
  | q :: row, g, p => by
    have ih := dep_step g.tail p
    have z := g q List.mem_cons_self
    unfold depI delI at *
    simp only [List.map_cons, List.sum_cons]
    rw [ih]
    split <;> split <;> split <;> split <;> omega
theorem del_zero : ∀ {row : List (Int × Int)} {p : Int}, ¬ Bd row p → delI row p = 0
  | [], _, _ => rfl
  | q :: row, p, h => by
    have ih := del_zero (row := row) (p := p) fun ⟨x, hx, e⟩ => h ⟨x, List.mem_cons_of_mem _ hx, e⟩
    have n1 : ¬ q.1 = p := fun e => h ⟨q, List.mem_cons_self, .inl e⟩
    have n2 : ¬ q.2 + 1 = p := fun e => h ⟨q, List.mem_cons_self, .inr e⟩
    unfold delI at *
    simp only [List.map_cons, List.sum_cons]
    rw [ih, if_neg n1, if_neg n2]
    rfl
theorem dep_nonneg : ∀ (row : List (Int × Int)) (p : Int), 0 ≤ depI row p
  | [], _ => Int.le_refl _
  | q :: row, p => by
    have ih := dep_nonneg row p
    unfold depI at *
    simp only [List.map_cons, List.sum_cons]
    split <;> omega
theorem dep_pos : ∀ {row : List (Int × Int)} {p : Int}, 0 < depI row p ↔ ∃ q ∈ row, q.1 ≤ p ∧ p ≤ q.2
  | [], p => by
    constructor
    · intro h
      exact absurd h (by show ¬ (0 : Int) < 0; decide)
    · rintro ⟨q, h, _⟩
      cases h
  | q :: row, p => by
    have ih := dep_pos (row := row) (p := p)
    have nn := dep_nonneg row p
    have e : depI (q :: row) p = (if q.1 ≤ p ∧ p ≤ q.2 then (1 : Int) else 0) + depI row p := by
      unfold depI
      rw [List.map_cons, List.sum_cons]
    rw [e]
    by_cases h : q.1 ≤ p ∧ p ≤ q.2
    · rw [if_pos h]
      constructor
      · intro _
        exact ⟨q, List.mem_cons_self, h⟩
      · intro _
        omega
    · rw [if_neg h]
      constructor
      · intro z
        obtain ⟨x, hx, w⟩ := ih.mp (by omega)
        exact ⟨x, List.mem_cons_of_mem _ hx, w⟩
      · rintro ⟨x, hx, w⟩
        rcases List.mem_cons.mp hx with rfl | hx
        · exact absurd w h
        · have := ih.mpr ⟨x, hx, w⟩
          omega
theorem dep_zero {row : List (Int × Int)} {p : Int} (h : ∀ q ∈ row, p < q.1 ∨ q.2 < p) : depI row p = 0 := by
  have nn := dep_nonneg row p
  by_cases z : 0 < depI row p
  · obtain ⟨q, hq, w⟩ := dep_pos.mp z
    have := h q hq
    omega
  · omega
theorem dep_const {row : List (Int × Int)} (g : Good row) {a : Int} : ∀ k : Nat, (∀ j : Int, a < j → j ≤ a + k → ¬ Bd row j) → depI row (a + k) = depI row a
  | 0, _ => by
    rw [show a + ((0 : Nat) : Int) = a by omega]
  | k + 1, h => by
    have ih := dep_const g k fun j h1 h2 => h j h1 (by omega)
    rw [dep_step g, del_zero (h _ (by omega) (Int.le_refl _)), show a + ((k + 1 : Nat) : Int) - 1 = a + (k : Int) by omega, ih]
    omega
def extl (l : List (Int × Int)) (p : Int) : List (Int × Int) := l.dropLast ++ (l.getLast?.map fun q => (q.1, p)).toList
theorem extl_snoc (l : List (Int × Int)) (q : Int × Int) (p : Int) : extl (l ++ [q]) p = l ++ [(q.1, p)] := by
  unfold extl
  rw [List.dropLast_concat, List.getLast?_concat]
  rfl
theorem extl_nil (p : Int) : extl [] p = [] := rfl
theorem extl_extl (l : List (Int × Int)) (p r : Int) : extl (extl l p) r = extl l r := by
  rcases List.eq_nil_or_concat l with rfl | ⟨m, q, rfl⟩
  · rfl
  · rw [List.concat_eq_append, extl_snoc, extl_snoc, extl_snoc]
theorem extl_ne {l : List (Int × Int)} (h : l ≠ []) (p : Int) : extl l p ≠ [] := by
  rcases List.eq_nil_or_concat l with rfl | ⟨m, q, rfl⟩
  · exact absurd rfl h
  · rw [List.concat_eq_append, extl_snoc]
    exact List.append_ne_nil_of_right_ne_nil _ (List.cons_ne_nil _ _)
theorem extl_map (f : Int × Int → Int × Int) {l : List (Int × Int)} {p r : Int} (h : ∀ q : Int × Int, f (q.1, p) = ((f q).1, r)) : extl (l.map f) r = (extl l p).map f := by
  rcases List.eq_nil_or_concat l with rfl | ⟨m, q, rfl⟩
  · rfl
  · rw [List.concat_eq_append, extl_snoc, List.map_append, List.map_singleton, extl_snoc, List.map_append, List.map_singleton, h]
/-- the blocks of the positions below n -/
def Cb (row : List (Int × Int)) : Nat → List (Int × Int)
  | 0 => []
  | n + 1 => if 0 < depI row n then (if Bd row n then Cb row n ++ [((n : Int), (n : Int))] else extl (Cb row n) n) else Cb row n
theorem Cb_succ (row : List (Int × Int)) (n : Nat) : Cb row (n + 1) = if 0 < depI row n then (if Bd row n then Cb row n ++ [((n : Int), (n : Int))] else extl (Cb row n) n) else Cb row n := rfl
theorem Cb_seg {row : List (Int × Int)} (g : Good row) {a : Nat} : ∀ k : Nat, (∀ j : Int, (a : Int) < j → j ≤ a + k → ¬ Bd row j) →
    Cb row (a + k + 1) = if 0 < depI row a then (if Bd row a then Cb row a ++ [((a : Int), (a : Int) + k)] else extl (Cb row a) (a + k)) else Cb row a
  | 0, _ => by
    rw [Nat.add_zero, Cb_succ, show (a : Int) + ((0 : Nat) : Int) = a by omega]
  | k + 1, h => by
    have ih := Cb_seg g k fun j h1 h2 => h j h1 (by omega)
    have dc := dep_const g (k + 1) h
    have cast : (((a + (k + 1)) : Nat) : Int) = (a : Int) + ((k + 1 : Nat) : Int) := by omega
    rw [Cb_succ, cast, dc]
    by_cases hd : 0 < depI row a
    · rw [if_pos hd, if_neg (h _ (by omega) (Int.le_refl _)), show a + (k + 1) = a + k + 1 by omega, ih, if_pos hd]
      by_cases hb : Bd row a
      · rw [if_pos hb, if_pos hb, if_pos hd, extl_snoc]
      · rw [if_neg hb, if_neg hb, if_pos hd, extl_extl]
    · rw [if_neg hd, if_neg hd, show a + (k + 1) = a + k + 1 by omega, ih, if_neg hd]
theorem Cb_top {row : List (Int × Int)} {N : Nat} (h : ∀ q ∈ row, q.2 + 1 ≤ N) : ∀ k : Nat, Cb row (N + k) = Cb row N
  | 0 => rfl
  | k + 1 => by
    have z : depI row ((N + k : Nat) : Int) = 0 := dep_zero fun q hq => by
      have := h q hq
      omega
    rw [show N + (k + 1) = (N + k) + 1 by omega, Cb_succ, z, if_neg (by omega)]
    exact Cb_top h k
theorem Cb_low {row : List (Int × Int)} : ∀ {N : Nat}, (∀ q ∈ row, (N : Int) ≤ q.1) → Cb row N = []
  | 0, _ => rfl
  | N + 1, h => by
    have z : depI row (N : Int) = 0 := dep_zero fun q hq => by
      have := h q hq
      omega
    rw [Cb_succ, z, if_neg (by omega)]
    exact Cb_low fun q hq => by
      have := h q hq
      omega
def topN : List (Int × Int) → Nat
  | [] => 0
  | q :: r => max (q.2 + 1).toNat (topN r)
theorem topN_le : ∀ {row : List (Int × Int)} {q : Int × Int}, q ∈ row → q.2 + 1 ≤ topN row
  | r :: row, q, h => by
    rcases List.mem_cons.mp h with rfl | h
    · show q.2 + 1 ≤ ((max (q.2 + 1).toNat (topN row) : Nat) : Int)
      omega
    · have := topN_le h
      show q.2 + 1 ≤ ((max (r.2 + 1).toNat (topN row) : Nat) : Int)
      omega
def blocksOf (row : List (Int × Int)) : List (Int × Int) := Cb row (topN row)
theorem Cb_all {row : List (Int × Int)} {N : Nat} (h : ∀ q ∈ row, q.2 + 1 ≤ N) : Cb row N = blocksOf row := by
  unfold blocksOf
  rcases Nat.le_total N (topN row) with z | z
  · obtain ⟨k, e⟩ := Nat.le.dest z
    rw [← e, Cb_top h k]
  · obtain ⟨k, e⟩ := Nat.le.dest z
    rw [← e, Cb_top (fun q hq => topN_le hq) k]
theorem Cb_ne {row : List (Int × Int)} (g : Good row) : ∀ n : Nat, 0 < depI row n → Cb row (n + 1) ≠ []
  | 0, h => by
    obtain ⟨q, hq, w⟩ := dep_pos.mp h
    have z := g q hq
    have hb : Bd row ((0 : Nat) : Int) := ⟨q, hq, .inl (by omega)⟩
    rw [Cb_succ, if_pos h, if_pos hb]
    exact List.append_ne_nil_of_right_ne_nil _ (List.cons_ne_nil _ _)
  | n + 1, h => by
    rw [Cb_succ, if_pos h]
    by_cases hb : Bd row ((n + 1 : Nat) : Int)
    · rw [if_pos hb]
      exact List.append_ne_nil_of_right_ne_nil _ (List.cons_ne_nil _ _)
    · rw [if_neg hb]
      have e := dep_step g ((n + 1 : Nat) : Int)
      rw [del_zero hb, show ((n + 1 : Nat) : Int) - 1 = (n : Int) by omega] at e
      exact extl_ne (Cb_ne g n (by omega)) _
/-- the blocks of stretched intervals -/
theorem bd_str {row : List (Int × Int)} {f s : Int} {j : Int} : Bd (row.map (strI f s)) j ↔ ∃ b, Bd row b ∧ j = b * f + s := by
  constructor
  · rintro ⟨q, hq, h⟩
    obtain ⟨r, hr, rfl⟩ := List.mem_map.mp hq
    rcases h with h | h
    · exact ⟨r.1, ⟨r, hr, .inl rfl⟩, h.symm⟩
    · refine ⟨r.2 + 1, ⟨r, hr, .inr rfl⟩, ?_⟩
      rw [← h, Int.add_mul]
      show r.2 * f + f - 1 + s + 1 = r.2 * f + 1 * f + s
      omega
  · rintro ⟨b, ⟨r, hr, h⟩, rfl⟩
    refine ⟨strI f s r, List.mem_map.mpr ⟨r, hr, rfl⟩, ?_⟩
    rcases h with h | h
    · exact .inl (by rw [← h]; rfl)
    · refine .inr ?_
      rw [← h, Int.add_mul]
      show r.2 * f + f - 1 + s + 1 = r.2 * f + 1 * f + s
      omega
theorem mul_le_iff {a b f : Int} (hf : 0 < f) : a * f ≤ b * f ↔ a ≤ b := ⟨fun h => Int.le_of_mul_le_mul_right h hf, fun h => Int.mul_le_mul_of_nonneg_right h (by omega)⟩
theorem dep_str {f s : Int} (hf : 0 < f) : ∀ {row : List (Int × Int)} {N : Int}, depI (row.map (strI f s)) (N * f + s) = depI row N
  | [], _ => rfl
  | q :: row, N => by
    have ih := dep_str (s := s) hf (row := row) (N := N)
    have e1 := mul_le_iff (a := q.1) (b := N) hf
    have e2 := mul_le_iff (a := N) (b := q.2) hf
    have e3 : N * f ≤ q.2 * f + f - 1 ↔ N ≤ q.2 := by
      constructor
      · intro h
        by_cases z : N ≤ q.2
        · exact z
        · have w := (mul_le_iff (a := q.2 + 1) (b := N) hf).mpr (by omega)
          rw [Int.add_mul] at w
          omega
      · intro h
        have := e2.mpr h
        omega
    have c : (q.1 * f + s ≤ N * f + s ∧ N * f + s ≤ q.2 * f + f - 1 + s) ↔ (q.1 ≤ N ∧ N ≤ q.2) := by
      rw [← e1, ← e3]
      constructor
      · rintro ⟨h1, h2⟩
        exact ⟨by omega, by omega⟩
      · rintro ⟨h1, h2⟩
        exact ⟨by omega, by omega⟩
    unfold depI at *
    simp only [List.map_cons, List.sum_cons]
    rw [ih]
    congr 1
    show (if q.1 * f + s ≤ N * f + s ∧ N * f + s ≤ q.2 * f + f - 1 + s then (1 : Int) else 0) = _
    by_cases z : q.1 ≤ N ∧ N ≤ q.2
    · rw [if_pos z, if_pos (c.mpr z)]
    · rw [if_neg z, if_neg (fun w => z (c.mp w))]
theorem good_str {row : List (Int × Int)} (g : Good row) {f s : Int} (hf : 0 < f) (hs : 0 ≤ s) : Good (row.map (strI f s)) := by
  intro q hq
  obtain ⟨r, hr, rfl⟩ := List.mem_map.mp hq
  have z := g r hr
  have m1 := (mul_le_iff (a := 0) (b := r.1) hf).mpr z.1
  have m2 := (mul_le_iff (a := r.1) (b := r.2) hf).mpr z.2
  constructor
  · show 0 ≤ r.1 * f + s
    omega
  · show r.1 * f + s ≤ r.2 * f + f - 1 + s
    omega
theorem Cb_str {row : List (Int × Int)} (g : Good row) {f s : Int} (hf : 0 < f) (hs : 0 ≤ s) : ∀ N : Nat, Cb (row.map (strI f s)) ((N : Int) * f + s).toNat = (Cb row N).map (strI f s)
  | 0 => by
    have e : ((0 : Nat) : Int) * f + s = s := by
      rw [show ((0 : Nat) : Int) = 0 from rfl, Int.zero_mul]
      omega
    rw [e, Cb_low]
    · rfl
    · intro q hq
      obtain ⟨r, hr, rfl⟩ := List.mem_map.mp hq
      have z := g r hr
      have m1 := (mul_le_iff (a := 0) (b := r.1) hf).mpr z.1
      show ((s.toNat : Nat) : Int) ≤ r.1 * f + s
      omega
  | N + 1 => by
    have ih := Cb_str g hf hs N
    have nn := (mul_le_iff (a := 0) (b := N) hf).mpr (by omega)
    have cast : (((N : Int) * f + s).toNat : Int) = (N : Int) * f + s := by omega
    have e : (((N + 1 : Nat) : Int) * f + s).toNat = ((N : Int) * f + s).toNat + (f - 1).toNat + 1 := by
      have : ((N + 1 : Nat) : Int) * f = (N : Int) * f + f := by
        rw [show ((N + 1 : Nat) : Int) = (N : Int) + 1 by omega, Int.add_mul, Int.one_mul]
      omega
    have seg := Cb_seg (good_str g hf hs) (a := ((N : Int) * f + s).toNat) (f - 1).toNat (fun j h1 h2 hb => by
      obtain ⟨b, _, ej⟩ := bd_str.mp hb
      rw [cast] at h1 h2
      have l1 : (N : Int) < b := by
        by_cases z : b ≤ N
        · have := (mul_le_iff (a := b) (b := N) hf).mpr z
          omega
        · omega
      have := (mul_le_iff (a := (N : Int) + 1) (b := b) hf).mpr (by omega)
      rw [Int.add_mul] at this
      omega)
    have eb : Bd (row.map (strI f s)) ((N : Int) * f + s) ↔ Bd row N := by
      constructor
      · intro h
        obtain ⟨b, hb, ej⟩ := bd_str.mp h
        have : b = N := by
          rcases Int.lt_trichotomy b N with z | z | z
          · have := (mul_le_iff (a := b + 1) (b := N) hf).mpr (by omega)
            rw [Int.add_mul] at this
            omega
          · exact z
          · have := (mul_le_iff (a := (N : Int) + 1) (b := b) hf).mpr (by omega)
            rw [Int.add_mul] at this
            omega
        rw [← this]
        exact hb
      · intro h
        exact bd_str.mpr ⟨N, h, rfl⟩
    rw [e, seg, cast, dep_str hf, ih, Cb_succ]
    by_cases hd : 0 < depI row N
    · rw [if_pos hd, if_pos hd]
      have last : (N : Int) * f + s + ((f - 1).toNat : Int) = (N : Int) * f + f - 1 + s := by omega
      by_cases hb : Bd row N
      · rw [if_pos hb, if_pos (eb.mpr hb), List.map_append, List.map_singleton, last]
        rfl
      · rw [if_neg hb, if_neg (fun z => hb (eb.mp z)), last]
        exact extl_map (strI f s) fun q => rfl
    · rw [if_neg hd, if_neg hd]
theorem blocks_str {row : List (Int × Int)} (g : Good row) {f s : Int} (hf : 0 < f) (hs : 0 ≤ s) : blocksOf (row.map (strI f s)) = (blocksOf row).map (strI f s) := by
  rw [← Cb_all (row := row.map (strI f s)) (N := ((topN row : Int) * f + s).toNat)]
  · exact Cb_str g hf hs _
  · intro q hq
    obtain ⟨r, hr, rfl⟩ := List.mem_map.mp hq
    have z := topN_le hr
    have m := (mul_le_iff (a := r.2 + 1) (b := topN row) hf).mpr z
    have nn := (mul_le_iff (a := 0) (b := topN row) hf).mpr (by omega)
    rw [Int.add_mul] at m
    show r.2 * f + f - 1 + s + 1 ≤ ((((topN row : Int) * f + s).toNat : Nat) : Int)
    omega

/-! ### what the blocks are: ascending, apart, covering, begun at the borders that are covered -/
theorem extl_fst (l : List (Int × Int)) (p : Int) : (extl l p).map (·.1) = l.map (·.1) := by
  rcases List.eq_nil_or_concat l with rfl | ⟨m, q, rfl⟩
  · rfl
  · rw [List.concat_eq_append, extl_snoc, List.map_append, List.map_append]
    rfl
def stB (row : List (Int × Int)) (p : Nat) : Bool := decide (0 < depI row p) && decide (Bd row p)
structure Bl (row : List (Int × Int)) (N : Nat) (l : List (Int × Int)) : Prop where
  asc : l.Pairwise (fun a b => a.2 < b.1)
  ok : ∀ q ∈ l, 0 ≤ q.1 ∧ q.1 ≤ q.2 ∧ q.2 < N
  cov : ∀ p : Nat, p < N → (0 < depI row p ↔ ∃ q ∈ l, q.1 ≤ p ∧ (p : Int) ≤ q.2)
  fst : l.map (·.1) = ((List.range N).filter (stB row)).map (fun n : Nat => (n : Int))
theorem Cb_bl {row : List (Int × Int)} (g : Good row) : ∀ N : Nat, Bl row N (Cb row N)
  | 0 => ⟨.nil, (fun q hq => nomatch hq), (fun p hp => absurd hp (Nat.not_lt_zero p)), rfl⟩
  | n + 1 => by
    have ih := Cb_bl g n
    have fr : ((List.range (n + 1)).filter (stB row)).map (fun n : Nat => (n : Int)) = ((List.range n).filter (stB row)).map (fun n : Nat => (n : Int)) ++ (if stB row n then [(n : Int)] else []) := by
      rw [List.range_succ, List.filter_append, List.map_append]
      congr 1
      cases h : stB row n <;> simp [List.filter_cons, h]
    rw [Cb_succ]
    by_cases hd : 0 < depI row n
    · rw [if_pos hd]
      by_cases hb : Bd row n
      · rw [if_pos hb]
        refine ⟨?_, fun q hq => ?_, fun p hp => ?_, ?_⟩
        · refine List.pairwise_append.mpr ⟨ih.asc, List.pairwise_singleton _ _, fun a ha b hb2 => ?_⟩
          rw [List.mem_singleton.mp hb2]
          exact (ih.ok a ha).2.2
        · rcases List.mem_append.mp hq with hq | hq
          · have := ih.ok q hq
            exact ⟨this.1, this.2.1, by omega⟩
          · rw [List.mem_singleton.mp hq]
            refine ⟨?_, ?_, ?_⟩
            · show (0 : Int) ≤ (n : Int)
              omega
            · show (n : Int) ≤ (n : Int)
              omega
            · show (n : Int) < ((n + 1 : Nat) : Int)
              omega
        · rcases Nat.lt_or_ge p n with h | h
          · rw [ih.cov p h]
            constructor
            · rintro ⟨q, hq, w⟩
              exact ⟨q, List.mem_append_left _ hq, w⟩
            · rintro ⟨q, hq, w⟩
              rcases List.mem_append.mp hq with hq | hq
              · exact ⟨q, hq, w⟩
              · rw [List.mem_singleton.mp hq] at w
                have w1 : (n : Int) ≤ (p : Int) := w.1
                omega
          · have e : p = n := by omega
            subst e
            exact ⟨fun _ => ⟨((p : Int), (p : Int)), List.mem_append_right _ (List.mem_singleton.mpr rfl), Int.le_refl _, Int.le_refl _⟩, fun _ => hd⟩
        · rw [List.map_append, ih.fst, fr]
          have : stB row n = true := Bool.and_eq_true_iff.mpr ⟨decide_eq_true hd, decide_eq_true hb⟩
          rw [this]
          rfl
      · rw [if_neg hb]
        have sf : stB row n = false := by
          unfold stB
          rw [decide_eq_false hb, Bool.and_false]
        -- the last block ends just before n
        have e := dep_step g (n : Int)
        rw [del_zero hb] at e
        have n0 : 0 < n := by
          rcases Nat.eq_zero_or_pos n with z | z
          · subst z
            obtain ⟨q, hq, w⟩ := dep_pos.mp hd
            have := g q hq
            exact absurd ⟨q, hq, .inl (by omega)⟩ hb
          · exact z
        obtain ⟨k, rfl⟩ : ∃ k, n = k + 1 := ⟨n - 1, by omega⟩
        have dk : 0 < depI row k := by
          rw [show ((k + 1 : Nat) : Int) - 1 = (k : Int) by omega] at e
          omega
        obtain ⟨q, hq, w1, w2⟩ := (ih.cov k (by omega)).mp dk
        have oq := ih.ok q hq
        generalize Cb row (k + 1) = l at *
        rcases List.eq_nil_or_concat l with rfl | ⟨m, z, rfl⟩
        · cases hq
        · rw [List.concat_eq_append] at *
          rw [extl_snoc]
          have pa := List.pairwise_append.mp ih.asc
          have oz := ih.ok z (List.mem_append_right _ (List.mem_singleton.mpr rfl))
          have qz : q = z := by
            rcases List.mem_append.mp hq with h | h
            · have := pa.2.2 q h z (List.mem_singleton.mpr rfl)
              omega
            · exact List.mem_singleton.mp h
          subst qz
          have q2 : q.2 = (k : Int) := by omega
          refine ⟨?_, fun r hr => ?_, fun p hp => ?_, ?_⟩
          · refine List.pairwise_append.mpr ⟨pa.1, List.pairwise_singleton _ _, fun a ha b hb2 => ?_⟩
            rw [List.mem_singleton.mp hb2]
            exact pa.2.2 a ha q (List.mem_singleton.mpr rfl)
          · rcases List.mem_append.mp hr with hr | hr
            · have := ih.ok r (List.mem_append_left _ hr)
              exact ⟨this.1, this.2.1, by omega⟩
            · rw [List.mem_singleton.mp hr]
              refine ⟨oq.1, ?_, ?_⟩
              · show q.1 ≤ ((k + 1 : Nat) : Int)
                omega
              · show ((k + 1 : Nat) : Int) < ((k + 1 + 1 : Nat) : Int)
                omega
          · rcases Nat.lt_or_ge p (k + 1) with h | h
            · rw [ih.cov p h]
              constructor
              · rintro ⟨r, hr, w⟩
                rcases List.mem_append.mp hr with hr | hr
                · exact ⟨r, List.mem_append_left _ hr, w⟩
                · rw [List.mem_singleton.mp hr] at w
                  refine ⟨_, List.mem_append_right _ (List.mem_singleton.mpr rfl), w.1, ?_⟩
                  show (p : Int) ≤ ((k + 1 : Nat) : Int)
                  omega
              · rintro ⟨r, hr, w⟩
                rcases List.mem_append.mp hr with hr | hr
                · exact ⟨r, List.mem_append_left _ hr, w⟩
                · rw [List.mem_singleton.mp hr] at w
                  exact ⟨q, List.mem_append_right _ (List.mem_singleton.mpr rfl), w.1, by omega⟩
            · have e : p = k + 1 := by omega
              subst e
              refine ⟨fun _ => ⟨_, List.mem_append_right _ (List.mem_singleton.mpr rfl), ?_, ?_⟩, fun _ => hd⟩
              · show q.1 ≤ ((k + 1 : Nat) : Int)
                omega
              · exact Int.le_refl _
          · rw [fr, sf, ← ih.fst, List.map_append, List.map_append]
            simp
    · rw [if_neg hd]
      have sf : stB row n = false := by
        unfold stB
        rw [decide_eq_false hd, Bool.false_and]
      refine ⟨ih.asc, fun q hq => ?_, fun p hp => ?_, ?_⟩
      · have := ih.ok q hq
        exact ⟨this.1, this.2.1, by omega⟩
      · rcases Nat.lt_or_ge p n with h | h
        · exact ih.cov p h
        · have e : p = n := by omega
          subst e
          refine ⟨fun z => absurd z hd, ?_⟩
          rintro ⟨q, hq, w⟩
          have := (ih.ok q hq).2.2
          omega
      · rw [fr, sf, ih.fst]
        simp
theorem blocks_bl {row : List (Int × Int)} (g : Good row) : Bl row (topN row) (blocksOf row) := Cb_bl g _
def lowsOf (row : List (Int × Int)) : List Int := (blocksOf row).map (·.1)
def ixI (row : List (Int × Int)) (pos : Int) : Int := (((lowsOf row).filter fun c => decide (c ≤ pos)).length : Int) - 1
theorem cnt_at {pos : Int} : ∀ {l : List (Int × Int)} {j : Nat} {q : Int × Int}, l.Pairwise (fun a b => a.2 < b.1) → (∀ q ∈ l, q.1 ≤ q.2) → l[j]? = some q → q.1 ≤ pos → pos ≤ q.2 → ((l.map (·.1)).filter fun c => decide (c ≤ pos)).length = j + 1
  | [], _, _, _, _, e, _, _ => by simp at e
  | x :: r, 0, q, asc, ok, e, h1, h2 => by
    cases e
    have p := List.pairwise_cons.mp asc
    rw [List.map_cons, List.filter_cons, if_pos (decide_eq_true h1), List.length_cons]
    have nil : (r.map (·.1)).filter (fun c => decide (c ≤ pos)) = [] := by
      apply List.filter_eq_nil_iff.mpr
      intro c hc
      obtain ⟨y, hy, rfl⟩ := List.mem_map.mp hc
      have := p.1 y hy
      rw [decide_eq_true_eq]
      omega
    rw [nil]
    rfl
  | x :: r, j + 1, q, asc, ok, e, h1, h2 => by
    have p := List.pairwise_cons.mp asc
    have e' : r[j]? = some q := e
    have := p.1 q (List.mem_of_getElem? e')
    have := ok x List.mem_cons_self
    rw [List.map_cons, List.filter_cons, if_pos (decide_eq_true (by omega)), List.length_cons, cnt_at p.2 (fun z hz => ok z (List.mem_cons_of_mem _ hz)) e' h1 h2]
theorem ix_at {row : List (Int × Int)} (g : Good row) {pos : Int} {j : Nat} {q : Int × Int} (e : (blocksOf row)[j]? = some q) (h1 : q.1 ≤ pos) (h2 : pos ≤ q.2) : ixI row pos = j ∧ 0 < depI row pos := by
  have B := blocks_bl g
  have mq := List.mem_of_getElem? e
  have oq := B.ok q mq
  refine ⟨?_, ?_⟩
  · unfold ixI lowsOf
    rw [cnt_at B.asc (fun z hz => (B.ok z hz).2.1) e h1 h2]
    omega
  · obtain ⟨p, rfl⟩ : ∃ p : Nat, pos = p := ⟨pos.toNat, by omega⟩
    exact (B.cov p (by omega)).mpr ⟨q, mq, h1, h2⟩
theorem dep_in {row : List (Int × Int)} (g : Good row) {pos : Int} (h : 0 < depI row pos) : ∃ q ∈ blocksOf row, q.1 ≤ pos ∧ pos ≤ q.2 := by
  obtain ⟨r, hr, w⟩ := dep_pos.mp h
  have := g r hr
  have := topN_le hr
  obtain ⟨p, rfl⟩ : ∃ p : Nat, pos = p := ⟨pos.toNat, by omega⟩
  exact ((blocks_bl g).cov p (by omega)).mp h
theorem Bl.idx {row : List (Int × Int)} {N : Nat} {l : List (Int × Int)} (B : Bl row N l) {i j : Nat} {a b : Int × Int} (ij : i < j) (ea : l[i]? = some a) (eb : l[j]? = some b) : a.2 < b.1 := by
  obtain ⟨hi, rfl⟩ := List.getElem?_eq_some_iff.mp ea
  obtain ⟨hj, rfl⟩ := List.getElem?_eq_some_iff.mp eb
  exact List.pairwise_iff_getElem.mp B.asc i j hi hj ij
theorem low_at {row : List (Int × Int)} (g : Good row) {q : Int × Int} (hq : q ∈ row) : ∃ (j : Nat) (b : Int × Int), (blocksOf row)[j]? = some b ∧ b.1 = q.1 := by
  have B := blocks_bl g
  have gq := g q hq
  have tq := topN_le hq
  have d : 0 < depI row q.1 := dep_pos.mpr ⟨q, hq, Int.le_refl _, gq.2⟩
  have bd : Bd row q.1 := ⟨q, hq, .inl rfl⟩
  have m : q.1 ∈ (blocksOf row).map (·.1) := by
    rw [B.fst]
    refine List.mem_map.mpr ⟨q.1.toNat, List.mem_filter.mpr ⟨List.mem_range.mpr (by omega), ?_⟩, by omega⟩
    have c : ((q.1.toNat : Nat) : Int) = q.1 := by omega
    unfold stB
    rw [c]
    exact Bool.and_eq_true_iff.mpr ⟨decide_eq_true d, decide_eq_true bd⟩
  obtain ⟨b, hb, e⟩ := List.mem_map.mp m
  obtain ⟨j, ej⟩ := List.getElem?_of_mem hb
  exact ⟨j, b, ej, e⟩
/-- no border lies within a block -/
theorem Bl.inner {row : List (Int × Int)} {N : Nat} {l : List (Int × Int)} (B : Bl row N l) {q : Int × Int} (hq : q ∈ l) {p : Int} (h1 : q.1 < p) (h2 : p ≤ q.2) : ¬ Bd row p := by
  intro bd
  have oq := B.ok q hq
  have c : ((p.toNat : Nat) : Int) = p := by omega
  have d : 0 < depI row p := by
    have z := (B.cov p.toNat (by omega)).mpr ⟨q, hq, by omega, by omega⟩
    rw [c] at z
    exact z
  have m : p ∈ l.map (·.1) := by
    rw [B.fst]
    refine List.mem_map.mpr ⟨p.toNat, List.mem_filter.mpr ⟨List.mem_range.mpr (by omega), ?_⟩, by omega⟩
    unfold stB
    rw [c]
    exact Bool.and_eq_true_iff.mpr ⟨decide_eq_true d, decide_eq_true bd⟩
  obtain ⟨r, hr, e⟩ := List.mem_map.mp m
  obtain ⟨i, ei⟩ := List.getElem?_of_mem hq
  obtain ⟨j, ej⟩ := List.getElem?_of_mem hr
  rcases Nat.lt_trichotomy i j with z | z | z
  · have := B.idx z ei ej
    omega
  · subst z
    rw [ei] at ej
    cases ej
    omega
  · have := B.idx z ej ei
    have := B.ok r hr
    omega
theorem high_at {row : List (Int × Int)} (g : Good row) {q : Int × Int} (hq : q ∈ row) : ∃ (j : Nat) (b : Int × Int), (blocksOf row)[j]? = some b ∧ b.2 = q.2 ∧ b.1 ≤ q.2 := by
  have B := blocks_bl g
  have gq := g q hq
  obtain ⟨b, hb, w1, w2⟩ := dep_in g (dep_pos.mpr ⟨q, hq, gq.2, Int.le_refl _⟩)
  obtain ⟨j, ej⟩ := List.getElem?_of_mem hb
  refine ⟨j, b, ej, ?_, w1⟩
  rcases Int.lt_or_le q.2 b.2 with z | z
  · exact absurd ⟨q, hq, .inr rfl⟩ (B.inner hb (p := q.2 + 1) (by omega) (by omega))
  · omega
theorem nodup_sub {α : Type} [DecidableEq α] : ∀ {l m : List α}, l.Nodup → (∀ x ∈ l, x ∈ m) → l.length ≤ m.length
  | [], _, _, _ => Nat.zero_le _
  | a :: l, m, h, hs => by
    have hm := hs a List.mem_cons_self
    have h' := List.nodup_cons.mp h
    have ih := nodup_sub (l := l) (m := m.erase a) h'.2 (fun x hx => (List.mem_erase_of_ne (fun e => h'.1 (by rw [← e]; exact hx))).mpr (hs x (List.mem_cons_of_mem _ hx)))
    rw [List.length_erase_of_mem hm] at ih
    have := List.length_pos_of_mem hm
    rw [List.length_cons]
    omega
theorem blocks_few {row : List (Int × Int)} (g : Good row) : (blocksOf row).length ≤ 2 * row.length := by
  have B := blocks_bl g
  have nd : ((blocksOf row).map (·.1)).Nodup := by
    rw [B.fst]
    refine List.Pairwise.map _ (fun a b h e => h (Int.ofNat.inj e)) ((List.nodup_range).filter _)
  have z := nodup_sub (m := row.map (·.1) ++ row.map (fun q => q.2 + 1)) nd (fun c hc => by
    rw [B.fst] at hc
    obtain ⟨n, hn, rfl⟩ := List.mem_map.mp hc
    obtain ⟨q, hq, w⟩ := of_decide_eq_true (Bool.and_eq_true_iff.mp (List.mem_filter.mp hn).2).2
    rcases w with w | w
    · exact List.mem_append_left _ (List.mem_map.mpr ⟨q, hq, w⟩)
    · exact List.mem_append_right _ (List.mem_map.mpr ⟨q, hq, w⟩))
  rw [List.length_map, List.length_append, List.length_map, List.length_map] at z
  omega


/-! ### the program's find_blocks -/
structure Dd (row : List (Int × Int)) (kvs : List (Key × V)) : Prop where
  val : ∀ k : Int, valV kvs (Sum.inl k) = if Bd row k then some (.int (delI row k)) else none
  nd : (kvs.map (·.1)).Nodup
  keys : ∃ ks : List Int, kvs.map (·.1) = ks.map Sum.inl
  len : kvs.length ≤ 2 * row.length
theorem keys_put (kvs : List (Key × V)) (k : Key) (v : V) : ((putK kvs k v).map (·.1) = kvs.map (·.1) ∧ k ∈ kvs.map (·.1)) ∨ ((putK kvs k v).map (·.1) = kvs.map (·.1) ++ [k] ∧ k ∉ kvs.map (·.1)) := by
  cases e : valV kvs k with
  | none =>
    refine .inr ⟨?_, valV_not e⟩
    rw [putK_new v e, List.map_append]
    rfl
  | some u =>
    refine .inl ⟨?_, valV_in e⟩
    have h : (kvs.any fun kv => decide (kv.1 = k)) = true := by
      rw [valV_any, e]
      rfl
    unfold putK
    rw [if_pos h, List.map_map]
    apply List.map_congr_left
    intro p _
    show (if p.1 = k then (p.1, v) else p).1 = p.1
    split <;> rfl
theorem put_parts {kvs : List (Key × V)} {k : Int} {v : V} (nd : (kvs.map (·.1)).Nodup) (keys : ∃ ks : List Int, kvs.map (·.1) = ks.map Sum.inl) :
    ((putK kvs (Sum.inl k) v).map (·.1)).Nodup ∧ (∃ ks : List Int, (putK kvs (Sum.inl k) v).map (·.1) = ks.map Sum.inl) ∧ (putK kvs (Sum.inl k) v).length ≤ kvs.length + 1 := by
  obtain ⟨ks, ek⟩ := keys
  rcases keys_put kvs (Sum.inl k) v with ⟨e, _⟩ | ⟨e, hn⟩
  · refine ⟨by rw [e]; exact nd, ⟨ks, by rw [e, ek]⟩, ?_⟩
    have l := congrArg List.length e
    rw [List.length_map, List.length_map] at l
    omega
  · refine ⟨?_, ⟨ks ++ [k], by rw [e, ek, List.map_append]; rfl⟩, ?_⟩
    · rw [e]
      exact List.nodup_append.mpr ⟨nd, by simp, fun a ha b hb z => hn (by rw [List.mem_singleton.mp hb] at z; rw [← z]; exact ha)⟩
    · have l := congrArg List.length e
      rw [List.length_map, List.length_append, List.length_map] at l
      simp at l
      omega
theorem bd_snoc {row : List (Int × Int)} {q : Int × Int} {k : Int} : Bd (row ++ [q]) k ↔ Bd row k ∨ q.1 = k ∨ q.2 + 1 = k := by
  constructor
  · rintro ⟨x, hx, h⟩
    rcases List.mem_append.mp hx with hx | hx
    · exact .inl ⟨x, hx, h⟩
    · rw [List.mem_singleton.mp hx] at h
      exact .inr h
  · rintro (⟨x, hx, h⟩ | h)
    · exact ⟨x, List.mem_append_left _ hx, h⟩
    · exact ⟨q, List.mem_append_right _ (List.mem_singleton.mpr rfl), h⟩
theorem del_snoc (row : List (Int × Int)) (q : Int × Int) (k : Int) : delI (row ++ [q]) k = delI row k + ((if q.1 = k then (1 : Int) else 0) - (if q.2 + 1 = k then 1 else 0)) := by
  unfold delI
  rw [List.map_append, List.sum_append, List.map_singleton, List.sum_singleton]
theorem Dd.get {row : List (Int × Int)} {kvs : List (Key × V)} (h : Dd row kvs) (k : Int) : (valV kvs (Sum.inl k)).getD (.int 0) = .int (delI row k) := by
  rw [h.val]
  by_cases b : Bd row k
  · rw [if_pos b]
    rfl
  · rw [if_neg b, del_zero b]
    rfl
theorem Dd.step {row : List (Int × Int)} {kvs : List (Key × V)} (h : Dd row kvs) {x y : Int} (xy : x ≤ y) :
    Dd (row ++ [(x, y)]) (putK (putK kvs (Sum.inl x) (.int (delI row x + 1))) (Sum.inl (y + 1)) (.int (delI row (y + 1) - 1))) := by
  obtain ⟨n1, k1, l1⟩ := put_parts (k := x) (v := .int (delI row x + 1)) h.nd h.keys
  obtain ⟨n2, k2, l2⟩ := put_parts (k := y + 1) (v := .int (delI row (y + 1) - 1)) n1 k1
  refine ⟨fun k => ?_, n2, k2, ?_⟩
  · rw [valV_put, valV_put, h.val]
    by_cases e1 : k = y + 1
    · have b : Bd (row ++ [(x, y)]) k := bd_snoc.mpr (.inr (.inr e1.symm))
      rw [if_pos (by rw [e1]), if_pos b, del_snoc, e1, if_neg (show ¬ x = y + 1 by omega), if_pos rfl]
      congr 2
    · rw [if_neg (fun z => e1 (Sum.inl.inj z))]
      by_cases e2 : k = x
      · have b : Bd (row ++ [(x, y)]) k := bd_snoc.mpr (.inr (.inl e2.symm))
        rw [if_pos (by rw [e2]), if_pos b, del_snoc, e2, if_pos rfl, if_neg (show ¬ y + 1 = x by omega)]
        congr 2
      · rw [if_neg (fun z => e2 (Sum.inl.inj z))]
        have same : delI (row ++ [(x, y)]) k = delI row k := by
          rw [del_snoc, if_neg (fun z => e2 z.symm), if_neg (fun z => e1 z.symm)]
          omega
        by_cases b : Bd row k
        · rw [if_pos b, if_pos (bd_snoc.mpr (.inl b)), same]
        · rw [if_neg b, if_neg (fun z => (bd_snoc.mp z).elim b (fun w => w.elim (fun w => e2 w.symm) (fun w => e1 w.symm)))]
  · rw [List.length_append, List.length_singleton]
    have := h.len
    omega
def sp_depth_changes : Sp := fun vs H Q _ => ∃ (a : Addr) (us : List V) (row : List (Int × Int)), vs = [.ref a] ∧ H a = some (.tup us) ∧ Ivs H us row ∧ (∀ q ∈ row, q.1 ≤ q.2) ∧ row.length ≤ 100 ∧
  ∀ H' p kvs, Same H H' → H p = none → H' p = some (.dK kvs) → Dd row kvs → Q (.ref p) H'
theorem ok_depth_changes (T : Tx K mg f_depth_changes f_find_blocks f_has_position f_contains f_serves f_conflict f_demands_at_blocks f_is_open f_open_demands f_shadow_target f_require_few_blocks f_decisive_demands f_largest_independent f_count_needed f_law_draws f_law_next f_law_one f_law_spans f_law_covers f_law_every f_law_least f_law_served f_law_clash f_law_most f_law_right f_law d_depth_changes d_find_blocks d_has_position d_contains d_serves d_conflict d_demands_at_blocks d_is_open d_open_demands d_shadow_target d_require_few_blocks d_decisive_demands d_largest_independent d_count_needed d_law_draws d_law_next d_law_one d_law_spans d_law_covers d_law_every d_law_least d_law_served d_law_clash d_law_most d_law_right d_law t_MAX_BLOCKS) : FnOk P w K mg base CX0 1 f_depth_changes d_depth_changes ["intervals"] sp_depth_changes := by
  refine T.F_depth_changes.ok sc_depth_changes (fun vs H Q E h => ?_) (fun cdv A outer s H vs Q E hr h => ?_)
  · obtain ⟨a, us, row, rfl, _⟩ := h
    rfl
  · obtain ⟨a, us, row, rfl, ha, iv, xy, few, q⟩ := h
    refine ⟨_, (pss_cons (ps_set (i := 1) sc_depth_changes.nd rfl (Or.inl rfl) pe_dnewK)
      (pss_cons (ps_for PassesOwn.never rfl (pi_tup (pv 0)) (pg_tup rfl (pgs_cons (pg_name (i := 2) sc_depth_changes.nd rfl (Or.inl rfl)) (pgs_cons (pg_name (i := 3) sc_depth_changes.nd rfl (Or.inl rfl)) pgs_nil)))
      (pss_cons (ps_dput (hu_of hr) (pv 1) (pv 2) (pe_op op_add (pe_dget2 (hu_of hr) (pv 1) (pv 2) pe_int ⟨rfl, rfl, rfl, rfl⟩) pe_int) rfl)
      (pss_one (ps_dput (hu_of hr) (pv 1) (pe_op op_add (pv 3) pe_int) (pe_op op_sub (pe_dget2 (hu_of hr) (pv 1) (pe_op op_add (pv 3) pe_int) pe_int ⟨rfl, rfl, rfl, rfl⟩) pe_int) rfl))))
      (pss_one (ps_ret (pv 1))))), ?_⟩
    refine fun p np => ?_
    refine ⟨.ref a, rfl, a, rfl, ⟨_, SqT.of (same_new np _ _ ha)⟩, for_tup (K := K) (a := a) (xs := us) (fun i σ H' => Same H H' ∧ (∃ kvs, H' p = some (.dK kvs) ∧ Dd (row.take i) kvs) ∧ ∃ y2 y3, σ = [some (.ref a), some (.ref p), y2, y3])
      ⟨same_new np, ⟨[], upd_same, ⟨fun k => rfl, List.nodup_nil, ⟨[], rfl⟩, Nat.zero_le _⟩⟩, _, _, rfl⟩ (fun i σ H' _ h => SqT.of (h.1 _ _ ha)) ?_ ?_⟩
    · rintro i v σ H1 hi ⟨sm, ⟨kvs, ep, dd⟩, y2, y3, rfl⟩
      obtain ⟨b, x, y, rfl, er, eb⟩ := iv.get hi
      have le := xy _ (List.mem_of_getElem? er)
      have lt := List.length_take_le' i row
      have len := dd.len
      refine ⟨b, _, rfl, SqT.of (sm _ _ eb), rfl, .int x, [.int y], rfl, .int y, [], rfl, rfl, ?_⟩
      refine ⟨.ref p, rfl, p, rfl, .inl ⟨kvs, .inl ep⟩, .int x, rfl, _, DGet.k (k := Sum.inl x) ep, _, _, dd.get x, rfl, .ref p, rfl, .int x, rfl, p, _, rfl, DPut.k (k := Sum.inl x) ep (small1000 (by omega)), ?_⟩
      have e1 := upd_same (H := H1) (a := p) (o := .dK (putK kvs (Sum.inl x) (.int (delI (row.take i) x + 1))))
      have g1 : (valV (putK kvs (Sum.inl x) (.int (delI (row.take i) x + 1))) (Sum.inl (y + 1))).getD (.int 0) = .int (delI (row.take i) (y + 1)) := by
        rw [valV_put, if_neg (fun z => by
          have z' := Sum.inl.inj z
          have le' : x ≤ y := le
          omega)]
        exact dd.get (y + 1)
      obtain ⟨_, _, l1⟩ := put_parts (k := x) (v := .int (delI (row.take i) x + 1)) dd.nd dd.keys
      refine ⟨.ref p, rfl, p, rfl, .inl ⟨_, .inl e1⟩, .int y, rfl, _, _, rfl, rfl, _, DGet.k (k := Sum.inl (y + 1)) e1, _, _, g1, rfl, .ref p, rfl, .int y, rfl, _, _, rfl, rfl, p, _, rfl, DPut.k (k := Sum.inl (y + 1)) e1 (small1000 (by omega)), ?_⟩
      refine ⟨fun b' o eb' => ?_, ⟨_, upd_same, ?_⟩, _, _, rfl⟩
      · have nb := ne_of_none eb' np
        rw [upd_ne nb, upd_ne nb]
        exact sm _ _ eb'
      · rw [List.take_add_one, er]
        exact dd.step le
    · rintro σ H1 ⟨sm, ⟨kvs, ep, dd⟩, y2, y3, rfl⟩
      rw [iv.length, List.take_length] at dd
      exact ⟨.ref p, rfl, q _ p kvs sm np ep dd⟩

structure Bs (row : List (Int × Int)) (bs : List Int) : Prop where
  mem : ∀ k, k ∈ bs ↔ Bd row k
  srt : bs.Pairwise (· < ·)
theorem Bs.lt {row : List (Int × Int)} {bs : List Int} (h : Bs row bs) {i j : Nat} {a b : Int} (ij : i < j) (ea : bs[i]? = some a) (eb : bs[j]? = some b) : a < b := by
  obtain ⟨hi, rfl⟩ := List.getElem?_eq_some_iff.mp ea
  obtain ⟨hj, rfl⟩ := List.getElem?_eq_some_iff.mp eb
  exact List.pairwise_iff_getElem.mp h.srt i j hi hj ij
theorem Bs.gap {row : List (Int × Int)} {bs : List Int} (h : Bs row bs) {i : Nat} {a b : Int} (ea : bs[i]? = some a) (eb : bs[i + 1]? = some b) : ∀ j : Int, a < j → j < b → ¬ Bd row j := by
  intro j h1 h2 hb
  obtain ⟨m, hm⟩ := List.getElem?_of_mem ((h.mem j).mpr hb)
  rcases Nat.lt_trichotomy m i with z | z | z
  · have := h.lt z hm ea
    omega
  · subst z
    rw [ea] at hm
    cases hm
    omega
  · rcases Nat.lt_or_ge (i + 1) m with z2 | z2
    · have := h.lt z2 eb hm
      omega
    · have z3 : m = i + 1 := by omega
      subst z3
      rw [eb] at hm
      cases hm
      omega
theorem Bs.first {row : List (Int × Int)} {bs : List Int} (h : Bs row bs) {a : Int} (ea : bs[0]? = some a) {k : Int} (hb : Bd row k) : a ≤ k := by
  obtain ⟨m, hm⟩ := List.getElem?_of_mem ((h.mem k).mpr hb)
  rcases Nat.lt_or_ge 0 m with z | z
  · have := h.lt z ea hm
    omega
  · have z2 : m = 0 := by omega
    subst z2
    rw [ea] at hm
    cases hm
    exact Int.le_refl _
theorem Bs.last {row : List (Int × Int)} {bs : List Int} (h : Bs row bs) {i : Nat} {a : Int} (ea : bs[i]? = some a) (hi : i + 1 = bs.length) {k : Int} (hb : Bd row k) : k ≤ a := by
  obtain ⟨m, hm⟩ := List.getElem?_of_mem ((h.mem k).mpr hb)
  have hl := (List.getElem?_eq_some_iff.mp hm).1
  rcases Nat.lt_or_ge m i with z | z
  · have := h.lt z hm ea
    omega
  · have z2 : m = i := by omega
    subst z2
    rw [ea] at hm
    cases hm
    exact Int.le_refl _
theorem Dd.bs {row : List (Int × Int)} {kvs : List (Key × V)} (dd : Dd row kvs) {ks bs : List Int} (ek : kvs.map (·.1) = ks.map Sum.inl) (perm : bs.Perm ks) (srt : bs.Pairwise (· ≤ ·)) : Bs row bs := by
  have ndk : ks.Nodup := by
    have z := dd.nd
    rw [ek] at z
    exact List.Pairwise.of_map Sum.inl (fun a b h e => h (by rw [e])) z
  have ndb : bs.Nodup := perm.nodup_iff.mpr ndk
  refine ⟨fun k => ?_, ?_⟩
  · rw [perm.mem_iff]
    constructor
    · intro hk
      have hm : (Sum.inl k : Key) ∈ kvs.map (·.1) := by
        rw [ek]
        exact List.mem_map.mpr ⟨k, hk, rfl⟩
      by_cases b : Bd row k
      · exact b
      · have v := dd.val k
        rw [if_neg b] at v
        exact absurd hm (valV_not v)
    · intro b
      have v := dd.val k
      rw [if_pos b] at v
      have hm := valV_in v
      rw [ek] at hm
      obtain ⟨j, hj, e⟩ := List.mem_map.mp hm
      rw [← Sum.inl.inj e]
      exact hj
  · refine (srt.and ndb).imp fun {a b} h => ?_
    have h1 := h.1
    have h2 := h.2
    omega
theorem Cb_next {row : List (Int × Int)} (g : Good row) {bs : List Int} (h : Bs row bs) {i : Nat} {a b : Int} (ea : bs[i]? = some a) (eb : bs[i + 1]? = some b) (a0 : 0 ≤ a) :
    Cb row b.toNat = (if 0 < depI row a then Cb row a.toNat ++ [(a, b - 1)] else Cb row a.toNat) ∧ depI row (b - 1) = depI row a := by
  have ab := h.lt (Nat.lt_succ_self i) ea eb
  have gap := h.gap ea eb
  have hb : Bd row a := (h.mem a).mp (List.mem_of_getElem? ea)
  have ca : ((a.toNat : Nat) : Int) = a := by omega
  have seg := Cb_seg g (a := a.toNat) (b - a - 1).toNat (fun j h1 h2 => gap j (by omega) (by omega))
  have e : a.toNat + (b - a - 1).toNat + 1 = b.toNat := by omega
  rw [e, ca, if_pos hb, show a + ((b - a - 1).toNat : Int) = b - 1 by omega] at seg
  refine ⟨seg, ?_⟩
  have dc := dep_const g (a := a) (b - a - 1).toNat (fun j h1 h2 => gap j h1 (by omega))
  rw [show a + ((b - a - 1).toNat : Int) = b - 1 by omega] at dc
  exact dc
def atB (row : List (Int × Int)) (bs : List Int) (i : Nat) : List (Int × Int) := match bs[i]? with
  | some b => Cb row b.toNat
  | none => []
def depB (row : List (Int × Int)) (bs : List Int) (i : Nat) : Int := match bs[i]? with
  | some b => depI row (b - 1)
  | none => 0
theorem atB_some {row : List (Int × Int)} {bs : List Int} {i : Nat} {b : Int} (e : bs[i]? = some b) : atB row bs i = Cb row b.toNat := by
  unfold atB
  rw [e]
theorem depB_some {row : List (Int × Int)} {bs : List Int} {i : Nat} {b : Int} (e : bs[i]? = some b) : depB row bs i = depI row (b - 1) := by
  unfold depB
  rw [e]
theorem atB_start {row : List (Int × Int)} (g : Good row) {bs : List Int} (h : Bs row bs) : atB row bs 0 = [] ∧ depB row bs 0 = 0 := by
  cases e : bs[0]? with
  | none =>
    unfold atB depB
    rw [e]
    exact ⟨rfl, rfl⟩
  | some b =>
    rw [atB_some e, depB_some e]
    have low : ∀ q ∈ row, b ≤ q.1 := fun q hq => h.first e ⟨q, hq, .inl rfl⟩
    have b0 : 0 ≤ b := by
      obtain ⟨q, hq, w⟩ := (h.mem b).mp (List.mem_of_getElem? e)
      have := g q hq
      omega
    refine ⟨Cb_low fun q hq => ?_, dep_zero fun q hq => .inl ?_⟩
    · have := low q hq
      omega
    · have := low q hq
      omega
theorem atB_end {row : List (Int × Int)} (g : Good row) {bs : List Int} (h : Bs row bs) {i : Nat} (hi : i = bs.length - 1) : atB row bs i = blocksOf row := by
  cases e : bs[i]? with
  | none =>
    have le := List.getElem?_eq_none_iff.mp e
    have nil : bs = [] := by
      cases bs with
      | nil => rfl
      | cons x r =>
        rw [List.length_cons] at hi le
        omega
    have rn : row = [] := by
      cases row with
      | nil => rfl
      | cons q r =>
        have z := (h.mem q.1).mpr ⟨q, List.mem_cons_self, .inl rfl⟩
        rw [nil] at z
        cases z
    unfold atB
    rw [e, rn]
    rfl
  | some b =>
    have lt := (List.getElem?_eq_some_iff.mp e).1
    rw [atB_some e]
    apply Cb_all
    intro q hq
    have := h.last e (by omega) ⟨q, hq, .inr rfl⟩
    omega
def sp_find_blocks : Sp := fun vs H Q _ => ∃ (a : Addr) (us : List V) (row : List (Int × Int)), vs = [.ref a] ∧ H a = some (.tup us) ∧ Ivs H us row ∧ Good row ∧ row.length ≤ 31 ∧
  ∀ H' p ws, Same H H' → H' p = some (.tup ws) → Ivs H' ws (blocksOf row) → Q (.ref p) H'
theorem cutFrom1 (xs : List V) : cutV xs (some 1) none = xs.drop 1 := by
  unfold cutV
  rw [show HT.sIx xs.length 0 (some 1) = min 1 xs.length from HT.sIx_nat xs.length 0 1, HT.sIx_none]
  cases xs with
  | nil => rfl
  | cons x r =>
    rw [List.length_cons, show min 1 (r.length + 1) = 1 by omega]
    show List.take (r.length + 1 - 1) r = r
    rw [Nat.add_sub_cancel]
    exact List.take_length
theorem ok_find_blocks (T : Tx K mg f_depth_changes f_find_blocks f_has_position f_contains f_serves f_conflict f_demands_at_blocks f_is_open f_open_demands f_shadow_target f_require_few_blocks f_decisive_demands f_largest_independent f_count_needed f_law_draws f_law_next f_law_one f_law_spans f_law_covers f_law_every f_law_least f_law_served f_law_clash f_law_most f_law_right f_law d_depth_changes d_find_blocks d_has_position d_contains d_serves d_conflict d_demands_at_blocks d_is_open d_open_demands d_shadow_target d_require_few_blocks d_decisive_demands d_largest_independent d_count_needed d_law_draws d_law_next d_law_one d_law_spans d_law_covers d_law_every d_law_least d_law_served d_law_clash d_law_most d_law_right d_law t_MAX_BLOCKS) : FnOk P w K mg base CX0 2 f_find_blocks d_find_blocks ["intervals"] sp_find_blocks := by
  refine T.F_find_blocks.ok sc_find_blocks (fun vs H Q E h => ?_) (fun cdv A outer s H vs Q E hr h => ?_)
  · obtain ⟨a, us, row, rfl, _⟩ := h
    rfl
  · obtain ⟨a, us, row, rfl, ha, iv, good, few, q⟩ := h
    refine ⟨_, (pss_cons (ps_set (i := 1) sc_find_blocks.nd rfl (Or.inl rfl) (pe_call (ok_depth_changes T) (hr.mono (by decide)) (by rfl) T.g_depth_changes T.F_depth_changes.kp T.b_depth_changes .nil pass0 (pa_cons (pv 0) pa_nil)))
      (pss_cons (ps_set (i := 2) sc_find_blocks.nd rfl (Or.inl rfl) (pe_callB (call_sortedDI rfl) (by rfl) T.z_sorted (by decide +kernel) (pa_cons (pv 1) pa_nil)))
      (pss_cons (ps_set (i := 3) sc_find_blocks.nd rfl (Or.inl rfl) (pe_lst pa_nil))
      (pss_cons (ps_set (i := 4) sc_find_blocks.nd rfl (Or.inl rfl) pe_int)
      (pss_cons (ps_for PassesOwn.never rfl (pi_zip (by rfl) T.z_zip (pa_cons (pv 2) (pa_cons (pe_slice sl_list (pv 2) (po_some pe_int) po_none) pa_nil))) (pg_tup rfl (pgs_cons (pg_name (i := 5) sc_find_blocks.nd rfl (Or.inl rfl)) (pgs_cons (pg_name (i := 6) sc_find_blocks.nd rfl (Or.inl rfl)) pgs_nil)))
      (pss_cons (ps_aug (i := 4) sc_find_blocks.nd rfl (Or.inl rfl) (pe_dget (hu_of hr) (pv 1) (pv 5) (fun _ _ => rfl)) ip_add)
      (pss_one (ps_if (pt_cmpR op_gt (pv 4) pe_int (nomark _))
      (pss_one (ps_expr (pe_bm PySem.F.plainAttrs_list PySem.F.slot_list_append PySem.F.type_list_append mt_append (pv 3) (pa_cons (pe_tup (pa_cons (pv 5) (pa_cons (pe_op op_sub (pv 6) pe_int) pa_nil))) pa_nil))))
      pss_nil))))
      (pss_one (ps_ret (pe_callTy call_tuple_of (by rfl) T.z_tuple (by decide +kernel) (pa_cons (pv 3) pa_nil))))))))), ?_⟩
    refine ⟨.ref a, rfl, a, us, row, rfl, ha, iv, fun x hx => (good x hx).2, by omega, fun H1 pc kvs s1 npc ec dd => ?_⟩
    obtain ⟨ks, ek⟩ := dd.keys
    have lk : kvs.length = ks.length := by
      have z := congrArg List.length ek
      rw [List.length_map, List.length_map] at z
      exact z
    have dl := dd.len
    refine ⟨.ref pc, rfl, pc, kvs, ks, rfl, .inl ec, ek, by omega, fun bs pb perm srt npb => ?_⟩
    have hB := dd.bs ek perm srt
    have lb : bs.length = ks.length := perm.length_eq
    have s2 := same_new (o := .lst (bs.map V.int)) npb
    have eb := upd_same (H := H1) (a := pb) (o := .lst (bs.map V.int))
    generalize upd H1 pb (.lst (bs.map V.int)) = H2 at *
    refine ⟨by show 0 ≤ sizeLine; decide, fun pl npl => ?_⟩
    have nbl : pb ≠ pl := ne_of_none eb npl
    have ncl : pc ≠ pl := ne_of_none (s2 _ _ ec) npl
    have npl0 : H pl = none := (s1.trans s2).free npl
    have s3 := same_new (o := .lst []) npl
    have el := upd_same (H := H2) (a := pl) (o := .lst [])
    generalize upd H2 pl (.lst []) = H3 at *
    refine ⟨.ref pb, rfl, .ref pb, rfl, 1, rfl, pb, _, rfl, SqL.of (s3 _ _ eb), fun pz npz => ?_⟩
    rw [cutFrom1]
    have nlz : pl ≠ pz := ne_of_none el npz
    have s4 := same_new (o := .lst ((bs.map V.int).drop 1)) npz
    have ez := upd_same (H := H3) (a := pz) (o := .lst ((bs.map V.int).drop 1))
    generalize upd H3 pz (.lst ((bs.map V.int).drop 1)) = H4 at *
    replace eb := s4 _ _ (s3 _ _ eb)
    replace ec := s4 _ _ (s3 _ _ (s2 _ _ ec))
    replace el := s4 _ _ el
    have sm4 : Same H H4 := s1.trans (s2.trans (s3.trans s4))
    obtain ⟨st1, st2⟩ := atB_start good hB
    refine ⟨pb, pz, bs.map V.int, (bs.map V.int).drop 1, rfl, SqL.of eb, SqL.of ez, ?_⟩
    refine ⟨fun i m σ H' => i + m = bs.length - 1 ∧ Same H H' ∧ H' pb = some (.lst (bs.map V.int)) ∧ H' pz = some (.lst ((bs.map V.int).drop 1)) ∧ H' pc = some (.dK kvs) ∧ (∃ ws, H' pl = some (.lst ws) ∧ ws.length ≤ i ∧ Ivs H' ws (atB row bs i)) ∧
        ∃ y5 y6, σ = [some (.ref a), some (.ref pc), some (.ref pb), some (.ref pl), some (.int (depB row bs i)), y5, y6],
      ⟨bs.length - 1, by omega, sm4, eb, ez, ec, ⟨[], el, Nat.zero_le _, by rw [st1]; exact .nil⟩, none, none, by rw [st2]; rfl⟩, fun i m σ H5 hW => ?_⟩
    obtain ⟨em, sm, fb, fz, fc, ⟨ws, fl, wl, ivw⟩, y5, y6, rfl⟩ := hW
    by_cases hi : i < bs.length - 1
    · obtain ⟨x, ex⟩ : ∃ x, bs[i]? = some x := ⟨bs[i], List.getElem?_eq_getElem (by omega)⟩
      obtain ⟨y, ey⟩ : ∃ y, bs[i + 1]? = some y := ⟨bs[i + 1], List.getElem?_eq_getElem (by omega)⟩
      have g1 : (bs.map V.int)[i]? = some (.int x) := by
        rw [List.getElem?_map, ex]
        rfl
      have g2 : ((bs.map V.int).drop 1)[i]? = some (.int y) := by
        rw [List.getElem?_drop, Nat.add_comm 1 i, List.getElem?_map, ey]
        rfl
      have hbx : Bd row x := (hB.mem x).mp (List.mem_of_getElem? ex)
      have x0 : 0 ≤ x := by
        obtain ⟨r, hr1, w1⟩ := hbx
        have := good r hr1
        omega
      obtain ⟨cn, dn⟩ := Cb_next good hB ex ey x0
      have hval : valV kvs (Sum.inl x) = some (.int (delI row x)) := by
        rw [dd.val, if_pos hbx]
      refine .inr ⟨⟨_, _, _, _, SqL.of fb, SqL.of fz, g1, g2⟩, fun σ' H' => Same H H' ∧ H' pb = some (.lst (bs.map V.int)) ∧ H' pz = some (.lst ((bs.map V.int).drop 1)) ∧ H' pc = some (.dK kvs) ∧ (∃ ws, H' pl = some (.lst ws) ∧ ws.length ≤ i + 1 ∧ Ivs H' ws (atB row bs (i + 1))) ∧
          ∃ y5 y6, σ' = [some (.ref a), some (.ref pc), some (.ref pb), some (.ref pl), some (.int (depB row bs (i + 1))), y5, y6], fun σ' H' hN => ?_, fun z H' hy => ?_⟩
      · obtain ⟨n1, n2, n3, n4, n5, n6⟩ := hN
        exact ⟨m - 1, by omega, by omega, n1, n2, n3, n4, n5, n6⟩
      · obtain ⟨tt, x1, x2, rfl, nT, rfl, f1, f2⟩ := hy
        have ex1 : x1 = .int x := Option.some.inj ((f1 _ (SqL.of fb)).symm.trans g1)
        have ex2 : x2 = .int y := Option.some.inj ((f2 _ (SqL.of fz)).symm.trans g2)
        subst ex1 ex2
        have sT := same_new (o := .tup [.int x, .int y]) nT
        have eT := upd_same (H := H5) (a := tt) (o := .tup [.int x, .int y])
        generalize upd H5 tt (.tup [.int x, .int y]) = H6 at *
        refine ⟨tt, _, rfl, SqT.of eT, rfl, .int x, [.int y], rfl, .int y, [], rfl, rfl, ?_⟩
        have dg := DGet.k (k := Sum.inl x) (sT _ _ fc)
        rw [hval] at dg
        refine ⟨_, rfl, .ref pc, rfl, .int x, rfl, pc, _, rfl, dg, _, _, rfl, rfl, ?_⟩
        have ed : depB row bs i + delI row x = depI row x := by
          rw [depB_some ex]
          exact (dep_step good x).symm
        have ed2 : depB row bs (i + 1) = depI row x := by
          rw [depB_some ey]
          exact dn
        have ea2 : atB row bs (i + 1) = if 0 < depI row x then atB row bs i ++ [(x, y - 1)] else atB row bs i := by
          rw [atB_some ey, atB_some ex]
          exact cn
        refine ⟨_, rfl, _, _, rfl, rfl, _, rfl, ite2 (fun e => ?_) (fun e => ?_)⟩
        · have e1 : 0 < depB row bs i + delI row x := of_decide_eq_true e
          rw [ed] at e1
          refine ⟨.ref pl, rfl, .inl ⟨rfl, _, SqL.of (sT _ _ fl)⟩, .int x, rfl, .int y, rfl, _, _, rfl, rfl, by show 2 ≤ sizeLine; decide, fun t nt => ?_⟩
          have st := same_new (o := .tup [.int x, .int (y - 1)]) nt
          have et := upd_same (H := H6) (a := t) (o := .tup [.int x, .int (y - 1)])
          generalize upd H6 t (.tup [.int x, .int (y - 1)]) = H7 at *
          have fl7 := st _ _ (sT _ _ fl)
          refine ⟨pl, ws, _, rfl, rfl, fl7, small1000 (by omega), ?_⟩
          have up : ∀ {b' : Addr} {o' : HO}, b' ≠ pl → H5 b' = some o' → (upd H7 pl (.lst (ws ++ [.ref t]))) b' = some o' := fun nb e' => by
            rw [upd_ne nb]
            exact st _ _ (sT _ _ e')
          have upI : ∀ {vs : List V} {qs : List (Int × Int)}, Ivs H5 vs qs → Ivs (upd H7 pl (.lst (ws ++ [.ref t]))) vs qs := by
            intro vs qs hv
            induction hv with
            | nil => exact .nil
            | cons e' _ ih => exact .cons (up (ne_of e' fl (fun z => by cases z)) e') ih
          refine ⟨fun b' o' e' => up (ne_of_none e' npl0) (sm _ _ e'), up nbl fb, up nlz.symm fz, up ncl fc, ⟨_, upd_same, ?_, ?_⟩, some (.int x), some (.int y), ?_⟩
          · rw [List.length_append, List.length_singleton]
            omega
          · rw [ea2, if_pos e1]
            refine (upI ivw).snoc ?_
            rw [upd_ne (ne_of et fl7 (fun z => by cases z))]
            exact et
          · rw [ed2, ← ed]
            rfl
        · have e1 : ¬ 0 < depI row x := fun z => e (by
            rw [← ed] at z
            exact decide_eq_true z)
          refine ⟨sm.trans sT, sT _ _ fb, sT _ _ fz, sT _ _ fc, ⟨ws, sT _ _ fl, by omega, ?_⟩, some (.int x), some (.int y), ?_⟩
          · rw [ea2, if_neg e1]
            exact ivw.same sT
          · rw [ed2, ← ed]
            rfl
    · refine .inl ⟨⟨_, _, SqL.of fb, SqL.of fz, .inr ?_⟩, ?_⟩
      · rw [List.length_drop, List.length_map]
        omega
      · have ei : i = bs.length - 1 := by omega
        rw [atB_end good hB ei] at ivw
        refine ⟨.ref pl, rfl, pl, ws, rfl, .inl ⟨SqL.of fl, fun p np => ?_⟩⟩
        exact q _ p ws (sm.trans (same_new np)) upd_same (ivw.same (same_new np))

/-! ### tuples joined and cut, whichever object comes out -/
theorem catA_any {K : PySem.W.Frag} {H : Hp} {a b : Addr} {xs ys : List V} {Q : VK} (h1 : H a = some (.tup xs)) (h2 : H b = some (.tup ys)) (sz : xs.length + ys.length ≤ sizeLine) (k : ∀ H' p, Same H H' → H' p = some (.tup (xs ++ ys)) → Q (.ref p) H') : rCatA K (.ref a) (.ref b) H Q := by
  refine ⟨a, b, xs, ys, rfl, rfl, SqT.of h1, SqT.of h2, sz, fun e => k H b (Same.refl _) ?_, fun _ e => k H a (Same.refl _) ?_, fun _ _ p np => k _ p (same_new np) upd_same⟩
  · rw [e]
    exact h2
  · rw [e, List.append_nil]
    exact h1
theorem slA_any {K : PySem.W.Frag} {H : Hp} {a : Addr} {xs : List V} {lo hi : Option Int} {Q : VK} (h1 : H a = some (.tup xs)) (k : ∀ H' p, Same H H' → H' p = some (.tup (cutV xs lo hi)) → Q (.ref p) H') : rSlA K (.ref a) lo hi H Q := by
  refine ⟨a, xs, rfl, SqT.of h1, fun e => k H a (Same.refl _) ?_, fun _ p np => k _ p (same_new np) upd_same⟩
  have e2 : cutV xs lo hi = xs := by
    unfold cutV
    rw [e.1, e.2]
    simp
  rw [e2]
  exact h1
theorem Ivs.take {H : Hp} {vs : List V} {ps : List (Int × Int)} (h : Ivs H vs ps) : ∀ n : Nat, Ivs H (vs.take n) (ps.take n) := by
  induction h with
  | nil =>
    intro n
    rw [List.take_nil, List.take_nil]
    exact .nil
  | cons e _ ih =>
    intro n
    cases n with
    | zero => exact .nil
    | succ n => exact .cons e (ih n)

/-! ### demands at the beginnings of blocks; open demands -/
def dabT (ts : List (Int × Int)) (x : Int) : List (Int × Int × Int) := (ts.filter fun t => atP t.1 t.2 x).map fun t => (x, t.1, t.2)
def dab (ts bs : List (Int × Int)) : List (Int × Int × Int) := bs.flatMap fun b => dabT ts b.1
theorem dab_snoc {ts bs : List (Int × Int)} {b : Int × Int} : dab ts (bs ++ [b]) = dab ts bs ++ dabT ts b.1 := by
  unfold dab
  rw [List.flatMap_append]
  simp
theorem dab_len {ts : List (Int × Int)} : ∀ {bs : List (Int × Int)}, (dab ts bs).length ≤ bs.length * ts.length
  | [] => Nat.zero_le _
  | b :: bs => by
    have ih := dab_len (ts := ts) (bs := bs)
    unfold dab at ih ⊢
    rw [List.flatMap_cons, List.length_append, List.length_cons, Nat.add_mul]
    have : (dabT ts b.1).length ≤ ts.length := by
      unfold dabT
      rw [List.length_map]
      exact List.length_filter_le _ _
    omega
def sp_demands_at_blocks : Sp := fun vs H Q _ => ∃ (a b : Addr) (us ws : List V) (ts bs : List (Int × Int)), vs = [.ref a, .ref b] ∧ H a = some (.tup us) ∧ H b = some (.tup ws) ∧ Ivs H us ts ∧ Ivs H ws bs ∧ ts.length ≤ 30 ∧ bs.length ≤ 100 ∧
  ∀ H' p zs, Same H H' → H' p = some (.lst zs) → Dms H' zs (dab ts bs) → Q (.ref p) H'
theorem ok_demands_at_blocks (T : Tx K mg f_depth_changes f_find_blocks f_has_position f_contains f_serves f_conflict f_demands_at_blocks f_is_open f_open_demands f_shadow_target f_require_few_blocks f_decisive_demands f_largest_independent f_count_needed f_law_draws f_law_next f_law_one f_law_spans f_law_covers f_law_every f_law_least f_law_served f_law_clash f_law_most f_law_right f_law d_depth_changes d_find_blocks d_has_position d_contains d_serves d_conflict d_demands_at_blocks d_is_open d_open_demands d_shadow_target d_require_few_blocks d_decisive_demands d_largest_independent d_count_needed d_law_draws d_law_next d_law_one d_law_spans d_law_covers d_law_every d_law_least d_law_served d_law_clash d_law_most d_law_right d_law t_MAX_BLOCKS) : FnOk P w K mg base CX0 2 f_demands_at_blocks d_demands_at_blocks ["targets", "blocks"] sp_demands_at_blocks := by
  refine T.F_demands_at_blocks.ok sc_demands_at_blocks (fun vs H Q E h => ?_) (fun cdv A outer s H vs Q E hr h => ?_)
  · obtain ⟨a, b, us, ws, ts, bs, rfl, _⟩ := h
    rfl
  · obtain ⟨a, b, us, ws, ts, bs, rfl, ha, hb, ivt, ivb, lt, lb, q⟩ := h
    have lu := ivt.length
    have lw := ivb.length
    refine ⟨_, (pss_one (ps_ret (pe_lc2 (own := [("low", 2), ("high", 3), ("target", 4)]) (vs1 := [4]) (g := (gTup K 2 (gCons (gName 2) (gCons (gName 3) gNil)))) (g1 := (gName 4)) (tt := tYes) (by rfl) sc_demands_at_blocks.nd (pi_tup (pv 1)) (blkOk_by (own := [("low", 2), ("high", 3), ("target", 4)]) (N := N_demands_at_blocks) (sc := defScope s_demands_at_blocks) (by decide +kernel)) (by decide) (fun _ _ _ _ _ => (pg_tup rfl (pgs_cons (pg_name (i := 2) sc_demands_at_blocks.nd rfl (Or.inl rfl)) (pgs_cons (pg_name (i := 3) sc_demands_at_blocks.nd rfl (Or.inl rfl)) pgs_nil)))) (fun _ _ _ _ _ => pts_nil) (fun _ _ _ _ _ => (pi_tupK (K := K) rfl (pv 0))) (fun _ _ _ _ _ => (pg_name (i := 4) sc_demands_at_blocks.nd rfl (Or.inl rfl))) (fun _ _ _ _ _ => pts_one (pt_val (pe_call (ok_has_position T) (hr.mono (by decide)) (by rfl) T.g_has_position T.F_has_position.kp T.b_has_position .nil pass0 (pa_cons (pv 4) (pa_cons (pv 2) pa_nil))))) (fun _ _ _ _ _ => (pe_tup (pa_cons (pv 2) (pa_cons (pv 4) pa_nil))))))), ?_⟩
    refine ⟨.ref b, rfl, b, rfl, ⟨_, SqT.of hb⟩, fun D nD => ?_⟩
    refine walkT (K := K) (a := b) (xs := ws) (fun i H' => Same H H' ∧ ∃ zs, H' D = some (.lst zs) ∧ Dms H' zs (dab ts (bs.take i))) ⟨same_new nD, [], upd_same, .nil⟩ (fun i H' _ h => SqT.of (h.1 _ _ hb)) ?_ ?_
    · rintro i v H1 hi ⟨s1, zs, eD, dm⟩
      obtain ⟨bb, x, y, rfl, ep, hbb⟩ := ivb.get hi
      have hil := (List.getElem?_eq_some_iff.mp ep).1
      refine ⟨bb, _, rfl, SqT.of (s1 _ _ hbb), rfl, .int x, [.int y], rfl, .int y, [], rfl, rfl, rfl, ?_⟩
      refine ⟨.ref a, rfl, a, rfl, ⟨_, SqT.of (s1 _ _ ha)⟩, ?_⟩
      refine walkT (K := K) (a := a) (xs := us) (fun j H' => Same H H' ∧ ∃ zs, H' D = some (.lst zs) ∧ Dms H' zs (dab ts (bs.take i) ++ dabT (ts.take j) x)) ⟨s1, zs, eD, by show Dms H1 zs (_ ++ []); rw [List.append_nil]; exact dm⟩ (fun j H' _ h => SqT.of (h.1 _ _ ha)) ?_ ?_
      · rintro j v H2 hj ⟨s2, zs2, eD2, dm2⟩
        obtain ⟨tt, lo, hi2, rfl, et, htt⟩ := ivt.get hj
        have hjl := (List.getElem?_eq_some_iff.mp et).1
        have sz : zs2.length < sizeLine := by
          have h1 := dm2.length
          have h2 := dab_len (ts := ts) (bs := bs.take i)
          have h3 : (dabT (ts.take j) x).length ≤ 30 := by
            unfold dabT
            rw [List.length_map]
            exact Nat.le_trans (List.length_filter_le _ _) (Nat.le_trans (List.length_take_le' _ _) lt)
          have h4 : (bs.take i).length ≤ 100 := Nat.le_trans (List.length_take_le' _ _) lb
          have h5 : (bs.take i).length * ts.length ≤ 100 * 30 := Nat.mul_le_mul h4 lt
          rw [List.length_append] at h1
          rw [show sizeLine = 16777216 by decide]
          omega
        refine ⟨rfl, .ref tt, rfl, .int x, rfl, tt, lo, hi2, x, rfl, s2 _ _ htt, _, rfl, ite2 (fun c => ?_) (fun c => ?_)⟩
        · refine ⟨.int x, rfl, .ref tt, rfl, by show 2 ≤ sizeLine; decide, fun t nt => ?_⟩
          have s3 := same_new (o := .tup [.int x, .ref tt]) nt
          have et3 := upd_same (H := H2) (a := t) (o := .tup [.int x, .ref tt])
          have eD3 := s3 _ _ eD2
          have dm3 := dm2.same s3
          have s23 := s2.trans s3
          generalize upd H2 t (.tup [.int x, .ref tt]) = H3 at *
          refine ⟨zs2, eD3, sz, same_off nD s23, _, upd_same, ?_⟩
          have cc : lo ≤ x ∧ x ≤ hi2 := by
            have z := Bool.and_eq_true_iff.mp c
            exact ⟨of_decide_eq_true z.1, of_decide_eq_true z.2⟩
          have e : dabT (ts.take (j + 1)) x = dabT (ts.take j) x ++ [(x, lo, hi2)] := by
            unfold dabT
            rw [take_filter et, if_pos c, List.map_append]
            rfl
          rw [e, ← List.append_assoc]
          exact (dm3.snoc ⟨⟨t, tt, rfl, et3, s23 _ _ htt⟩, cc.1, cc.2⟩).tps (Tps.lst eD3)
        · refine ⟨s2, zs2, eD2, ?_⟩
          have e : dabT (ts.take (j + 1)) x = dabT (ts.take j) x := by
            unfold dabT
            rw [take_filter et, if_neg c, List.append_nil]
          rw [e]
          exact dm2
      · rintro H2 ⟨s2, zs2, eD2, dm2⟩
        refine ⟨s2, zs2, eD2, ?_⟩
        rw [lu, List.take_length] at dm2
        rw [List.take_add_one, ep]
        show Dms H2 zs2 (dab ts (bs.take i ++ [(x, y)]))
        rw [dab_snoc]
        exact dm2
    · rintro H1 ⟨s1, zs, eD, dm⟩
      rw [lw, List.take_length] at dm
      exact q H1 D zs s1 eD dm
def opB (ps : List (Int × Int)) (d : Int × Int × Int) : Bool := !((ps.map fun q => svI q.1 q.2 d.1 d.2.1 d.2.2).any id)
def sp_is_open : Sp := fun vs H Q _ => ∃ (a : Addr) (v : V) (us : List V) (ps : List (Int × Int)) (p lo hi : Int), vs = [.ref a, v] ∧ H a = some (.tup us) ∧ Ivs H us ps ∧ ps.length < 1000 ∧ Dm H v p lo hi ∧
  ∀ H', Same H H' → Q (.bl (opB ps (p, lo, hi))) H'
theorem ok_is_open (T : Tx K mg f_depth_changes f_find_blocks f_has_position f_contains f_serves f_conflict f_demands_at_blocks f_is_open f_open_demands f_shadow_target f_require_few_blocks f_decisive_demands f_largest_independent f_count_needed f_law_draws f_law_next f_law_one f_law_spans f_law_covers f_law_every f_law_least f_law_served f_law_clash f_law_most f_law_right f_law d_depth_changes d_find_blocks d_has_position d_contains d_serves d_conflict d_demands_at_blocks d_is_open d_open_demands d_shadow_target d_require_few_blocks d_decisive_demands d_largest_independent d_count_needed d_law_draws d_law_next d_law_one d_law_spans d_law_covers d_law_every d_law_least d_law_served d_law_clash d_law_most d_law_right d_law t_MAX_BLOCKS) : FnOk P w K mg base CX0 3 f_is_open d_is_open ["pieces", "demand"] sp_is_open := by
  refine T.F_is_open.ok sc_is_open (fun vs H Q E h => ?_) (fun cdv A outer s H vs Q E hr h => ?_)
  · obtain ⟨a, v, us, ps, p, lo, hi, rfl, _⟩ := h
    rfl
  · obtain ⟨a, v, us, ps, p, lo, hi, rfl, ha, iv, few, dm, q⟩ := h
    have lu := iv.length
    obtain ⟨u, t, rfl, e1, e2⟩ := dm.ex
    refine ⟨_, (pss_one (ps_ret (pe_not (pe_callB (cr_any rfl) (by rfl) T.z_any (by decide +kernel) (pa_cons (pe_lc (own := [("piece", 2)]) (g := (gName 2)) (tt := tYes) (by rfl) sc_is_open.nd (pi_tup (pv 0)) (blkOk_by (own := [("piece", 2)]) (N := N_is_open) (sc := defScope s_is_open) (by decide +kernel)) (fun _ _ _ _ _ => (pg_name (i := 2) sc_is_open.nd rfl (Or.inl rfl))) (fun _ _ _ _ _ => pts_nil) (fun _ _ _ _ _ => (pe_call (ok_serves T) (hr.mono (by decide)) (by rfl) T.g_serves T.F_serves.kp T.b_serves .nil pass0 (pa_cons (pv 2) (pa_cons (pv 1) pa_nil))))) pa_nil))))), ?_⟩
    refine ⟨.ref a, rfl, a, rfl, ⟨_, SqT.of ha⟩, fun D nD => ?_⟩
    refine lcT (K := K) (a := a) (xs := us) (fun i H' ws => ws = ((ps.take i).map fun q : Int × Int => svI q.1 q.2 p lo hi).map V.bl) nD (fun H' s => SqT.of (s _ _ ha)) (by omega) (fun _ _ _ _ _ r => r) (fun i H' ws r => by rw [r, List.length_map, List.length_map]; exact List.length_take_le _ _) (fun _ => rfl) ?_ ?_
    · rintro i z H' N acc hi2 sm eD sz r no yes
      obtain ⟨bb, x, y, rfl, ep, hb⟩ := iv.get hi2
      refine ⟨rfl, .ref bb, rfl, .ref u, rfl, bb, u, t, x, y, p, lo, hi, rfl, sm _ _ hb, sm _ _ e1, sm _ _ e2, yes H' _ (Same.refl _) ?_⟩
      rw [r, List.take_add_one, ep, List.map_append, List.map_append]
      rfl
    · intro H1 ws s1 eD r
      rw [lu, List.take_length] at r
      subst r
      exact ⟨D, _, rfl, SqL.of eD, _, rfl, q H1 s1⟩
def sp_open_demands : Sp := fun vs H Q _ => ∃ (a b : Addr) (us ws : List V) (ts ps : List (Int × Int)), vs = [.ref a, .ref b] ∧ H a = some (.tup us) ∧ H b = some (.tup ws) ∧ Ivs H us ts ∧ Ivs H ws ps ∧ Good (ts ++ ps) ∧ ts.length + ps.length ≤ 30 ∧
  ∀ H' p zs, Same H H' → H' p = some (.tup zs) → Dms H' zs ((dab ts (blocksOf (ts ++ ps))).filter (opB ps)) → Q (.ref p) H'
theorem ok_open_demands (T : Tx K mg f_depth_changes f_find_blocks f_has_position f_contains f_serves f_conflict f_demands_at_blocks f_is_open f_open_demands f_shadow_target f_require_few_blocks f_decisive_demands f_largest_independent f_count_needed f_law_draws f_law_next f_law_one f_law_spans f_law_covers f_law_every f_law_least f_law_served f_law_clash f_law_most f_law_right f_law d_depth_changes d_find_blocks d_has_position d_contains d_serves d_conflict d_demands_at_blocks d_is_open d_open_demands d_shadow_target d_require_few_blocks d_decisive_demands d_largest_independent d_count_needed d_law_draws d_law_next d_law_one d_law_spans d_law_covers d_law_every d_law_least d_law_served d_law_clash d_law_most d_law_right d_law t_MAX_BLOCKS) : FnOk P w K mg base CX0 4 f_open_demands d_open_demands ["targets", "pieces"] sp_open_demands := by
  refine T.F_open_demands.ok sc_open_demands (fun vs H Q E h => ?_) (fun cdv A outer s H vs Q E hr h => ?_)
  · obtain ⟨a, b, us, ws, ts, ps, rfl, _⟩ := h
    rfl
  · obtain ⟨a, b, us, ws, ts, ps, rfl, ha, hb, ivt, ivp, g, lt, q⟩ := h
    have lu := ivt.length
    have lw := ivp.length
    refine ⟨_, (pss_cons (ps_set (i := 2) sc_open_demands.nd rfl (Or.inl rfl) (pe_call (ok_demands_at_blocks T) (hr.mono (by decide)) (by rfl) T.g_demands_at_blocks T.F_demands_at_blocks.kp T.b_demands_at_blocks .nil pass0 (pa_cons (pv 0) (pa_cons (pe_call (ok_find_blocks T) (hr.mono (by decide)) (by rfl) T.g_find_blocks T.F_find_blocks.kp T.b_find_blocks .nil pass0 (pa_cons (pe_op op_catA (pv 0) (pv 1)) pa_nil)) pa_nil))))
      (pss_one (ps_ret (pe_callTy call_tuple_of (by rfl) T.z_tuple (by decide +kernel) (pa_cons (pe_lc (own := [("demand", 3)]) (g := (gName 3)) (by rfl) sc_open_demands.nd (pi_list (pv 2)) (blkOk_by (own := [("demand", 3)]) (N := N_open_demands) (sc := defScope s_open_demands) (by decide +kernel)) (fun _ _ _ _ _ => (pg_name (i := 3) sc_open_demands.nd rfl (Or.inl rfl))) (fun _ _ _ _ _ => pts_one (pt_val (pe_call (ok_is_open T) (hr.mono (by decide)) (by rfl) T.g_is_open T.F_is_open.kp T.b_is_open .nil pass0 (pa_cons (pv 1) (pa_cons (pv 3) pa_nil))))) (fun _ _ _ _ _ => (pv 3))) pa_nil))))), ?_⟩
    refine ⟨.ref a, rfl, .ref a, rfl, .ref b, rfl, catA_any ha hb (by rw [show sizeLine = 16777216 by decide]; omega) (fun H1 c s1 ec => ?_)⟩
    have ll : (ts ++ ps).length ≤ 30 := by rw [List.length_append]; exact lt
    refine ⟨c, us ++ ws, ts ++ ps, rfl, ec, (ivt.same s1).append (ivp.same s1), g, by omega, fun H2 bl bws s2 ebl ivb => ?_⟩
    have s12 := s1.trans s2
    have few := blocks_few g
    refine ⟨a, bl, us, bws, ts, _, rfl, s12 _ _ ha, ebl, ivt.same s12, ivb, by omega, by omega, fun H3 D zs s3 eD dm => ?_⟩
    have s13 := s12.trans s3
    obtain ⟨ds, eds⟩ : ∃ ds, ds = dab ts (blocksOf (ts ++ ps)) := ⟨_, rfl⟩
    rw [← eds] at dm q
    have lds : ds.length ≤ 1800 := by
      have h1 := dab_len (ts := ts) (bs := blocksOf (ts ++ ps))
      have h2 : (blocksOf (ts ++ ps)).length * ts.length ≤ 60 * 30 := Nat.mul_le_mul (by omega) (by omega)
      rw [eds]
      omega
    have lz := dm.length
    refine ⟨.ref D, rfl, D, rfl, ⟨_, SqL.of eD⟩, fun D2 nD2 => ?_⟩
    refine lc_list (K := K) (a := D) (xs := zs) (fun i H' => Same H3 H' ∧ ∃ ys, H' D2 = some (.lst ys) ∧ Dms H' ys ((ds.take i).filter (opB ps))) ⟨same_new nD2, [], upd_same, .nil⟩ (fun i H' _ h => SqL.of (h.1 _ _ eD)) ?_ ?_
    · rintro i v H4 hi ⟨s4, ys, eD2, dmy⟩
      obtain ⟨p, lo, hi2, ed, dmv⟩ := dm.get hi
      have hb4 := s4 _ _ (s13 _ _ hb)
      have dv4 := dmv.same s4
      refine ⟨rfl, .ref b, rfl, v, rfl, b, v, ws, ps, p, lo, hi2, rfl, hb4, ivp.same (s13.trans s4), by omega, dv4, fun H5 s5 => ?_⟩
      have ly : ys.length < sizeLine := by
        have h1 := dmy.length
        have h2 := List.length_filter_le (opB ps) (ds.take i)
        have h3 := List.length_take_le' i ds
        rw [show sizeLine = 16777216 by decide]
        omega
      refine ⟨_, rfl, ite2 (fun c => ?_) (fun c => ?_)⟩
      · refine ⟨v, rfl, ys, s5 _ _ eD2, ly, same_off nD2 (s4.trans s5), _, upd_same, ?_⟩
        rw [take_filter ed, if_pos c]
        exact ((dmy.same s5).snoc (dv4.same s5)).tps (Tps.lst (s5 _ _ eD2))
      · refine ⟨s4.trans s5, ys, s5 _ _ eD2, ?_⟩
        rw [take_filter ed, if_neg c, List.append_nil]
        exact dmy.same s5
    · rintro H4 ⟨s4, ys, eD2, dmy⟩
      rw [lz, List.take_length] at dmy
      refine ⟨D2, ys, rfl, .inl ⟨SqL.of eD2, fun l nl => ?_⟩⟩
      have s5 := same_new (o := .tup ys) nl
      exact q _ l ys (s13.trans (s4.trans s5)) upd_same (dmy.same s5)

abbrev lgN : Nat := 64
theorem cutFrom (xs : List V) (j : Nat) : cutV xs (some (j : Int)) none = xs.drop j := by
  unfold cutV
  rw [show HT.sIx xs.length 0 (some (j : Int)) = min j xs.length from HT.sIx_nat xs.length 0 j, HT.sIx_none]
  rcases Nat.le_total j xs.length with h | h
  · rw [Nat.min_eq_left h]
    exact List.take_of_length_le (by rw [List.length_drop]; exact Nat.le_refl _)
  · rw [Nat.min_eq_right h, List.drop_of_length_le (Nat.le_refl _), List.drop_of_length_le h]
    exact List.take_nil

/-! ### {e for x in xs}, e an int -/
section
variable {X : Cx}
/-- D: the new set; it holds S, n of them -/
def tScI (w : World) (wi : TI) (g : TG) (tt : TT) (te : TE) (us : List Nat) : TE := fun σ H Q => wi σ H fun J Ha => ∀ D, Ha D = none → ∃ W : Nat → Nat → Hp → Prop, (∃ k, W 0 k (upd Ha D (SetO w D (fun _ => false) 0))) ∧ ∀ j k Hb, W j k Hb →
  (J.stop j Hb ∧ Q (.ref D) Hb) ∨ (J.go j Hb ∧ ∃ Nx : Hp → Prop, (∀ Hc, Nx Hc → ∃ k', k' < k ∧ W (j + 1) k' Hc) ∧ ∀ x Hc, J.yld j Hb x Hc → g x (wipe σ us) Hc fun τ Hd => wipe τ us = wipe σ us ∧ tt τ Hd fun b He =>
    if b = true then te τ He fun y Hf => ∃ (c : Int) (S : Int → Bool) (n : Nat), y = .int c ∧ Hf D = some (SetO w D S n) ∧ n + 1 < scanBound ∧ Nx (upd Hf D (SetO w D (fun i => S i || decide (i = c)) (if S c = true then n else n + 1))) else Nx He)
theorem addI_ok {ps : List (Addr × Obj)} {τ : L2.St} {H : Hp} {s : Shared} {E : Value → Shared → Prop} {D : Addr} {S : Int → Bool} {n : Nat} {y : Int} {t : Tok} {Z : Value → Shared → Prop} (J : Inv X ps τ H s) (eD : H D = some (SetO X.w D S n)) (few : n + 1 < scanBound)
    (nx : ∀ s', Inv X ps τ (upd H D (SetO X.w D (fun i => S i || decide (i = y)) (if S y = true then n else n + 1))) s' → Z .none s') : wpAny (model X.prog X.w) X.A (call (.builtin "set.add") [.ref D, .int y t]) Z E s := by
  refine setR_add (setO_get J eD) few fun h' sb new => nx _ ?_
  obtain ⟨o, r1, r2, r3, eo, r4⟩ := id new
  exact J.write (e := D) (t' := s.toks + 1) (by rw [eD]; trivial) (.inl rfl) (fun b u hb hu => (sb.2 b hb).trans hu) ⟨o, eo⟩ (setO_new new)
theorem scI_core {ps : List (Addr × Obj)} {s : Shared} {σ : L2.St} {H : Hp} {Q : VK} {elt tg iter : Expr} {ifs : List Expr} {sc : Scope} {own : List (PySem.Str × Nat)} {pos pos' : Pos} {wi : TI} {g : TG} {tt : TT} {te : TE} {Qf : Value → Shared → Prop}
    (calm : X.calm = true) (nd : X.N.Nodup) (I : Inv X ps σ H s) (hi : PI X tg iter wi) (ok : BlkOk X.N X.env.scope sc own)
    (hg : ∀ (s : Shared) (H : Hp) (C : Addr) (cl : List (Str × Addr)) (fp : List Addr), PG (X.blk s H sc (compEnvC sc cl C X.env) fp) tg g)
    (ht : ∀ (s : Shared) (H : Hp) (C : Addr) (cl : List (Str × Addr)) (fp : List Addr), PTs (X.blk s H sc (compEnvC sc cl C X.env) fp) ifs tt)
    (he : ∀ (s : Shared) (H : Hp) (C : Addr) (cl : List (Str × Addr)) (fp : List Addr), PE (X.blk s H sc (compEnvC sc cl C X.env) fp) elt te) (hs : ∀ x, foldedSetIterable iter X.env x = pure x)
    (h : tScI X.w wi g tt te (own.map (·.2)) σ H Q)
    (back : ∀ D C s' m H', Inv X ps σ H' s' → Q (.ref D) H' → s'.heap.Ns C m → FpOk X ps H' C → compPost (model X.prog X.w) X.A X.xe none Qf (.ref D) C (.ok .next) s') :
    wpAny (model X.prog X.w) X.A (comprehension (.SetComp elt [⟨tg, iter, ifs, 0⟩] sc pos) sc X.env pos' (newSet (.type "set")) false (eval iter X.env) none) Qf X.xe s := by
  have frees : ∀ y ∈ sc.names, y.2 = .free → ∃ c, X.env.cells.lookup y.1 = some c := fun y hy e => (ok.free y hy e).elim (fun k => I.ok.has _ (.inl k)) (fun k => I.ok.has _ (.inr k))
  refine wpAny_comprehension_free (use := none) rfl hs (closure_ok frees) ok.kind (fun y hy e => by rw [ok.uniq y hy, e]) ?_
  refine thn (hi.run ps s σ H _ I h) fun xv sa ha => thn ha fun itv sb hb => ?_
  obtain ⟨it, fp, tn, J, Hb, rfl, Ib, T, stb, fb, q⟩ := hb
  refine PpSet.newSet_ok (newEnv_comp ?_)
  have Dn : Hb sb.heap.objs.size = none := Ib.hok.fresh (Nat.le_refl _)
  obtain ⟨W, ⟨k0, w0⟩, turn⟩ := q _ Dn
  have old : ∀ b ∈ fp, b < sb.heap.objs.size := fun b hb => let ⟨_, e, _⟩ := T.obj _ _ stb b hb; Heap.lt_size e
  obtain ⟨Hc, eHc⟩ : ∃ Hc, upd Hb sb.heap.objs.size (SetO X.w sb.heap.objs.size (fun _ => false) 0) = Hc := ⟨_, rfl⟩
  obtain ⟨sc3, es3⟩ : ∃ s3 : Shared, ({ sb with heap := sb.heap.push { cls := .type "set", dict := none, data := .set #[] 0 (.fresh 0 0 (!X.w.params.followText "set-order")) } } : Shared) = s3 := ⟨_, rfl⟩
  have Ic : Inv X ps σ Hc sc3 := by
    rw [← es3, ← eHc]
    exact Ib.laid (t' := sb.toks) (fun b o e => Heap.get?_push_of_some _ e) (Nat.le_refl _) (setO_new (setR_fresh X.w))
  have grown : ∀ b o, sb.heap.get? b = some o → sc3.heap.get? b = some o := fun b o e => by
    rw [← es3]
    exact Heap.get?_push_of_some _ e
  have fc : ∀ b ∈ fp, FpOk X ps Hc b ∧ b < sc3.heap.objs.size := fun b hb => by
    refine ⟨⟨?_, (fb b hb).2⟩, ?_⟩
    · rw [← eHc, upd_ne (Nat.ne_of_lt (old b hb))]
      exact (fb b hb).1
    · obtain ⟨_, e, _⟩ := T.obj _ _ stb b hb
      exact Heap.lt_size (grown _ _ e)
  have stc : tn 0 sc3.heap := T.keep _ _ _ stb fun b _ o e => grown b o e
  have Id := block_start Ic ok nd fc
  rw [eHc] at w0
  generalize eD : sb.heap.objs.size = D at *
  rw [es3]
  generalize eC : sc3.heap.objs.size = C at *
  have pg := hg sc3 Hc C (cellsFrom (C + 1) sc.names (cloFrom X.env.cells sc.names [])) fp
  have pt := ht sc3 Hc C (cellsFrom (C + 1) sc.names (cloFrom X.env.cells sc.names [])) fp
  have pe := he sc3 Hc C (cellsFrom (C + 1) sc.names (cloFrom X.env.cells sc.names [])) fp
  have cL : (compEnvC sc (cellsFrom (C + 1) sc.names (cloFrom X.env.cells sc.names [])) C X.env).locals = C := rfl
  show codeAny _ _ (.compStart (.SetComp elt [⟨tg, iter, ifs, 0⟩] sc pos) 0 (.ref it) (.ref D) (compEnvC sc (cellsFrom (C + 1) sc.names (cloFrom X.env.cells sc.names [])) C X.env)) (compPost (model X.prog X.w) X.A X.xe none Qf (.ref D) C) { sc3 with heap := pushCells (sc3.heap.push { cls := .type "dict", data := .dict #[] }) sc.names }
  generalize compEnvC sc (cellsFrom (C + 1) sc.names (cloFrom X.env.cells sc.names [])) C X.env = ce at *
  have ste : tn 0 ({ sc3 with heap := pushCells (sc3.heap.push { cls := .type "dict", data := .dict #[] }) sc.names } : Shared).heap := T.keep _ _ _ stc fun b _ o e => pushCells_keeps _ _ _ _ (Heap.get?_push_of_some _ e)
  generalize ({ sc3 with heap := pushCells (sc3.heap.push { cls := .type "dict", data := .dict #[] }) sc.names } : Shared) = se at *
  have Id : Inv (X.blk sc3 Hc sc ce fp) [] (wipe σ (own.map (·.2))) Hc se := Id
  have stat : ∀ {τ : L2.St} {H' : Hp} {s' : Shared}, Inv (X.blk sc3 Hc sc ce fp) [] τ H' s' → (∀ b ∈ fp, H' b = none) → ∀ b ∈ fp, FpOk (X.blk sc3 Hc sc ce fp) [] H' b := fun {τ H' s'} J hn b hb =>
    ⟨hn b hb, (J.ok.exf b hb).1, J.ok.exfs b hb, .inl hb, (J.ok.exf b hb).2, fun p hp => absurd (show p ∈ ([] : List (Addr × Obj)) ++ [] from hp) (by simp)⟩
  have loop : codeAny (model X.prog X.w) X.A (.compLoop (.SetComp elt [⟨tg, iter, ifs, 0⟩] sc pos) 0 (.ref it) (.ref D) ce) (compPost (model X.prog X.w) X.A X.xe none Qf (.ref D) C) se := by
    refine PpSet.compLoopS_any (fun k s' => ∃ j H', Inv (X.blk sc3 Hc sc ce fp) [] (wipe σ (own.map (·.2))) H' s' ∧ tn j s'.heap ∧ (∀ b ∈ fp, H' b = none) ∧ W j k H') ?_ k0 ⟨0, Hc, Id, ste, fun b hb => (fc b hb).1.1, w0⟩
    rintro k s5 ⟨j, H5, I5, st5, n5, w5⟩
    rcases turn j k H5 w5 with ⟨stop, qq⟩ | ⟨go, Nx, less, step⟩
    · refine thnF (T.done (X.blk sc3 Hc sc ce fp) rfl rfl rfl calm j [] s5 _ H5 (fun _ _ => False) I5 (stat I5 n5) st5 stop) fun r s6 ⟨er, I6⟩ => ?_
      subst er
      have I7 : Inv X ps σ H5 s6 := Ic.call' (ch := fp) I6.os I6.base I6.hok I6.bare fun b hb => ⟨(fc b hb).1.2.2.2.1, (fc b hb).1.2.1, (fc b hb).1.2.2.2.2.1, (fc b hb).1.2.2.2.2.2⟩
      have nC : H5 C = none := by
        have z : H5 ce.locals = none := I6.free
        rwa [cL] at z
      obtain ⟨m, hn, _⟩ := I6.loc
      have hn : s6.heap.Ns ce.locals m := hn
      rw [cL] at hn
      exact back D C s6 m H5 I7 qq hn (Ic.fpOk (Nat.le_of_eq eC) nC)
    · refine thnF (T.item (X.blk sc3 Hc sc ce fp) rfl rfl rfl calm j [] s5 _ H5 (fun _ _ => False) I5 (stat I5 n5) st5 go) fun r s6 ⟨u, er, h6⟩ => ?_
      subst er
      refine thnF h6 fun _ s7 ⟨x, H7, I7, r7, y7, st7, n7⟩ => ?_
      have P7 := I7.pinned (stat I7 n7) (T.obj _ _ st7)
      refine thnF (pg.run _ s7 _ H7 x u _ P7 r7 (step x H7 y7)) fun _ s8 ⟨τ, H8, I8, hw, q8⟩ => thnF (pt.run _ s8 τ H8 _ I8 q8) fun b s9 ⟨H9, I9, q9⟩ => ?_
      have next : ∀ {s' : Shared} {H' : Hp}, Inv (X.blk sc3 Hc sc ce fp) ([] ++ pinsAt fp s7.heap) τ H' s' → Nx H' → ∃ m, m < k ∧ ∃ j H', Inv (X.blk sc3 Hc sc ce fp) [] (wipe σ (own.map (·.2))) H' s' ∧ tn j s'.heap ∧ (∀ b ∈ fp, H' b = none) ∧ W j m H' := fun {s' H'} J nx => by
        obtain ⟨m', lt, w'⟩ := less H' nx
        have kept : ∀ b ∈ fp, ∀ o, s7.heap.get? b = some o → s'.heap.get? b = some o ∧ H' b = none := fun b hb o e =>
          let z := J.pin (b, o) (List.mem_append_right _ (List.mem_append_right _ (mem_pinsAt hb e)))
          ⟨z.1, z.2.1⟩
        refine ⟨m', lt, j + 1, H', (J.unpinned (pins := [])).weak (by rw [← hw, wipe_length]) (fun i v e => (wipe_some (by rw [hw]; exact e)).1), T.keep _ _ _ st7 fun b hb o e => (kept b hb o e).1, fun b hb => ?_, w'⟩
        obtain ⟨o, e, _⟩ := T.obj _ _ st7 b hb
        exact (kept b hb o e).2
      cases b with
      | false =>
        simp only [Bool.false_eq_true, if_false] at q9 ⊢
        exact next I9 q9
      | true =>
        simp only [if_true] at q9 ⊢
        refine thnF (pe.run _ s9 τ H9 _ I9 q9) fun z s10 ⟨yv, H10, I10, r10, c, S, n, ey, eS, few, nx⟩ => ?_
        subst ey
        obtain ⟨t, rfl⟩ := (show ∃ t, z = Value.int c t from r10)
        exact addI_ok (X := X.blk sc3 Hc sc ce fp) I10 eS few fun s11 I11 => next I11 nx
  exact PpSet.codeAny_compStart_set loop (T.self X.A 0 _ _ _ ste loop)
theorem pe_scI {elt tg iter : Expr} {ifs : List Expr} {sc : Scope} {own : List (PySem.Str × Nat)} {pos : Pos} {wi : TI} {g : TG} {tt : TT} {te : TE} (calm : X.calm = true) (nd : X.N.Nodup) (hi : PI X tg iter wi) (ok : BlkOk X.N X.env.scope sc own)
    (hg : ∀ (s : Shared) (H : Hp) (C : Addr) (cl : List (Str × Addr)) (fp : List Addr), PG (X.blk s H sc (compEnvC sc cl C X.env) fp) tg g)
    (ht : ∀ (s : Shared) (H : Hp) (C : Addr) (cl : List (Str × Addr)) (fp : List Addr), PTs (X.blk s H sc (compEnvC sc cl C X.env) fp) ifs tt)
    (he : ∀ (s : Shared) (H : Hp) (C : Addr) (cl : List (Str × Addr)) (fp : List Addr), PE (X.blk s H sc (compEnvC sc cl C X.env) fp) elt te) (hs : ∀ x, foldedSetIterable iter X.env x = pure x := by intro _; rfl) :
    PE X (.SetComp elt [⟨tg, iter, ifs, 0⟩] sc pos) (tScI X.w wi g tt te (own.map (·.2))) := by
  refine ⟨fun ps s σ H Q I h => ?_⟩
  rw [PpSet.eval_SetComp]
  refine scI_core calm nd I hi ok hg ht he hs h fun D C s' m H' J q hn f => ⟨m, hn, fun h'' sb => ?_⟩
  obtain ⟨f0, f1, f2, f3, f4, f5⟩ := f
  exact ⟨.ref D, H', J.turned (t' := s'.toks) (fun b o hb e => (sb.2 b hb).trans e) f0 f1 f3 f4 f5, rfl, q⟩
end
/-! ### len(s), s a set of ints -/
def rLenSet (w : World) : List V → Hp → VK → Prop := fun xs H Q => ∃ (a : Addr) (S : Int → Bool) (n : Nat), xs = [.ref a] ∧ H a = some (SetO w a S n) ∧ Q (.int n) H
theorem cr_lenSet {X : Cx} : CallR X (.builtin "len") (rLenSet X.w) := by
  intro ps s σ H xs us Q I r h
  obtain ⟨a, S, n, rfl, ha, q⟩ := h
  rw [Vals.ref1 r]
  obtain ⟨o, es, ep, t, ho, hex, hd, _, _, _, lim, fits, rfl, _⟩ := setO_get I ha
  refine call_len_set ho hex hd fits ?_ ⟨.int es.size, H, I.tok _, ⟨_, rfl⟩, q⟩
  unfold scanBound at lim
  omega
def kinds (l : List Int) : List Int := l.foldl (fun acc x => if x ∈ acc then acc else acc ++ [x]) []
theorem kinds_snoc (l : List Int) (a : Int) : kinds (l ++ [a]) = if a ∈ kinds l then kinds l else kinds l ++ [a] := by
  unfold kinds
  rw [List.foldl_append]
  rfl
theorem mem_kinds {l : List Int} : ∀ {x : Int}, x ∈ l → x ∈ kinds l := by
  have h : ∀ n, ∀ l : List Int, l.length = n → ∀ x ∈ l, x ∈ kinds l := by
    intro n
    induction n with
    | zero =>
      intro l e x hx
      rw [List.length_eq_zero_iff.mp e] at hx
      cases hx
    | succ n ih =>
      intro l e x hx
      rcases List.eq_nil_or_concat l with rfl | ⟨m, a, rfl⟩
      · cases hx
      · rw [List.concat_eq_append] at *
        rw [kinds_snoc]
        rw [List.length_append, List.length_singleton] at e
        rcases List.mem_append.mp hx with h | h
        · have := ih m (by omega) x h
          split
          · exact this
          · exact List.mem_append_left _ this
        · rw [List.mem_singleton.mp h]
          split
          · assumption
          · exact List.mem_append_right _ (List.mem_singleton.mpr rfl)
  exact fun {x} hx => h _ l rfl x hx
theorem kinds_len (l : List Int) : (kinds l).length ≤ l.length := by
  have h : ∀ n, ∀ l : List Int, l.length = n → (kinds l).length ≤ n := by
    intro n
    induction n with
    | zero =>
      intro l e
      rw [List.length_eq_zero_iff.mp e]
      exact Nat.le_refl _
    | succ n ih =>
      intro l e
      rcases List.eq_nil_or_concat l with rfl | ⟨m, a, rfl⟩
      · exact Nat.zero_le _
      · rw [List.concat_eq_append] at *
        rw [kinds_snoc]
        rw [List.length_append, List.length_singleton] at e
        have := ih m (by omega)
        split
        · omega
        · rw [List.length_append, List.length_singleton]
          omega
  exact h _ l rfl
/-- over a list: the set of the made ints, and how many they are -/
theorem scL {w : World} {K : PySem.W.Frag} {a : Addr} {xs : List V} {g : TG} {tt : TT} {te : TE} {us : List Nat} {σ : L2.St} {Ha : Hp} {D : Addr} {Qd : Hp → Prop} (ns : List Int) (nD : Ha D = none) (hl : ∀ H', Same Ha H' → SqL K H' a xs) (ln : xs.length = ns.length) (few : ns.length < 1000)
    (hs : ∀ (i : Nat) (x : V) (y : Int) (H' : Hp) (N : Hp → Prop) (S : Int → Bool) (n : Nat), xs[i]? = some x → ns[i]? = some y → Same Ha H' → H' D = some (SetO w D S n) → n + 1 < scanBound → N (upd H' D (SetO w D (fun i => S i || decide (i = y)) (if S y = true then n else n + 1))) → g x (wipe σ us) H' fun τ Hd => wipe τ us = wipe σ us ∧ tt τ Hd fun b He =>
      if b = true then te τ He fun v Hf => ∃ (c : Int) (S : Int → Bool) (n : Nat), v = .int c ∧ Hf D = some (SetO w D S n) ∧ n + 1 < scanBound ∧ N (upd Hf D (SetO w D (fun i => S i || decide (i = c)) (if S c = true then n else n + 1))) else N He)
    (hd : ∀ H' (S : Int → Bool), Same Ha H' → H' D = some (SetO w D S (kinds ns).length) → Qd H') :
    ∃ W : Nat → Nat → Hp → Prop, (∃ k, W 0 k (upd Ha D (SetO w D (fun _ => false) 0))) ∧ ∀ j k Hb, W j k Hb →
      ((Itl K a).stop j Hb ∧ Qd Hb) ∨ ((Itl K a).go j Hb ∧ ∃ Nx : Hp → Prop, (∀ Hc, Nx Hc → ∃ k', k' < k ∧ W (j + 1) k' Hc) ∧ ∀ x Hc, (Itl K a).yld j Hb x Hc → g x (wipe σ us) Hc fun τ Hd => wipe τ us = wipe σ us ∧ tt τ Hd fun b He =>
        if b = true then te τ He fun y Hf => ∃ (c : Int) (S : Int → Bool) (n : Nat), y = .int c ∧ Hf D = some (SetO w D S n) ∧ n + 1 < scanBound ∧ Nx (upd Hf D (SetO w D (fun i => S i || decide (i = c)) (if S c = true then n else n + 1))) else Nx He) := by
  refine ⟨fun j k H => k = xs.length - j ∧ j ≤ xs.length ∧ Same Ha H ∧ ∃ S, H D = some (SetO w D S (kinds (ns.take j)).length) ∧ ∀ i, S i = true ↔ i ∈ kinds (ns.take j), ⟨xs.length, by simp, Nat.zero_le _, same_new nD, _, upd_same, fun i => by simp [kinds]⟩, ?_⟩
  rintro j k Hb ⟨rfl, hj, sm, S, eD, hS⟩
  have q := hl Hb sm
  by_cases lt : j < xs.length
  · refine .inr ⟨⟨xs, xs[j], q, by simp [lt]⟩, fun H => j + 1 ≤ xs.length ∧ Same Ha H ∧ ∃ S, H D = some (SetO w D S (kinds (ns.take (j + 1))).length) ∧ ∀ i, S i = true ↔ i ∈ kinds (ns.take (j + 1)), fun H' p => ⟨xs.length - (j + 1), by omega, rfl, p⟩, fun x Hc yl => ?_⟩
    obtain ⟨e, yl⟩ := yl
    subst e
    have ey : ns[j]? = some (ns[j]'(by omega)) := List.getElem?_eq_getElem _
    generalize ns[j]'(by omega) = y at ey
    have ek : kinds (ns.take (j + 1)) = if y ∈ kinds (ns.take j) then kinds (ns.take j) else kinds (ns.take j) ++ [y] := by
      rw [List.take_add_one, ey]
      exact kinds_snoc _ _
    have kl := kinds_len (ns.take j)
    have tl := List.length_take_le' j ns
    refine hs j x y Hc _ S _ (yl xs q) ey sm eD (by unfold scanBound; omega) ⟨lt, same_off nD sm, fun i => S i || decide (i = y), upd_same.trans ?_, fun i => ?_⟩
    · have : (if S y = true then (kinds (ns.take j)).length else (kinds (ns.take j)).length + 1) = (kinds (ns.take (j + 1))).length := by
        rw [ek]
        by_cases c : y ∈ kinds (ns.take j)
        · rw [if_pos c, if_pos ((hS y).mpr c)]
        · rw [if_neg c, if_neg (fun z => c ((hS y).mp z)), List.length_append]
          rfl
      rw [this]
    · rw [ek, Bool.or_eq_true, hS i, decide_eq_true_eq]
      by_cases c : y ∈ kinds (ns.take j)
      · rw [if_pos c]
        exact ⟨fun h => h.elim id fun e => e ▸ c, .inl⟩
      · rw [if_neg c, List.mem_append, List.mem_singleton]
  · have e : j = xs.length := by omega
    subst e
    rw [ln, List.take_length] at eD
    exact .inl ⟨⟨xs, q, by omega⟩, hd Hb S sm eD⟩

/-! ### a largest selection: what the program's search returns -/
def lg : Nat → List Dem → List Dem
  | 0, _ => []
  | _ + 1, [] => []
  | n + 1, d :: R =>
    if (kinds (R.map (·.1))).length ≤ (d :: lg n (R.filter fun e => !cf d e)).length then d :: lg n (R.filter fun e => !cf d e)
    else if (d :: lg n (R.filter fun e => !cf d e)).length < (lg n R).length then lg n R else d :: lg n (R.filter fun e => !cf d e)
theorem lg_cons (n : Nat) (d : Dem) (R : List Dem) : lg (n + 1) (d :: R) = if (kinds (R.map (·.1))).length ≤ (d :: lg n (R.filter fun e => !cf d e)).length then d :: lg n (R.filter fun e => !cf d e)
    else if (d :: lg n (R.filter fun e => !cf d e)).length < (lg n R).length then lg n R else d :: lg n (R.filter fun e => !cf d e) := rfl
theorem lg_same : ∀ (n m : Nat) (L : List Dem), L.length ≤ n → L.length ≤ m → lg n L = lg m L
  | 0, 0, _, _, _ => rfl
  | 0, m + 1, L, h, _ => by
    rw [List.length_eq_zero_iff.mp (Nat.le_zero.mp h)]
    rfl
  | n + 1, 0, L, _, h => by
    rw [List.length_eq_zero_iff.mp (Nat.le_zero.mp h)]
    rfl
  | n + 1, m + 1, [], _, _ => rfl
  | n + 1, m + 1, d :: R, h1, h2 => by
    have f := List.length_filter_le (fun e => !cf d e) R
    rw [List.length_cons] at h1 h2
    rw [lg_cons, lg_cons, lg_same n m R (by omega) (by omega), lg_same n m (R.filter fun e => !cf d e) (by omega) (by omega)]
theorem lg_sub : ∀ (n : Nat) (L : List Dem), (lg n L).Sublist L
  | 0, _ => List.nil_sublist _
  | _ + 1, [] => List.Sublist.refl _
  | n + 1, d :: R => by
    have h1 : (d :: lg n (R.filter fun e => !cf d e)).Sublist (d :: R) := ((lg_sub n _).trans List.filter_sublist).cons_cons d
    rw [lg_cons]
    split
    · exact h1
    · split
      · exact (lg_sub n R).cons d
      · exact h1
theorem lg_ind : ∀ (n : Nat) (L : List Dem), Ind (lg n L)
  | 0, _ => List.Pairwise.nil
  | _ + 1, [] => List.Pairwise.nil
  | n + 1, d :: R => by
    have h1 : Ind (d :: lg n (R.filter fun e => !cf d e)) := by
      refine List.pairwise_cons.mpr ⟨fun e he => ?_, lg_ind n _⟩
      have := (List.mem_filter.mp ((lg_sub n _).mem he)).2
      rwa [Bool.not_eq_true'] at this
    rw [lg_cons]
    split
    · exact h1
    · split
      · exact lg_ind n R
      · exact h1
theorem lg_max : ∀ (n : Nat) (L : List Dem), (∀ d ∈ L, Vd d) → L.length ≤ n → ∀ I, Ind I → (∀ d ∈ I, d ∈ L) → I.length ≤ (lg n L).length
  | n, [], _, _, I, _, hI => by
    cases I with
    | nil => exact Nat.zero_le _
    | cons d I => exact absurd (hI d List.mem_cons_self) (fun z => nomatch z)
  | 0, d :: R, _, h, _, _, _ => absurd h (by simp)
  | n + 1, d :: R, hv, hn, I, ii, hI => by
    have f := List.length_filter_le (fun e => !cf d e) R
    rw [List.length_cons] at hn
    have vd := hv d List.mem_cons_self
    have vR : ∀ e ∈ R, Vd e := fun e he => hv e (List.mem_cons_of_mem _ he)
    rw [lg_cons]
    by_cases hd : d ∈ I
    · have pm := List.perm_cons_erase hd
      have ij : Ind (d :: I.erase d) := (pm.pairwise_iff (fun {a b} h => by rw [cf_comm]; exact h)).mp ii
      have pj := List.pairwise_cons.mp ij
      have le := lg_max n (R.filter fun e => !cf d e) (fun e he => vR e (List.mem_filter.mp he).1) (by omega) (I.erase d) pj.2 fun e he => by
        have no := pj.1 e he
        have me := hI e (List.mem_of_mem_erase he)
        rcases List.mem_cons.mp me with rfl | me
        · rw [cf_self vd] at no
          cases no
        · exact List.mem_filter.mpr ⟨me, by rw [no]; rfl⟩
      have l1 := pm.length_eq
      rw [List.length_cons] at l1
      split
      · rw [List.length_cons]
        omega
      · next c =>
        rw [List.length_cons] at *
        split <;> (try rw [List.length_cons]) <;> omega
    · have sub : ∀ e ∈ I, e ∈ R := fun e he => by
        rcases List.mem_cons.mp (hI e he) with rfl | h
        · exact absurd he hd
        · exact h
      split
      · next c =>
        refine Nat.le_trans ?_ c
        have nd : (I.map (·.1)).Nodup := by
          rw [List.Nodup, List.pairwise_map]
          refine List.Pairwise.imp_of_mem (fun {a b} ha hb no e => ?_) ii
          have va := vR a (sub a ha)
          have vb := vR b (sub b hb)
          unfold Vd at va vb
          have : cf a b = true := cf_iff.mpr (by omega)
          rw [this] at no
          cases no
        have := nodup_le nd (m := kinds (R.map (·.1))) fun x hx => by
          obtain ⟨e, he, rfl⟩ := List.mem_map.mp hx
          exact mem_kinds (List.mem_map.mpr ⟨e, sub e he, rfl⟩)
        rwa [List.length_map] at this
      · have le := lg_max n R vR (by omega) I ii sub
        split <;> omega

def sp_conflict : Sp := fun vs H Q _ => ∃ (v1 v2 : V) (p1 lo1 hi1 p2 lo2 hi2 : Int), vs = [v1, v2] ∧ Dm H v1 p1 lo1 hi1 ∧ Dm H v2 p2 lo2 hi2 ∧ Q (.bl (cf (p1, lo1, hi1) (p2, lo2, hi2))) H
theorem cf_at {p1 lo1 hi1 p2 lo2 hi2 : Int} : cf (p1, lo1, hi1) (p2, lo2, hi2) = (atP lo2 hi2 p1 && atP lo1 hi1 p2) := by
  rw [Bool.eq_iff_iff, cf_iff, Bool.and_eq_true]
  unfold atP
  rw [Bool.and_eq_true, Bool.and_eq_true, decide_eq_true_eq, decide_eq_true_eq, decide_eq_true_eq, decide_eq_true_eq]
theorem ok_conflict (T : Tx K mg f_depth_changes f_find_blocks f_has_position f_contains f_serves f_conflict f_demands_at_blocks f_is_open f_open_demands f_shadow_target f_require_few_blocks f_decisive_demands f_largest_independent f_count_needed f_law_draws f_law_next f_law_one f_law_spans f_law_covers f_law_every f_law_least f_law_served f_law_clash f_law_most f_law_right f_law d_depth_changes d_find_blocks d_has_position d_contains d_serves d_conflict d_demands_at_blocks d_is_open d_open_demands d_shadow_target d_require_few_blocks d_decisive_demands d_largest_independent d_count_needed d_law_draws d_law_next d_law_one d_law_spans d_law_covers d_law_every d_law_least d_law_served d_law_clash d_law_most d_law_right d_law t_MAX_BLOCKS) : FnOk P w K mg base CX0 2 f_conflict d_conflict ["first", "second"] sp_conflict := by
  refine T.F_conflict.ok sc_conflict (fun vs H Q E h => ?_) (fun cdv A outer s H vs Q E hr h => ?_)
  · obtain ⟨v1, v2, p1, lo1, hi1, p2, lo2, hi2, rfl, _⟩ := h
    rfl
  · obtain ⟨v1, v2, p1, lo1, hi1, p2, lo2, hi2, rfl, d1, d2, q⟩ := h
    refine ⟨_, (pss_one (ps_ret (pe_and (pe_call (ok_has_position T) (hr.mono (by decide)) (by rfl) T.g_has_position T.F_has_position.kp T.b_has_position .nil pass0 (pa_cons (pe_ix ix_tup (pv 1) pe_int (fun _ _ => rfl)) (pa_cons (pe_ix ix_tup (pv 0) pe_int (fun _ _ => rfl)) pa_nil))) (pe_one (pe_call (ok_has_position T) (hr.mono (by decide)) (by rfl) T.g_has_position T.F_has_position.kp T.b_has_position .nil pass0 (pa_cons (pe_ix ix_tup (pv 0) pe_int (fun _ _ => rfl)) (pa_cons (pe_ix ix_tup (pv 1) pe_int (fun _ _ => rfl)) pa_nil))))))), ?_⟩
    obtain ⟨u1, t1, rfl, e11, e12⟩ := d1.ex
    obtain ⟨u2, t2, rfl, e21, e22⟩ := d2.ex
    rw [cf_at] at q
    refine ⟨.ref u2, rfl, u2, _, 1, .ref t2, rfl, rfl, SqT.of e21, rfl, .ref u1, rfl, u1, _, 0, .int p1, rfl, rfl, SqT.of e11, rfl, t2, lo2, hi2, p1, rfl, e22, _, rfl, ite2 (fun c => ?_) (fun c => ?_)⟩
    · refine ⟨.ref u1, rfl, u1, _, 1, .ref t1, rfl, rfl, SqT.of e11, rfl, .ref u2, rfl, u2, _, 0, .int p2, rfl, rfl, SqT.of e21, rfl, t1, lo1, hi1, p2, rfl, e12, ?_⟩
      rw [c] at q
      exact q
    · rw [Bool.not_eq_true] at c
      rw [c] at q
      exact q
def sp_lg (n : Nat) : Sp := fun vs H Q _ => ∃ (D : Addr) (zs : List V) (ds : List Dem), vs = [.ref D] ∧ H D = some (.lst zs) ∧ Dms H zs ds ∧ ds.length ≤ n ∧ ds.length < 1000 ∧
  ∀ H' p ws, Same H H' → H' p = some (.tup ws) → Dms H' ws (lg ds.length ds) → Q (.ref p) H'
def sp_lgP : Nat → Sp
  | 0 => fun _ _ _ _ => False
  | n + 1 => sp_lg n
theorem Dms.sub {H : Hp} {vs : List V} {ds : List Dem} (h : Dms H vs ds) : ∀ {v : V} {d : Dem} {us : List V} {es : List Dem}, vs = v :: us → ds = d :: es → Dm H v d.1 d.2.1 d.2.2 ∧ Dms H us es := by
  intro v d us es e1 e2
  cases h with
  | nil => cases e1
  | cons x y =>
    cases e1
    cases e2
    exact ⟨x, y⟩
theorem lg_step (T : Tx K mg f_depth_changes f_find_blocks f_has_position f_contains f_serves f_conflict f_demands_at_blocks f_is_open f_open_demands f_shadow_target f_require_few_blocks f_decisive_demands f_largest_independent f_count_needed f_law_draws f_law_next f_law_one f_law_spans f_law_covers f_law_every f_law_least f_law_served f_law_clash f_law_most f_law_right f_law d_depth_changes d_find_blocks d_has_position d_contains d_serves d_conflict d_demands_at_blocks d_is_open d_open_demands d_shadow_target d_require_few_blocks d_decisive_demands d_largest_independent d_count_needed d_law_draws d_law_next d_law_one d_law_spans d_law_covers d_law_every d_law_least d_law_served d_law_clash d_law_most d_law_right d_law t_MAX_BLOCKS) (n : Nat) (ih : FnOk P w K mg base CX0 (n + 3) f_largest_independent d_largest_independent ["demands"] (sp_lgP n)) : FnOk P w K mg base CX0 (n + 4) f_largest_independent d_largest_independent ["demands"] (sp_lg n) := by
  refine T.F_largest_independent.ok sc_largest_independent (fun vs H Q E h => ?_) (fun cdv A outer s H vs Q E hr h => ?_)
  · obtain ⟨D, zs, ds, rfl, _⟩ := h
    rfl
  · obtain ⟨D, zs, ds, rfl, hD, dm, ln, few, q⟩ := h
    refine ⟨_, (pss_cons (ps_if (pt_not (pt_truth (pv 0) (by intro _; rfl)))
      (pss_one (ps_ret (pe_tup pa_nil)))
      pss_nil)
      (pss_cons (ps_asg (pe_tup (pa_cons (pe_ix ix_list (pv 0) pe_int (fun _ _ => rfl)) (pa_cons (pe_slice sl_list (pv 0) (po_some pe_int) po_none) pa_nil))) (pg_tup rfl (pgs_cons (pg_name (i := 1) sc_largest_independent.nd rfl (Or.inr rfl)) (pgs_cons (pg_name (i := 2) sc_largest_independent.nd rfl (Or.inl rfl)) pgs_nil))))
      (pss_cons (ps_set (i := 3) sc_largest_independent.nd rfl (Or.inl rfl) (pe_op op_catA (pe_tup (pa_cons (pv 1) pa_nil)) (pe_call ih (hr.mono (by omega)) (by rfl) T.g_largest_independent T.F_largest_independent.kp T.b_largest_independent .nil pass0 (pa_cons (pe_lc (own := [("demand", 4)]) (g := (gName 4)) (by rfl) sc_largest_independent.nd (pi_list (pv 2)) (blkOk_by (own := [("demand", 4)]) (N := N_largest_independent) (sc := defScope s_largest_independent) (by decide +kernel)) (fun _ _ _ _ _ => (pg_name (i := 4) sc_largest_independent.nd rfl (Or.inl rfl))) (fun _ _ _ _ _ => pts_one (pt_not (pt_val (pe_call (ok_conflict T) (hr.mono (by omega)) (by rfl) T.g_conflict T.F_conflict.kp T.b_conflict .nil pass0 (pa_cons (pv 1) (pa_cons (pv 4) pa_nil)))))) (fun _ _ _ _ _ => (pv 4))) pa_nil))))
      (pss_cons (ps_if (pt_cmpR op_ge (pe_callB call_len_seq (by rfl) T.z_len PySem.boot_len (pa_cons (pv 3) pa_nil)) (pe_callB cr_lenSet (by rfl) T.z_len PySem.boot_len (pa_cons (pe_scI (own := [("position", 5), ("target", 6)]) (g := (gTup K 2 (gCons (gName 5) (gCons (gName 6) gNil)))) (tt := tYes) (by rfl) sc_largest_independent.nd (pi_list (pv 2)) (blkOk_by (own := [("position", 5), ("target", 6)]) (N := N_largest_independent) (sc := defScope s_largest_independent) (by decide +kernel)) (fun _ _ _ _ _ => (pg_tup rfl (pgs_cons (pg_name (i := 5) sc_largest_independent.nd rfl (Or.inl rfl)) (pgs_cons (pg_name (i := 6) sc_largest_independent.nd rfl (Or.inl rfl)) pgs_nil)))) (fun _ _ _ _ _ => pts_nil) (fun _ _ _ _ _ => (pv 5))) pa_nil)) (nomark _))
      (pss_one (ps_ret (pv 3)))
      pss_nil)
      (pss_one (ps_ret (pe_maxLen rfl (by rfl) T.z_max (by rfl) T.z_len (pa_cons (pe_lst (pa_cons (pv 3) (pa_cons (pe_call ih (hr.mono (by omega)) (by rfl) T.g_largest_independent T.F_largest_independent.kp T.b_largest_independent .nil pass0 (pa_cons (pv 2) pa_nil)) pa_nil))) pa_nil)))))))), ?_⟩
    have lz := dm.length
    refine ⟨.ref D, rfl, !zs.isEmpty, .inl ⟨_, SqL.of hD, rfl⟩, ?_⟩
    match zs, ds, dm with
    | [], [], _ =>
      refine iteT ⟨by show 0 ≤ sizeLine; decide, fun p np => ?_⟩
      exact q _ p [] (same_new np) upd_same .nil
    | v :: zs, d :: ds, dm =>
    obtain ⟨dv, dr⟩ := dm.sub rfl rfl
    refine iteF ?_
    rw [List.length_cons] at ln few
    obtain ⟨m, rfl⟩ : ∃ m, n = m + 1 := ⟨n - 1, by omega⟩
    have lz2 := dr.length
    refine ⟨.ref D, rfl, D, _, 0, v, rfl, rfl, SqL.of hD, (show atI (v :: zs) ((0 : Nat) : Int) = some v from atI_nat rfl), .ref D, rfl, 1, rfl, D, _, rfl, SqL.of hD, fun R nR => ?_⟩
    rw [show cutV (v :: zs) (some 1) none = zs from cutFrom (v :: zs) 1]
    have s1 := same_new (o := .lst zs) nR
    have eR := upd_same (H := H) (a := R) (o := .lst zs)
    generalize upd H R (.lst zs) = H1 at *
    refine ⟨by show 2 ≤ sizeLine; decide, fun tp ntp => ?_⟩
    have s2 := same_new (o := .tup [v, .ref R]) ntp
    have etp := upd_same (H := H1) (a := tp) (o := .tup [v, .ref R])
    generalize upd H1 tp (.tup [v, .ref R]) = H2 at *
    refine ⟨tp, _, rfl, SqT.of etp, rfl, v, [.ref R], rfl, .ref R, [], rfl, rfl, ?_⟩
    have s12 := s1.trans s2
    have eR2 := s2 _ _ eR
    have dv2 := dv.same s12
    have dr2 := dr.same s12
    -- (first,)
    refine ⟨v, rfl, by show 1 ≤ sizeLine; decide, fun u nu => ?_⟩
    have s3 := same_new (o := .tup [v]) nu
    have eu := upd_same (H := H2) (a := u) (o := .tup [v])
    generalize upd H2 u (.tup [v]) = H3 at *
    have eR3 := s3 _ _ eR2
    have dv3 := dv2.same s3
    have dr3 := dr2.same s3
    refine ⟨.ref R, rfl, R, rfl, ⟨_, SqL.of eR3⟩, fun D2 nD2 => ?_⟩
    refine lcL (K := K) (a := R) (xs := zs) (fun j H' ws => Dms H' ws ((ds.take j).filter fun e => !cf d e)) nD2 (fun H' s => SqL.of (s _ _ (eR3))) (by omega) (fun _ _ _ _ t r => r.tps t) (fun j H' ws r => (by rw [r.length]; exact Nat.le_trans (List.length_filter_le _ _) (List.length_take_le _ _))) (fun _ => .nil) ?_ ?_
    · rintro j z H' N acc hj sj eA sz r no yes
      obtain ⟨p, lo, hi, ed, dz⟩ := dr3.get hj
      refine ⟨rfl, v, rfl, z, rfl, v, z, d.1, d.2.1, d.2.2, p, lo, hi, rfl, dv3.same sj, dz.same sj, _, rfl, ite2 (fun c => ?_) (fun c => ?_)⟩
      · refine ⟨z, rfl, yes H' _ (Same.refl _) ?_⟩
        rw [take_filter ed, if_pos c]
        exact r.snoc (dz.same sj)
      · refine no H' (Same.refl _) ?_
        rw [take_filter ed, if_neg c, List.append_nil]
        exact r
    intro H4 ws s4 eD2 r
    rw [lz2, List.take_length] at r
    have fl := List.length_filter_le (fun e => !cf d e) ds
    refine ⟨D2, ws, _, rfl, eD2, r, Nat.le_trans fl (by omega), Nat.lt_of_le_of_lt fl (by omega), fun H5 cp cws s5 ecp dmc => ?_⟩
    rw [lg_same _ ds.length _ (Nat.le_refl _) fl] at dmc
    have s35 := s4.trans s5
    have llg := (lg_sub ds.length (ds.filter fun e => !cf d e)).length_le
    have lcw := dmc.length
    refine catA_any (s35 _ _ eu) ecp (by rw [show sizeLine = 16777216 by decide]; show 1 + _ ≤ _; omega) (fun H6 ch s6 ech => ?_)
    have s36 := s35.trans s6
    have dch : Dms H6 ([v] ++ cws) (d :: lg ds.length (ds.filter fun e => !cf d e)) := .cons (dv3.same s36) (dmc.same s6)
    have eR6 := s36 _ _ eR3
    have dr6 := dr3.same s36
    have s06 := s12.trans (s3.trans s36)
    have lch := dch.length
    generalize [v] ++ cws = vch at *
    have eq := lg_cons ds.length d ds
    generalize hch : d :: lg ds.length (ds.filter fun e => !cf d e) = och at *
    refine ⟨.ref ch, rfl, ch, vch, rfl, .inr (SqT.of ech), ?_⟩
    refine ⟨.ref R, rfl, R, rfl, ⟨_, SqL.of eR6⟩, fun D3 nD3 => ?_⟩
    refine scL (K := K) (a := R) (xs := zs) (ds.map (·.1)) nD3 (fun H' s => SqL.of (s _ _ eR6)) (by rw [List.length_map]; exact lz2) (by rw [List.length_map]; omega) ?_ ?_
    · rintro i z y H' N S k hz hy sj eS lim nx
      obtain ⟨p, lo, hi, ed, dz⟩ := dr6.get hz
      rw [List.getElem?_map, ed] at hy
      cases hy
      obtain ⟨uz, tz, rfl, h1, h2⟩ := (dz.same sj).ex
      exact ⟨uz, _, rfl, SqT.of h1, rfl, .int p, [.ref tz], rfl, .ref tz, [], rfl, rfl, rfl, .int p, rfl, p, S, k, rfl, eS, lim, nx⟩
    intro H7 S s7 eD3
    dsimp only [tNil]
    refine ⟨D3, S, _, rfl, eD3, ?_⟩
    have s07 := s06.trans s7
    refine ⟨_, _, rfl, rfl, _, rfl, ite2 (fun c => ?_) (fun c => ?_)⟩
    · have c := of_decide_eq_true c
      have c2 : (kinds (ds.map (·.1))).length ≤ och.length := by
        rw [← lch]
        exact Int.ofNat_le.mp c
      refine ⟨.ref ch, rfl, ?_⟩
      refine q H7 ch vch s07 (s7 _ _ ech) ?_
      show Dms H7 vch (lg (ds.length + 1) (d :: ds))
      rw [eq, if_pos c2]
      exact dch.same s7
    · have c := of_decide_eq_false (Bool.not_eq_true _ ▸ c)
      have c2 : ¬ (kinds (ds.map (·.1))).length ≤ och.length := fun z => c (by
        rw [← lch] at z
        exact Int.ofNat_le.mpr z)
      refine ⟨.ref ch, rfl, .ref R, rfl, R, zs, ds, rfl, s7 _ _ eR6, dr6.same s7, by omega, by omega, fun H8 o wo s8 eo dmo => ?_⟩
      have lo2 := dmo.length
      refine ⟨by show 2 ≤ sizeLine; decide, fun ml nml => ?_⟩
      have s9 := same_new (o := .lst [.ref ch, .ref o]) nml
      have eml := upd_same (H := H8) (a := ml) (o := .lst [.ref ch, .ref o])
      generalize upd H8 ml (.lst [.ref ch, .ref o]) = H9 at *
      dsimp only [tNil]
      have s79 := s8.trans s9
      refine ⟨ml, ch, o, vch, wo, rfl, SqL.of eml, SqT.of (s79 _ _ (s7 _ _ ech)), SqT.of (s9 _ _ eo), ?_⟩
      have fin : Dms H9 (if vch.length < wo.length then wo else vch) (lg (ds.length + 1) (d :: ds)) := by
        rw [eq, if_neg c2, lch, lo2]
        split
        · exact dmo.same s9
        · exact dch.same (s7.trans s79)
      refine q H9 _ _ (s07.trans s79) ?_ fin
      split
      · exact s9 _ _ eo
      · exact s79 _ _ (s7 _ _ ech)
theorem lg_all (T : Tx K mg f_depth_changes f_find_blocks f_has_position f_contains f_serves f_conflict f_demands_at_blocks f_is_open f_open_demands f_shadow_target f_require_few_blocks f_decisive_demands f_largest_independent f_count_needed f_law_draws f_law_next f_law_one f_law_spans f_law_covers f_law_every f_law_least f_law_served f_law_clash f_law_most f_law_right f_law d_depth_changes d_find_blocks d_has_position d_contains d_serves d_conflict d_demands_at_blocks d_is_open d_open_demands d_shadow_target d_require_few_blocks d_decisive_demands d_largest_independent d_count_needed d_law_draws d_law_next d_law_one d_law_spans d_law_covers d_law_every d_law_least d_law_served d_law_clash d_law_most d_law_right d_law t_MAX_BLOCKS) : ∀ n : Nat, FnOk P w K mg base CX0 (n + 4) f_largest_independent d_largest_independent ["demands"] (sp_lg n)
  | 0 => lg_step T 0 ⟨fun _ _ _ _ h => h.elim, fun _ _ _ _ _ _ _ _ _ _ _ _ _ h => h.elim⟩
  | n + 1 => lg_step T (n + 1) (lg_all T n)
theorem ok_largest_independent (T : Tx K mg f_depth_changes f_find_blocks f_has_position f_contains f_serves f_conflict f_demands_at_blocks f_is_open f_open_demands f_shadow_target f_require_few_blocks f_decisive_demands f_largest_independent f_count_needed f_law_draws f_law_next f_law_one f_law_spans f_law_covers f_law_every f_law_least f_law_served f_law_clash f_law_most f_law_right f_law d_depth_changes d_find_blocks d_has_position d_contains d_serves d_conflict d_demands_at_blocks d_is_open d_open_demands d_shadow_target d_require_few_blocks d_decisive_demands d_largest_independent d_count_needed d_law_draws d_law_next d_law_one d_law_spans d_law_covers d_law_every d_law_least d_law_served d_law_clash d_law_most d_law_right d_law t_MAX_BLOCKS) : FnOk P w K mg base CX0 (lgN + 4) f_largest_independent d_largest_independent ["demands"] (sp_lg lgN) := lg_all T lgN

theorem find_step {f : Int × Int → Bool} {ps : List (Int × Int)} {i : Nat} {q : Int × Int} (e : ps[i]? = some q) : (ps.drop i).find? f = if f q = true then some q else (ps.drop (i + 1)).find? f := by
  obtain ⟨hi, rfl⟩ := List.getElem?_eq_some_iff.mp e
  rw [List.drop_eq_getElem_cons hi, List.find?_cons]
  cases f ps[i] <;> rfl
theorem eqv_pair (x y u v : Int) : PyData.eqv (.tuple [.int x, .int y]) (.tuple [.int u, .int v]) = decide ((x, y) = (u, v)) := by
  show ((x == u) && ((y == v) && true)) = decide ((x, y) = (u, v))
  rw [Bool.and_true, Bool.eq_iff_iff, Bool.and_eq_true, beq_iff_eq, beq_iff_eq, decide_eq_true_eq, Prod.mk.injEq]
def shB (p lo hi : Int) (q : Int × Int) : Bool := !decide (q = (lo, hi)) && (inI lo hi q.1 q.2 && atP q.1 q.2 p)
def sp_shadow_target : Sp := fun vs H Q _ => ∃ (a : Addr) (us : List V) (ps : List (Int × Int)) (v : V) (p lo hi : Int), vs = [.ref a, v] ∧ H a = some (.tup us) ∧ Ivs H us ps ∧ Dm H v p lo hi ∧ ∀ r, OV H r (ps.find? (shB p lo hi)) → Q r H
theorem ok_shadow_target (T : Tx K mg f_depth_changes f_find_blocks f_has_position f_contains f_serves f_conflict f_demands_at_blocks f_is_open f_open_demands f_shadow_target f_require_few_blocks f_decisive_demands f_largest_independent f_count_needed f_law_draws f_law_next f_law_one f_law_spans f_law_covers f_law_every f_law_least f_law_served f_law_clash f_law_most f_law_right f_law d_depth_changes d_find_blocks d_has_position d_contains d_serves d_conflict d_demands_at_blocks d_is_open d_open_demands d_shadow_target d_require_few_blocks d_decisive_demands d_largest_independent d_count_needed d_law_draws d_law_next d_law_one d_law_spans d_law_covers d_law_every d_law_least d_law_served d_law_clash d_law_most d_law_right d_law t_MAX_BLOCKS) : FnOk P w K mg base CX0 2 f_shadow_target d_shadow_target ["targets", "demand"] sp_shadow_target := by
  refine T.F_shadow_target.ok sc_shadow_target (fun vs H Q E h => ?_) (fun cdv A outer s H vs Q E hr h => ?_)
  · obtain ⟨a, us, ps, v, p, lo, hi, rfl, _⟩ := h
    rfl
  · obtain ⟨a, us, ps, v, p, lo, hi, rfl, ha, iv, dm, q⟩ := h
    obtain ⟨u, t, rfl, e1, e2⟩ := dm.ex
    refine ⟨_, (pss_cons (ps_asg (pv 1) (pg_tup rfl (pgs_cons (pg_name (i := 2) sc_shadow_target.nd rfl (Or.inl rfl)) (pgs_cons (pg_name (i := 3) sc_shadow_target.nd rfl (Or.inl rfl)) pgs_nil))))
      (pss_cons (ps_for PassesOwn.never rfl (pi_tup (pv 0)) (pg_name (i := 4) sc_shadow_target.nd rfl (Or.inl rfl))
      (pss_one (ps_if (PW.pt (pw_and (pt_cmpR (op_neD hr.units) (pv 4) (pv 3) (nomark _)) (pw_and (pt_val (pe_call (ok_contains T) (hr.mono (by decide)) (by rfl) T.g_contains T.F_contains.kp T.b_contains .nil pass0 (pa_cons (pv 3) (pa_cons (pv 4) pa_nil)))) (pw_and1 (pt_val (pe_call (ok_has_position T) (hr.mono (by decide)) (by rfl) T.g_has_position T.F_has_position.kp T.b_has_position .nil pass0 (pa_cons (pv 4) (pa_cons (pv 2) pa_nil))))))))
      (pss_one (ps_ret (pv 4)))
      pss_nil)))
      (pss_one (ps_ret pe_non)))), ?_⟩
    refine ⟨.ref u, rfl, u, _, rfl, SqT.of e1, rfl, .int p, [.ref t], rfl, .ref t, [], rfl, rfl, ?_⟩
    refine ⟨.ref a, rfl, a, rfl, ⟨_, SqT.of ha⟩, for_tup (K := K) (a := a) (xs := us) (fun i σ H' => H' = H ∧ ps.find? (shB p lo hi) = (ps.drop i).find? (shB p lo hi) ∧ ∃ y, σ = [some (.ref a), some (.ref u), some (.int p), some (.ref t), y]) ⟨rfl, rfl, _, rfl⟩ (fun i σ H' _ h => by rw [h.1]; exact SqT.of ha) ?_ ?_⟩
    · rintro i x σ H' hi2 ⟨rfl, ef, y, rfl⟩
      obtain ⟨b, x, z, rfl, ep, hb⟩ := iv.get hi2
      rw [find_step ep] at ef
      have no : ¬ shB p lo hi (x, z) = true → ps.find? (shB p lo hi) = (ps.drop (i + 1)).find? (shB p lo hi) := fun e => by
        rw [if_neg e] at ef
        exact ef
      refine ⟨.ref b, rfl, .ref t, rfl, _, _, dp2 hb, dp2 e2, rfl, rfl, _, rfl, ?_⟩
      rw [eqv_pair]
      refine ite2 (fun c1 => ?_) (fun c1 => ?_)
      · refine ⟨.ref t, rfl, .ref b, rfl, t, b, lo, hi, x, z, rfl, e2, hb, _, rfl, ite2 (fun c2 => ?_) (fun c2 => ?_)⟩
        · refine ⟨.ref b, rfl, .int p, rfl, b, x, z, p, rfl, hb, _, rfl, ite2 (fun c3 => ?_) (fun c3 => ?_)⟩
          · refine ⟨.ref b, rfl, q _ ?_⟩
            have e : shB p lo hi (x, z) = true := by
              unfold shB
              rw [c1, c2, c3]
              rfl
            rw [ef, if_pos e]
            exact ⟨b, rfl, hb⟩
          · refine ⟨rfl, no fun e => c3 ?_, _, rfl⟩
            unfold shB at e
            exact (Bool.and_eq_true_iff.mp (Bool.and_eq_true_iff.mp e).2).2
        · refine iteF ⟨rfl, no fun e => c2 ?_, _, rfl⟩
          unfold shB at e
          exact (Bool.and_eq_true_iff.mp (Bool.and_eq_true_iff.mp e).2).1
      · refine iteF ⟨rfl, no fun e => c1 ?_, _, rfl⟩
        unfold shB at e
        exact (Bool.and_eq_true_iff.mp e).1
    · rintro σ H' ⟨rfl, ef, y, rfl⟩
      refine q _ ?_
      rw [ef, iv.length, List.drop_length]
      rfl

/-! ### the demands that decide -/
def decO (ts ps : List (Int × Int)) : List Dem := ((dab ts (blocksOf (ts ++ ps))).filter (opB ps)).filter fun d => (ts.find? (shB d.1 d.2.1 d.2.2)).isNone
def needO (ts ps : List (Int × Int)) : Nat := (lg (decO ts ps).length (decO ts ps)).length
theorem OV.isN {H : Hp} {r : V} {o : Option (Int × Int)} (h : OV H r o) : decide (r = .non) = o.isNone := by
  match o, h with
  | none, h =>
    cases h
    rfl
  | some (x, y), h =>
    obtain ⟨t, e, _⟩ := h
    rw [e]
    exact decide_eq_false (fun z => by cases z)
theorem decO_len {ts ps : List (Int × Int)} : (decO ts ps).length ≤ (blocksOf (ts ++ ps)).length * ts.length := by
  unfold decO
  exact Nat.le_trans (List.length_filter_le _ _) (Nat.le_trans (List.length_filter_le _ _) dab_len)
def sp_decisive : Sp := fun vs H Q _ => ∃ (a b : Addr) (us ws : List V) (ts ps : List (Int × Int)), vs = [.ref a, .ref b] ∧ H a = some (.tup us) ∧ H b = some (.tup ws) ∧ Ivs H us ts ∧ Ivs H ws ps ∧ Good (ts ++ ps) ∧ ts.length + ps.length ≤ 30 ∧ (blocksOf (ts ++ ps)).length ≤ 8 ∧
  ∀ H' p zs, Same H H' → H' p = some (.lst zs) → Dms H' zs (decO ts ps) → Q (.ref p) H'
theorem ok_decisive_demands (T : Tx K mg f_depth_changes f_find_blocks f_has_position f_contains f_serves f_conflict f_demands_at_blocks f_is_open f_open_demands f_shadow_target f_require_few_blocks f_decisive_demands f_largest_independent f_count_needed f_law_draws f_law_next f_law_one f_law_spans f_law_covers f_law_every f_law_least f_law_served f_law_clash f_law_most f_law_right f_law d_depth_changes d_find_blocks d_has_position d_contains d_serves d_conflict d_demands_at_blocks d_is_open d_open_demands d_shadow_target d_require_few_blocks d_decisive_demands d_largest_independent d_count_needed d_law_draws d_law_next d_law_one d_law_spans d_law_covers d_law_every d_law_least d_law_served d_law_clash d_law_most d_law_right d_law t_MAX_BLOCKS) : FnOk P w K mg base CX0 5 f_decisive_demands d_decisive_demands ["targets", "pieces"] sp_decisive := by
  refine T.F_decisive_demands.ok sc_decisive_demands (fun vs H Q E h => ?_) (fun cdv A outer s H vs Q E hr h => ?_)
  · obtain ⟨a, b, us, ws, ts, ps, rfl, _⟩ := h
    rfl
  · obtain ⟨a, b, us, ws, ts, ps, rfl, ha, hb, ivt, ivp, g, lt, few, q⟩ := h
    refine ⟨_, (pss_one (ps_ret (pe_lc (own := [("demand", 2)]) (g := (gName 2)) (by rfl) sc_decisive_demands.nd (pi_tup (pe_call (ok_open_demands T) (hr.mono (by decide)) (by rfl) T.g_open_demands T.F_open_demands.kp T.b_open_demands .nil pass0 (pa_cons (pv 0) (pa_cons (pv 1) pa_nil)))) (blkOk_by (own := [("demand", 2)]) (N := N_decisive_demands) (sc := defScope s_decisive_demands) (by decide +kernel)) (fun _ _ _ _ _ => (pg_name (i := 2) sc_decisive_demands.nd rfl (Or.inl rfl))) (fun _ _ _ _ _ => pts_one (pt_cmpR op_isN (pe_call (ok_shadow_target T) (hr.mono (by decide)) (by rfl) T.g_shadow_target T.F_shadow_target.kp T.b_shadow_target .nil pass0 (pa_cons (pv 0) (pa_cons (pv 2) pa_nil))) pe_non (nomark _))) (fun _ _ _ _ _ => (pv 2))))), ?_⟩
    have lu := ivt.length
    refine ⟨.ref a, rfl, .ref b, rfl, a, b, us, ws, ts, ps, rfl, ha, hb, ivt, ivp, g, lt, fun H1 D zs s1 eD dm => ?_⟩
    have lo : ((dab ts (blocksOf (ts ++ ps))).filter (opB ps)).length < 1000 := by
      have h1 := dab_len (ts := ts) (bs := blocksOf (ts ++ ps))
      have h2 := List.length_filter_le (opB ps) (dab ts (blocksOf (ts ++ ps)))
      have h3 : (blocksOf (ts ++ ps)).length * ts.length ≤ 8 * 30 := Nat.mul_le_mul few (by omega)
      omega
    unfold decO at q
    generalize (dab ts (blocksOf (ts ++ ps))).filter (opB ps) = ds at *
    have lz := dm.length
    refine ⟨D, rfl, ⟨_, SqT.of eD⟩, fun D2 nD2 => ?_⟩
    refine lcT (K := K) (a := D) (xs := zs) (fun j H' ws => Dms H' ws ((ds.take j).filter fun d => (ts.find? (shB d.1 d.2.1 d.2.2)).isNone)) nD2 (fun H' s => SqT.of (s _ _ (eD))) (by omega) (fun _ _ _ _ t r => r.tps t) (fun j H' ws r => (by rw [r.length]; exact Nat.le_trans (List.length_filter_le _ _) (List.length_take_le _ _))) (fun _ => .nil) ?_ ?_
    · rintro j z H' N acc hj sj eA sz r no yes
      obtain ⟨p, lo, hi, ed, dz⟩ := dm.get hj
      have s1j := s1.trans sj
      refine ⟨rfl, .ref a, rfl, z, rfl, a, us, ts, z, p, lo, hi, rfl, s1j _ _ ha, ivt.same s1j, dz.same sj, fun rv ov => ?_⟩
      refine ⟨rfl, ?_⟩
      rw [ov.isN]
      refine ⟨_, rfl, ?_⟩
      refine ite2 (fun c => ?_) (fun c => ?_)
      · refine ⟨z, rfl, yes H' _ (Same.refl _) ?_⟩
        rw [take_filter ed, if_pos c]
        exact r.snoc (dz.same sj)
      · refine no H' (Same.refl _) ?_
        rw [take_filter ed, if_neg c, List.append_nil]
        exact r
    intro H2 ws2 s2 eD2 r
    rw [lz, List.take_length] at r
    exact q H2 D2 ws2 (s1.trans s2) eD2 r
def sp_few : Sp := fun vs H Q _ => ∃ (a : Addr) (us : List V) (row : List (Int × Int)), vs = [.ref a] ∧ H a = some (.tup us) ∧ Ivs H us row ∧ Good row ∧ row.length ≤ 30 ∧ (blocksOf row).length ≤ 8 ∧ ∀ H', Same H H' → Q .non H'
theorem ok_require_few_blocks (T : Tx K mg f_depth_changes f_find_blocks f_has_position f_contains f_serves f_conflict f_demands_at_blocks f_is_open f_open_demands f_shadow_target f_require_few_blocks f_decisive_demands f_largest_independent f_count_needed f_law_draws f_law_next f_law_one f_law_spans f_law_covers f_law_every f_law_least f_law_served f_law_clash f_law_most f_law_right f_law d_depth_changes d_find_blocks d_has_position d_contains d_serves d_conflict d_demands_at_blocks d_is_open d_open_demands d_shadow_target d_require_few_blocks d_decisive_demands d_largest_independent d_count_needed d_law_draws d_law_next d_law_one d_law_spans d_law_covers d_law_every d_law_least d_law_served d_law_clash d_law_most d_law_right d_law t_MAX_BLOCKS) : FnOk P w K mg base CX0 3 f_require_few_blocks d_require_few_blocks ["intervals"] sp_few := by
  refine T.F_require_few_blocks.ok sc_require_few_blocks (fun vs H Q E h => ?_) (fun cdv A outer s H vs Q E hr h => ?_)
  · obtain ⟨a, us, row, rfl, _⟩ := h
    rfl
  · obtain ⟨a, us, row, rfl, ha, iv, g, lr, few, q⟩ := h
    refine ⟨_, (pss_one (ps_if (pt_cmpR op_gt (pe_callB call_len_seq (by rfl) T.z_len PySem.boot_len (pa_cons (pe_call (ok_find_blocks T) (hr.mono (by decide)) (by rfl) T.g_find_blocks T.F_find_blocks.kp T.b_find_blocks .nil pass0 (pa_cons (pv 0) pa_nil)) pa_nil)) (pe_glob (v := .int 8) (by rfl) T.c_MAX_BLOCKS ⟨_, rfl⟩) (nomark _))
      (pss_one ps_never)
      pss_nil)), ?_⟩
    refine ⟨.ref a, rfl, a, us, row, rfl, ha, iv, g, by omega, fun H1 b ws s1 eb ivb => ?_⟩
    refine ⟨b, ws, rfl, .inr (SqT.of eb), _, _, rfl, rfl, _, rfl, ite2 (fun c => ?_) (fun _ => ?_)⟩
    · have c := of_decide_eq_true c
      rw [ivb.length] at c
      exact absurd c (by omega)
    · exact q H1 s1
def sp_count : Sp := fun vs H Q _ => ∃ (a b : Addr) (us ws : List V) (ts ps : List (Int × Int)), vs = [.ref a, .ref b] ∧ H a = some (.tup us) ∧ H b = some (.tup ws) ∧ Ivs H us ts ∧ Ivs H ws ps ∧ Good (ts ++ ps) ∧ ts.length + ps.length ≤ 30 ∧ (blocksOf (ts ++ ps)).length ≤ 8 ∧ 8 * ts.length ≤ lgN ∧
  ∀ H', Same H H' → Q (.int (needO ts ps)) H'
theorem ok_count_needed (T : Tx K mg f_depth_changes f_find_blocks f_has_position f_contains f_serves f_conflict f_demands_at_blocks f_is_open f_open_demands f_shadow_target f_require_few_blocks f_decisive_demands f_largest_independent f_count_needed f_law_draws f_law_next f_law_one f_law_spans f_law_covers f_law_every f_law_least f_law_served f_law_clash f_law_most f_law_right f_law d_depth_changes d_find_blocks d_has_position d_contains d_serves d_conflict d_demands_at_blocks d_is_open d_open_demands d_shadow_target d_require_few_blocks d_decisive_demands d_largest_independent d_count_needed d_law_draws d_law_next d_law_one d_law_spans d_law_covers d_law_every d_law_least d_law_served d_law_clash d_law_most d_law_right d_law t_MAX_BLOCKS) : FnOk P w K mg base CX0 (lgN+5) f_count_needed d_count_needed ["targets", "pieces"] sp_count := by
  refine T.F_count_needed.ok sc_count_needed (fun vs H Q E h => ?_) (fun cdv A outer s H vs Q E hr h => ?_)
  · obtain ⟨a, b, us, ws, ts, ps, rfl, _⟩ := h
    rfl
  · obtain ⟨a, b, us, ws, ts, ps, rfl, ha, hb, ivt, ivp, g, lt, few, ll, q⟩ := h
    refine ⟨_, (pss_cons (ps_expr (pe_call (ok_require_few_blocks T) (hr.mono (by decide)) (by rfl) T.g_require_few_blocks T.F_require_few_blocks.kp T.b_require_few_blocks .nil pass0 (pa_cons (pe_op op_catA (pv 0) (pv 1)) pa_nil)))
      (pss_one (ps_ret (pe_callB call_len_seq (by rfl) T.z_len PySem.boot_len (pa_cons (pe_call (ok_largest_independent T) (hr.mono (by decide)) (by rfl) T.g_largest_independent T.F_largest_independent.kp T.b_largest_independent .nil pass0 (pa_cons (pe_call (ok_decisive_demands T) (hr.mono (by decide)) (by rfl) T.g_decisive_demands T.F_decisive_demands.kp T.b_decisive_demands .nil pass0 (pa_cons (pv 0) (pa_cons (pv 1) pa_nil))) pa_nil)) pa_nil))))), ?_⟩
    have lu := ivt.length
    have lw := ivp.length
    refine ⟨.ref a, rfl, .ref b, rfl, catA_any ha hb (by rw [show sizeLine = 16777216 by decide]; omega) (fun H1 c s1 ec => ?_)⟩
    refine ⟨c, us ++ ws, ts ++ ps, rfl, ec, (ivt.same s1).append (ivp.same s1), g, by rw [List.length_append]; omega, few, fun H2 s2 => ?_⟩
    have s12 := s1.trans s2
    refine ⟨.ref a, rfl, .ref b, rfl, a, b, us, ws, ts, ps, rfl, s12 _ _ ha, s12 _ _ hb, ivt.same s12, ivp.same s12, g, lt, few, fun H3 D zs s3 eD dm => ?_⟩
    have dl := decO_len (ts := ts) (ps := ps)
    have d2 : (blocksOf (ts ++ ps)).length * ts.length ≤ 8 * ts.length := Nat.mul_le_mul_right _ few
    refine ⟨D, zs, _, rfl, eD, dm, by omega, by omega, fun H4 p ws4 s4 ep dm4 => ?_⟩
    refine ⟨p, ws4, rfl, .inr (SqT.of ep), ?_⟩
    rw [dm4.length]
    exact q H4 (s12.trans (s3.trans s4))

theorem mem_dab {ts bs : List (Int × Int)} {d : (Int × Int × Int)} : d ∈ dab ts bs ↔ ∃ t ∈ ts, ∃ x ∈ bs.map (·.1), atP t.1 t.2 x = true ∧ d = (x, t.1, t.2) := by
  unfold dab dabT
  rw [List.mem_flatMap]
  constructor
  · rintro ⟨b, hb, h⟩
    obtain ⟨t, ht, e⟩ := List.mem_map.mp h
    have z := List.mem_filter.mp ht
    exact ⟨t, z.1, b.1, List.mem_map.mpr ⟨b, hb, rfl⟩, z.2, e.symm⟩
  · rintro ⟨t, ht, x, hx, c, e⟩
    obtain ⟨b, hb, rfl⟩ := List.mem_map.mp hx
    exact ⟨b, hb, List.mem_map.mpr ⟨t, List.mem_filter.mpr ⟨ht, c⟩, e.symm⟩⟩

/-! ### what the targets need: the program's number is right -/
def Com (ts ps S : List (Int × Int)) : Prop := ∀ t ∈ ts, ∀ p, t.1 ≤ p → p ≤ t.2 → ∃ q ∈ ps ++ S, t.1 ≤ q.1 ∧ q.1 ≤ p ∧ p ≤ q.2 ∧ q.2 ≤ t.2
def OpenD (ts ps : List (Int × Int)) (d : Dem) : Prop := d.2 ∈ ts ∧ Vd d ∧ ∀ q ∈ ps, sv q d = false
theorem sv_svI (q : Int × Int) (d : Dem) : svI q.1 q.2 d.1 d.2.1 d.2.2 = sv q d := by
  rw [Bool.eq_iff_iff, sv_iff']
  unfold svI inI atP
  simp only [Bool.and_eq_true, decide_eq_true_eq]
  omega
theorem opB_iff {ps : List (Int × Int)} {d : Dem} : opB ps d = true ↔ ∀ q ∈ ps, sv q d = false := by
  unfold opB
  rw [Bool.not_eq_true', List.any_eq_false]
  constructor
  · intro h q hq
    have := h _ (List.mem_map.mpr ⟨q, hq, rfl⟩)
    rw [← sv_svI, ← Bool.not_eq_true]
    exact this
  · intro h b hb
    obtain ⟨q, hq, rfl⟩ := List.mem_map.mp hb
    have := h q hq
    rw [← sv_svI] at this
    rw [Bool.not_eq_true]
    exact this
def Shd (d : Dem) (t : Int × Int) : Prop := t ≠ d.2 ∧ d.2.1 ≤ t.1 ∧ t.2 ≤ d.2.2 ∧ t.1 ≤ d.1 ∧ d.1 ≤ t.2
theorem mem_dec {ts ps : List (Int × Int)} {d : Dem} : d ∈ decO ts ps ↔ OpenD ts ps d ∧ d.1 ∈ lowsOf (ts ++ ps) ∧ ∀ t ∈ ts, ¬ Shd d t := by
  unfold decO
  rw [List.mem_filter, List.mem_filter, opB_iff, mem_dab, Option.isNone_iff_eq_none, List.find?_eq_none]
  have sh : (∀ t ∈ ts, ¬ shB d.1 d.2.1 d.2.2 t = true) ↔ ∀ t ∈ ts, ¬ Shd d t := by
    have : ∀ t : Int × Int, shB d.1 d.2.1 d.2.2 t = true ↔ Shd d t := fun t => by
      unfold shB inI atP Shd
      simp only [Bool.and_eq_true, decide_eq_true_eq, Bool.not_eq_true', decide_eq_false_iff_not]
      constructor
      · rintro ⟨a, ⟨b, c⟩, e, f⟩
        exact ⟨a, b, c, e, f⟩
      · rintro ⟨a, b, c, e, f⟩
        exact ⟨a, ⟨b, c⟩, e, f⟩
    exact ⟨fun h t ht s => h t ht ((this t).mpr s), fun h t ht s => h t ht ((this t).mp s)⟩
  rw [sh]
  constructor
  · rintro ⟨⟨⟨t, ht, x, hx, at1, rfl⟩, op⟩, n⟩
    have z := Bool.and_eq_true_iff.mp at1
    exact ⟨⟨ht, ⟨of_decide_eq_true z.1, of_decide_eq_true z.2⟩, op⟩, hx, n⟩
  · rintro ⟨⟨ht, v, op⟩, hx, n⟩
    exact ⟨⟨⟨d.2, ht, d.1, hx, Bool.and_eq_true_iff.mpr ⟨decide_eq_true v.1, decide_eq_true v.2⟩, rfl⟩, op⟩, n⟩
theorem dec_fam {ts ps : List (Int × Int)} (g : Good (ts ++ ps)) : Fam (decO ts ps) := by
  refine ⟨fun d hd => ?_, fun d hd e he h1 h2 h3 c => ?_, fun d hd e he c => ?_⟩
  · have m := mem_dec.mp hd
    exact ⟨(g _ (List.mem_append_left _ m.1.1)).1, m.1.2.1⟩
  · have md := mem_dec.mp hd
    have me := mem_dec.mp he
    have c := cf_iff.mp c
    have vd := md.1.2.1
    have ve := me.1.2.1
    unfold Vd at vd ve
    have ex : ∀ q ∈ ps, sv q (d.1, e.2) = false ∧ sv q (e.1, d.2) = false := fun q hq => by
      have x := sv_exch (z := q) h1 h2 h3 (cf_iff.mpr c)
      rw [md.1.2.2 q hq, me.1.2.2 q hq] at x
      simp at x
      exact x
    constructor
    · refine mem_dec.mpr ⟨⟨me.1.1, ⟨c.1.1, c.1.2⟩, fun q hq => (ex q hq).1⟩, md.2.1, fun t ht s => ?_⟩
      obtain ⟨s1, s2, s3, s4, s5⟩ := s
      have s1 : t ≠ e.2 := s1
      have s2 : e.2.1 ≤ t.1 := s2
      have s3 : t.2 ≤ e.2.2 := s3
      have s4 : t.1 ≤ d.1 := s4
      have s5 : d.1 ≤ t.2 := s5
      by_cases k : e.1 ≤ t.2
      · exact me.2.2 t ht ⟨s1, s2, s3, by omega, k⟩
      · exact md.2.2 t ht ⟨fun z => by rw [z] at s2; omega, by omega, by omega, s4, s5⟩
    · refine mem_dec.mpr ⟨⟨md.1.1, ⟨c.2.1, c.2.2⟩, fun q hq => (ex q hq).2⟩, me.2.1, fun t ht s => ?_⟩
      obtain ⟨s1, s2, s3, s4, s5⟩ := s
      have s1 : t ≠ d.2 := s1
      have s2 : d.2.1 ≤ t.1 := s2
      have s3 : t.2 ≤ d.2.2 := s3
      have s4 : t.1 ≤ e.1 := s4
      have s5 : e.1 ≤ t.2 := s5
      by_cases k : t.1 ≤ d.1
      · exact md.2.2 t ht ⟨s1, s2, s3, k, by omega⟩
      · exact me.2.2 t ht ⟨fun z => by rw [z] at s3; omega, by omega, by omega, s4, s5⟩
  · have md := mem_dec.mp hd
    have me := mem_dec.mp he
    have c := cf_iff.mp c
    by_cases q : d.2 = e.2
    · exact .inl q
    · have n1 := md.2.2 e.2 me.1.1
      have n2 := me.2.2 d.2 md.1.1
      unfold Shd at n1 n2
      have q' : ¬ e.2 = d.2 := fun z => q z.symm
      have n1 : ¬ (d.2.1 ≤ e.2.1 ∧ e.2.2 ≤ d.2.2) := fun z => n1 ⟨q', z.1, z.2, c.1.1, c.1.2⟩
      have n2 : ¬ (e.2.1 ≤ d.2.1 ∧ d.2.2 ≤ e.2.2) := fun z => n2 ⟨q, z.1, z.2, c.2.1, c.2.2⟩
      have w := (mem_dec.mp hd).1.2.1
      omega
theorem sum_served {S : List (Int × Int)} : ∀ {D : List Dem}, (∀ d ∈ D, ∃ z ∈ S, sv z d = true) → D.length ≤ (S.map fun z => cov D z).sum := by
  intro D
  induction D with
  | nil => exact fun _ => Nat.zero_le _
  | cons d D ih =>
    intro h
    have r := ih fun e he => h e (List.mem_cons_of_mem _ he)
    obtain ⟨z, hz, s⟩ := h d List.mem_cons_self
    have step : ∀ T : List (Int × Int), (T.map fun z => cov (d :: D) z).sum = (T.map fun z => cov D z).sum + T.countP (fun z => sv z d) := by
      intro T
      induction T with
      | nil => rfl
      | cons w T it =>
        rw [List.map_cons, List.map_cons, List.sum_cons, List.sum_cons, it, cov_cons, List.countP_cons]
        omega
    rw [step, List.length_cons]
    have : 0 < S.countP (fun z => sv z d) := List.countP_pos_iff.mpr ⟨z, hz, s⟩
    omega
theorem sum_one {α : Type} {f : α → Nat} : ∀ {S : List α}, (∀ x ∈ S, f x ≤ 1) → (S.map f).sum ≤ S.length
  | [], _ => Nat.le_refl _
  | x :: S, h => by
    have r := sum_one (S := S) fun y hy => h y (List.mem_cons_of_mem _ hy)
    have := h x List.mem_cons_self
    rw [List.map_cons, List.sum_cons, List.length_cons]
    omega
/-- no fewer pieces than independent open demands -/
theorem weak_dual {ts ps S : List (Int × Int)} {D : List Dem} (c : Com ts ps S) (i : Ind D) (o : ∀ d ∈ D, OpenD ts ps d) : D.length ≤ S.length := by
  refine Nat.le_trans (sum_served (S := S) fun d hd => ?_) (sum_one fun z _ => i.cov_le z)
  obtain ⟨h1, h2, h3⟩ := o d hd
  obtain ⟨q, hq, k1, k2, k3, k4⟩ := c d.2 h1 d.1 h2.1 h2.2
  have s : sv q d = true := sv_iff'.mpr ⟨k1, k2, k3, k4⟩
  rcases List.mem_append.mp hq with hq | hq
  · rw [h3 q hq] at s
    cases s
  · exact ⟨q, hq, s⟩
theorem block_const {row : List (Int × Int)} (g : Good row) {b q : Int × Int} (hb : b ∈ blocksOf row) (hq : q ∈ row) {x : Int} (h1 : b.1 ≤ x) (h2 : x ≤ b.2) : (q.1 ≤ x ∧ x ≤ q.2) ↔ (q.1 ≤ b.1 ∧ b.2 ≤ q.2) := by
  have B := blocks_bl g
  have gq := g q hq
  constructor
  · rintro ⟨k1, k2⟩
    constructor
    · by_cases z : q.1 ≤ b.1
      · exact z
      · exact absurd ⟨q, hq, .inl rfl⟩ (B.inner hb (p := q.1) (by omega) (by omega))
    · by_cases z : b.2 ≤ q.2
      · exact z
      · exact absurd ⟨q, hq, .inr rfl⟩ (B.inner hb (p := q.2 + 1) (by omega) (by omega))
  · omega
theorem need_ok {ts ps : List (Int × Int)} (g : Good (ts ++ ps)) : (∃ D, Ind D ∧ (∀ d ∈ D, OpenD ts ps d) ∧ D.length = needO ts ps) ∧
    ∃ S, S.length ≤ needO ts ps ∧ Com ts ps S ∧ ∀ z ∈ S, ∃ t ∈ ts, t.1 ≤ z.1 ∧ z.1 ≤ z.2 ∧ z.2 ≤ t.2 := by
  have fam := dec_fam g
  have sub := lg_sub (decO ts ps).length (decO ts ps)
  refine ⟨⟨_, lg_ind _ _, fun d hd => (mem_dec.mp (sub.mem hd)).1, rfl⟩, ?_⟩
  obtain ⟨S, s1, s2⟩ := min_max (needO ts ps) fam fun I i1 i2 => lg_max _ _ (fun d hd => (fam.ok d hd).2) (Nat.le_refl _) I i1 i2
  have inn : ∀ d ∈ decO ts ps, d.2 ∈ ts ++ ps := fun d hd => List.mem_append_left _ (mem_dec.mp hd).1.1
  -- stretched to whole blocks
  have wide : ∀ z : Int × Int, (∃ d ∈ decO ts ps, sv z d = true) → ∃ w : Int × Int, (∀ d ∈ decO ts ps, sv z d = true → sv w d = true) ∧ ∃ b ∈ blocksOf (ts ++ ps), w.2 = b.2 := by
    rintro z ⟨d, hd, s⟩
    have s := sv_iff'.mp s
    have p1 : 0 < depI (ts ++ ps) z.1 := dep_pos.mpr ⟨d.2, inn d hd, s.1, by omega⟩
    have p2 : 0 < depI (ts ++ ps) z.2 := dep_pos.mpr ⟨d.2, inn d hd, by omega, s.2.2.2⟩
    obtain ⟨b, hb, b1, b2⟩ := dep_in g p1
    obtain ⟨c, hc, c1, c2⟩ := dep_in g p2
    refine ⟨(b.1, c.2), fun e he se => ?_, c, hc, rfl⟩
    have se := sv_iff'.mp se
    have k1 := (block_const g hb (inn e he) b1 b2).mp ⟨se.1, by omega⟩
    have k2 := (block_const g hc (inn e he) c1 c2).mp ⟨by omega, se.2.2.2⟩
    refine sv_iff'.mpr ⟨k1.1, ?_, ?_, k2.2⟩
    · show b.1 ≤ e.1
      omega
    · show e.1 ≤ c.2
      omega
  have ch : ∀ z : Int × Int, ∃ w : Int × Int, (∃ d ∈ decO ts ps, sv z d = true) → (∀ d ∈ decO ts ps, sv z d = true → sv w d = true) ∧ ∃ b ∈ blocksOf (ts ++ ps), w.2 = b.2 := fun z => by
    by_cases h : ∃ d ∈ decO ts ps, sv z d = true
    · obtain ⟨w, hw⟩ := wide z h
      exact ⟨w, fun _ => hw⟩
    · exact ⟨z, fun k => absurd k h⟩
  obtain ⟨f, hf⟩ := Classical.axiomOfChoice ch
  let use : Int × Int → Bool := fun z => (decO ts ps).any fun d => sv z d
  have useI : ∀ z, use z = true ↔ ∃ d ∈ decO ts ps, sv z d = true := fun z => List.any_eq_true
  refine ⟨(S.filter use).map f, ?_, fun t ht p h1 h2 => ?_, fun w hw => ?_⟩
  · rw [List.length_map]
    exact Nat.le_trans (List.length_filter_le _ _) s1
  · by_cases pc : ∃ q ∈ ps, t.1 ≤ q.1 ∧ q.1 ≤ p ∧ p ≤ q.2 ∧ q.2 ≤ t.2
    · obtain ⟨q, hq, k⟩ := pc
      exact ⟨q, List.mem_append_left _ hq, k⟩
    · have mt : t ∈ ts ++ ps := List.mem_append_left _ ht
      obtain ⟨b, hb, b1, b2⟩ := dep_in g (dep_pos.mpr ⟨t, mt, h1, h2⟩)
      have kt := (block_const g hb mt b1 b2).mp ⟨h1, h2⟩
      have bb : b.1 ≤ b.2 := by omega
      -- a shortest target inside t that contains the block
      have short : ∀ (n : Nat) (u : Int × Int), u ∈ ts → t.1 ≤ u.1 → u.2 ≤ t.2 → u.1 ≤ b.1 → b.1 ≤ u.2 → (u.2 - u.1).toNat ≤ n → ∃ v ∈ ts, t.1 ≤ v.1 ∧ v.2 ≤ t.2 ∧ v.1 ≤ b.1 ∧ b.1 ≤ v.2 ∧ ∀ x ∈ ts, ¬ Shd (b.1, v) x := by
        intro n
        induction n with
        | zero =>
          intro u hu a1 a2 a3 a4 a5
          refine ⟨u, hu, a1, a2, a3, a4, fun x hx s => ?_⟩
          obtain ⟨z1, z2, z3, z4, z5⟩ := s
          have z2 : u.1 ≤ x.1 := z2
          have z3 : x.2 ≤ u.2 := z3
          have z4 : x.1 ≤ b.1 := z4
          have z5 : b.1 ≤ x.2 := z5
          exact z1 (Prod.ext (by show x.1 = u.1; omega) (by show x.2 = u.2; omega))
        | succ n ih =>
          intro u hu a1 a2 a3 a4 a5
          by_cases k : ∀ x ∈ ts, ¬ Shd (b.1, u) x
          · exact ⟨u, hu, a1, a2, a3, a4, k⟩
          · have ⟨x, hx, s⟩ : ∃ x ∈ ts, Shd (b.1, u) x := Classical.byContradiction fun z => k fun x hx s => z ⟨x, hx, s⟩
            obtain ⟨z1, z2, z3, z4, z5⟩ := s
            have z2 : u.1 ≤ x.1 := z2
            have z3 : x.2 ≤ u.2 := z3
            have z4 : x.1 ≤ b.1 := z4
            have z5 : b.1 ≤ x.2 := z5
            have ne : ¬ (x.1 = u.1 ∧ x.2 = u.2) := fun e => z1 (Prod.ext e.1 e.2)
            exact ih x hx (by omega) (by omega) z4 z5 (by omega)
      obtain ⟨v, hv, v1, v2, v3, v4, v5⟩ := short _ t ht (Int.le_refl _) (Int.le_refl _) kt.1 (by omega) (Nat.le_refl _)
      have md : (b.1, v) ∈ decO ts ps := by
        refine mem_dec.mpr ⟨⟨hv, ⟨v3, v4⟩, fun q hq => ?_⟩, List.mem_map.mpr ⟨b, hb, rfl⟩, v5⟩
        rw [← Bool.not_eq_true]
        intro s
        have s := sv_iff'.mp s
        have s1 : v.1 ≤ q.1 := s.1
        have s2 : q.1 ≤ b.1 := s.2.1
        have s3 : b.1 ≤ q.2 := s.2.2.1
        have s4 : q.2 ≤ v.2 := s.2.2.2
        have kq := (block_const g hb (List.mem_append_right _ hq) (Int.le_refl _) bb).mp ⟨s2, s3⟩
        exact pc ⟨q, hq, by omega, by omega, by omega, by omega⟩
      obtain ⟨z, hz, sz⟩ := s2 _ md
      obtain ⟨fw, c, hc, ec⟩ := hf z ⟨_, md, sz⟩
      have sw := sv_iff'.mp (fw _ md sz)
      have w1 : v.1 ≤ (f z).1 := sw.1
      have w2 : (f z).1 ≤ b.1 := sw.2.1
      have w3 : b.1 ≤ (f z).2 := sw.2.2.1
      have w4 : (f z).2 ≤ v.2 := sw.2.2.2
      refine ⟨f z, List.mem_append_right _ (List.mem_map.mpr ⟨z, List.mem_filter.mpr ⟨hz, (useI z).mpr ⟨_, md, sz⟩⟩, rfl⟩), by omega, by omega, ?_, by omega⟩
      obtain ⟨i, ei⟩ := List.getElem?_of_mem hb
      obtain ⟨j, ej⟩ := List.getElem?_of_mem hc
      have B := blocks_bl g
      have cc : c.1 ≤ c.2 := by
        have := B.ok c hc
        omega
      rcases Nat.lt_trichotomy i j with l | l | l
      · have := B.idx l ei ej
        omega
      · subst l
        rw [ei] at ej
        cases ej
        omega
      · have := B.idx l ej ei
        omega
  · obtain ⟨z, hz, rfl⟩ := List.mem_map.mp hw
    obtain ⟨d, hd, s⟩ := (useI z).mp (List.mem_filter.mp hz).2
    have sw := sv_iff'.mp ((hf z ⟨d, hd, s⟩).1 d hd s)
    exact ⟨d.2, (mem_dec.mp hd).1.1, sw.1, by omega, sw.2.2.2⟩

/-! ### sorted(set(pairs)) -/
def ltP (a b : Int × Int) : Prop := a.1 < b.1 ∨ (a.1 = b.1 ∧ a.2 < b.2)
def prL (q : Int × Int) : List Int := [q.1, q.2]
theorem prL_inj {a b : Int × Int} (h : prL a = prL b) : a = b := by
  unfold prL at h
  cases a
  cases b
  simp at h
  rw [h.1, h.2]
theorem mem_prL {q : Int × Int} {ps : List (Int × Int)} : prL q ∈ ps.map prL ↔ q ∈ ps := by
  rw [List.mem_map]
  exact ⟨fun ⟨a, ha, e⟩ => prL_inj e ▸ ha, fun h => ⟨q, h, rfl⟩⟩
theorem Ivs.keys {H : Hp} {us : List V} {ps : List (Int × Int)} (h : Ivs H us ps) : ∃ ks : List (Addr × List Int), us = ks.map (fun p => V.ref p.1) ∧ ks.map (·.2) = ps.map prL ∧ ∀ p ∈ ks, ∃ x y : Int, p.2 = [x, y] ∧ H p.1 = some (.tup [.int x, .int y]) := by
  induction h with
  | nil => exact ⟨[], rfl, rfl, fun p hp => nomatch hp⟩
  | cons e _ ih =>
    obtain ⟨ks, e1, e2, e3⟩ := ih
    refine ⟨(_, [_, _]) :: ks, by rw [List.map_cons, e1], by rw [List.map_cons, List.map_cons, e2]; rfl, fun p hp => ?_⟩
    rcases List.mem_cons.mp hp with rfl | hp
    · exact ⟨_, _, rfl, e⟩
    · exact e3 p hp
theorem Ivs.ofKeys {H : Hp} : ∀ {L : List (Addr × List Int)}, (∀ p ∈ L, ∃ x y : Int, p.2 = [x, y] ∧ H p.1 = some (.tup [.int x, .int y])) → ∃ ps, Ivs H (L.map fun p => V.ref p.1) ps ∧ L.map (·.2) = ps.map prL
  | [], _ => ⟨[], .nil, rfl⟩
  | p :: L, h => by
    obtain ⟨x, y, e, e1⟩ := h p List.mem_cons_self
    obtain ⟨ps, i, e2⟩ := Ivs.ofKeys (L := L) fun q hq => h q (List.mem_cons_of_mem _ hq)
    exact ⟨(x, y) :: ps, .cons e1 i, by rw [List.map_cons, List.map_cons, e2, e]; rfl⟩
theorem Ivs.tpsMem {H : Hp} {us : List V} {ps : List (Int × Int)} (h : Ivs H us ps) {q : Int × Int} (hq : q ∈ ps) : ∃ a, V.ref a ∈ us ∧ H a = some (.tup [.int q.1, .int q.2]) := by
  induction h with
  | nil => cases hq
  | cons e _ ih =>
    rcases List.mem_cons.mp hq with rfl | hq
    · exact ⟨_, List.mem_cons_self, e⟩
    · obtain ⟨a, h1, h2⟩ := ih hq
      exact ⟨a, List.mem_cons_of_mem _ h1, h2⟩
theorem sorted_keys {K : PySem.W.Frag} {P : Program} {w : World} {H : Hp} {ps : List (Int × Int)} {Q : VK} {ks L : List (Addr × List Int)} {a : Addr} (e2 : ks.map (·.2) = ps.map prL) (e3 : ∀ p ∈ ks, ∃ x y : Int, p.2 = [x, y] ∧ H p.1 = some (.tup [.int x, .int y])) (na : H a = none) (h1 : ∀ p ∈ L, p ∈ ks) (h2 : ∀ p ∈ ks, p.2 ∈ L.map (·.2)) (bd : ∀ q ∈ ps, (0 ≤ q.1 ∧ q.1 < 10 ^ 13) ∧ 0 ≤ q.2 ∧ q.2 < 10 ^ 13)
    (fin : ∀ H' p us' ps', Same H H' → H p = none → H' p = some (.lst us') → Ivs H' us' ps' → ps'.Pairwise ltP → (∀ q, q ∈ ps' ↔ q ∈ ps) → Q (.ref p) H') :
    rSortedT K P w [.ref a] (upd H a (SetTO P w a L)) Q := by
  have s1 : Same H (upd H a (SetTO P w a L)) := same_new na
  refine ⟨a, L, 2, 10 ^ 13, rfl, upd_same, fun p hp => ?_, by decide, fun p hp => ?_, fun L' p pm nd fw pw np => ?_⟩
  · obtain ⟨x, y, e, e1⟩ := e3 p (h1 p hp)
    rw [e]
    exact SqT.of (s1 _ _ e1)
  · have m : p.2 ∈ ks.map (·.2) := List.mem_map.mpr ⟨p, h1 p hp, rfl⟩
    rw [e2] at m
    obtain ⟨q, hq, e⟩ := List.mem_map.mp m
    have b := bd q hq
    rw [← e]
    refine ⟨rfl, fun m hm => ?_⟩
    unfold prL at hm
    rcases List.mem_cons.mp hm with rfl | hm
    · exact b.1
    · rw [List.mem_singleton.mp hm]
      exact b.2
  · have s2 : Same (upd H a (SetTO P w a L)) (upd (upd H a (SetTO P w a L)) p (.lst (L'.map fun q => V.ref q.1))) := same_new np
    obtain ⟨ps', i, e4⟩ := Ivs.ofKeys (H := H) (L := L') fun q hq => e3 q (h1 q (pm.mem_iff.mp hq))
    have mem : ∀ q, q ∈ ps' ↔ q ∈ ps := fun q => by
      rw [← mem_prL, ← e4, ← mem_prL (ps := ps), ← e2, (pm.map (·.2)).mem_iff]
      constructor
      · intro h
        obtain ⟨p, hp, e⟩ := List.mem_map.mp h
        exact List.mem_map.mpr ⟨p, h1 p hp, e⟩
      · intro h
        obtain ⟨p, hp, e⟩ := List.mem_map.mp h
        rw [← e]
        exact h2 p hp
    refine fin _ p _ ps' (s1.trans s2) (s1.free np) upd_same (i.same (s1.trans s2)) ?_ mem
    have pw2 : (L'.map (·.2)).Pairwise (fun q r => TS.code (10 ^ 13) q ≤ TS.code (10 ^ 13) r) := List.pairwise_map.mpr pw
    have both := pw2.and nd
    rw [e4] at both
    refine (List.pairwise_map.mp both).imp_of_mem fun {x y} hx hy h => ?_
    have bx := bd x ((mem x).mp hx)
    have bY := bd y ((mem y).mp hy)
    have tb : ∀ {z : Int × Int}, ((0 ≤ z.1 ∧ z.1 < 10 ^ 13) ∧ 0 ≤ z.2 ∧ z.2 < 10 ^ 13) → TS.Bd (10 ^ 13) [z.1, z.2] := fun b m hm => by
      rcases List.mem_cons.mp hm with rfl | hm
      · exact b.1
      · rw [List.mem_singleton.mp hm]
        exact b.2
    rcases code_lex (tb bx) (tb bY) h.1 with c | ⟨c1, c2⟩
    · exact .inl c
    · refine .inr ⟨c1, ?_⟩
      rcases Int.lt_or_eq_of_le c2 with z | z
      · exact z
      · exact absurd (show prL x = prL y by unfold prL; rw [c1, z]) h.2
theorem sorted_set_pairs {K : PySem.W.Frag} {P : Program} {w : World} {H : Hp} {l : Addr} {us : List V} {ps : List (Int × Int)} {Q : VK} (hl : SqL K H l us) (iv : Ivs H us ps) (few : ps.length < 64) (bd : ∀ q ∈ ps, (0 ≤ q.1 ∧ q.1 < 10 ^ 13) ∧ 0 ≤ q.2 ∧ q.2 < 10 ^ 13)
    (fin : ∀ H' p us' ps', Same H H' → H p = none → H' p = some (.lst us') → Ivs H' us' ps' → ps'.Pairwise ltP → (∀ q, q ∈ ps' ↔ q ∈ ps) → Q (.ref p) H') :
    rSetOfT K P w [.ref l] H (fun x H1 => rSortedT K P w [x] H1 Q) := by
  obtain ⟨ks, rfl, e2, e3⟩ := iv.keys
  have lk : ks.length = ps.length := by
    have z := congrArg List.length e2
    rw [List.length_map, List.length_map] at z
    exact z
  refine ⟨l, ks, rfl, hl, fun p hp => ?_, by omega, fun a L na h1 h2 => ?_⟩
  · obtain ⟨x, y, e, e1⟩ := e3 p hp
    rw [e]
    exact SqT.of e1
  exact sorted_keys e2 e3 na h1 h2 bd fin

def leP (a b : Int × Int) : Prop := a.1 < b.1 ∨ (a.1 = b.1 ∧ a.2 ≤ b.2)
theorem leP_of_lt {ps : List (Int × Int)} (h : ps.Pairwise ltP) : ps.Pairwise leP := h.imp fun {a b} h => by
  rcases h with h | h
  · exact .inl h
  · exact .inr ⟨h.1, by omega⟩
theorem leP_uniq {ps qs : List (Int × Int)} (h1 : ps.Pairwise leP) (h2 : qs.Pairwise leP) (pm : ps.Perm qs) : ps = qs := by
  refine pm.eq_of_pairwise (le := leP) (fun a b _ _ x y => ?_) h1 h2
  have : a.1 = b.1 ∧ a.2 = b.2 := by
    unfold leP at x y
    omega
  exact Prod.ext this.1 this.2

/-! ### sorted(t), t a tuple of pairs of ints -/
section
variable {prog : Program} {w : World} {A : Around} {E : Value → Shared → Prop} {s : Shared}
/-- the items of a tuple, gathered in a new list -/
theorem collectT {Q : List Value → Shared → Prop} {t : Addr} {o : Obj} {xs : Array Value} {n : Nat} (ho : s.heap.get? t = some o) (hc : o.cls = .type "tuple") (hd : o.data = .seq xs n) (sz : xs.size ≤ sizeLine)
    (fin : ∀ g, s.heap.objs.size ≤ g.objs.size → (∀ b u, s.heap.get? b = some u → g.get? b = some u) → Q xs.toList { s with heap := g }) : wpAny (model prog w) A (collect (.ref t)) Q E s := by
  obtain ⟨g0, eg0⟩ : ∃ g0, s.heap.push { cls := .type "list", data := .seq ([] : List Value).toArray } = g0 := ⟨_, rfl⟩
  have n0 : g0.get? s.heap.objs.size = some { cls := .type "list", data := .seq #[] 0 } := by
    rw [← eg0]
    exact Heap.get?_push_size _ rfl
  have z0 : g0.objs.size = s.heap.objs.size + 1 := by
    rw [← eg0]
    exact Heap.size_push ..
  have k0 : ∀ b u, s.heap.get? b = some u → g0.get? b = some u := fun b u e => by
    rw [← eg0]
    exact Heap.get?_push_of_some _ e
  have n1 := Heap.get?_update_self (Obj.mapSeq (· ++ xs)) n0 rfl
  have last : ∀ s' : Shared, s' = { s with heap := g0.update s.heap.objs.size (Obj.mapSeq (· ++ xs)) } → wpAny (model prog w) A (match Value.ref s.heap.objs.size with
      | Value.ref a => do
        match (← load a).data with
          | Data.seq ys _ => pure ys.toList
          | _ => unsupported "internal:collect"
      | _ => unsupported "internal:collect") Q E s' := fun s' es => by
    rw [es]
    refine wpAny_bind (m := load s.heap.objs.size) (wpAny_load n1 (wpAny_pure ?_))
    show Q ((#[] : Array Value) ++ xs).toList _
    rw [show ((#[] : Array Value) ++ xs).toList = xs.toList by simp]
    refine fin _ (by rw [Heap.size_update, z0]; omega) fun b u e => ?_
    exact (Heap.get?_update_other _ _ (Nat.ne_of_gt (Heap.lt_size e))).trans (k0 b u e)
  unfold collect
  refine wpAny_bind (wpAny_runValue (codeAny_builtin (b := _) F.entry_proto_collect ?_))
  rw [Around.under_plainId (F.plain_proto_collect) _]
  show wpAny _ A.in1 (newList [] >>= fun l => again (.builtin "list.__iadd__" ⟨[l, .ref t], []⟩)) _ _ s
  refine wpAny_bind (wpAny_newObj_type (wpAny_pure ⟨plainId_quiet (F.plain_list_iadd) _, codeAny_builtin (b := _) F.entry_list_iadd ?_⟩))
  rw [Around.under_plainId (F.plain_list_iadd) _, eg0]
  show wpAny _ A.in1 (Builtin.List.listExtendWith (Value.ref s.heap.objs.size) (.ref t) (.ref s.heap.objs.size)) _ _ _
  refine wpAny_mono (wpAny_extend_seq (hsz := sz) (A := A) (R := fun r s' => r = .ok (.ret (.ref s.heap.objs.size)) ∧ s' = { s with heap := g0.update s.heap.objs.size (Obj.mapSeq (· ++ xs)) }) (s := { s with heap := g0 }) _ t _ 0 (.inr rfl) n0 (k0 _ _ ho) hc hd ⟨rfl, rfl⟩) (fun f s' h => ?_) (fun e s' h => absurd h.1 (by simp))
  cases f with
  | done f =>
    obtain ⟨e, h2⟩ := h
    cases e
    exact last s' h2
  | again c => exact ⟨h.1, codeAny_mono h.2 fun r s2 hr => by obtain ⟨rfl, h2⟩ := hr; exact last s2 h2⟩
theorem sortedTup {l : Addr} {vs : List Value} {k : Value → Int × Int} {Q : Value → Shared → Prop} (isT : IsTup s.heap l vs.toArray) (sz : vs.length ≤ sizeLine) (prs : ∀ v ∈ vs, Srt.IsPair s.heap v (k v).1 (k v).2)
    (fin : ∀ (h' : Heap) (d : Addr) (out : List Value), SrtO.Srtd (fun v u => SrtO.lexB (k v) (k u)) out → out.Perm vs → (∀ b o, s.heap.get? b = some o → h'.get? b = some o) → s.heap.objs.size ≤ d → (∃ n, h'.get? d = some (seqObj "list" out.toArray n)) → Q (.ref d) { s with heap := h' }) :
    wpAny (model prog w) A (call (.builtin "sorted") [.ref l]) Q E s := by
  refine Calls.call_function_entry kind_sorted (plain_sorted) entry_sorted (args_sorted1 _) ?_
  unfold Builtin.«sorted»
  refine wpAny_bind (m := checkCount "sorted" 1 1 _) (wpAny_pure (wpAny_bind ?_))
  obtain ⟨o, ho, hc, n, hd⟩ := isT
  refine collectT ho hc hd (by rw [List.size_toArray]; exact sz) (fun h1 big k1 => ?_)
  rw [List.toList_toArray]
  refine wpAny_bind (wpAny_newList ?_ sz)
  have own : (h1.push (seqObj "list" vs.toArray 0)).get? h1.objs.size = some (seqObj "list" vs.toArray 0) := Heap.get?_push_size _ rfl
  have keep : ∀ b o, s.heap.get? b = some o → b ≠ h1.objs.size ∧ b < (h1.push (seqObj "list" vs.toArray 0)).objs.size ∧ (h1.push (seqObj "list" vs.toArray 0)).get? b = some o := fun b o e => by
    have lt : b < h1.objs.size := Heap.lt_size (k1 b o e)
    exact ⟨Nat.ne_of_lt lt, by rw [Heap.size_push]; exact Nat.lt_succ_of_lt lt, Heap.get?_push_of_some _ (k1 b o e)⟩
  show wpAny _ _ _ _ _ { s with heap := h1.push (seqObj "list" vs.toArray 0) }
  refine wpAny_bind (wpAny_holding (wpAny_call_entry slot_list_sort ⟨_, own, rfl⟩ entry_list_sort (SrtO.list_sort_ord (SrtO.swo_lex k) own sz (fun h2 => ?_) fun out hs hb => ⟨_, rfl, ?_⟩) (args_list_sort _)))
  · refine SrtO.pairs_sortableO (s := { s with heap := h1.push (seqObj "list" vs.toArray 0) }) (by omega) (fun v hm => (prs v hm).keeps fun b o e _ => (keep b o e).2.2) fun o' e' => ?_
    have z : some o' = some (seqObj "list" vs.toArray 0) := e'.symm.trans own
    cases z
    exact fun c => absurd (Value.type.inj c) (by decide)
  · refine wpAny_pure ⟨_, rfl, fin _ _ out hs hb.perm (fun b o e => ?_) big (sortedHeap_at own)⟩
    have z := keep b o e
    rw [sortedHeap_old z.1 z.2.1]
    exact z.2.2
end
def rSortTP (K : PySem.W.Frag) : List V → Hp → VK → Prop := fun vs H Q => ∃ (a : Addr) (us : List V) (ps : List (Int × Int)), vs = [V.ref a] ∧ SqT K H a us ∧ Ivs H us ps ∧
  ∀ H' p us' ps', Same H H' → H p = none → H' p = some (.lst us') → Ivs H' us' ps' → ps'.Pairwise leP → ps'.Perm ps → Q (.ref p) H'
theorem Ivs.mem1 {H : Hp} {vs : List V} {ps : List (Int × Int)} (h : Ivs H vs ps) {v : V} (hv : v ∈ vs) : ∃ a q, q ∈ ps ∧ v = .ref a ∧ H a = some (.tup [.int q.1, .int q.2]) := by
  obtain ⟨i, ei⟩ := List.getElem?_of_mem hv
  obtain ⟨a, x, y, e, ep, ea⟩ := h.get ei
  exact ⟨a, (x, y), List.mem_of_getElem? ep, e, ea⟩
noncomputable def pairAt (H : Hp) (v : V) : Int × Int := Classical.epsilon fun q => ∃ a, v = .ref a ∧ H a = some (.tup [.int q.1, .int q.2])
theorem pairAt_eq {H : Hp} {a : Addr} {x y : Int} (h : H a = some (.tup [.int x, .int y])) : pairAt H (.ref a) = (x, y) := by
  have e : ∃ q : Int × Int, ∃ b, V.ref a = .ref b ∧ H b = some (.tup [.int q.1, .int q.2]) := ⟨(x, y), a, rfl, h⟩
  obtain ⟨b, e1, e2⟩ := Classical.epsilon_spec e
  cases e1
  have e2 : H a = some (.tup [.int (pairAt H (.ref a)).1, .int (pairAt H (.ref a)).2]) := e2
  rw [h] at e2
  have z := Option.some.inj e2
  injection z with z
  injection z with z1 z2
  injection z2 with z2 _
  injection z1 with z1
  injection z2 with z2
  exact Prod.ext z1.symm z2.symm
theorem Ivs.pairAt {H : Hp} {vs : List V} {ps : List (Int × Int)} (h : Ivs H vs ps) : vs.map (pairAt H) = ps := by
  induction h with
  | nil => rfl
  | cons e _ ih => rw [List.map_cons, ih, pairAt_eq e]
theorem Ivs.perm1 {H : Hp} {xs ys : List V} (pm : ys.Perm xs) : ∀ {ps : List (Int × Int)}, Ivs H xs ps → ∃ ps', Ivs H ys ps' ∧ ps'.Perm ps := by
  induction pm with
  | nil =>
    intro ps h
    exact ⟨ps, h, .refl _⟩
  | cons x _ ih =>
    intro ps h
    cases h with
    | cons e h =>
      obtain ⟨ps', h', p'⟩ := ih h
      exact ⟨_ :: ps', .cons e h', p'.cons _⟩
  | swap x y l =>
    intro ps h
    cases h with
    | cons e h =>
      cases h with
      | cons e2 h => exact ⟨_, .cons e2 (.cons e h), .swap _ _ _⟩
  | trans _ _ ih1 ih2 =>
    intro ps h
    obtain ⟨p2, h2, q2⟩ := ih2 h
    obtain ⟨p1, h1, q1⟩ := ih1 h2
    exact ⟨p1, h1, q1.trans q2⟩
theorem cr_sortTP {X : Cx} : CallR X (.builtin "sorted") (rSortTP X.K) := by
  intro pins s σ H vs us0 Q I r h
  obtain ⟨a, us, ps, rfl, hs, iv, q⟩ := h
  obtain ⟨its, rv, isT, sz⟩ := I.tuple hs
  obtain ⟨u, rfl, ru⟩ := vals1 r
  obtain rfl : u = Value.ref a := ru
  obtain ⟨e1, e2⟩ := refs_back rv fun x m => by
    obtain ⟨t, q, _, e, _⟩ := iv.mem1 m
    exact ⟨t, e⟩
  refine sortedTup (k := fun u => pairAt H (backV u)) isT (by rw [← rv.length]; exact sz) (fun v hv => ?_) fun h' d out h1 pmo kp hd hn => ?_
  · obtain ⟨t, rfl⟩ := e2 v hv
    have hm : V.ref t ∈ us := by rw [e1]; exact List.mem_map.mpr ⟨_, hv, rfl⟩
    obtain ⟨t', pq, _, e, ht⟩ := iv.mem1 hm
    cases e
    obtain ⟨_, its2, r2, o, ho, hc, n, hd⟩ := I.hok _ _ ht
    obtain ⟨u1, u2, rfl, ri, rj⟩ := vals2 r2
    obtain ⟨t1, rfl⟩ := ri
    obtain ⟨t2, rfl⟩ := rj
    show Srt.IsPair _ _ (pairAt H (.ref t)).1 (pairAt H (.ref t)).2
    rw [pairAt_eq ht]
    exact ⟨t, o, t1, t2, n, rfl, ho, hc, hd⟩
  · have h3 : ∀ u ∈ out, ∃ a, u = Value.ref a := fun u hu => e2 u (pmo.mem_iff.mp hu)
    obtain ⟨n, hn⟩ := hn
    have pm : (out.map backV).Perm us := by
      rw [e1]
      exact pmo.map backV
    obtain ⟨qs, ivq, pmq⟩ := Ivs.perm1 pm iv
    have fr : H d = none := I.hok.fresh hd
    have s1 : Same H (upd H d (.lst (out.map backV))) := same_new fr
    have asc : qs.Pairwise leP := by
      rw [← ivq.pairAt]
      refine List.pairwise_map.mpr (List.pairwise_map.mpr (List.Pairwise.imp (fun {x y} z => ?_) h1))
      have z := SrtO.lexB_no.mp z
      unfold leP
      omega
    refine ⟨.ref d, upd H d (.lst (out.map backV)), I.laid (t' := s.toks) kp hd ⟨?_, out, n, vals_back h3, hn⟩, rfl, q _ d _ qs s1 fr upd_same (ivq.same s1) asc pmq⟩
    rw [pm.length_eq]
    exact sz

/-! ### comprehensions over a range that change nothing but make new objects -/
theorem lcR {lo : Int} {n : Nat} {g : TG} {tt : TT} {te : TE} {vs : List Nat} {σ : L2.St} {H1 : Hp} {D : Addr} {Qd : Hp → Prop} (R : Nat → Hp → List V → Prop) (nD : H1 D = none) (few : n < 1000)
    (mono : ∀ i H' H'' ws, Tps H' H'' → R i H' ws → R i H'' ws) (len : ∀ i H' ws, R i H' ws → ws.length ≤ i) (r0 : ∀ H', R 0 H' [])
    (hs : ∀ i H' (N : Hp → Prop) acc, i < n → Same H1 H' → H' D = some (.lst acc) → acc.length < sizeLine → R i H' acc → (∀ H'', Same H' H'' → R (i + 1) H'' acc → N H'') → (∀ H'' y, Same H' H'' → R (i + 1) H'' (acc ++ [y]) → ∃ acc', H'' D = some (.lst acc') ∧ acc'.length < sizeLine ∧ N (upd H'' D (.lst (acc' ++ [y])))) →
      g (.int (lo + i)) (wipe σ vs) H' fun σ2 H2 => wipe σ2 vs = wipe σ vs ∧ tt σ2 H2 fun b H3 => if b = true then te σ2 H3 fun y H4 => ∃ acc, H4 D = some (.lst acc) ∧ acc.length < sizeLine ∧ N (upd H4 D (.lst (acc ++ [y]))) else N H3)
    (hd : ∀ H' ws, Same H1 H' → H' D = some (.lst ws) → R n H' ws → Qd H') :
    ∃ W : Nat → Nat → Hp → Prop, (∃ m, W 0 m (upd H1 D (.lst []))) ∧ ∀ i m H, W i m H →
      ((Itr lo n).stop i H ∧ Qd H) ∨ ((Itr lo n).go i H ∧ ∃ Nx : Hp → Prop, (∀ H', Nx H' → ∃ m', m' < m ∧ W (i + 1) m' H') ∧ ∀ x H', (Itr lo n).yld i H x H' → g x (wipe σ vs) H' fun σ2 H2 => wipe σ2 vs = wipe σ vs ∧ tt σ2 H2 fun b H3 =>
        if b = true then te σ2 H3 fun y H4 => ∃ acc, H4 D = some (.lst acc) ∧ acc.length < sizeLine ∧ Nx (upd H4 D (.lst (acc ++ [y]))) else Nx H3) := by
  refine lc_range (lo := lo) (n := n) (fun i H' => Same H1 H' ∧ ∃ ws, H' D = some (.lst ws) ∧ R i H' ws) ⟨same_new nD, [], upd_same, r0 _⟩ ?_ ?_
  · rintro i H' hi ⟨sm, ws, eD, r⟩
    have lw := len i H' ws r
    have sz : ws.length < sizeLine := few_line (by omega)
    refine hs i H' _ ws hi sm eD sz r (fun H'' s r2 => ⟨sm.trans s, ws, s _ _ eD, r2⟩) (fun H'' y s r2 => ?_)
    exact ⟨ws, s _ _ eD, sz, same_off nD (sm.trans s), _, upd_same, mono _ _ _ _ (Tps.lst (s _ _ eD)) r2⟩
  · rintro H' ⟨sm, ws, eD, r⟩
    exact hd H' ws sm eD r

/-! ### more of tuples: t == (), and one pair > another -/
section
variable {X : Cx}
def rEqE (K : PySem.W.Frag) : R2 := fun x y H Q => ∃ (a b : Addr) (xs : List V), x = .ref a ∧ y = .ref b ∧ SqT K H a xs ∧ SqT K H b [] ∧ Q (.bl xs.isEmpty) H
theorem op_eqE (units : X.A.units < cLine) : OpR X (compareOp .Eq) (rEqE X.K) := by
  intro pins s σ H x y v u Q I rx ry h
  obtain ⟨a, b, xs, rfl, rfl, ha, hb, q⟩ := h
  cases rx
  cases ry
  obtain ⟨its, r1, p1, _⟩ := I.tuple ha
  obtain ⟨its2, r2, p2, _⟩ := I.tuple hb
  cases r2
  apply SeqAt.eq_tupleAt (e := fun _ => true) (show s.heap.IsTuple a its.toArray from p1) (show s.heap.IsTuple b ([] : List Value).toArray from p2) units
  · intro j h1 h2
    exact absurd h2 (Nat.not_lt_zero j)
  · refine ⟨.bl xs.isEmpty, H, I, ?_, q⟩
    cases r1 with
    | nil => rfl
    | cons r t => rfl
def gtP (p q : Int × Int) : Bool := decide (q.1 < p.1 ∨ (p.1 = q.1 ∧ q.2 < p.2))
def rGtP (K : PySem.W.Frag) : R2 := fun x y H Q => ∃ (a b : Addr) (p q : Int × Int), x = .ref a ∧ y = .ref b ∧ SqT K H a [.int p.1, .int p.2] ∧ SqT K H b [.int q.1, .int q.2] ∧ Q (.bl (gtP p q)) H
theorem op_gtP (units : X.A.units < cLine) : OpR X (compareOp .Gt) (rGtP X.K) := by
  intro pins s σ H x y v u Q I rx ry h
  obtain ⟨a, b, p, q, rfl, rfl, ha, hb, k⟩ := h
  cases rx
  cases ry
  obtain ⟨us, r1, p1, _⟩ := I.tuple ha
  obtain ⟨ws, r2, p2, _⟩ := I.tuple hb
  obtain ⟨x1, x2, rfl, ⟨t1, rfl⟩, ⟨t2, rfl⟩⟩ := vals2 r1
  obtain ⟨y1, y2, rfl, ⟨u1, rfl⟩, ⟨u2, rfl⟩⟩ := vals2 r2
  have R := Ob.RcOp.tuples_gt (A := X.A) (s := s) (l := a) (b := b) (e := fun j => if j = 0 then p.1 == q.1 else p.2 == q.2) (r := fun j => if j = 0 then decide (q.1 < p.1) else decide (q.2 < p.2)) p1 p2 units
    (fun j j1 j2 => by
      match j, j1, j2 with
      | 0, _, _ => exact SeqAt.EqAt.int_int _ _ _ _
      | 1, _, _ => exact SeqAt.EqAt.int_int _ _ _ _)
    (fun j j1 j2 _ => by
      match j, j1, j2 with
      | 0, _, _ => exact Ob.RcOp.gt_int _ _ _ _
      | 1, _, _ => exact Ob.RcOp.gt_int _ _ _ _)
  have e : Ob.lexAt (fun j => if j = 0 then p.1 == q.1 else p.2 == q.2) (fun j => if j = 0 then decide (q.1 < p.1) else decide (q.2 < p.2)) (decide ((#[Value.int p.1 t1, Value.int p.2 t2]).size > (#[Value.int q.1 u1, Value.int q.2 u2]).size)) 0 (min (#[Value.int p.1 t1, Value.int p.2 t2]).size (#[Value.int q.1 u1, Value.int q.2 u2]).size) = gtP p q := by
    show (if (p.1 == q.1) = true then (if (p.2 == q.2) = true then false else decide (q.2 < p.2)) else decide (q.1 < p.1)) = _
    unfold gtP
    by_cases c : p.1 = q.1
    · rw [if_pos (beq_iff_eq.mpr c)]
      by_cases c2 : p.2 = q.2
      · rw [if_pos (beq_iff_eq.mpr c2)]
        exact (decide_eq_false (by omega)).symm
      · rw [if_neg (fun h => c2 (beq_iff_eq.mp h))]
        exact decide_eq_decide.mpr (by omega)
    · rw [if_neg (fun h => c (beq_iff_eq.mp h))]
      exact decide_eq_decide.mpr (by omega)
  rw [e] at R
  exact R X.prog X.w X.xe (EP X pins σ Q) ⟨.bl _, H, I, rfl, k⟩
end

/-! ### drawn intervals of the positions below a width -/
structure Rw (w : Int) (ps : List (Int × Int)) : Prop where
  asc : ps.Pairwise ltP
  ok : ∀ q ∈ ps, 0 ≤ q.1 ∧ q.1 ≤ q.2 ∧ q.2 < w
theorem Rw.bd {w : Int} {ps : List (Int × Int)} (h : ∀ q ∈ ps, 0 ≤ q.1 ∧ q.1 ≤ q.2 ∧ q.2 < w) (hw : w ≤ 100) : ∀ q ∈ ps, (0 ≤ q.1 ∧ q.1 < 10 ^ 13) ∧ 0 ≤ q.2 ∧ q.2 < 10 ^ 13 := fun q hq => by
  have := h q hq
  omega
theorem Rw.len {ps qs : List (Int × Int)} (asc : ps.Pairwise ltP) (mem : ∀ q, q ∈ ps ↔ q ∈ qs) : ps.length ≤ qs.length := by
  have ndp : ps.Nodup := asc.imp fun {a b} h e => by
    subst e
    rcases h with h | h <;> omega
  exact nodup_le ndp fun x hx => (mem x).mp hx
def sp_law_spans : Sp := fun vs H Q _ => ∃ (d : Addr) (c : Addr × Addr) (n width many : Int), vs = [.ref d, .int width, .int many] ∧ Dk H d c n ∧ 0 ≤ n ∧ n < 900000 ∧ 1 ≤ width ∧ width ≤ 100 ∧ 0 ≤ many ∧ many ≤ 30 ∧
  ∀ H' t us ps m, Kp d c H H' → Dk H' d c m → n ≤ m → m ≤ n + 3 * many → H' t = some (.tup us) → Ivs H' us ps → Rw width ps → (ps.length : Int) ≤ many → Q (.ref t) H'
theorem pick2 {r a b : Int} (h0 : 0 ≤ r) (h1 : r < 2) : ∃ L : Int, atI [V.int a, .int b] r = some (.int L) ∧ (L = a ∨ L = b) := by
  have : r = 0 ∨ r = 1 := by omega
  rcases this with rfl | rfl
  · exact ⟨a, rfl, .inl rfl⟩
  · exact ⟨b, rfl, .inr rfl⟩
theorem ok_law_spans (T : Tx K mg f_depth_changes f_find_blocks f_has_position f_contains f_serves f_conflict f_demands_at_blocks f_is_open f_open_demands f_shadow_target f_require_few_blocks f_decisive_demands f_largest_independent f_count_needed f_law_draws f_law_next f_law_one f_law_spans f_law_covers f_law_every f_law_least f_law_served f_law_clash f_law_most f_law_right f_law d_depth_changes d_find_blocks d_has_position d_contains d_serves d_conflict d_demands_at_blocks d_is_open d_open_demands d_shadow_target d_require_few_blocks d_decisive_demands d_largest_independent d_count_needed d_law_draws d_law_next d_law_one d_law_spans d_law_covers d_law_every d_law_least d_law_served d_law_clash d_law_most d_law_right d_law t_MAX_BLOCKS) : FnOk P w K mg base CX0 2 f_law_spans d_law_spans ["_law_state", "_law_width", "_law_many"] sp_law_spans := by
  refine T.F_law_spans.ok sc_law_spans (fun vs H Q E h => ?_) (fun cdv A outer s H vs Q E hr h => ?_)
  · obtain ⟨d, c, n, width, many, rfl, _⟩ := h
    rfl
  · obtain ⟨d, c, n, width, many, rfl, dk, n0, n1, w0, w1, m0, m1, q⟩ := h
    refine ⟨_, (pss_cons (ps_set (i := 3) sc_law_spans.nd rfl (Or.inl rfl) (pe_lst pa_nil))
      (pss_cons (ps_for PassesOwn.never rfl (pi_range1 (by rfl) T.z_range (pa_cons (pv 2) pa_nil)) (pg_name (i := 4) sc_law_spans.nd rfl (Or.inl rfl))
      (pss_cons (ps_set (i := 5) sc_law_spans.nd rfl (Or.inl rfl) (pe_call (ok_law_next T) (hr.mono (by decide)) (by rfl) T.g_law_next T.F_law_next.kp T.b_law_next .nil pass0 (pa_cons (pv 0) (pa_cons (pv 1) pa_nil))))
      (pss_one (ps_expr (pe_bm PySem.F.plainAttrs_list PySem.F.slot_list_append PySem.F.type_list_append mt_append (pv 3) (pa_cons (pe_tup (pa_cons (pv 5) (pa_cons (pe_callB (call_min2 rfl) (by rfl) T.z_min (by decide +kernel) (pa_cons (pe_op op_sub (pv 1) pe_int) (pa_cons (pe_op op_add (pv 5) (pe_call (ok_law_next T) (hr.mono (by decide)) (by rfl) T.g_law_next T.F_law_next.kp T.b_law_next .nil pass0 (pa_cons (pv 0) (pa_cons (pe_ix ix_list (pe_lst (pa_cons pe_int (pa_cons (pv 1) pa_nil))) (pe_call (ok_law_next T) (hr.mono (by decide)) (by rfl) T.g_law_next T.F_law_next.kp T.b_law_next .nil pass0 (pa_cons (pv 0) (pa_cons pe_int pa_nil))) (fun _ _ => rfl)) pa_nil)))) pa_nil))) pa_nil))) pa_nil))))))
      (pss_one (ps_ret (pe_callTy call_tuple_of (by rfl) T.z_tuple (by decide +kernel) (pa_cons (pe_callB (cr_sortedT rfl) (by rfl) T.z_sorted (by decide +kernel) (pa_cons (pe_callTy (cr_setOfT rfl hr.units) (by rfl) T.z_set (by decide +kernel) (pa_cons (pv 3) pa_nil)) pa_nil)) pa_nil)))))), ?_⟩
    refine ⟨by show 0 ≤ sizeLine; decide, fun l nl => ?_⟩
    have offl := dk.off nl
    refine ⟨.int many, rfl, many, rfl, by omega, by omega, for_range (n := many.toNat) (fun i σ H' => (Kp d c H H' ∧ Dk H' d c (n + 3 * i)) ∧ (∃ us ps, H' l = some (.lst us) ∧ Ivs H' us ps ∧ ps.length = i ∧ ∀ q ∈ ps, 0 ≤ q.1 ∧ q.1 ≤ q.2 ∧ q.2 < width) ∧ ∃ y4 y5, σ = [some (.ref d), some (.int width), some (.int many), some (.ref l), y4, y5])
      ⟨⟨Kp.same (same_new nl), (dk.upd offl).eq (by simp)⟩, ⟨[], [], upd_same, .nil, rfl, fun q hq => nomatch hq⟩, _, _, rfl⟩ ?_ ?_⟩
    · rintro i σ H1 hi ⟨⟨kp1, dk1⟩, ⟨us, ps, el, iv, pl, pin⟩, y4, y5, rfl⟩
      refine ⟨.ref d, rfl, .int width, rfl, d, c, _, width, rfl, dk1, by omega, by omega, by omega, by omega, fun H2 low kp2 dk2 a0 a1 => ?_⟩
      have el2 := kp2.keep offl el
      refine ⟨.ref l, rfl, .inl ⟨rfl, _, SqL.of el2⟩, .int low, rfl, .int width, rfl, _, _, rfl, rfl, .int low, rfl, .ref d, rfl, .int width, rfl, by show 2 ≤ sizeLine; decide, fun p2 np2 => ?_⟩
      have off2 := dk2.off np2
      refine ⟨.ref d, rfl, d, c, _, 2, rfl, dk2.kept (same_new np2), by omega, by omega, by decide, by decide, fun H3 r2 kp3 dk3 b0 b1 => ?_⟩
      obtain ⟨L, eL, hL⟩ := pick2 (a := 2) (b := width) b0 b1
      refine ⟨p2, _, r2, _, rfl, rfl, SqL.of (kp3.keep off2 upd_same), eL, d, c, _, L, rfl, dk3, by omega, by omega, by omega, by omega, fun H4 r3 kp4 dk4 c0 c1 => ?_⟩
      refine ⟨_, _, rfl, rfl, _, _, rfl, by show 2 ≤ sizeLine; decide, fun t nt => ?_⟩
      have kp24 : Kp d c H2 H4 := (Kp.same (same_new np2)).trans (kp3.trans kp4)
      have el4 := kp24.keep offl el2
      have iv4 := iv.tps ((kp2.trans kp24).tps dk1)
      obtain ⟨hi2, ehi, h1, h2⟩ : ∃ hi2 : Int, (if low + r3 < width - 1 then low + r3 else width - 1) = hi2 ∧ low ≤ hi2 ∧ hi2 < width := ⟨_, rfl, by split <;> omega, by split <;> omega⟩
      rw [ehi]
      have s5 := same_new (o := .tup [.int low, .int hi2]) nt
      have et := upd_same (H := H4) (a := t) (o := .tup [.int low, .int hi2])
      generalize upd H4 t (.tup [.int low, .int hi2]) = H5 at *
      refine ⟨l, _, _, rfl, rfl, s5 _ _ el4, by rw [iv.length]; exact small1000 (by omega), ⟨?_, ?_⟩, ⟨us ++ [.ref t], ps ++ [(low, hi2)], upd_same, ?_, by rw [List.length_append, pl]; rfl, fun q hq => ?_⟩, _, _, rfl⟩
      · intro b o n1 n2 e
        rw [upd_ne (ne_of_none e nl)]
        exact s5 _ _ (kp24 b o n1 n2 (kp2 b o n1 n2 (kp1 b o n1 n2 e)))
      · have elN := s5 _ _ el4
        exact ((dk4.kept s5).upd offl).eq (by omega)
      · exact ((iv4.same s5).snoc et).tps (Tps.lst (s5 _ _ el4))
      · rcases List.mem_append.mp hq with hq | hq
        · exact pin q hq
        · rw [List.mem_singleton.mp hq]
          exact ⟨a0, h1, h2⟩
    · rintro σ H1 ⟨⟨kp1, dk1⟩, ⟨us, ps, el, iv, pl, pin⟩, y4, y5, rfl⟩
      refine ⟨.ref l, rfl, ?_⟩
      dsimp only [tNil]
      refine sorted_set_pairs (SqL.of el) iv (by omega) (Rw.bd pin w1) (fun H2 p us' ps' s2 np ep iv' asc mem => ?_)
      refine ⟨p, us', rfl, .inl ⟨SqL.of ep, fun t nt => ?_⟩⟩
      have s3 := same_new (o := .tup us') nt
      have nd := Rw.len asc mem
      exact q _ t us' ps' _ (kp1.trans (Kp.same (s2.trans s3))) (dk1.kept (s2.trans s3)) (by omega) (by omega) upd_same (iv'.same s3) ⟨asc, fun q hq => pin q ((mem q).mp hq)⟩ (by omega)
def sp_law_targets : Sp := fun vs H Q _ => ∃ (d : Addr) (c : Addr × Addr) (n width most : Int), vs = [.ref d, .int width, .int most] ∧ Dk H d c n ∧ 0 ≤ n ∧ n < 800000 ∧ 1 ≤ width ∧ width ≤ 30 ∧ 0 ≤ most ∧ most ≤ 30 ∧
  ∀ H' t us ps m, Kp d c H H' → Dk H' d c m → n ≤ m → m ≤ n + 3 + 3 * most → H' t = some (.tup us) → Ivs H' us ps → Rw width ps → (ps.length : Int) ≤ most → Q (.ref t) H'
theorem Rw.take {w : Int} {ps : List (Int × Int)} (h : Rw w ps) (n : Nat) : Rw w (ps.take n) := ⟨h.asc.sublist (List.take_sublist _ _), fun q hq => h.ok q (List.mem_of_mem_take hq)⟩
/-! ### every position replaced by many -/
theorem com_str {ts ps S : List (Int × Int)} {f s : Int} (hf : 0 < f) (c : Com ts ps S) : Com (ts.map (strI f s)) (ps.map (strI f s)) (S.map (strI f s)) := by
  intro t ht p h1 h2
  obtain ⟨u, hu, rfl⟩ := List.mem_map.mp ht
  have h1 : u.1 * f + s ≤ p := h1
  have h2 : p ≤ u.2 * f + f - 1 + s := h2
  obtain ⟨k, ek⟩ : ∃ k, k = (p - s) / f := ⟨_, rfl⟩
  have e1 : k * f ≤ p - s := by
    rw [ek]
    exact Int.ediv_mul_le _ (by omega)
  have e2 : p - s < k * f + f := by
    have := Int.lt_ediv_add_one_mul_self (p - s) hf
    rw [← ek, Int.add_mul, Int.one_mul] at this
    exact this
  have k1 : u.1 ≤ k := by
    have : u.1 * f < (k + 1) * f := by
      rw [Int.add_mul, Int.one_mul]
      omega
    have := Int.lt_of_mul_lt_mul_right this (Int.le_of_lt hf)
    omega
  have k2 : k ≤ u.2 := by
    have : k * f < (u.2 + 1) * f := by
      rw [Int.add_mul, Int.one_mul]
      omega
    have := Int.lt_of_mul_lt_mul_right this (Int.le_of_lt hf)
    omega
  obtain ⟨q, hq, q1, q2, q3, q4⟩ := c u hu k k1 k2
  refine ⟨strI f s q, by rw [← List.map_append]; exact List.mem_map.mpr ⟨q, hq, rfl⟩, ?_, ?_, ?_, ?_⟩
  · have := (mul_le_iff hf).mpr q1
    show u.1 * f + s ≤ q.1 * f + s
    omega
  · have := (mul_le_iff hf).mpr q2
    show q.1 * f + s ≤ p
    omega
  · have := (mul_le_iff hf).mpr q3
    show p ≤ q.2 * f + f - 1 + s
    omega
  · have := (mul_le_iff hf).mpr q4
    show q.2 * f + f - 1 + s ≤ u.2 * f + f - 1 + s
    omega
def strD (f s : Int) (d : Dem) : Dem := (d.1 * f + s, strI f s d.2)
theorem sv_str {f s : Int} (hf : 0 < f) {q : Int × Int} {d : Dem} (h : sv (strI f s q) (strD f s d) = true) : sv q d = true := by
  have h := sv_iff'.mp h
  have h1 : d.2.1 * f + s ≤ q.1 * f + s := h.1
  have h2 : q.1 * f + s ≤ d.1 * f + s := h.2.1
  have h3 : d.1 * f + s ≤ q.2 * f + f - 1 + s := h.2.2.1
  have h4 : q.2 * f + f - 1 + s ≤ d.2.2 * f + f - 1 + s := h.2.2.2
  have a3 : d.1 * f < (q.2 + 1) * f := by
    rw [Int.add_mul, Int.one_mul]
    omega
  have a3 := Int.lt_of_mul_lt_mul_right a3 (Int.le_of_lt hf)
  exact sv_iff'.mpr ⟨(mul_le_iff hf).mp (by omega), (mul_le_iff hf).mp (by omega), by omega, (mul_le_iff hf).mp (by omega)⟩
theorem cf_str {f s : Int} (hf : 0 < f) {d e : Dem} (h : cf (strD f s d) (strD f s e) = true) : cf d e = true := by
  have h := cf_iff.mp h
  have h1 : e.2.1 * f + s ≤ d.1 * f + s := h.1.1
  have h2 : d.1 * f + s ≤ e.2.2 * f + f - 1 + s := h.1.2
  have h3 : d.2.1 * f + s ≤ e.1 * f + s := h.2.1
  have h4 : e.1 * f + s ≤ d.2.2 * f + f - 1 + s := h.2.2
  have a2 : d.1 * f < (e.2.2 + 1) * f := by
    rw [Int.add_mul, Int.one_mul]
    omega
  have a4 : e.1 * f < (d.2.2 + 1) * f := by
    rw [Int.add_mul, Int.one_mul]
    omega
  have a2 := Int.lt_of_mul_lt_mul_right a2 (Int.le_of_lt hf)
  have a4 := Int.lt_of_mul_lt_mul_right a4 (Int.le_of_lt hf)
  exact cf_iff.mpr ⟨⟨(mul_le_iff hf).mp (by omega), by omega⟩, (mul_le_iff hf).mp (by omega), by omega⟩
theorem need_str {ts ps : List (Int × Int)} (g : Good (ts ++ ps)) {f s : Int} (hf : 0 < f) (hs : 0 ≤ s) : needO (ts.map (strI f s)) (ps.map (strI f s)) = needO ts ps := by
  obtain ⟨⟨D, d1, d2, d3⟩, S, s1, s2, _⟩ := need_ok g
  have g' : Good (ts.map (strI f s) ++ ps.map (strI f s)) := by
    rw [← List.map_append]
    exact good_str g hf hs
  obtain ⟨⟨D', e1, e2, e3⟩, S', t1, t2, _⟩ := need_ok g'
  have a := weak_dual (com_str hf s2) e1 e2
  have b := weak_dual t2 (D := D.map (strD f s)) (List.pairwise_map.mpr (d1.imp fun {x y} h => by
    rw [← Bool.not_eq_true] at h ⊢
    exact fun z => h (cf_str hf z))) fun d hd => by
      obtain ⟨e, he, rfl⟩ := List.mem_map.mp hd
      have o := d2 e he
      refine ⟨List.mem_map.mpr ⟨e.2, o.1, rfl⟩, ⟨?_, ?_⟩, fun q hq => ?_⟩
      · have := (mul_le_iff hf).mpr o.2.1.1
        show e.2.1 * f + s ≤ e.1 * f + s
        omega
      · have := (mul_le_iff hf).mpr o.2.1.2
        show e.1 * f + s ≤ e.2.2 * f + f - 1 + s
        omega
      · obtain ⟨r, hr, rfl⟩ := List.mem_map.mp hq
        rw [← Bool.not_eq_true]
        exact fun z => by
          have := o.2.2 r hr
          rw [sv_str hf z] at this
          cases this
  rw [List.length_map] at a b
  omega
theorem blocks_in {row : List (Int × Int)} {w : Int} (h : ∀ q ∈ row, 0 ≤ q.1 ∧ q.1 ≤ q.2 ∧ q.2 < w) : (blocksOf row).length ≤ w.toNat := by
  have len : ∀ n : Nat, (Cb row n).length ≤ n := by
    intro n
    induction n with
    | zero => exact Nat.le_refl _
    | succ n ih =>
      have el : ∀ (l : List (Int × Int)) (p : Int), (extl l p).length = l.length := fun l p => by
        rcases List.eq_nil_or_concat l with rfl | ⟨m, r, rfl⟩
        · rfl
        · rw [List.concat_eq_append, extl_snoc, List.length_append, List.length_append]
          rfl
      rw [Cb_succ]
      split
      · split
        · rw [List.length_append, List.length_singleton]
          omega
        · rw [el]
          omega
      · omega
  rw [← Cb_all (N := w.toNat) fun q hq => by
    have := h q hq
    omega]
  exact len _
def sp_law_scaled : Sp := fun vs H Q _ => ∃ (a : Addr) (us : List V) (ps : List (Int × Int)) (far bas : Int), vs = [.ref a, .int far, .int bas] ∧ H a = some (.tup us) ∧ Ivs H us ps ∧ ps.length < 1000 ∧ (∀ q ∈ ps, 0 ≤ q.1 ∧ q.1 ≤ q.2 ∧ q.2 < 100) ∧ 0 < far ∧ far ≤ 100000000000 ∧ 0 ≤ bas ∧ bas ≤ 100 ∧
  ∀ H' p ws, Same H H' → H' p = some (.tup ws) → Ivs H' ws (ps.map (strI far bas)) → Q (.ref p) H'
/-! ### the least number, by trying all -/
def Cvd (ps : List (Int × Int)) (t : Int × Int) : Prop := ∀ p, t.1 ≤ p → p ≤ t.2 → ∃ q ∈ ps, t.1 ≤ q.1 ∧ q.1 ≤ p ∧ p ≤ q.2 ∧ q.2 ≤ t.2
def frS (x y f : Int) (q : Int × Int) : Int := if (x ≤ q.1 ∧ q.1 ≤ f) ∧ q.2 ≤ y then (if q.2 + 1 > f then q.2 + 1 else f) else f
def fr (x y : Int) (l : List (Int × Int)) (f : Int) : Int := l.foldl (frS x y) f
theorem frS_le (x y f : Int) (q : Int × Int) : f ≤ frS x y f q := by
  unfold frS
  split
  · split <;> omega
  · omega
theorem fr_le (x y : Int) : ∀ (l : List (Int × Int)) (f : Int), f ≤ fr x y l f
  | [], f => Int.le_refl _
  | q :: l, f => Int.le_trans (frS_le x y f q) (fr_le x y l _)
theorem fr_cov (x y : Int) : ∀ (l : List (Int × Int)) (f p : Int), f ≤ p → p < fr x y l f → ∃ q ∈ l, x ≤ q.1 ∧ q.1 ≤ p ∧ p ≤ q.2 ∧ q.2 ≤ y
  | [], f, p, h1, h2 => absurd h2 (by show ¬ p < f; omega)
  | q :: l, f, p, h1, h2 => by
    by_cases c : frS x y f q ≤ p
    · obtain ⟨r, hr, k⟩ := fr_cov x y l _ p c h2
      exact ⟨r, List.mem_cons_of_mem _ hr, k⟩
    · unfold frS at c
      split at c
      · split at c
        · exact ⟨q, List.mem_cons_self, by omega⟩
        · omega
      · omega
theorem fr_stop (x y : Int) : ∀ (l : List (Int × Int)) (f : Int), (∀ r ∈ l, f < r.1) → fr x y l f = f
  | [], f, _ => rfl
  | q :: l, f, h => by
    have e : frS x y f q = f := by
      unfold frS
      rw [if_neg]
      have := h q List.mem_cons_self
      omega
    show fr x y l (frS x y f q) = f
    rw [e]
    exact fr_stop x y l f fun r hr => h r (List.mem_cons_of_mem _ hr)
theorem fr_out (x y : Int) : ∀ (l : List (Int × Int)) (f : Int), l.Pairwise leP → ∀ q ∈ l, x ≤ q.1 → q.2 ≤ y → ¬ (q.1 ≤ fr x y l f ∧ fr x y l f ≤ q.2)
  | [], _, _, _, h, _, _ => nomatch h
  | r :: l, f, asc, q, hq, a, b => by
    have p := List.pairwise_cons.mp asc
    show ¬ (q.1 ≤ fr x y l (frS x y f r) ∧ fr x y l (frS x y f r) ≤ q.2)
    rcases List.mem_cons.mp hq with rfl | hq
    · by_cases c : q.1 ≤ f
      · have := fr_le x y l (frS x y f q)
        have e : q.2 + 1 ≤ frS x y f q := by
          unfold frS
          rw [if_pos ⟨⟨a, c⟩, b⟩]
          split <;> omega
        omega
      · have e : frS x y f q = f := by
          unfold frS
          rw [if_neg]
          omega
        rw [e, fr_stop x y l f fun r hr => by
          have := p.1 r hr
          unfold leP at this
          omega]
        omega
    · exact fr_out x y l _ p.2 q hq a b
theorem fr_ok {x y : Int} {l ps : List (Int × Int)} (asc : l.Pairwise leP) (pm : l.Perm ps) : y < fr x y l x ↔ Cvd ps (x, y) := by
  constructor
  · intro h p h1 h2
    obtain ⟨q, hq, k⟩ := fr_cov x y l x p h1 (by have h2 : p ≤ y := h2; omega)
    exact ⟨q, pm.mem_iff.mp hq, k⟩
  · intro h
    by_cases c : y < fr x y l x
    · exact c
    · obtain ⟨q, hq, k1, k2, k3, k4⟩ := h (fr x y l x) (fr_le x y l x) (by show fr x y l x ≤ y; omega)
      exact absurd ⟨k2, k3⟩ (fr_out x y l x asc q (pm.mem_iff.mpr hq) k1 k4)
def sp_law_covers : Sp := fun vs H Q _ => ∃ (a t : Addr) (us : List V) (ps : List (Int × Int)) (x y : Int), vs = [.ref a, .ref t] ∧ H a = some (.tup us) ∧ Ivs H us ps ∧ H t = some (.tup [.int x, .int y]) ∧
  ∀ H' b, Same H H' → (b = true ↔ Cvd ps (x, y)) → Q (.bl b) H'
theorem ok_law_covers (T : Tx K mg f_depth_changes f_find_blocks f_has_position f_contains f_serves f_conflict f_demands_at_blocks f_is_open f_open_demands f_shadow_target f_require_few_blocks f_decisive_demands f_largest_independent f_count_needed f_law_draws f_law_next f_law_one f_law_spans f_law_covers f_law_every f_law_least f_law_served f_law_clash f_law_most f_law_right f_law d_depth_changes d_find_blocks d_has_position d_contains d_serves d_conflict d_demands_at_blocks d_is_open d_open_demands d_shadow_target d_require_few_blocks d_decisive_demands d_largest_independent d_count_needed d_law_draws d_law_next d_law_one d_law_spans d_law_covers d_law_every d_law_least d_law_served d_law_clash d_law_most d_law_right d_law t_MAX_BLOCKS) : FnOk P w K mg base CX0 1 f_law_covers d_law_covers ["_law_pieces", "_law_target"] sp_law_covers := by
  refine T.F_law_covers.ok sc_law_covers (fun vs H Q E h => ?_) (fun cdv A outer s H vs Q E hr h => ?_)
  · obtain ⟨a, t, us, ps, x, y, rfl, _⟩ := h
    rfl
  · obtain ⟨a, t, us, ps, x, y, rfl, ha, iv, ht, q⟩ := h
    refine ⟨_, (pss_cons (ps_set (i := 2) sc_law_covers.nd rfl (Or.inl rfl) (pe_ix ix_tup (pv 1) pe_int (fun _ _ => rfl)))
      (pss_cons (ps_for PassesOwn.never rfl (pi_list (pe_callB cr_sortTP (by rfl) T.z_sorted (by decide +kernel) (pa_cons (pv 0) pa_nil))) (pg_tup rfl (pgs_cons (pg_name (i := 3) sc_law_covers.nd rfl (Or.inl rfl)) (pgs_cons (pg_name (i := 4) sc_law_covers.nd rfl (Or.inl rfl)) pgs_nil)))
      (pss_one (ps_if (PW.pt (pw_and (pt_chain op_le op_le (pe_ix ix_tup (pv 1) pe_int (fun _ _ => rfl)) (pv 3) (pv 2)) (pw_and1 (pt_cmpR op_le (pv 4) (pe_ix ix_tup (pv 1) pe_int (fun _ _ => rfl)) (nomark _)))))
      (pss_one (ps_set (i := 2) sc_law_covers.nd rfl (Or.inl rfl) (pe_callB (call_max2 rfl) (by rfl) T.z_max (by decide +kernel) (pa_cons (pv 2) (pa_cons (pe_op op_add (pv 4) pe_int) pa_nil)))))
      pss_nil)))
      (pss_one (ps_ret (pe_cmpR op_gt (pv 2) (pe_ix ix_tup (pv 1) pe_int (fun _ _ => rfl)) (nomark _)))))), ?_⟩
    refine ⟨.ref t, rfl, t, _, 0, .int x, rfl, rfl, SqT.of ht, rfl, ?_⟩
    refine ⟨.ref a, rfl, ?_⟩
    dsimp only [tNil]
    refine ⟨a, us, ps, rfl, SqT.of ha, iv, fun H1 p us' l s1 np ep iv' asc pm => ?_⟩
    refine ⟨p, rfl, ⟨_, SqL.of ep⟩, ?_⟩
    refine for_list (K := K) (a := p) (xs := us') (D := ⟨_, _, fun _ _ => True, fun _ _ => True⟩) (fun j σ H' => Same H1 H' ∧ ∃ z3 z4, σ = [some (.ref a), some (.ref t), some (.int (fr x y (l.take j) x)), z3, z4])
      ⟨Same.refl _, _, _, rfl⟩ (fun j σ H' _ h => SqL.of (h.1 _ _ ep)) ?_ ?_
    · rintro j v σ H2 hj ⟨s2, z3, z4, rfl⟩
      obtain ⟨b, lo, hi, rfl, el, hb⟩ := iv'.get hj
      have ht2 := (s1.trans s2) _ _ ht
      have step : fr x y (l.take (j + 1)) x = frS x y (fr x y (l.take j) x) (lo, hi) := by
        rw [List.take_add_one, el]
        unfold fr
        rw [List.foldl_append]
        rfl
      have stay : ¬ ((x ≤ lo ∧ lo ≤ fr x y (l.take j) x) ∧ hi ≤ y) → fr x y (l.take (j + 1)) x = fr x y (l.take j) x := fun c => by
        rw [step]
        unfold frS
        rw [if_neg c]
      refine ⟨b, _, rfl, SqT.of (s2 _ _ hb), rfl, .int lo, [.int hi], rfl, .int hi, [], rfl, rfl, ?_⟩
      refine ⟨.ref t, rfl, t, _, 0, .int x, rfl, rfl, SqT.of ht2, rfl, .int lo, rfl, _, _, rfl, rfl, _, rfl, ite2 (fun c1 => ?_) (fun c1 => ?_)⟩
      · refine ⟨_, rfl, _, _, rfl, rfl, _, rfl, ite2 (fun c2 => ?_) (fun c2 => ?_)⟩
        · refine ⟨.int hi, rfl, .ref t, rfl, t, _, 1, .int y, rfl, rfl, SqT.of ht2, rfl, _, _, rfl, rfl, _, rfl, ite2 (fun c3 => ?_) (fun c3 => ?_)⟩
          · refine ⟨_, rfl, .int hi, rfl, _, _, rfl, rfl, _, _, rfl, s2, some (.int lo), some (.int hi), ?_⟩
            have c1 := of_decide_eq_true c1
            have c2 := of_decide_eq_true c2
            have c3 := of_decide_eq_true c3
            have e : frS x y (fr x y (l.take j) x) (lo, hi) = if hi + 1 > fr x y (l.take j) x then hi + 1 else fr x y (l.take j) x := if_pos ⟨⟨c1, c2⟩, c3⟩
            rw [step, e]
            rfl
          · rw [stay fun z => c3 (decide_eq_true z.2)]
            exact ⟨s2, _, _, rfl⟩
        · rw [stay fun z => c2 (decide_eq_true z.1.2)]
          exact iteF ⟨s2, _, _, rfl⟩
      · rw [stay fun z => c1 (decide_eq_true z.1.1)]
        exact ⟨_, rfl, iteF (iteF ⟨s2, _, _, rfl⟩)⟩
    · rintro σ H2 ⟨s2, z3, z4, rfl⟩
      rw [iv'.length, List.take_length]
      have ht2 := (s1.trans s2) _ _ ht
      refine ⟨_, rfl, .ref t, rfl, t, _, 1, .int y, rfl, rfl, SqT.of ht2, rfl, _, _, rfl, rfl, ?_⟩
      exact q H2 _ (s1.trans s2) (by rw [decide_eq_true_iff]; exact fr_ok asc pm)
def sp_law_every : Sp := fun vs H Q _ => ∃ (w : Int), vs = [.int w] ∧ 1 ≤ w ∧ w ≤ 8 ∧
  ∀ H' p zs es, Same H H' → H' p = some (.lst zs) → Ivs H' zs es → (∀ q : Int × Int, q ∈ es ↔ (0 ≤ q.1 ∧ q.1 ≤ q.2 ∧ q.2 < w)) → es.length ≤ 64 → (w ≤ 4 → es.length ≤ 16) → es.Nodup → H p = none → Q (.ref p) H'
theorem ok_law_every (T : Tx K mg f_depth_changes f_find_blocks f_has_position f_contains f_serves f_conflict f_demands_at_blocks f_is_open f_open_demands f_shadow_target f_require_few_blocks f_decisive_demands f_largest_independent f_count_needed f_law_draws f_law_next f_law_one f_law_spans f_law_covers f_law_every f_law_least f_law_served f_law_clash f_law_most f_law_right f_law d_depth_changes d_find_blocks d_has_position d_contains d_serves d_conflict d_demands_at_blocks d_is_open d_open_demands d_shadow_target d_require_few_blocks d_decisive_demands d_largest_independent d_count_needed d_law_draws d_law_next d_law_one d_law_spans d_law_covers d_law_every d_law_least d_law_served d_law_clash d_law_most d_law_right d_law t_MAX_BLOCKS) : FnOk P w K mg base CX0 1 f_law_every d_law_every ["_law_width"] sp_law_every := by
  refine T.F_law_every.ok sc_law_every (fun vs H Q E h => ?_) (fun cdv A outer s H vs Q E hr h => ?_)
  · obtain ⟨w, rfl, _⟩ := h
    rfl
  · obtain ⟨w, rfl, w0, w1, q⟩ := h
    refine ⟨_, (pss_cons (ps_set (i := 1) sc_law_every.nd rfl (Or.inl rfl) (pe_lst pa_nil))
      (pss_cons (ps_for PassesOwn.never rfl (pi_range1 (by rfl) T.z_range (pa_cons (pv 0) pa_nil)) (pg_name (i := 2) sc_law_every.nd rfl (Or.inr rfl))
      (pss_one (ps_expr (pe_bm PySem.F.plainAttrs_list PySem.F.slot_list_extend PySem.F.type_list_extend mt_extend (pv 1) (pa_cons (pe_lc (own := [("_law_high", 3)]) (g := (gName 3)) (tt := tYes) (by rfl) sc_law_every.nd (pi_range2 (by rfl) T.z_range (pa_cons (pv 2) (pa_cons (pv 0) pa_nil))) (blkOk_by (own := [("_law_high", 3)]) (N := N_law_every) (sc := defScope s_law_every) (by decide +kernel)) (fun _ _ _ _ _ => (pg_name (i := 3) sc_law_every.nd rfl (Or.inl rfl))) (fun _ _ _ _ _ => pts_nil) (fun _ _ _ _ _ => (pe_tup (pa_cons (pv 2) (pa_cons (pv 3) pa_nil))))) pa_nil)))))
      (pss_one (ps_ret (pv 1))))), ?_⟩
    refine ⟨by show 0 ≤ sizeLine; decide, fun l nl => ?_⟩
    refine ⟨.int w, rfl, w, rfl, by omega, by omega, for_range (n := w.toNat) (fun i σ H' => Same H H' ∧ (∃ us es, H' l = some (.lst us) ∧ Ivs H' us es ∧ ((es.length ≤ 8 * i ∧ (w ≤ 4 → es.length ≤ 4 * i)) ∧ es.Nodup) ∧ ∀ q : Int × Int, q ∈ es ↔ (0 ≤ q.1 ∧ q.1 ≤ q.2 ∧ q.2 < w) ∧ q.1 < i) ∧ ∃ z2 z3, σ = [some (.int w), some (.ref l), z2, z3])
      ⟨same_new nl, ⟨[], [], upd_same, .nil, ⟨⟨Nat.le_refl _, fun _ => Nat.le_refl _⟩, List.Pairwise.nil⟩, fun q => ⟨fun z => (nomatch z), fun z => by omega⟩⟩, _, _, rfl⟩ ?_ ?_⟩
    · rintro i σ H1 hi ⟨s1, ⟨us, es, el, iv, ⟨le, nd⟩, mem⟩, z2, z3, rfl⟩
      refine ⟨.ref l, rfl, .inl ⟨rfl, _, SqL.of el⟩, .int (0 + (i : Nat)), rfl, .int w, rfl, 0 + (i : Nat), w, rfl, ⟨by omega, by omega, by omega, by omega⟩, fun D nD => ?_⟩
      refine lcR (lo := 0 + (i : Nat)) (n := (w - (0 + (i : Nat))).toNat) (fun j H' ws => ∃ rs, Ivs H' ws rs ∧ (rs.length = j ∧ rs.Nodup) ∧ ∀ q : Int × Int, q ∈ rs ↔ (q.1 = i ∧ (i : Int) ≤ q.2 ∧ q.2 < i + j)) nD (by omega) (fun _ _ _ _ t ⟨rs, h1, h2⟩ => ⟨rs, h1.tps t, h2⟩) (fun j H' ws ⟨rs, h1, ⟨h2, _⟩, _⟩ => by rw [h1.length, h2]; exact Nat.le_refl _) (fun _ => ⟨[], .nil, ⟨rfl, List.Pairwise.nil⟩, fun q => ⟨fun z => (nomatch z), fun z => by omega⟩⟩) ?_ ?_
      · rintro j H' N acc hj sj eA sz ⟨rs, i1, ⟨i2, n2⟩, i3⟩ no yes
        refine ⟨rfl, .int (0 + (i : Nat)), rfl, .int (0 + (i : Nat) + (j : Nat)), rfl, by show 2 ≤ sizeLine; decide, fun t nt => ?_⟩
        refine yes _ _ (same_new nt) ⟨rs ++ [(0 + (i : Int), 0 + (i : Int) + (j : Int))], (i1.same (same_new nt)).snoc upd_same, ⟨by rw [List.length_append, i2]; rfl, List.nodup_append.mpr ⟨n2, List.pairwise_singleton _ _, fun x hx y hy z => ?_⟩⟩, fun q => ?_⟩
        · rw [List.mem_singleton.mp hy] at z
          have k := (i3 x).mp hx
          rw [z] at k
          have k : (0 + (i : Int)) = i ∧ (i : Int) ≤ 0 + (i : Int) + (j : Int) ∧ 0 + (i : Int) + (j : Int) < i + j := k
          omega
        rw [List.mem_append, i3, List.mem_singleton]
        constructor
        · rintro (h | h)
          · omega
          · rw [h]
            refine ⟨?_, ?_, ?_⟩
            · show 0 + (i : Int) = i
              omega
            · show (i : Int) ≤ 0 + (i : Int) + (j : Int)
              omega
            · show 0 + (i : Int) + (j : Int) < (i : Int) + ((j + 1 : Nat) : Int)
              omega
        · intro h
          by_cases c : q.2 < (i : Int) + j
          · exact .inl ⟨h.1, h.2.1, c⟩
          · refine .inr (Prod.ext ?_ ?_)
            · show q.1 = 0 + (i : Int)
              omega
            · show q.2 = 0 + (i : Int) + (j : Int)
              omega
      · rintro H2 ws s2 eD ⟨rs, i1, ⟨i2, n2⟩, i3⟩
        have lu := iv.length
        have lw := i1.length
        have el2 := s2 _ _ el
        refine ⟨l, D, _, _, rfl, rfl, el2, eD, by rw [show sizeLine = 16777216 by decide]; omega, same_off nl (s1.trans s2), ⟨us ++ ws, es ++ rs, upd_same, ?_, ?_, fun q => ?_⟩, _, _, rfl⟩
        · exact ((iv.same s2).append i1).tps (Tps.lst el2)
        · refine ⟨by rw [List.length_append]; omega, List.nodup_append.mpr ⟨nd, n2, fun x hx y hy z => ?_⟩⟩
          have k1 := (mem x).mp hx
          have k2 := (i3 y).mp hy
          rw [← z] at k2
          omega
        · rw [List.mem_append, mem, i3]
          constructor
          · rintro (h | h)
            · omega
            · omega
          · intro h
            by_cases c : q.1 < (i : Int)
            · exact .inl ⟨h.1, c⟩
            · exact .inr ⟨by omega, by omega, by omega⟩
    · rintro σ H1 ⟨s1, ⟨us, es, el, iv, ⟨le, nd⟩, mem⟩, z2, z3, rfl⟩
      refine ⟨.ref l, rfl, q H1 l us es s1 el iv (fun q => ?_) (by omega) (by omega) nd nl⟩
      rw [mem]
      constructor
      · exact fun h => h.1
      · exact fun h => ⟨h, by omega⟩
/-- rows of intervals -/
inductive Rws (H : Hp) : List V → List (List (Int × Int)) → Prop
  | nil : Rws H [] []
  | cons {a : Addr} {us : List V} {r : List (Int × Int)} {vs : List V} {rs : List (List (Int × Int))} : H a = some (.tup us) → Ivs H us r → Rws H vs rs → Rws H (.ref a :: vs) (r :: rs)
theorem Rws.length {H : Hp} {vs : List V} {rs : List (List (Int × Int))} (h : Rws H vs rs) : vs.length = rs.length := by
  induction h with
  | nil => rfl
  | cons _ _ _ ih => rw [List.length_cons, List.length_cons, ih]
theorem Rws.tps {H H' : Hp} (s : Tps H H') {vs : List V} {rs : List (List (Int × Int))} (h : Rws H vs rs) : Rws H' vs rs := by
  induction h with
  | nil => exact .nil
  | cons e i _ ih => exact .cons (s _ _ e) (i.tps s) ih
theorem Rws.get {H : Hp} {vs : List V} {rs : List (List (Int × Int))} (h : Rws H vs rs) : ∀ {i : Nat} {v : V}, vs[i]? = some v → ∃ a us r, v = .ref a ∧ rs[i]? = some r ∧ H a = some (.tup us) ∧ Ivs H us r := by
  induction h with
  | nil =>
    intro i v e
    simp at e
  | cons e k _ ih =>
    intro i v q
    cases i with
    | zero =>
      cases q
      exact ⟨_, _, _, rfl, rfl, e, k⟩
    | succ i => exact ih q
theorem Rws.append {H : Hp} {vs us : List V} {rs qs : List (List (Int × Int))} (h : Rws H vs rs) (h2 : Rws H us qs) : Rws H (vs ++ us) (rs ++ qs) := by
  induction h with
  | nil => exact h2
  | cons e i _ ih => exact .cons e i ih
theorem Ivs.last {H : Hp} {us : List V} {r : List (Int × Int)} {q : Int × Int} (h : Ivs H us (r ++ [q])) : ∃ us' a, us = us' ++ [.ref a] ∧ H a = some (.tup [.int q.1, .int q.2]) := by
  induction r generalizing us with
  | nil =>
    cases h with
    | cons e h2 =>
      cases h2
      exact ⟨[], _, rfl, e⟩
  | cons x r ih =>
    cases h with
    | cons e h2 =>
      obtain ⟨us', a, rfl, k⟩ := ih h2
      exact ⟨_ :: us', a, rfl, k⟩
def okN (r : List (Int × Int)) (e : Int × Int) : Bool := match r.getLast? with
  | none => true
  | some l => gtP e l
def nxt (es : List (Int × Int)) (r : List (Int × Int)) : List (List (Int × Int)) := (es.filter (okN r)).map fun e => r ++ [e]
def AllR (es : List (Int × Int)) (n : Nat) (rows : List (List (Int × Int))) : Prop := ∀ r, r ∈ rows ↔ r.Pairwise ltP ∧ r.length = n ∧ ∀ x ∈ r, x ∈ es
theorem gtP_iff {p q : Int × Int} : gtP p q = true ↔ ltP q p := by
  unfold gtP ltP
  rw [decide_eq_true_iff]
  omega
theorem allR_next {es : List (Int × Int)} {n : Nat} {rows : List (List (Int × Int))} (h : AllR es n rows) : AllR es (n + 1) (rows.flatMap (nxt es)) := by
  intro r
  rw [List.mem_flatMap]
  have tr : ∀ a b c : Int × Int, ltP a b → ltP b c → ltP a c := fun a b c h1 h2 => by
    unfold ltP at *
    omega
  constructor
  · rintro ⟨s, hs, m⟩
    obtain ⟨e, he, rfl⟩ := List.mem_map.mp m
    obtain ⟨he, ok⟩ := List.mem_filter.mp he
    obtain ⟨a1, a2, a3⟩ := (h s).mp hs
    refine ⟨List.pairwise_append.mpr ⟨a1, List.pairwise_singleton _ _, fun x hx y hy => ?_⟩, by rw [List.length_append, a2]; rfl, fun x hx => ?_⟩
    · rw [List.mem_singleton.mp hy]
      rcases List.eq_nil_or_concat s with rfl | ⟨m, l, rfl⟩
      · cases hx
      · rw [List.concat_eq_append] at *
        unfold okN at ok
        rw [List.getLast?_append, List.getLast?_singleton] at ok
        have k := gtP_iff.mp ok
        rcases List.mem_append.mp hx with hx | hx
        · exact tr _ _ _ ((List.pairwise_append.mp a1).2.2 x hx l (List.mem_singleton.mpr rfl)) k
        · rw [List.mem_singleton.mp hx]
          exact k
    · rcases List.mem_append.mp hx with hx | hx
      · exact a3 x hx
      · rw [List.mem_singleton.mp hx]
        exact he
  · rintro ⟨a1, a2, a3⟩
    rcases List.eq_nil_or_concat r with rfl | ⟨m, l, rfl⟩
    · cases a2
    · rw [List.concat_eq_append] at *
      have p := List.pairwise_append.mp a1
      rw [List.length_append, List.length_singleton] at a2
      refine ⟨m, (h m).mpr ⟨p.1, by omega, fun x hx => a3 x (List.mem_append_left _ hx)⟩, List.mem_map.mpr ⟨l, List.mem_filter.mpr ⟨a3 l (List.mem_append_right _ (List.mem_singleton.mpr rfl)), ?_⟩, rfl⟩⟩
      rcases List.eq_nil_or_concat m with rfl | ⟨m2, l2, rfl⟩
      · rfl
      · rw [List.concat_eq_append] at *
        unfold okN
        rw [List.getLast?_append, List.getLast?_singleton]
        exact gtP_iff.mpr (p.2.2 l2 (List.mem_append_right _ (List.mem_singleton.mpr rfl)) l (List.mem_singleton.mpr rfl))
theorem asc_of (S : List (Int × Int)) : ∃ R : List (Int × Int), R.Pairwise ltP ∧ ∀ x, x ∈ R ↔ x ∈ S := by
  have ins : ∀ (x : Int × Int) (R : List (Int × Int)), R.Pairwise ltP → ∃ R' : List (Int × Int), R'.Pairwise ltP ∧ ∀ y, y ∈ R' ↔ y = x ∨ y ∈ R := by
    intro x R
    induction R with
    | nil => exact fun _ => ⟨[x], List.pairwise_singleton _ _, fun y => by simp⟩
    | cons a R ih =>
      intro asc
      have p := List.pairwise_cons.mp asc
      by_cases c1 : x = a
      · exact ⟨a :: R, asc, fun y => by rw [List.mem_cons, c1]; exact ⟨fun h => .inr h, fun h => h.elim .inl id⟩⟩
      · by_cases c2 : ltP x a
        · refine ⟨x :: a :: R, List.pairwise_cons.mpr ⟨fun y hy => ?_, asc⟩, fun y => List.mem_cons⟩
          rcases List.mem_cons.mp hy with rfl | hy
          · exact c2
          · have := p.1 y hy
            unfold ltP at *
            omega
        · obtain ⟨R', r1, r2⟩ := ih p.2
          refine ⟨a :: R', List.pairwise_cons.mpr ⟨fun y hy => ?_, r1⟩, fun y => ?_⟩
          · rcases (r2 y).mp hy with rfl | h
            · have : ¬ (y.1 = a.1 ∧ y.2 = a.2) := fun z => c1 (Prod.ext z.1 z.2)
              unfold ltP at *
              omega
            · exact p.1 y h
          · rw [List.mem_cons, r2, List.mem_cons]
            constructor
            · rintro (h | h | h)
              · exact .inr (.inl h)
              · exact .inl h
              · exact .inr (.inr h)
            · rintro (h | h | h)
              · exact .inr (.inl h)
              · exact .inl h
              · exact .inr (.inr h)
  induction S with
  | nil => exact ⟨[], .nil, fun x => Iff.rfl⟩
  | cons a S ih =>
    obtain ⟨R, r1, r2⟩ := ih
    obtain ⟨R', s1, s2⟩ := ins a R r1
    exact ⟨R', s1, fun x => by rw [s2, r2, List.mem_cons]⟩
/-- the least size is met by an ascending row, and is at most the width -/
theorem least_row {ts ps es : List (Int × Int)} {w : Int} (g : Good (ts ++ ps)) (hw : 1 ≤ w) (ht : ∀ q ∈ ts, 0 ≤ q.1 ∧ q.1 ≤ q.2 ∧ q.2 < w) (he : ∀ q : Int × Int, q ∈ es ↔ (0 ≤ q.1 ∧ q.1 ≤ q.2 ∧ q.2 < w)) :
    ((needO ts ps : Nat) : Int) ≤ w ∧ ∃ R, R.Pairwise ltP ∧ R.length = needO ts ps ∧ (∀ x ∈ R, x ∈ es) ∧ Com ts ps R := by
  obtain ⟨⟨D, d1, d2, d3⟩, S, s1, s2, s3⟩ := need_ok g
  constructor
  · have c : Com ts ps ((List.range w.toNat).map fun n : Nat => ((n : Int), (n : Int))) := fun t htt p h1 h2 => by
      have := ht t htt
      refine ⟨(p, p), List.mem_append_right _ (List.mem_map.mpr ⟨p.toNat, List.mem_range.mpr (by omega), ?_⟩), h1, Int.le_refl _, Int.le_refl _, h2⟩
      exact Prod.ext (by show ((p.toNat : Nat) : Int) = p; omega) (by show ((p.toNat : Nat) : Int) = p; omega)
    have := weak_dual c d1 d2
    rw [List.length_map, List.length_range] at this
    omega
  · obtain ⟨R, r1, r2⟩ := asc_of S
    have cR : Com ts ps R := fun t htt p h1 h2 => by
      obtain ⟨q, hq, k⟩ := s2 t htt p h1 h2
      refine ⟨q, ?_, k⟩
      rcases List.mem_append.mp hq with h | h
      · exact List.mem_append_left _ h
      · exact List.mem_append_right _ ((r2 q).mpr h)
    have l1 := weak_dual cR d1 d2
    have l2 := Rw.len r1 r2
    refine ⟨R, r1, by omega, fun x hx => ?_, cR⟩
    obtain ⟨t, htt, k⟩ := s3 x ((r2 x).mp hx)
    have := ht t htt
    exact (he x).mpr (by omega)

theorem flat_few {es : List (Int × Int)} (le : es.length ≤ 16) : ∀ rows : List (List (Int × Int)), (rows.flatMap (nxt es)).length ≤ 16 * rows.length
  | [] => Nat.le_refl _
  | r :: rows => by
    have ih := flat_few le rows
    have : (nxt es r).length ≤ 16 := by
      unfold nxt
      rw [List.length_map]
      exact Nat.le_trans (List.length_filter_le _ _) le
    rw [List.flatMap_cons, List.length_append, List.length_cons]
    omega
def sp_law_least : Sp := fun vs H Q _ => ∃ (a b : Addr) (us ws : List V) (ts ps : List (Int × Int)) (w : Int), vs = [.int w, .ref a, .ref b] ∧ H a = some (.tup us) ∧ Ivs H us ts ∧ H b = some (.tup ws) ∧ Ivs H ws ps ∧ 1 ≤ w ∧ w ≤ 4 ∧ (∀ q ∈ ts, 0 ≤ q.1 ∧ q.1 ≤ q.2 ∧ q.2 < w) ∧ Good (ts ++ ps) ∧ ts.length < 1000 ∧ ps.length < 1000 ∧
  ∀ H', Same H H' → Q (.int (needO ts ps)) H'
theorem ok_law_least (T : Tx K mg f_depth_changes f_find_blocks f_has_position f_contains f_serves f_conflict f_demands_at_blocks f_is_open f_open_demands f_shadow_target f_require_few_blocks f_decisive_demands f_largest_independent f_count_needed f_law_draws f_law_next f_law_one f_law_spans f_law_covers f_law_every f_law_least f_law_served f_law_clash f_law_most f_law_right f_law d_depth_changes d_find_blocks d_has_position d_contains d_serves d_conflict d_demands_at_blocks d_is_open d_open_demands d_shadow_target d_require_few_blocks d_decisive_demands d_largest_independent d_count_needed d_law_draws d_law_next d_law_one d_law_spans d_law_covers d_law_every d_law_least d_law_served d_law_clash d_law_most d_law_right d_law t_MAX_BLOCKS) : FnOk P w K mg base CX0 2 f_law_least d_law_least ["_law_width", "_law_targets_here", "_law_pieces"] sp_law_least := by
  refine T.F_law_least.ok sc_law_least (fun vs H Q E h => ?_) (fun cdv A outer s H vs Q E hr h => ?_)
  · obtain ⟨a, b, us, ws, ts, ps, w, rfl, _⟩ := h
    rfl
  · obtain ⟨a, b, us, ws, ts, ps, w, rfl, ha, ivt, hb, ivp, w0, w1, tin, g, lt, lp, q⟩ := h
    refine ⟨_, (pss_cons (ps_set (i := 3) sc_law_least.nd rfl (Or.inl rfl) (pe_call (ok_law_every T) (hr.mono (by decide)) (by rfl) T.g_law_every T.F_law_every.kp T.b_law_every .nil pass0 (pa_cons (pv 0) pa_nil)))
      (pss_cons (ps_set (i := 4) sc_law_least.nd rfl (Or.inl rfl) (pe_lst (pa_cons (pe_tup pa_nil) pa_nil)))
      (pss_cons (ps_for PassesOwn.never rfl (pi_range1 (by rfl) T.z_range (pa_cons (pe_op op_add (pv 0) pe_int) pa_nil)) (pg_name (i := 5) sc_law_least.nd rfl (Or.inl rfl))
      (pss_cons (ps_for PassesOwn.never rfl (pi_list (pv 4)) (pg_name (i := 6) sc_law_least.nd rfl (Or.inr rfl))
      (pss_one (ps_if (pt_cmpR (op_eqL hr.units0) (pe_lc (own := [("_law_target", 7)]) (g := (gName 7)) (by rfl) sc_law_least.nd (pi_tup (pv 1)) (blkOk_by (own := [("_law_target", 7)]) (N := N_law_least) (sc := defScope s_law_least) (by decide +kernel)) (fun _ _ _ _ _ => (pg_name (i := 7) sc_law_least.nd rfl (Or.inl rfl))) (fun _ _ _ _ _ => pts_one (pt_not (pt_val (pe_call (ok_law_covers T) (hr.mono (by decide)) (by rfl) T.g_law_covers T.F_law_covers.kp T.b_law_covers .nil pass0 (pa_cons (pe_op (show OpR _ (binaryOp .Add) (rCatA K) from op_catA) (pv 2) (pv 6)) (pa_cons (pv 7) pa_nil)))))) (fun _ _ _ _ _ => (pv 7))) (pe_lst pa_nil) (nomark _))
      (pss_one (ps_ret (pv 5)))
      pss_nil)))
      (pss_cons (ps_set (i := 8) sc_law_least.nd rfl (Or.inl rfl) (pe_lst pa_nil))
      (pss_cons (ps_for PassesOwn.never rfl (pi_list (pv 4)) (pg_name (i := 6) sc_law_least.nd rfl (Or.inr rfl))
      (pss_one (ps_expr (pe_bm PySem.F.plainAttrs_list PySem.F.slot_list_extend PySem.F.type_list_extend mt_extend (pv 8) (pa_cons (pe_lc (own := [("_law_one_here", 9)]) (g := (gName 9)) (by rfl) sc_law_least.nd (pi_list (pv 3)) (blkOk_by (own := [("_law_one_here", 9)]) (N := N_law_least) (sc := defScope s_law_least) (by decide +kernel)) (fun _ _ _ _ _ => (pg_name (i := 9) sc_law_least.nd rfl (Or.inl rfl))) (fun _ _ _ _ _ => pts_one (PW.pt (pw_or (pt_cmpR (show OpR _ (compareOp .Eq) (rEqE K) from op_eqE hr.units0) (pv 6) (pe_tup pa_nil) (nomark _)) (pw_or1 (pt_cmpR (show OpR _ (compareOp .Gt) (rGtP K) from op_gtP hr.units0) (pv 9) (pe_ix (show IxR _ (rIxT K) from ix_tup) (pv 6) (pe_un un_neg pe_int) (fun _ _ => rfl)) (nomark _)))))) (fun _ _ _ _ _ => (pe_op (show OpR _ (binaryOp .Add) (rCatA K) from op_catA) (pv 6) (pe_tup (pa_cons (pv 9) pa_nil))))) pa_nil)))))
      (pss_one (ps_set (i := 4) sc_law_least.nd rfl (Or.inl rfl) (pv 8)))))))
      (pss_one (ps_ret (pe_op op_add (pv 0) pe_int)))))), ?_⟩
    have lu := ivt.length
    have lw := ivp.length
    refine ⟨.int w, rfl, w, rfl, w0, by omega, fun H1 ev zs es s1 eev ive mem _ le16 _ _ => ?_⟩
    have le := le16 w1
    have lz := ive.length
    obtain ⟨nw, R0, r01, r02, r03, r04⟩ := least_row g w0 tin mem
    refine ⟨by show 0 ≤ sizeLine; decide, fun e0 ne0 => ?_⟩
    have s2 := same_new (o := .tup []) ne0
    have ee0 := upd_same (H := H1) (a := e0) (o := .tup [])
    generalize upd H1 e0 (.tup []) = H2 at *
    refine ⟨by show 1 ≤ sizeLine; decide, fun Ra nRa => ?_⟩
    have s3 := same_new (o := .lst [.ref e0]) nRa
    have eRa := upd_same (H := H2) (a := Ra) (o := .lst [.ref e0])
    generalize upd H2 Ra (.lst [.ref e0]) = H3 at *
    have s13 := s2.trans s3
    refine ⟨.int w, rfl, _, _, rfl, rfl, w + 1, rfl, by omega, by omega, for_range (n := (w + 1).toNat) (fun i σ H' => Same H1 H' ∧ ∃ (R : Addr) (vs : List V) (rows : List (List (Int × Int))) (z5 z6 z7 z8 z9 : Option V), H' R = some (.lst vs) ∧ Rws H' vs rows ∧ AllR es i rows ∧ rows.length ≤ 16 ^ i ∧ (∀ r : List (Int × Int), r.Pairwise ltP → r.length < i → (∀ x ∈ r, x ∈ es) → ¬ Com ts ps r) ∧ σ = [some (.int w), some (.ref a), some (.ref b), some (.ref ev), some (.ref R), z5, z6, z7, z8, z9])
      ⟨s13, Ra, _, [[]], _, _, _, _, _, eRa, .cons (s3 _ _ ee0) .nil .nil, fun r => ?_, Nat.le_refl _, fun r _ h => absurd h (Nat.not_lt_zero _), rfl⟩ ?_ ?_⟩
    · rw [List.mem_singleton]
      constructor
      · intro h
        rw [h]
        exact ⟨.nil, rfl, fun x hx => nomatch hx⟩
      · exact fun h => List.length_eq_zero_iff.mp h.2.1
    · rintro i σ H4 hi ⟨s4, R, vs, rows, z5, z6, z7, z8, z9, eR, rws, all, bound, nc, rfl⟩
      have b5 : rows.length ≤ 16 ^ 4 := Nat.le_trans bound (Nat.pow_le_pow_right (by decide) (by omega))
      have b5 : rows.length ≤ 65536 := b5
      have s04 := s1.trans s4
      have ha4 := s04 _ _ ha
      have hb4 := s04 _ _ hb
      have ivt4 := ivt.same s04
      have ivp4 := ivp.same s04
      have eev4 := s4 _ _ eev
      have ive4 := ive.same s4
      refine ⟨.ref R, rfl, R, rfl, ⟨_, SqL.of eR⟩, ?_⟩
      refine for_list (K := K) (a := R) (xs := vs) (D := ⟨_, _, fun _ _ => True, fun _ _ => True⟩) (fun j σ H' => Same H4 H' ∧ (∀ r ∈ rows.take j, ¬ Com ts ps r) ∧ ∃ z6 z7 z8 z9, σ = [some (.int w), some (.ref a), some (.ref b), some (.ref ev), some (.ref R), some (.int (0 + (i : Nat))), z6, z7, z8, z9])
        ⟨Same.refl _, fun r hr => absurd hr (by simp), _, _, _, _, rfl⟩ (fun j σ H' _ h => SqL.of (h.1 _ _ eR)) ?_ ?_
      · rintro j v σ H5 hj ⟨s5, ncj, z6, z7, z8, z9, rfl⟩
        obtain ⟨ra, ru, r, rfl, er, hra, ivr⟩ := rws.get hj
        have lr : r.length = i := ((all r).mp (List.mem_of_getElem? er)).2.1
        have lru := ivr.length
        have ha5 := s5 _ _ ha4
        refine ⟨.ref a, rfl, a, rfl, ⟨_, SqT.of ha5⟩, fun D nD => ?_⟩
        refine lcT (K := K) (a := a) (xs := us) (fun j H' ws => ws.length ≤ j ∧ (ws = [] ↔ ∀ t ∈ ts.take j, Cvd (ps ++ r) t)) nD (fun H' s => SqT.of (s _ _ (ha5))) (by omega) (fun _ _ _ _ t r => r) (fun j H' ws r => r.1) (fun _ => ⟨Nat.le_refl _, ⟨fun _ t ht => absurd ht (by simp), fun _ => rfl⟩⟩) ?_ ?_
        · rintro k z H' N acc hk sk eA sz ⟨la, iff⟩ no yes
          obtain ⟨tb, x, y, rfl, ext, htb⟩ := ivt.get hk
          have s5k := s5.trans sk
          have up : ts.take (k + 1) = ts.take k ++ [(x, y)] := by
            rw [List.take_add_one, ext]
            rfl
          refine ⟨rfl, .ref b, rfl, .ref ra, rfl, catA_any (s5k _ _ hb4) (s5k _ _ hra) (by rw [show sizeLine = 16777216 by decide]; omega) (fun H'' cc s'' ec => ?_)⟩
          have s4k := s5k.trans s''
          refine ⟨.ref tb, rfl, cc, tb, _, ps ++ r, x, y, rfl, ec, (ivp4.same s4k).append (ivr.same s4k), (s04.trans s4k) _ _ htb, fun H3' bb s3' hbb => ?_⟩
          refine ⟨_, rfl, ite2 (fun c => ?_) (fun c => ?_)⟩
          · refine ⟨.ref tb, rfl, yes _ _ (s''.trans s3') ⟨by rw [List.length_append]; show _ + 1 ≤ _; omega, ⟨fun h => absurd h (by simp), fun h => ?_⟩⟩⟩
            have : bb = true := hbb.mpr (h (x, y) (by rw [up]; exact List.mem_append_right _ (List.mem_singleton.mpr rfl)))
            rw [this] at c
            cases c
          · refine no _ (s''.trans s3') ⟨by omega, ?_⟩
            have cb : bb = true := by
              cases bb with
              | true => rfl
              | false => exact absurd rfl c
            have cv := hbb.mp cb
            rw [iff, up]
            constructor
            · intro h t ht
              rcases List.mem_append.mp ht with ht | ht
              · exact h t ht
              · rw [List.mem_singleton.mp ht]
                exact cv
            · exact fun h t ht => h t (List.mem_append_left _ ht)
        rintro H6 ws6 s6 eD ⟨_, iff⟩
        rw [lu, List.take_length] at iff
        refine ⟨by show 0 ≤ sizeLine; decide, fun z9' nz9 => ?_⟩
        have s7 := same_new (o := .lst []) nz9
        refine ⟨D, z9', ws6, rfl, rfl, SqL.of (s7 _ _ eD), SqL.of upd_same, _, rfl, ite2 (fun c => ?_) (fun c => ?_)⟩
        · have cm : Com ts ps r := iff.mp (List.isEmpty_iff.mp c)
          obtain ⟨⟨Dw, d1, d2, d3⟩, _⟩ := need_ok g
          have w1 := weak_dual cm d1 d2
          have w2 : ¬ R0.length < i := fun z => nc R0 r01 z r03 r04
          have e : (0 + ((i : Nat) : Int)) = ((needO ts ps : Nat) : Int) := by omega
          refine ⟨_, rfl, ?_⟩
          rw [e]
          exact q _ (s04.trans (s5.trans (s6.trans s7)))
        · refine ⟨s5.trans (s6.trans s7), fun x hx => ?_, _, _, _, _, rfl⟩
          rw [List.take_add_one, er] at hx
          rcases List.mem_append.mp hx with hx | hx
          · exact ncj x hx
          · rw [List.mem_singleton.mp hx]
            exact fun cm => c (List.isEmpty_iff.mpr (iff.mpr cm))
      · rintro σ H5 ⟨s5, ncj, z6, z7, z8, z9, rfl⟩
        rw [rws.length, List.take_length] at ncj
        have nc2 : ∀ r : List (Int × Int), r.Pairwise ltP → r.length < i + 1 → (∀ x ∈ r, x ∈ es) → ¬ Com ts ps r := fun r p1 p2 p3 => by
          by_cases c : r.length = i
          · exact ncj r ((all r).mpr ⟨p1, c, p3⟩)
          · exact nc r p1 (by omega) p3
        refine ⟨by show 0 ≤ sizeLine; decide, fun L nL => ?_⟩
        have eR5 := s5 _ _ eR
        have rws5 := rws.tps (Tps.same s5)
        have eev5 := s5 _ _ eev4
        have ive5 := ive4.same s5
        have LR : L ≠ R := (ne_of_none eR5 nL).symm
        have sL := same_new (o := .lst []) nL
        refine ⟨.ref R, rfl, R, rfl, ⟨_, SqL.of (sL _ _ eR5)⟩, ?_⟩
        refine for_list (K := K) (a := R) (xs := vs) (D := ⟨_, _, fun _ _ => True, fun _ _ => True⟩) (fun j σ H' => Same H5 H' ∧ (∃ ls, H' L = some (.lst ls) ∧ Rws H' ls ((rows.take j).flatMap (nxt es))) ∧ ∃ z6 z7 z9, σ = [some (.int w), some (.ref a), some (.ref b), some (.ref ev), some (.ref R), some (.int (0 + (i : Nat))), z6, z7, some (.ref L), z9])
          ⟨sL, ⟨[], upd_same, .nil⟩, _, _, _, rfl⟩ (fun j σ H' _ h => SqL.of (h.1 _ _ eR5)) ?_ ?_
        · rintro j v σ H6 hj ⟨s6, ⟨ls, eL, rl⟩, z6, z7, z9, rfl⟩
          obtain ⟨ra, ru, r, rfl, er, hra, ivr⟩ := rws5.get hj
          have lr : r.length = i := ((all r).mp (List.mem_of_getElem? er)).2.1
          have lru := ivr.length
          have eev6 := s6 _ _ eev5
          have ive6 := ive5.same s6
          refine ⟨.ref L, rfl, .inl ⟨rfl, _, SqL.of eL⟩, .ref ev, rfl, ev, rfl, ⟨_, SqL.of eev6⟩, fun D nD => ?_⟩
          refine lcL (K := K) (a := ev) (xs := zs) (fun j H' ws => Rws H' ws (((es.take j).filter (okN r)).map fun e => r ++ [e])) nD (fun H' s => SqL.of (s _ _ (eev6))) (by omega) (fun _ _ _ _ t r => r.tps t) (fun j H' ws r => (by rw [r.length, List.length_map]; exact Nat.le_trans (List.length_filter_le _ _) (List.length_take_le _ _))) (fun _ => .nil) ?_ ?_
          · rintro k z H' N acc hk sk eA sz rr no yes
            obtain ⟨ob, x, y, rfl, eo, hob⟩ := ive6.get hk
            have hra' := sk _ _ (s6 _ _ hra)
            have ivr' := (ivr.same s6).same sk
            refine ⟨rfl, .ref ra, rfl, by show 0 ≤ sizeLine; decide, fun u nu => ?_⟩
            have su := same_new (o := .tup []) nu
            have eu := upd_same (H := H') (a := u) (o := .tup [])
            generalize upd H' u (.tup []) = Hu at *
            have skip : okN r (x, y) = false → N Hu := fun c => by
              refine no Hu su ?_
              rw [take_filter eo, if_neg (by rw [c]; exact Bool.false_ne_true), List.append_nil]
              exact rr.tps (Tps.same su)
            have add : okN r (x, y) = true → ∀ H2, Same Hu H2 → ∃ v1, some (some (.ref ra)) = some (some v1) ∧ v1 = V.ref ra := fun _ _ _ => ⟨_, rfl, rfl⟩
            have hra'' := su _ _ hra'
            have ivr'' := ivr'.same su
            have hob' := su _ _ (sk _ _ hob)
            refine ⟨ra, u, ru, rfl, rfl, SqT.of hra'', SqT.of eu, _, rfl, ?_⟩
            have fin : okN r (x, y) = true → ∀ u2 : Addr, Hu u2 = none → rCatA K (.ref ra) (.ref u2) (upd Hu u2 (.tup [.ref ob])) (fun y H4 => ∃ acc, H4 D = some (.lst acc) ∧ acc.length < sizeLine ∧ N (upd H4 D (.lst (acc ++ [y])))) := fun ok u2 nu2 => by
              have s2' := same_new (o := .tup [.ref ob]) nu2
              refine catA_any (s2' _ _ hra'') upd_same (by rw [show sizeLine = 16777216 by decide]; show _ + 1 ≤ _; omega) (fun H3 p s3' ep => ?_)
              have sf := su.trans (s2'.trans s3')
              refine yes H3 _ sf ?_
              rw [take_filter eo, if_pos ok, List.map_append]
              exact (rr.tps (Tps.same sf)).append (.cons ep ((ivr''.same (s2'.trans s3')).snoc ((s2'.trans s3') _ _ hob')) .nil)
            rcases List.eq_nil_or_concat r with er0 | ⟨m, l, er0⟩
            · subst er0
              cases ivr
              exact iteT (iteT ⟨.ref ra, rfl, .ref ob, rfl, by show 1 ≤ sizeLine; decide, fin rfl⟩)
            · rw [List.concat_eq_append] at er0
              subst er0
              obtain ⟨us', la, rfl, hla⟩ := ivr''.last
              have oke : okN (m ++ [l]) (x, y) = gtP (x, y) l := by
                unfold okN
                rw [List.getLast?_append, List.getLast?_singleton]
                rfl
              rw [show (us' ++ [V.ref la]).isEmpty = false by cases us' <;> rfl]
              refine iteF ⟨.ref ob, rfl, .ref ra, rfl, 1, rfl, ra, _, -1, .ref la, rfl, rfl, SqT.of hra'', atI_last _ _, ob, la, (x, y), l, rfl, rfl, SqT.of hob', SqT.of hla, _, rfl, ite2 (fun c => ?_) (fun c => ?_)⟩
              · exact ⟨.ref ra, rfl, .ref ob, rfl, by show 1 ≤ sizeLine; decide, fin (by rw [oke]; exact c)⟩
              · exact skip (by rw [oke]; exact Bool.not_eq_true _ ▸ c)
          · intro H7 ws7 s7 eD r7
            rw [lz, List.take_length] at r7
            have eL7 := s7 _ _ eL
            have l1 := rl.length
            have l2 := r7.length
            have l3 := flat_few le (rows.take j)
            have l4 := List.length_take_le j rows
            have l5 : (((es).filter (okN r)).map fun e => r ++ [e]).length ≤ 16 := by
              rw [List.length_map]
              exact Nat.le_trans (List.length_filter_le _ _) le
            have l6 := (List.getElem?_eq_some_iff.mp er).1
            refine ⟨L, D, ls, ws7, rfl, rfl, eL7, eD, by rw [show sizeLine = 16777216 by decide]; omega, same_off nL (s6.trans s7), ⟨_, upd_same, ?_⟩, _, _, _, rfl⟩
            rw [List.take_add_one, er, List.flatMap_append]
            refine ((rl.tps (Tps.same s7)).append ?_).tps (Tps.lst eL7)
            show Rws H7 ws7 ([r].flatMap (nxt es))
            rw [List.flatMap_cons, List.flatMap_nil, List.append_nil]
            exact r7
        · rintro σ H6 ⟨s6, ⟨ls, eL, rl⟩, z6, z7, z9, rfl⟩
          rw [rws.length, List.take_length] at rl
          refine ⟨.ref L, rfl, s4.trans (s5.trans s6), L, ls, _, _, _, _, _, _, eL, rl, allR_next all, ?_, nc2, rfl⟩
          have := flat_few le rows
          rw [Nat.pow_succ]
          omega
    · rintro σ H4 ⟨s4, R, vs, rows, z5, z6, z7, z8, z9, eR, rws, all, bound, nc, rfl⟩
      exact absurd r04 (nc R0 r01 (by omega) r03)

def rLenS (K : PySem.W.Frag) : List V → Hp → VK → Prop := fun xs H Q => ∃ p ys, xs = [.ref p] ∧ (SqL K H p ys ∨ SqT K H p ys) ∧ Q (.int (ys.length : Nat)) H
theorem call_lenS {X : Cx} : CallR X (.builtin "len") (rLenS X.K) := call_len_seq
theorem pe_bmK {X : Cx} {K : PySem.W.Frag} {e : Expr} {T : String} {r : V → List V → Hp → VK → Prop} {to : TE} {t : TA} (hK : X.K = K) (h : PE X e (tBM X.K T r to t)) : PE X e (tBM K T r to t) := hK ▸ h

/-! ### what the laws over counts share -/
theorem sm_row {ps : List (Int × Int)} {n : Nat} (h : ∀ p ∈ ps, p.1.natAbs < 10 ^ 30 ∧ p.2.natAbs < 10 ^ 30) (hn : ps.length ≤ n) : Sm (n * 203) 2 (.tuple (ps.map pairD)) := by
  refine (Sm.tup (n := 202) (dp := 1) (fun d hd => ?_)).mono ?_ (Nat.le_refl _)
  · obtain ⟨p, hp, rfl⟩ := List.mem_map.mp hd
    have z := h p hp
    exact sm2 z.1 z.2
  · rw [List.length_map]
    exact Nat.mul_le_mul_right _ hn
theorem sm_all {n dp : Nat} : ∀ {ds : List PyData}, (ds.all fun _ => true) = true → (∀ d ∈ ds, Sm n dp d) → Sm (ds.length * (n + 1)) (dp + 1) (.list ds) := fun _ h => Sm.lst h
theorem mem2 {α : Type} {a b : α} {P : α → Prop} (ha : P a) (hb : P b) : ∀ d ∈ [a, b], P d := fun d hd => by
  rcases List.mem_cons.mp hd with rfl | hd
  · exact ha
  · rw [List.mem_singleton.mp hd]
    exact hb
theorem mem3 {α : Type} {a b c : α} {P : α → Prop} (ha : P a) (hb : P b) (hc : P c) : ∀ d ∈ [a, b, c], P d := fun d hd => by
  rcases List.mem_cons.mp hd with rfl | hd
  · exact ha
  · exact mem2 hb hc d hd
theorem far3 {r : Int} (h0 : 0 ≤ r) (h1 : r < 3) : ∃ F : Int, atI [V.int 1, .int 3, .int ((10 : Int) ^ (11 : Int).toNat)] r = some (.int F) ∧ 0 < F ∧ F ≤ 100000000000 := by
  have : r = 0 ∨ r = 1 ∨ r = 2 := by omega
  rcases this with rfl | rfl | rfl
  · exact ⟨1, rfl, by decide, by decide⟩
  · exact ⟨3, rfl, by decide, by decide⟩
  · exact ⟨_, rfl, by decide, by decide⟩
/-- scaled positions are small enough -/
theorem str_small {ps : List (Int × Int)} (h : ∀ q ∈ ps, 0 ≤ q.1 ∧ q.1 ≤ q.2 ∧ q.2 < 100) {F b : Int} (f0 : 0 < F) (f1 : F ≤ 100000000000) (b0 : 0 ≤ b) (b1 : b ≤ 100) : ∀ q ∈ ps.map (strI F b), q.1.natAbs < 10 ^ 30 ∧ q.2.natAbs < 10 ^ 30 := fun q hq => by
  obtain ⟨r, hr, rfl⟩ := List.mem_map.mp hq
  have o := h r hr
  have a1 : r.1 * F ≤ 100 * 100000000000 := Int.mul_le_mul (by omega) f1 (by omega) (by decide)
  have a2 : r.2 * F ≤ 100 * 100000000000 := Int.mul_le_mul (by omega) f1 (by omega) (by decide)
  have a3 : 0 ≤ r.1 * F := Int.mul_nonneg (by omega) (by omega)
  have a4 : 0 ≤ r.2 * F := Int.mul_nonneg (by omega) (by omega)
  show (r.1 * F + b).natAbs < 10 ^ 30 ∧ (r.2 * F + F - 1 + b).natAbs < 10 ^ 30
  omega
theorem Rw.goodApp {w v : Int} {ts ps : List (Int × Int)} (h : Rw w ts) (h2 : Rw v ps) : Good (ts ++ ps) := fun q hq => by
  rcases List.mem_append.mp hq with hq | hq
  · have := h.ok q hq
    exact ⟨this.1, this.2.1⟩
  · have := h2.ok q hq
    exact ⟨this.1, this.2.1⟩
theorem blocks_two {w : Int} {ts ps : List (Int × Int)} (h : Rw w ts) (h2 : Rw w ps) : (blocksOf (ts ++ ps)).length ≤ w.toNat := blocks_in fun q hq => by
  rcases List.mem_append.mp hq with hq | hq
  · exact h.ok q hq
  · exact h2.ok q hq
theorem blocks_twoS {w : Int} {ts ps : List (Int × Int)} (h : Rw w ts) (h2 : Rw w ps) {f s : Int} (hf : 0 < f) (hs : 0 ≤ s) : (blocksOf (ts.map (strI f s) ++ ps.map (strI f s))).length ≤ w.toNat := by
  rw [← List.map_append, blocks_str (h.goodApp h2) hf hs, List.length_map]
  exact blocks_two h h2
theorem Kp.tpsS {d : Addr} {c : Addr × Addr} {H H' : Hp} {n : Int} (dk : Dk H d c n) (k : Kp d c H H') : Tps H H' := k.tps dk

/-! ### comprehensions over a tuple or list that draw -/
theorem lcKL {K : PySem.W.Frag} {a : Addr} {xs : List V} {d : Addr} {c : Addr × Addr} {n0 per : Int} {g : TG} {tt : TT} {te : TE} {vs : List Nat} {σ : L2.St} {H1 : Hp} {D : Addr} {Qd : Hp → Prop} (R : Nat → Hp → List V → Prop) (nD : H1 D = none) (dk : Dk H1 d c n0) (hl : ∀ H', Kp d c H1 H' → SqL K H' a xs) (few : xs.length < 1000)
    (mono : ∀ i H' H'' ws, Tps H' H'' → R i H' ws → R i H'' ws) (len : ∀ i H' ws, R i H' ws → ws.length ≤ i) (r0 : ∀ H', R 0 H' [])
    (hs : ∀ (i : Nat) (x : V) H' (N : Hp → Prop) acc, xs[i]? = some x → Kp d c H1 H' → Dk H' d c (n0 + per * i) → H' D = some (.lst acc) → R i H' acc → (∀ H'', Kp d c H' H'' → Dk H'' d c (n0 + per * i + per) → R (i + 1) H'' acc → N H'') → (∀ H'' y, Kp d c H' H'' → Dk H'' d c (n0 + per * i + per) → R (i + 1) H'' (acc ++ [y]) → ∃ acc', H'' D = some (.lst acc') ∧ acc'.length < sizeLine ∧ N (upd H'' D (.lst (acc' ++ [y])))) →
      g x (wipe σ vs) H' fun σ2 H2 => wipe σ2 vs = wipe σ vs ∧ tt σ2 H2 fun b H3 => if b = true then te σ2 H3 fun y H4 => ∃ acc, H4 D = some (.lst acc) ∧ acc.length < sizeLine ∧ N (upd H4 D (.lst (acc ++ [y]))) else N H3)
    (hd : ∀ H' ws, Kp d c H1 H' → Dk H' d c (n0 + per * xs.length) → H' D = some (.lst ws) → R xs.length H' ws → Qd H') :
    ∃ W : Nat → Nat → Hp → Prop, (∃ m, W 0 m (upd H1 D (.lst []))) ∧ ∀ i m H, W i m H →
      ((Itl K a).stop i H ∧ Qd H) ∨ ((Itl K a).go i H ∧ ∃ Nx : Hp → Prop, (∀ H', Nx H' → ∃ m', m' < m ∧ W (i + 1) m' H') ∧ ∀ x H', (Itl K a).yld i H x H' → g x (wipe σ vs) H' fun σ2 H2 => wipe σ2 vs = wipe σ vs ∧ tt σ2 H2 fun b H3 =>
        if b = true then te σ2 H3 fun y H4 => ∃ acc, H4 D = some (.lst acc) ∧ acc.length < sizeLine ∧ Nx (upd H4 D (.lst (acc ++ [y]))) else Nx H3) := by
  have off := dk.off nD
  refine lc_list (K := K) (a := a) (xs := xs) (fun i H' => Kp d c H1 H' ∧ Dk H' d c (n0 + per * i) ∧ ∃ ws, H' D = some (.lst ws) ∧ R i H' ws) ⟨Kp.same (same_new nD), (dk.upd off).eq (by simp), [], upd_same, r0 _⟩ (fun i H' _ h => hl H' h.1) ?_ ?_
  · rintro i x H' hi ⟨kp, dk', ws, eD, r⟩
    have lw := len i H' ws r
    have li := (List.getElem?_eq_some_iff.mp hi).1
    have sz : ws.length < sizeLine := few_line (by omega)
    refine hs i x H' _ ws hi kp dk' eD r (fun H'' kp2 dk2 r2 => ⟨kp.trans kp2, dk2.eq (by rw [Int.natCast_succ, Int.mul_add, Int.mul_one]; omega), ws, kp2.keep off eD, r2⟩) (fun H'' y kp2 dk2 r2 => ?_)
    have eD2 := kp2.keep off eD
    refine ⟨ws, eD2, sz, fun b o n1 n2 e => ?_, (dk2.upd off).eq ?_, _, upd_same, mono _ _ _ _ (Tps.lst eD2) r2⟩
    · rw [upd_ne (ne_of_none e nD)]
      exact kp2 b o n1 n2 (kp b o n1 n2 e)
    · rw [Int.natCast_succ, Int.mul_add, Int.mul_one]
      omega
  · rintro H' ⟨kp, dk', ws, eD, r⟩
    exact hd H' ws kp dk' eD r

def sp_law_one (K : PySem.W.Frag) : Sp := fun vs H Q _ => ∃ (d : Addr) (c : Addr × Addr) (n : Int) (a : Addr) (us : List V), vs = [.ref d, .ref a] ∧ Dk H d c n ∧ 0 ≤ n ∧ n < 1000000 ∧ Off d c a ∧ H a = some (.lst us) ∧ 0 < us.length ∧ us.length < 1000 ∧
  ∀ H' (j : Nat) v, Kp d c H H' → Dk H' d c (n + 1) → us[j]? = some v → Q v H'
theorem ok_law_one (T : Tx K mg f_depth_changes f_find_blocks f_has_position f_contains f_serves f_conflict f_demands_at_blocks f_is_open f_open_demands f_shadow_target f_require_few_blocks f_decisive_demands f_largest_independent f_count_needed f_law_draws f_law_next f_law_one f_law_spans f_law_covers f_law_every f_law_least f_law_served f_law_clash f_law_most f_law_right f_law d_depth_changes d_find_blocks d_has_position d_contains d_serves d_conflict d_demands_at_blocks d_is_open d_open_demands d_shadow_target d_require_few_blocks d_decisive_demands d_largest_independent d_count_needed d_law_draws d_law_next d_law_one d_law_spans d_law_covers d_law_every d_law_least d_law_served d_law_clash d_law_most d_law_right d_law t_MAX_BLOCKS) : FnOk P w K mg base CX0 2 f_law_one d_law_one ["_law_state", "_law_items"] (sp_law_one K) := by
  refine T.F_law_one.ok sc_law_one (fun vs H Q E h => ?_) (fun cdv A outer s H vs Q E hr h => ?_)
  · obtain ⟨d, c, n, a, us, rfl, _⟩ := h
    rfl
  · obtain ⟨d, c, n, a, us, rfl, dk, n0, n1, off, ha, l0, l1, q⟩ := h
    refine ⟨_, (pss_one (ps_ret (pe_ix ix_list (pv 1) (pe_call (ok_law_next T) (hr.mono (by decide)) (by rfl) T.g_law_next T.F_law_next.kp T.b_law_next .nil pass0 (pa_cons (pv 0) (pa_cons (pe_callB call_len_seq (by rfl) T.z_len PySem.boot_len (pa_cons (pv 1) pa_nil)) pa_nil))) (fun _ _ => rfl)))), ?_⟩
    refine ⟨.ref a, rfl, .ref d, rfl, .ref a, rfl, a, us, rfl, .inl (SqL.of ha), d, c, n, (us.length : Int), rfl, dk, n0, n1, by omega, by omega, fun H1 r kp dk1 r0 r1 => ?_⟩
    obtain ⟨j, rfl⟩ : ∃ j : Nat, r = j := ⟨r.toNat, by omega⟩
    have jl : j < us.length := by omega
    refine ⟨a, us, (j : Int), us[j], rfl, rfl, SqL.of (kp.keep off ha), atI_nat (List.getElem?_eq_getElem jl), ?_⟩
    exact q H1 j _ kp dk1 (List.getElem?_eq_getElem jl)

/-! ### demands: served, in conflict -/
def sp_law_served : Sp := fun vs H Q _ => ∃ (a : Addr) (v : V) (q : Int × Int) (d : Dem), vs = [.ref a, v] ∧ H a = some (.tup [.int q.1, .int q.2]) ∧ Dm H v d.1 d.2.1 d.2.2 ∧ Q (.bl (sv q d)) H
theorem ok_law_served (T : Tx K mg f_depth_changes f_find_blocks f_has_position f_contains f_serves f_conflict f_demands_at_blocks f_is_open f_open_demands f_shadow_target f_require_few_blocks f_decisive_demands f_largest_independent f_count_needed f_law_draws f_law_next f_law_one f_law_spans f_law_covers f_law_every f_law_least f_law_served f_law_clash f_law_most f_law_right f_law d_depth_changes d_find_blocks d_has_position d_contains d_serves d_conflict d_demands_at_blocks d_is_open d_open_demands d_shadow_target d_require_few_blocks d_decisive_demands d_largest_independent d_count_needed d_law_draws d_law_next d_law_one d_law_spans d_law_covers d_law_every d_law_least d_law_served d_law_clash d_law_most d_law_right d_law t_MAX_BLOCKS) : FnOk P w K mg base CX0 1 f_law_served d_law_served ["_law_piece", "_law_demand"] sp_law_served := by
  refine T.F_law_served.ok sc_law_served (fun vs H Q E h => ?_) (fun cdv A outer s H vs Q E hr h => ?_)
  · obtain ⟨a, v, z, d, rfl, _⟩ := h
    rfl
  · obtain ⟨a, v, z, d, rfl, ha, hd, q⟩ := h
    refine ⟨_, (pss_cons (ps_asg (pv 1) (pg_tup rfl (pgs_cons (pg_name (i := 2) sc_law_served.nd rfl (Or.inl rfl)) (pgs_cons (pg_name (i := 3) sc_law_served.nd rfl (Or.inl rfl)) pgs_nil))))
      (pss_one (ps_ret (pe_chN (pe_ix ix_tup (pv 3) pe_int (fun _ _ => rfl)) (pch_link op_le (pe_ix ix_tup (pv 0) pe_int (fun _ _ => rfl)) (pch_link op_le (pv 2) (pch_link op_le (pe_ix ix_tup (pv 0) pe_int (fun _ _ => rfl)) (pch_last op_le (pe_ix ix_tup (pv 3) pe_int (fun _ _ => rfl)))))))))), ?_⟩
    obtain ⟨⟨u, t, rfl, hu, ht⟩, _, _⟩ := hd
    obtain ⟨x, y⟩ := z
    obtain ⟨p, lo, hi⟩ := d
    have q : Q (.bl (decide (lo ≤ x ∧ x ≤ p ∧ p ≤ y ∧ y ≤ hi))) H := q
    have no : ¬ (lo ≤ x ∧ x ≤ p ∧ p ≤ y ∧ y ≤ hi) → Q (.bl false) H := fun n => by
      rw [decide_eq_false n] at q
      exact q
    refine ⟨.ref u, rfl, u, _, rfl, SqT.of hu, rfl, .int p, [.ref t], rfl, .ref t, [], rfl, rfl, ?_⟩
    refine ⟨.ref t, rfl, t, _, 0, .int lo, rfl, rfl, SqT.of ht, rfl, .ref a, rfl, a, _, 0, .int x, rfl, rfl, SqT.of ha, rfl, _, _, rfl, rfl, _, rfl, ite2 (fun e1 => ?_) (fun e1 => no fun z => e1 (decide_eq_true z.1))⟩
    refine ⟨.int p, rfl, _, _, rfl, rfl, _, rfl, ite2 (fun e2 => ?_) (fun e2 => no fun z => e2 (decide_eq_true z.2.1))⟩
    refine ⟨.ref a, rfl, a, _, 1, .int y, rfl, rfl, SqT.of ha, rfl, _, _, rfl, rfl, _, rfl, ite2 (fun e3 => ?_) (fun e3 => no fun z => e3 (decide_eq_true z.2.2.1))⟩
    refine ⟨.ref t, rfl, t, _, 1, .int hi, rfl, rfl, SqT.of ht, rfl, _, _, rfl, rfl, ?_⟩
    have e1 : lo ≤ x := of_decide_eq_true e1
    have e2 : x ≤ p := of_decide_eq_true e2
    have e3 : p ≤ y := of_decide_eq_true e3
    have e : decide (lo ≤ x ∧ x ≤ p ∧ p ≤ y ∧ y ≤ hi) = decide (y ≤ hi) := decide_eq_decide.mpr ⟨fun z => z.2.2.2, fun z => ⟨e1, e2, e3, z⟩⟩
    rw [e] at q
    exact q
def sp_law_clash : Sp := fun vs H Q _ => ∃ (v u : V) (d e : Dem), vs = [v, u] ∧ Dm H v d.1 d.2.1 d.2.2 ∧ Dm H u e.1 e.2.1 e.2.2 ∧ Q (.bl (cf d e)) H
theorem ok_law_clash (T : Tx K mg f_depth_changes f_find_blocks f_has_position f_contains f_serves f_conflict f_demands_at_blocks f_is_open f_open_demands f_shadow_target f_require_few_blocks f_decisive_demands f_largest_independent f_count_needed f_law_draws f_law_next f_law_one f_law_spans f_law_covers f_law_every f_law_least f_law_served f_law_clash f_law_most f_law_right f_law d_depth_changes d_find_blocks d_has_position d_contains d_serves d_conflict d_demands_at_blocks d_is_open d_open_demands d_shadow_target d_require_few_blocks d_decisive_demands d_largest_independent d_count_needed d_law_draws d_law_next d_law_one d_law_spans d_law_covers d_law_every d_law_least d_law_served d_law_clash d_law_most d_law_right d_law t_MAX_BLOCKS) : FnOk P w K mg base CX0 1 f_law_clash d_law_clash ["_law_one_here", "_law_other"] sp_law_clash := by
  refine T.F_law_clash.ok sc_law_clash (fun vs H Q E h => ?_) (fun cdv A outer s H vs Q E hr h => ?_)
  · obtain ⟨v1, v2, d, e, rfl, _⟩ := h
    rfl
  · obtain ⟨v1, v2, d, e, rfl, d1, d2, q⟩ := h
    refine ⟨_, (pss_cons (ps_par (by rfl) sc_law_clash.nd (i := 2) (j := 3) rfl rfl (by decide) rfl rfl (pa_cons (pe_callB (call_min2 rfl) (by rfl) T.z_min (by decide +kernel) (pa_cons (pe_ix ix_tup (pv 0) pe_int (fun _ _ => rfl)) (pa_cons (pe_ix ix_tup (pv 1) pe_int (fun _ _ => rfl)) pa_nil))) (pa_cons (pe_callB (call_max2 rfl) (by rfl) T.z_max (by decide +kernel) (pa_cons (pe_ix ix_tup (pv 0) pe_int (fun _ _ => rfl)) (pa_cons (pe_ix ix_tup (pv 1) pe_int (fun _ _ => rfl)) pa_nil))) pa_nil)) (by rfl))
      (pss_one (ps_ret (pe_and (pe_cmpR op_le (pe_callB (call_max2 rfl) (by rfl) T.z_max (by decide +kernel) (pa_cons (pe_ix ix_tup (pe_ix ix_tup (pv 0) pe_int (fun _ _ => rfl)) pe_int (fun _ _ => rfl)) (pa_cons (pe_ix ix_tup (pe_ix ix_tup (pv 1) pe_int (fun _ _ => rfl)) pe_int (fun _ _ => rfl)) pa_nil))) (pv 2) (nomark _)) (pe_one (pe_cmpR op_le (pv 3) (pe_callB (call_min2 rfl) (by rfl) T.z_min (by decide +kernel) (pa_cons (pe_ix ix_tup (pe_ix ix_tup (pv 0) pe_int (fun _ _ => rfl)) pe_int (fun _ _ => rfl)) (pa_cons (pe_ix ix_tup (pe_ix ix_tup (pv 1) pe_int (fun _ _ => rfl)) pe_int (fun _ _ => rfl)) pa_nil))) (nomark _))))))), ?_⟩
    obtain ⟨⟨u1, t1, rfl, e11, e12⟩, k1, k2⟩ := d1
    obtain ⟨⟨u2, t2, rfl, e21, e22⟩, k3, k4⟩ := d2
    obtain ⟨p1, lo1, hi1⟩ := d
    obtain ⟨p2, lo2, hi2⟩ := e
    have k1 : lo1 ≤ p1 := k1
    have k2 : p1 ≤ hi1 := k2
    have k3 : lo2 ≤ p2 := k3
    have k4 : p2 ≤ hi2 := k4
    have unf : cf (p1, lo1, hi1) (p2, lo2, hi2) = decide ((lo2 ≤ p1 ∧ p1 ≤ hi2) ∧ lo1 ≤ p2 ∧ p2 ≤ hi1) := rfl
    refine ⟨.ref u1, rfl, u1, _, 0, .int p1, rfl, rfl, SqT.of e11, rfl, .ref u2, rfl, u2, _, 0, .int p2, rfl, rfl, SqT.of e21, rfl, p1, p2, rfl, ?_⟩
    refine ⟨.ref u1, rfl, u1, _, 0, .int p1, rfl, rfl, SqT.of e11, rfl, .ref u2, rfl, u2, _, 0, .int p2, rfl, rfl, SqT.of e21, rfl, p1, p2, rfl, ?_⟩
    refine ⟨_, _, rfl, ?_⟩
    refine ⟨.ref u1, rfl, u1, _, 1, .ref t1, rfl, rfl, SqT.of e11, rfl, t1, _, 0, .int lo1, rfl, rfl, SqT.of e12, rfl, .ref u2, rfl, u2, _, 1, .ref t2, rfl, rfl, SqT.of e21, rfl, t2, _, 0, .int lo2, rfl, rfl, SqT.of e22, rfl, lo1, lo2, rfl, ?_⟩
    have no : cf (p1, lo1, hi1) (p2, lo2, hi2) = false → Q (.bl false) H := fun e => by
      rw [e] at q
      exact q
    refine ⟨.int _, rfl, _, _, rfl, rfl, _, rfl, ite2 (fun a1 => ?_) (fun a1 => no (by rw [unf]; exact decide_eq_false fun z => a1 (decide_eq_true (by split <;> split <;> omega))))⟩
    refine ⟨.int _, rfl, .ref u1, rfl, u1, _, 1, .ref t1, rfl, rfl, SqT.of e11, rfl, t1, _, 1, .int hi1, rfl, rfl, SqT.of e12, rfl, .ref u2, rfl, u2, _, 1, .ref t2, rfl, rfl, SqT.of e21, rfl, t2, _, 1, .int hi2, rfl, rfl, SqT.of e22, rfl, hi1, hi2, rfl, _, _, rfl, rfl, ?_⟩
    have a1 := of_decide_eq_true a1
    have fin : ∀ b : Bool, b = cf (p1, lo1, hi1) (p2, lo2, hi2) → Q (.bl b) H := fun b e => e ▸ q
    refine fin _ ?_
    rw [unf]
    refine decide_eq_decide.mpr ⟨fun a4 => ?_, fun z => ?_⟩
    · split at a1 <;> split at a1 <;> split at a4 <;> split at a4 <;> omega
    · split <;> split <;> omega
/-! ### all sets of demands without conflicts -/
def freeR (r : List Dem) (d : Dem) : Bool := (r.filter fun c => cf c d).isEmpty
theorem freeR_iff {r : List Dem} {d : Dem} : freeR r d = true ↔ ∀ c ∈ r, cf c d = false := by
  unfold freeR
  rw [List.isEmpty_iff, List.filter_eq_nil_iff]
  exact ⟨fun h c hc => Bool.eq_false_iff.mpr (h c hc), fun h c hc => Bool.eq_false_iff.mp (h c hc)⟩
def stepR (rows : List (List Dem)) (d : Dem) : List (List Dem) := rows ++ (rows.filter fun r => freeR r d).map (· ++ [d])
def rowsF (D : List Dem) : List (List Dem) := D.foldl stepR [[]]
theorem rowsF_snoc (D : List Dem) (d : Dem) : rowsF (D ++ [d]) = stepR (rowsF D) d := by
  unfold rowsF
  rw [List.foldl_append]
  rfl
theorem ind_add {r : List Dem} {d : Dem} (h : Ind r) (f : freeR r d = true) : Ind (r ++ [d]) :=
  List.pairwise_append.mpr ⟨h, List.pairwise_singleton _ _, fun c hc e he => by rw [List.mem_singleton.mp he]; exact freeR_iff.mp f c hc⟩
theorem rowsF_ok : ∀ (n : Nat) (D : List Dem), D.length = n → ∀ r ∈ rowsF D, (∀ x ∈ r, x ∈ D) ∧ Ind r := by
  intro n
  induction n with
  | zero =>
    intro D h r hr
    have e := List.length_eq_zero_iff.mp h
    subst e
    rw [List.mem_singleton.mp hr]
    exact ⟨fun x hx => (nomatch hx), List.Pairwise.nil⟩
  | succ n ih =>
    intro D h r hr
    rcases List.eq_nil_or_concat D with e | ⟨D', d, e⟩
    · rw [e] at h
      cases h
    · rw [List.concat_eq_append] at e
      subst e
      rw [List.length_append] at h
      have ih := ih D' (by have : D'.length + 1 = n + 1 := h; omega)
      rw [rowsF_snoc] at hr
      rcases List.mem_append.mp hr with hr | hr
      · have z := ih r hr
        exact ⟨fun x hx => List.mem_append_left _ (z.1 x hx), z.2⟩
      · obtain ⟨r', hr', rfl⟩ := List.mem_map.mp hr
        obtain ⟨h1, h2⟩ := List.mem_filter.mp hr'
        have z := ih r' h1
        refine ⟨fun x hx => ?_, ind_add z.2 h2⟩
        rcases List.mem_append.mp hx with hx | hx
        · exact List.mem_append_left _ (z.1 x hx)
        · exact List.mem_append_right _ hx
theorem rowsF_all : ∀ (n : Nat) (D : List Dem), D.length = n → ∀ r : List Dem, r.Sublist D → Ind r → r ∈ rowsF D := by
  intro n
  induction n with
  | zero =>
    intro D h r hr _
    have e := List.length_eq_zero_iff.mp h
    subst e
    rw [List.sublist_nil.mp hr]
    exact List.mem_singleton.mpr rfl
  | succ n ih =>
    intro D h r hr hi
    rcases List.eq_nil_or_concat D with e | ⟨D', d, e⟩
    · rw [e] at h
      cases h
    · rw [List.concat_eq_append] at e
      subst e
      rw [List.length_append] at h
      have ih := ih D' (by have : D'.length + 1 = n + 1 := h; omega)
      rw [rowsF_snoc]
      obtain ⟨r1, r2, rfl, h1, h2⟩ := List.sublist_append_iff.mp hr
      have e : r2 = [] ∨ r2 = [d] := by
        cases h2 with
        | cons _ h => exact .inl (List.sublist_nil.mp h)
        | cons_cons _ h => exact .inr (by rw [List.sublist_nil.mp h])
      rcases e with e | e
      · rw [e, List.append_nil] at hi ⊢
        exact List.mem_append_left _ (ih r1 h1 hi)
      · rw [e] at hi ⊢
        have hp := List.pairwise_append.mp hi
        refine List.mem_append_right _ (List.mem_map.mpr ⟨r1, List.mem_filter.mpr ⟨ih r1 h1 hp.1, freeR_iff.mpr fun c hc => hp.2.2 c hc d (List.mem_singleton.mpr rfl)⟩, rfl⟩)
theorem rowsF_len : ∀ (n : Nat) (D : List Dem), D.length = n → (rowsF D).length ≤ 2 ^ n := by
  intro n
  induction n with
  | zero =>
    intro D h
    rw [List.length_eq_zero_iff.mp h]
    exact Nat.le_refl _
  | succ n ih =>
    intro D h
    rcases List.eq_nil_or_concat D with e | ⟨D', d, e⟩
    · rw [e] at h
      cases h
    · rw [List.concat_eq_append] at e
      subst e
      rw [List.length_append] at h
      have ih := ih D' (by have : D'.length + 1 = n + 1 := h; omega)
      rw [rowsF_snoc]
      unfold stepR
      rw [List.length_append, List.length_map, Nat.pow_succ]
      have := List.length_filter_le (fun r => freeR r d) (rowsF D')
      omega
/-- what is in a list stands in it in some order -/
theorem sub_perm : ∀ (D W : List Dem), W.Nodup → (∀ x ∈ W, x ∈ D) → ∃ s : List Dem, s.Sublist D ∧ s.Perm W
  | [], W, nd, h => by
    have e : W = [] := List.eq_nil_iff_forall_not_mem.mpr fun x hx => nomatch h x hx
    exact ⟨[], .slnil, by rw [e]⟩
  | d :: D, W, nd, h => by
    by_cases c : d ∈ W
    · obtain ⟨s, h1, h2⟩ := sub_perm D (W.erase d) (nd.erase d) fun x hx => by
        have z := (List.Nodup.mem_erase_iff nd).mp hx
        rcases List.mem_cons.mp (h x z.2) with e | e
        · exact absurd e z.1
        · exact e
      exact ⟨d :: s, h1.cons_cons d, (h2.cons d).trans (List.perm_cons_erase c).symm⟩
    · obtain ⟨s, h1, h2⟩ := sub_perm D W nd fun x hx => by
        rcases List.mem_cons.mp (h x hx) with e | e
        · exact absurd (e ▸ hx) c
        · exact e
      exact ⟨s, h1.cons d, h2⟩
/-- the law's list of demands -/
def atAll (t : Int × Int) : List Dem := (List.range (t.2 + 1 - t.1).toNat).map fun (k : Nat) => (t.1 + (k : Int), t)
def demsOf (ts : List (Int × Int)) : List Dem := ts.flatMap atAll
def opnR (ps : List (Int × Int)) (d : Dem) : Bool := (ps.filter fun q => sv q d).isEmpty
theorem opnR_iff {ps : List (Int × Int)} {d : Dem} : opnR ps d = true ↔ ∀ q ∈ ps, sv q d = false := by
  unfold opnR
  rw [List.isEmpty_iff, List.filter_eq_nil_iff]
  exact ⟨fun h c hc => Bool.eq_false_iff.mpr (h c hc), fun h c hc => Bool.eq_false_iff.mp (h c hc)⟩
theorem mem_atAll {t : Int × Int} {d : Dem} : d ∈ atAll t ↔ d.2 = t ∧ Vd d := by
  obtain ⟨p, lo, hi⟩ := d
  obtain ⟨a, b⟩ := t
  unfold atAll Vd
  rw [List.mem_map]
  constructor
  · rintro ⟨k, hk, e⟩
    rw [List.mem_range] at hk
    have hk : k < (b + 1 - a).toNat := hk
    simp only [Prod.mk.injEq] at e
    obtain ⟨e1, e2, e3⟩ := e
    subst e1 e2 e3
    exact ⟨rfl, by show a ≤ a + (k : Int); omega, by show a + (k : Int) ≤ b; omega⟩
  · rintro ⟨e, h1, h2⟩
    cases e
    have h1 : lo ≤ p := h1
    have h2 : p ≤ hi := h2
    refine ⟨(p - lo).toNat, List.mem_range.mpr (by show (p - lo).toNat < (hi + 1 - lo).toNat; omega), ?_⟩
    show (lo + ((p - lo).toNat : Int), lo, hi) = (p, lo, hi)
    rw [show lo + ((p - lo).toNat : Int) = p by omega]
theorem mem_open {ts ps : List (Int × Int)} {d : Dem} : d ∈ (demsOf ts).filter (opnR ps) ↔ OpenD ts ps d := by
  unfold demsOf OpenD
  rw [List.mem_filter, List.mem_flatMap, opnR_iff]
  constructor
  · rintro ⟨⟨t, ht, h⟩, o⟩
    obtain ⟨e, v⟩ := mem_atAll.mp h
    exact ⟨e ▸ ht, v, o⟩
  · rintro ⟨h, v, o⟩
    exact ⟨⟨d.2, h, mem_atAll.mpr ⟨rfl, v⟩⟩, o⟩
theorem most_le {ts ps : List (Int × Int)} (g : Good (ts ++ ps)) {r : List Dem} (h : r ∈ rowsF ((demsOf ts).filter (opnR ps))) : r.length ≤ needO ts ps := by
  obtain ⟨h1, h2⟩ := rowsF_ok _ _ rfl r h
  obtain ⟨_, S, l, c, _⟩ := need_ok g
  have := weak_dual c h2 fun d hd => mem_open.mp (h1 d hd)
  omega
theorem ind_nodup {W : List Dem} (i : Ind W) (v : ∀ d ∈ W, Vd d) : W.Nodup := by
  refine i.imp_of_mem fun {a b} ha hb c e => ?_
  subst e
  rw [cf_self (v a ha)] at c
  cases c
theorem most_ge {ts ps : List (Int × Int)} (g : Good (ts ++ ps)) : ∃ r ∈ rowsF ((demsOf ts).filter (opnR ps)), r.length = needO ts ps := by
  obtain ⟨⟨W, i, o, l⟩, _⟩ := need_ok g
  obtain ⟨s, h1, h2⟩ := sub_perm ((demsOf ts).filter (opnR ps)) W (ind_nodup i fun d hd => (o d hd).2.1) fun x hx => mem_open.mpr (o x hx)
  refine ⟨s, rowsF_all _ _ rfl s h1 ((h2.pairwise_iff fun {a b} z => by rw [cf_comm]; exact z).mpr i), ?_⟩
  rw [h2.length_eq, l]
theorem atAll_len {t : Int × Int} (h : 0 ≤ t.1 ∧ t.1 ≤ t.2 ∧ t.2 < 4) : (atAll t).length ≤ 4 := by
  unfold atAll
  rw [List.length_map, List.length_range]
  omega
theorem demsOf_len : ∀ {ts : List (Int × Int)}, (∀ t ∈ ts, 0 ≤ t.1 ∧ t.1 ≤ t.2 ∧ t.2 < 4) → (demsOf ts).length ≤ 4 * ts.length
  | [], _ => Nat.le_refl _
  | t :: ts, h => by
    have ih := demsOf_len fun x hx => h x (List.mem_cons_of_mem _ hx)
    have z := atAll_len (h t List.mem_cons_self)
    unfold demsOf at ih ⊢
    rw [List.flatMap_cons, List.length_append, List.length_cons]
    omega
/-- a list of rows of demands -/
inductive RwsD (H : Hp) : List V → List (List Dem) → Prop
  | nil : RwsD H [] []
  | cons {a : Addr} {us : List V} {r : List Dem} {vs : List V} {rs : List (List Dem)} : H a = some (.tup us) → Dms H us r → RwsD H vs rs → RwsD H (.ref a :: vs) (r :: rs)
theorem RwsD.length {H : Hp} {vs : List V} {rs : List (List Dem)} (h : RwsD H vs rs) : vs.length = rs.length := by
  induction h with
  | nil => rfl
  | cons _ _ _ ih => rw [List.length_cons, List.length_cons, ih]
theorem RwsD.tps {H H' : Hp} (s : Tps H H') {vs : List V} {rs : List (List Dem)} (h : RwsD H vs rs) : RwsD H' vs rs := by
  induction h with
  | nil => exact .nil
  | cons e d _ ih => exact .cons (s _ _ e) (d.tps s) ih
theorem RwsD.get {H : Hp} {vs : List V} {rs : List (List Dem)} (h : RwsD H vs rs) : ∀ {i : Nat} {v : V}, vs[i]? = some v → ∃ a us r, v = .ref a ∧ rs[i]? = some r ∧ H a = some (.tup us) ∧ Dms H us r := by
  induction h with
  | nil => intro i v e; cases e
  | cons e d _ ih =>
    intro i v h
    cases i with
    | zero =>
      cases h
      exact ⟨_, _, _, rfl, rfl, e, d⟩
    | succ i => exact ih h
theorem RwsD.append {H : Hp} {vs ws : List V} {rs ss : List (List Dem)} (h : RwsD H vs rs) (h2 : RwsD H ws ss) : RwsD H (vs ++ ws) (rs ++ ss) := by
  induction h with
  | nil => exact h2
  | cons e d _ ih => exact .cons e d ih
/-- a comprehension over a long list -/
theorem lcLB {K : PySem.W.Frag} {a : Addr} {xs : List V} {g : TG} {tt : TT} {te : TE} {vs : List Nat} {σ : L2.St} {H1 : Hp} {D : Addr} {Qd : Hp → Prop} (R : Nat → Hp → List V → Prop) (nD : H1 D = none) (hl : ∀ H', Same H1 H' → SqL K H' a xs) (few : xs.length ≤ sizeLine)
    (mono : ∀ i H' H'' ws, Tps H' H'' → R i H' ws → R i H'' ws) (len : ∀ i H' ws, R i H' ws → ws.length ≤ i) (r0 : ∀ H', R 0 H' [])
    (hs : ∀ i x H' (N : Hp → Prop) acc, xs[i]? = some x → Same H1 H' → H' D = some (.lst acc) → acc.length < sizeLine → R i H' acc → (∀ H'', Same H' H'' → R (i + 1) H'' acc → N H'') → (∀ H'' y, Same H' H'' → R (i + 1) H'' (acc ++ [y]) → ∃ acc', H'' D = some (.lst acc') ∧ acc'.length < sizeLine ∧ N (upd H'' D (.lst (acc' ++ [y])))) →
      g x (wipe σ vs) H' fun σ2 H2 => wipe σ2 vs = wipe σ vs ∧ tt σ2 H2 fun b H3 => if b = true then te σ2 H3 fun y H4 => ∃ acc, H4 D = some (.lst acc) ∧ acc.length < sizeLine ∧ N (upd H4 D (.lst (acc ++ [y]))) else N H3)
    (hd : ∀ H' ws, Same H1 H' → H' D = some (.lst ws) → R xs.length H' ws → Qd H') :
    ∃ W : Nat → Nat → Hp → Prop, (∃ m, W 0 m (upd H1 D (.lst []))) ∧ ∀ i m H, W i m H →
      ((Itl K a).stop i H ∧ Qd H) ∨ ((Itl K a).go i H ∧ ∃ Nx : Hp → Prop, (∀ H', Nx H' → ∃ m', m' < m ∧ W (i + 1) m' H') ∧ ∀ x H', (Itl K a).yld i H x H' → g x (wipe σ vs) H' fun σ2 H2 => wipe σ2 vs = wipe σ vs ∧ tt σ2 H2 fun b H3 =>
        if b = true then te σ2 H3 fun y H4 => ∃ acc, H4 D = some (.lst acc) ∧ acc.length < sizeLine ∧ Nx (upd H4 D (.lst (acc ++ [y]))) else Nx H3) := by
  refine lc_list (K := K) (a := a) (xs := xs) (fun i H' => Same H1 H' ∧ ∃ ws, H' D = some (.lst ws) ∧ R i H' ws) ⟨same_new nD, [], upd_same, r0 _⟩ (fun i H' _ h => hl H' h.1) ?_ ?_
  · rintro i x H' hi ⟨sm, ws, eD, r⟩
    have lt := (List.getElem?_eq_some_iff.mp hi).1
    have lw := len i H' ws r
    have sz : ws.length < sizeLine := Nat.lt_of_lt_of_le (Nat.lt_of_le_of_lt lw lt) few
    refine hs i x H' _ ws hi sm eD sz r (fun H'' s r2 => ⟨sm.trans s, ws, s _ _ eD, r2⟩) (fun H'' y s r2 => ?_)
    exact ⟨ws, s _ _ eD, sz, same_off nD (sm.trans s), _, upd_same, mono _ _ _ _ (Tps.lst (s _ _ eD)) r2⟩
  · rintro H' ⟨sm, ws, eD, r⟩
    exact hd H' ws sm eD r
theorem atAll_nodup (t : Int × Int) : (atAll t).Nodup := by
  unfold atAll
  refine List.pairwise_map.mpr (List.Pairwise.imp (S := fun (a b : Nat) => (t.1 + (a : Int), t) ≠ (t.1 + (b : Int), t)) (fun {a b} (n : a ≠ b) e => n ?_) List.nodup_range)
  have z := congrArg Prod.fst e
  have z : t.1 + (a : Int) = t.1 + (b : Int) := z
  omega
theorem demsOf_nodup : ∀ {ts : List (Int × Int)}, ts.Nodup → (demsOf ts).Nodup
  | [], _ => List.Pairwise.nil
  | t :: ts, h => by
    have h2 := List.nodup_cons.mp h
    have ih := demsOf_nodup h2.2
    show (atAll t ++ demsOf ts).Nodup
    refine List.nodup_append.mpr ⟨atAll_nodup t, ih, fun d hd e he z => ?_⟩
    subst z
    obtain ⟨t', ht', h'⟩ := List.mem_flatMap.mp he
    rw [← (mem_atAll.mp hd).1] at h2
    exact h2.1 ((mem_atAll.mp h').1 ▸ ht')
def all10 : List (Int × Int) := [(0, 0), (0, 1), (0, 2), (0, 3), (1, 1), (1, 2), (1, 3), (2, 2), (2, 3), (3, 3)]
theorem in_all10 {t : Int × Int} (h : 0 ≤ t.1 ∧ t.1 ≤ t.2 ∧ t.2 < 4) : t ∈ all10 := by
  obtain ⟨a, b⟩ := t
  have h : 0 ≤ a ∧ a ≤ b ∧ b < 4 := h
  have ha : a = 0 ∨ a = 1 ∨ a = 2 ∨ a = 3 := by omega
  have hb : b = 0 ∨ b = 1 ∨ b = 2 ∨ b = 3 := by omega
  rcases ha with rfl | rfl | rfl | rfl <;> rcases hb with rfl | rfl | rfl | rfl <;> first | (exfalso; omega) | (unfold all10; simp)
theorem demsOf_few {ts : List (Int × Int)} (h : ∀ t ∈ ts, 0 ≤ t.1 ∧ t.1 ≤ t.2 ∧ t.2 < 4) (nd : ts.Nodup) : (demsOf ts).length ≤ 20 := by
  have e : (demsOf all10).length = 20 := by decide
  rw [← e]
  refine nodup_le (demsOf_nodup nd) fun d hd => ?_
  obtain ⟨t, ht, h'⟩ := List.mem_flatMap.mp hd
  exact List.mem_flatMap.mpr ⟨t, in_all10 (h t ht), h'⟩
theorem rowsF_big {D : List Dem} (h : D.length ≤ 20) (j : Nat) : (rowsF (D.take j)).length ≤ 1048576 := by
  refine Nat.le_trans (rowsF_len _ _ rfl) ?_
  have l : (D.take j).length ≤ 20 := by
    rw [List.length_take]
    omega
  exact Nat.le_trans (Nat.pow_le_pow_right (by decide) l) (by decide)
def sp_law_most : Sp := fun vs H Q _ => ∃ (a b : Addr) (us wus : List V) (ts ps : List (Int × Int)) (wd : Int), vs = [.int wd, .ref a, .ref b] ∧ H a = some (.tup us) ∧ Ivs H us ts ∧ H b = some (.tup wus) ∧ Ivs H wus ps ∧ (∀ q ∈ ts, 0 ≤ q.1 ∧ q.1 ≤ q.2 ∧ q.2 < 4) ∧ Good (ts ++ ps) ∧ ts.Nodup ∧ ts.length ≤ 7 ∧ ps.length < 1000 ∧
  ∀ H', Same H H' → Q (.int (needO ts ps : Nat)) H'
theorem ok_law_most (T : Tx K mg f_depth_changes f_find_blocks f_has_position f_contains f_serves f_conflict f_demands_at_blocks f_is_open f_open_demands f_shadow_target f_require_few_blocks f_decisive_demands f_largest_independent f_count_needed f_law_draws f_law_next f_law_one f_law_spans f_law_covers f_law_every f_law_least f_law_served f_law_clash f_law_most f_law_right f_law d_depth_changes d_find_blocks d_has_position d_contains d_serves d_conflict d_demands_at_blocks d_is_open d_open_demands d_shadow_target d_require_few_blocks d_decisive_demands d_largest_independent d_count_needed d_law_draws d_law_next d_law_one d_law_spans d_law_covers d_law_every d_law_least d_law_served d_law_clash d_law_most d_law_right d_law t_MAX_BLOCKS) : FnOk P w K mg base CX0 3 f_law_most d_law_most ["_law_width", "_law_targets_here", "_law_pieces"] sp_law_most := by
  refine T.F_law_most.ok sc_law_most (fun vs H Q E h => ?_) (fun cdv A outer s H vs Q E hr h => ?_)
  · obtain ⟨a, b, us, wus, ts, ps, wd, rfl, _⟩ := h
    rfl
  · obtain ⟨a, b, us, wus, ts, ps, wd, rfl, ha, ivt, hb, ivp, tin, g, ndt, lt, lp, q⟩ := h
    refine ⟨_, (pss_cons (ps_set (i := 3) sc_law_most.nd rfl (Or.inl rfl) (pe_lst pa_nil))
      (pss_cons (ps_for PassesOwn.never rfl (pi_tup (pv 1)) (pg_name (i := 4) sc_law_most.nd rfl (Or.inr rfl))
      (pss_one (ps_expr (pe_bm PySem.F.plainAttrs_list PySem.F.slot_list_extend PySem.F.type_list_extend mt_extend (pv 3) (pa_cons (pe_lc (own := [("_law_place", 5)]) (g := (gName 5)) (tt := tYes) (by rfl) sc_law_most.nd (pi_range2 (by rfl) T.z_range (pa_cons (pe_ix ix_tup (pv 4) pe_int (fun _ _ => rfl)) (pa_cons (pe_op op_add (pe_ix ix_tup (pv 4) pe_int (fun _ _ => rfl)) pe_int) pa_nil))) (blkOk_by (own := [("_law_place", 5)]) (N := N_law_most) (sc := defScope s_law_most) (by decide +kernel)) (fun _ _ _ _ _ => (pg_name (i := 5) sc_law_most.nd rfl (Or.inl rfl))) (fun _ _ _ _ _ => pts_nil) (fun _ _ _ _ _ => (pe_tup (pa_cons (pv 5) (pa_cons (pv 4) pa_nil))))) pa_nil)))))
      (pss_cons (ps_setLc (i := 3) (own := [("_law_one_here", 6)]) (g := (gName 6)) (by rfl) sc_law_most.nd rfl rfl (sw_true rfl rfl rfl (by decide +kernel)) (pi_list (pv 3)) (blkOk_by (own := [("_law_one_here", 6)]) (N := N_law_most) (sc := defScope s_law_most) (by decide +kernel)) (fun _ _ _ _ _ => (pg_name (i := 6) sc_law_most.nd rfl (Or.inr rfl))) (fun _ _ _ _ _ => pts_one (pt_cmpR (show OpR _ (compareOp .Eq) (rEqL K) from (op_eqL hr.units0)) (pe_lc (own := [("_law_piece", 7)]) (g := (gName 7)) (by rfl) sc_law_most.nd (pi_tupK (K := K) rfl (pv 2)) (blkOk_by (own := [("_law_piece", 7)]) (N := N_law_most) (by rfl)) (fun _ _ _ _ _ => (pg_name (i := 7) sc_law_most.nd rfl (Or.inl rfl))) (fun _ _ _ _ _ => pts_one (pt_val (pe_call (ok_law_served T) (hr.mono (by decide)) (by rfl) T.g_law_served T.F_law_served.kp T.b_law_served .nil pass0 (pa_cons (pv 7) (pa_cons (pv 6) pa_nil))))) (fun _ _ _ _ _ => (pv 7))) (pe_lst pa_nil) (nomark _))) (fun _ _ _ _ _ => (pv 6)))
      (pss_cons (ps_set (i := 8) sc_law_most.nd rfl (Or.inl rfl) (pe_lst (pa_cons (pe_tup pa_nil) pa_nil)))
      (pss_cons (ps_for PassesOwn.never rfl (pi_list (pv 3)) (pg_name (i := 9) sc_law_most.nd rfl (Or.inr rfl))
      (pss_cons (ps_setLc (i := 10) (own := [("_law_row", 11)]) (g := (gName 11)) (by rfl) sc_law_most.nd rfl rfl (sw_true rfl rfl rfl (by decide +kernel)) (pi_list (pv 8)) (blkOk_by (own := [("_law_row", 11)]) (N := N_law_most) (sc := defScope s_law_most) (by decide +kernel)) (fun _ _ _ _ _ => (pg_name (i := 11) sc_law_most.nd rfl (Or.inl rfl))) (fun _ _ _ _ _ => pts_one (pt_cmpR (show OpR _ (compareOp .Eq) (rEqL K) from (op_eqL hr.units0)) (pe_lc (own := [("_law_one_here", 6)]) (g := (gName 6)) (by rfl) sc_law_most.nd (pi_tupK (K := K) rfl (pv 11)) (blkOk_by (own := [("_law_one_here", 6)]) (N := N_law_most) (by rfl)) (fun _ _ _ _ _ => (pg_name (i := 6) sc_law_most.nd rfl (Or.inl rfl))) (fun _ _ _ _ _ => pts_one (pt_val (pe_call (ok_law_clash T) (hr.mono (by decide)) (by rfl) T.g_law_clash T.F_law_clash.kp T.b_law_clash .nil pass0 (pa_cons (pv 6) (pa_cons (pv 9) pa_nil))))) (fun _ _ _ _ _ => (pv 6))) (pe_lst pa_nil) (nomark _))) (fun _ _ _ _ _ => (pv 11)))
      (pss_one (ps_set (i := 8) sc_law_most.nd rfl (Or.inl rfl) (pe_op op_cat (pv 8) (pe_lc (own := [("_law_row", 11)]) (g := (gName 11)) (tt := tYes) (by rfl) sc_law_most.nd (pi_list (pv 10)) (blkOk_by (own := [("_law_row", 11)]) (N := N_law_most) (sc := defScope s_law_most) (by decide +kernel)) (fun _ _ _ _ _ => (pg_name (i := 11) sc_law_most.nd rfl (Or.inl rfl))) (fun _ _ _ _ _ => pts_nil) (fun _ _ _ _ _ => (pe_op (show OpR _ (binaryOp .Add) (rCatA K) from op_catA) (pv 11) (pe_tup (pa_cons (pv 9) pa_nil))))))))))
      (pss_one (ps_ret (pe_callB (cr_max rfl) (by rfl) T.z_max (by decide +kernel) (pa_cons (pe_lc (own := [("_law_row", 11)]) (g := (gName 11)) (tt := tYes) (by rfl) sc_law_most.nd (pi_list (pv 8)) (blkOk_by (own := [("_law_row", 11)]) (N := N_law_most) (sc := defScope s_law_most) (by decide +kernel)) (fun _ _ _ _ _ => (pg_name (i := 11) sc_law_most.nd rfl (Or.inl rfl))) (fun _ _ _ _ _ => pts_nil) (fun _ _ _ _ _ => (pe_callB (show CallR _ (.builtin "len") (rLenS K) from call_lenS) (by rfl) T.z_len PySem.boot_len (pa_cons (pv 11) pa_nil)))) pa_nil))))))))), ?_⟩
    have sz : sizeLine = 16777216 := by decide
    have lu := ivt.length
    have lw := ivp.length
    refine ⟨by show 0 ≤ sizeLine; decide, fun L nL => ?_⟩
    refine ⟨.ref a, rfl, a, rfl, ⟨_, SqT.of (same_new nL _ _ ha)⟩, ?_⟩
    refine for_tup (K := K) (a := a) (xs := us) (D := ⟨_, _, fun _ _ => True, fun _ _ => True⟩) (fun j σ H' => Same H H' ∧ (∃ ls, H' L = some (.lst ls) ∧ Dms H' ls (demsOf (ts.take j))) ∧ ∃ y4, σ = [some (.int wd), some (.ref a), some (.ref b), some (.ref L), y4, none, none, none, none, none, none, none])
      ⟨same_new nL, ⟨[], upd_same, .nil⟩, _, rfl⟩ (fun j σ H' _ h => SqT.of (h.1 _ _ ha)) ?_ ?_
    · rintro j v σ H1 hj ⟨s1, ⟨ls, eL, dm⟩, y4, rfl⟩
      obtain ⟨ob, x, y, rfl, eo, hob⟩ := ivt.get hj
      have hob1 := s1 _ _ hob
      have jl := (List.getElem?_eq_some_iff.mp eo).1
      have bt : 0 ≤ x ∧ x ≤ y ∧ y < 4 := tin (x, y) (List.mem_of_getElem? eo)
      have lls := dm.length
      have ld := demsOf_len (ts := ts.take j) fun t ht => tin t (List.mem_of_mem_take ht)
      have lj := List.length_take_le j ts
      refine ⟨.ref L, rfl, .inl ⟨rfl, _, SqL.of eL⟩, .ref ob, rfl, ob, _, 0, .int x, rfl, rfl, SqT.of hob1, rfl, .ref ob, rfl, ob, _, 1, .int y, rfl, rfl, SqT.of hob1, rfl, _, _, rfl, rfl, ?_⟩
      refine ⟨_, _, rfl, ⟨by omega, by omega, by omega, by omega⟩, fun D nD => ?_⟩
      refine lcR (lo := x) (n := (y + 1 - x).toNat) (fun k H' ws => Dms H' ws ((atAll (x, y)).take k)) nD (by omega) (fun _ _ _ _ t r => r.tps t) (fun k H' ws r => by rw [r.length]; exact List.length_take_le _ _) (fun _ => .nil) ?_ ?_
      · intro k H' N acc hk sk eA sz' r no yes
        refine ⟨rfl, .int (x + (k : Nat)), rfl, .ref ob, rfl, by show 2 ≤ sizeLine; decide, fun t nt => ?_⟩
        have s5 := same_new (o := .tup [.int (x + (k : Nat)), .ref ob]) nt
        refine yes _ _ s5 ?_
        have ga : (atAll (x, y))[k]? = some (x + (k : Int), x, y) := by
          unfold atAll
          rw [List.getElem?_map, List.getElem?_range hk]
          rfl
        rw [List.take_add_one, ga]
        exact (r.tps (Tps.same s5)).snoc ⟨⟨t, ob, rfl, upd_same, s5 _ _ (sk _ _ hob1)⟩, by omega, by omega⟩
      · intro H2 ws2 s2 eD r
        have lat : (atAll (x, y)).length = (y + 1 - x).toNat := by
          unfold atAll
          rw [List.length_map, List.length_range]
        rw [← lat, List.take_length] at r
        have l2 := r.length
        have eL2 := s2 _ _ eL
        refine ⟨L, D, ls, ws2, rfl, rfl, eL2, eD, by omega, same_off nL (s1.trans s2), ⟨_, upd_same, ?_⟩, _, rfl⟩
        have e : demsOf (ts.take (j + 1)) = demsOf (ts.take j) ++ atAll (x, y) := by
          rw [List.take_add_one, eo]
          unfold demsOf
          rw [List.flatMap_append]
          show _ ++ (atAll (x, y) ++ []) = _
          rw [List.append_nil]
        rw [e]
        exact ((dm.tps (Tps.same s2)).append r).tps (Tps.lst eL2)
    · rintro σ H1 ⟨s1, ⟨ls, eL, dm⟩, y4, rfl⟩
      rw [lu, List.take_length] at dm
      have lls := dm.length
      have ld := demsOf_few tin ndt
      have hb1 := s1 _ _ hb
      have ivp1 := ivp.same s1
      refine ⟨.ref L, rfl, L, rfl, ⟨_, SqL.of eL⟩, fun D nD => ?_⟩
      refine lcL (K := K) (a := L) (xs := ls) (fun j H' ws => Dms H' ws (((demsOf ts).take j).filter (opnR ps))) nD (fun H' s => SqL.of (s _ _ (eL))) (by omega) (fun _ _ _ _ t r => r.tps t) (fun j H' ws r => (by rw [r.length]; exact Nat.le_trans (List.length_filter_le _ _) (List.length_take_le _ _))) (fun _ => .nil) ?_ ?_
      · rintro j v H' N acc hj sj eA sz' r no yes
        obtain ⟨p, lo, hi, ed, dv⟩ := dm.get hj
        have dv1 := dv.same sj
        have hb2 := sj _ _ hb1
        have ivp2 := ivp1.same sj
        refine ⟨rfl, .ref b, rfl, b, rfl, ⟨_, SqT.of hb2⟩, fun D2 nD2 => ?_⟩
        refine lcT (K := K) (a := b) (xs := wus) (fun j H' ws => Ivs H' ws ((ps.take j).filter fun q => sv q (p, lo, hi))) nD2 (fun H' s => SqT.of (s _ _ (hb2))) (by omega) (fun _ _ _ _ t r => r.tps t) (fun j H' ws r => (by rw [r.length]; exact Nat.le_trans (List.length_filter_le _ _) (List.length_take_le _ _))) (fun _ => .nil) ?_ ?_
        · rintro k u H'' N2 acc2 hk sk eA2 sz2 r2 no2 yes2
          obtain ⟨ob, x, y, rfl, eo, hob⟩ := ivp2.get hk
          refine ⟨rfl, .ref ob, rfl, v, rfl, ob, v, (x, y), (p, lo, hi), rfl, sk _ _ hob, dv1.same sk, _, rfl, ite2 (fun c => ?_) (fun c => ?_)⟩
          · refine ⟨.ref ob, rfl, yes2 H'' _ (Same.refl _) ?_⟩
            rw [take_filter eo, if_pos c]
            exact r2.snoc (sk _ _ hob)
          · refine no2 H'' (Same.refl _) ?_
            rw [take_filter eo, if_neg c, List.append_nil]
            exact r2
        · intro H2 ws2 s2 eD2 r2
          rw [lw, List.take_length] at r2
          refine ⟨by show 0 ≤ sizeLine; decide, fun e ne => ?_⟩
          have s3 := same_new (o := .lst []) ne
          have ee := upd_same (H := H2) (a := e) (o := .lst [])
          generalize upd H2 e (.lst []) = H3 at *
          have s23 := s2.trans s3
          have em : ws2.isEmpty = opnR ps (p, lo, hi) := by
            unfold opnR
            rw [Bool.eq_iff_iff, List.isEmpty_iff, List.isEmpty_iff]
            constructor
            · intro z
              rw [z] at r2
              cases hq : ps.filter fun q => sv q (p, lo, hi) with
              | nil => rfl
              | cons a b =>
                rw [hq] at r2
                cases r2
            · intro z
              rw [z] at r2
              cases r2
              rfl
          refine ⟨D2, e, ws2, rfl, rfl, SqL.of (s3 _ _ eD2), SqL.of ee, _, rfl, ?_⟩
          rw [em]
          refine ite2 (fun c => ?_) (fun c => ?_)
          · refine ⟨v, rfl, yes H3 _ s23 ?_⟩
            rw [take_filter ed, if_pos c]
            exact (r.tps (Tps.same s23)).snoc (dv1.same s23)
          · refine no H3 s23 ?_
            rw [take_filter ed, if_neg c, List.append_nil]
            exact r.tps (Tps.same s23)
      intro H4 dws s4 eD rD
      rw [lls, List.take_length] at rD
      have lD : ((demsOf ts).filter (opnR ps)).length ≤ 20 := Nat.le_trans (List.length_filter_le _ _) ld
      obtain ⟨Dl, eDl⟩ : ∃ Dl, Dl = (demsOf ts).filter (opnR ps) := ⟨_, rfl⟩
      rw [← eDl] at rD lD
      have ldw := rD.length
      refine ⟨by show 0 ≤ sizeLine; decide, fun e0 ne0 => ?_⟩
      have s5 := same_new (o := .tup []) ne0
      have ee0 := upd_same (H := H4) (a := e0) (o := .tup [])
      generalize upd H4 e0 (.tup []) = H5 at *
      refine ⟨by show 1 ≤ sizeLine; decide, fun R0 nR0 => ?_⟩
      have s6 := same_new (o := .lst [.ref e0]) nR0
      have eR0 := upd_same (H := H5) (a := R0) (o := .lst [.ref e0])
      generalize upd H5 R0 (.lst [.ref e0]) = H6 at *
      have s46 := s5.trans s6
      have s16 := s4.trans s46
      have eD6 := s46 _ _ eD
      have rD6 := rD.tps (Tps.same s46)
      refine ⟨.ref D, rfl, D, rfl, ⟨_, SqL.of eD6⟩, ?_⟩
      refine for_list (K := K) (a := D) (xs := dws) (D := ⟨_, _, fun _ _ => True, fun _ _ => True⟩) (fun j σ H' => Same H6 H' ∧ (∃ R vs, H' R = some (.lst vs) ∧ RwsD H' vs (rowsF (Dl.take j)) ∧ ∃ y9 y10, σ = [some (.int wd), some (.ref a), some (.ref b), some (.ref D), y4, none, none, none, some (.ref R), y9, y10, none]))
        ⟨Same.refl _, R0, _, eR0, .cons (s6 _ _ ee0) .nil .nil, _, _, rfl⟩ (fun j σ H' _ h => SqL.of (h.1 _ _ eD6)) ?_ ?_
      · rintro j v σ H7 hj ⟨s7, R, vs, eR, rws, y9, y10, rfl⟩
        obtain ⟨p, lo, hi, ed, dv⟩ := (rD6.same s7).get hj
        have big := rowsF_big lD j
        have big2 := rowsF_big lD (j + 1)
        have lvs := rws.length
        refine ⟨.ref R, rfl, R, rfl, ⟨_, SqL.of eR⟩, fun F nF => ?_⟩
        refine lcLB (K := K) (a := R) (xs := vs) (fun k H' ws => RwsD H' ws (((rowsF (Dl.take j)).take k).filter fun r => freeR r (p, lo, hi))) nF (fun H' s => SqL.of (s _ _ eR)) (by omega) (fun _ _ _ _ t r => r.tps t) (fun k H' ws r => by rw [r.length]; exact Nat.le_trans (List.length_filter_le _ _) (List.length_take_le _ _)) (fun _ => .nil) ?_ ?_
        · rintro k u H' N acc hk sk eA sz' r no yes
          obtain ⟨ra, rus, row, rfl, er, hra, dr⟩ := (rws.tps (Tps.same sk)).get hk
          have dv1 := dv.same sk
          have lrow := dr.length
          have lrow7 : row.length ≤ 20 := by
            obtain ⟨h1, h2⟩ := rowsF_ok _ _ rfl row (List.mem_of_getElem? er)
            have nd : row.Nodup := ind_nodup h2 fun d hd => (mem_open.mp (eDl ▸ List.mem_of_mem_take (h1 d hd))).2.1
            exact Nat.le_trans (nodup_le nd h1) (by rw [List.length_take]; omega)
          refine ⟨rfl, .ref ra, rfl, ra, rfl, ⟨_, SqT.of hra⟩, fun D2 nD2 => ?_⟩
          refine lcT (K := K) (a := ra) (xs := rus) (fun j H' ws => Dms H' ws ((row.take j).filter fun c => cf c (p, lo, hi))) nD2 (fun H' s => SqT.of (s _ _ (hra))) (by omega) (fun _ _ _ _ t r => r.tps t) (fun j H' ws r => (by rw [r.length]; exact Nat.le_trans (List.length_filter_le _ _) (List.length_take_le _ _))) (fun _ => .nil) ?_ ?_
          · rintro i2 z H'' N2 acc2 hi2 si eA2 sz2 r2 no2 yes2
            obtain ⟨p2, lo2, hi2', e2, dz⟩ := dr.get hi2
            refine ⟨rfl, z, rfl, v, rfl, z, v, (p2, lo2, hi2'), (p, lo, hi), rfl, dz.same si, dv1.same si, _, rfl, ite2 (fun c => ?_) (fun c => ?_)⟩
            · refine ⟨z, rfl, yes2 H'' _ (Same.refl _) ?_⟩
              rw [take_filter e2, if_pos c]
              exact r2.snoc (dz.same si)
            · refine no2 H'' (Same.refl _) ?_
              rw [take_filter e2, if_neg c, List.append_nil]
              exact r2
          · intro H2 ws2 s2 eD2 r2
            rw [lrow, List.take_length] at r2
            refine ⟨by show 0 ≤ sizeLine; decide, fun e ne => ?_⟩
            have s3 := same_new (o := .lst []) ne
            have ee := upd_same (H := H2) (a := e) (o := .lst [])
            generalize upd H2 e (.lst []) = H3 at *
            have s23 := s2.trans s3
            have em : ws2.isEmpty = freeR row (p, lo, hi) := by
              unfold freeR
              rw [Bool.eq_iff_iff, List.isEmpty_iff, List.isEmpty_iff]
              constructor
              · intro z
                rw [z] at r2
                cases hq : row.filter fun c => cf c (p, lo, hi) with
                | nil => rfl
                | cons a b =>
                  rw [hq] at r2
                  cases r2
              · intro z
                rw [z] at r2
                cases r2
                rfl
            refine ⟨D2, e, ws2, rfl, rfl, SqL.of (s3 _ _ eD2), SqL.of ee, _, rfl, ?_⟩
            rw [em]
            refine ite2 (fun c => ?_) (fun c => ?_)
            · refine ⟨.ref ra, rfl, yes H3 _ s23 ?_⟩
              rw [take_filter er, if_pos c]
              exact (r.tps (Tps.same s23)).append (.cons (s23 _ _ hra) (dr.same s23) .nil)
            · refine no H3 s23 ?_
              rw [take_filter er, if_neg c, List.append_nil]
              exact r.tps (Tps.same s23)
        intro H8 fws s8 eF rF
        rw [lvs, List.take_length] at rF
        have eR8 := s8 _ _ eR
        have rws8 := rws.tps (Tps.same s8)
        have lF := rF.length
        have lF2 := List.length_filter_le (fun r => freeR r (p, lo, hi)) (rowsF (Dl.take j))
        have dv8 := dv.same s8
        refine ⟨.ref R, rfl, .ref F, rfl, F, rfl, ⟨_, SqL.of eF⟩, fun G nG => ?_⟩
        refine lcLB (K := K) (a := F) (xs := fws) (fun k H' ws => RwsD H' ws ((((rowsF (Dl.take j)).filter fun r => freeR r (p, lo, hi)).take k).map (· ++ [(p, lo, hi)]))) nG (fun H' s => SqL.of (s _ _ eF)) (by omega) (fun _ _ _ _ t r => r.tps t) (fun k H' ws r => by rw [r.length, List.length_map]; exact List.length_take_le _ _) (fun _ => .nil) ?_ ?_
        · rintro k u H' N acc hk sk eA sz' r no yes
          obtain ⟨ra, rus, row, rfl, er, hra, dr⟩ := (rF.tps (Tps.same sk)).get hk
          have lrow := dr.length
          have lrow7 : row.length ≤ 20 := by
            obtain ⟨h1, h2⟩ := rowsF_ok _ _ rfl row (List.mem_filter.mp (List.mem_of_getElem? er)).1
            have nd : row.Nodup := ind_nodup h2 fun d hd => (mem_open.mp (eDl ▸ List.mem_of_mem_take (h1 d hd))).2.1
            exact Nat.le_trans (nodup_le nd h1) (by rw [List.length_take]; omega)
          refine ⟨rfl, .ref ra, rfl, v, rfl, by show 1 ≤ sizeLine; decide, fun t nt => ?_⟩
          have s9 := same_new (o := .tup [v]) nt
          have et := upd_same (H := H') (a := t) (o := .tup [v])
          generalize upd H' t (.tup [v]) = H9 at *
          refine catA_any (s9 _ _ hra) et (by show _ + 1 ≤ _; omega) (fun Ha pp sa ep => ?_)
          have s9a := s9.trans sa
          refine yes Ha _ s9a ?_
          rw [List.take_add_one, er, List.map_append]
          exact (r.tps (Tps.same s9a)).append (.cons ep ((dr.same s9a).snoc ((dv8.same sk).same s9a)) .nil)
        · intro H9 gws s9 eG rG
          rw [lF, List.take_length] at rG
          have lG := rG.length
          rw [List.length_map] at lG
          have up : rowsF (Dl.take (j + 1)) = rowsF (Dl.take j) ++ ((rowsF (Dl.take j)).filter fun r => freeR r (p, lo, hi)).map (· ++ [(p, lo, hi)]) := by
            rw [List.take_add_one, ed]
            exact rowsF_snoc _ _
          have lup := congrArg List.length up
          rw [List.length_append, List.length_map] at lup
          refine ⟨R, G, vs, gws, rfl, rfl, s9 _ _ eR8, eG, by omega, fun R2 nR2 => ?_⟩
          have sa := same_new (o := .lst (vs ++ gws)) nR2
          have eR2 := upd_same (H := H9) (a := R2) (o := .lst (vs ++ gws))
          generalize upd H9 R2 (.lst (vs ++ gws)) = Ha at *
          refine ⟨s7.trans (s8.trans (s9.trans sa)), R2, _, eR2, ?_, _, _, rfl⟩
          rw [up]
          exact (rws8.tps (Tps.same (s9.trans sa))).append (rG.tps (Tps.same sa))
      · rintro σ H7 ⟨s7, R, vs, eR, rws, y9, y10, rfl⟩
        rw [ldw, List.take_length] at rws
        have big := rowsF_big lD Dl.length
        rw [List.take_length] at big
        have lvs := rws.length
        refine ⟨.ref R, rfl, R, rfl, ⟨_, SqL.of eR⟩, fun F nF => ?_⟩
        refine lcLB (K := K) (a := R) (xs := vs) (fun k H' ws => ws = (((rowsF Dl).take k).map fun r => (r.length : Int)).map V.int) nF (fun H' s => SqL.of (s _ _ eR)) (by omega) (fun _ _ _ _ _ r => r) (fun k H' ws r => by rw [r, List.length_map, List.length_map]; exact List.length_take_le _ _) (fun _ => rfl) ?_ ?_
        · rintro k u H' N acc hk sk eA sz' r no yes
          obtain ⟨ra, rus, row, rfl, er, hra, dr⟩ := (rws.tps (Tps.same sk)).get hk
          refine ⟨rfl, .ref ra, rfl, ra, rus, rfl, .inr (SqT.of hra), yes H' _ (Same.refl _) ?_⟩
          rw [r, List.take_add_one, er, List.map_append, List.map_append, dr.length]
          rfl
        · intro H8 lws s8 eF rF
          rw [lvs, List.take_length] at rF
          subst rF
          obtain ⟨W, hW, lW⟩ := most_ge g
          rw [← eDl] at hW
          refine ⟨F, _, rfl, SqL.of eF, ?_, fun m hm hmax => ?_⟩
          · rw [List.length_map]
            exact List.length_pos_of_mem hW
          · obtain ⟨r1, hr1, e1⟩ := List.mem_map.mp hm
            have u1 := most_le g (eDl ▸ hr1)
            have u2 := hmax _ (List.mem_map.mpr ⟨W, hW, rfl⟩)
            have em : m = ((needO ts ps : Nat) : Int) := by omega
            rw [em]
            exact q H8 (s1.trans (s16.trans (s7.trans s8)))

theorem noPart_of {σ : L2.St} {H : Hp} {Q : Option Int → Hp → Prop} (h : Q none H) : tNoPart σ H Q := h
def InW (w : Int) (ps : List (Int × Int)) : Prop := ∀ q ∈ ps, 0 ≤ q.1 ∧ q.1 ≤ q.2 ∧ q.2 < w
theorem InW.good {w : Int} {ts ps : List (Int × Int)} (h : InW w ts) (h2 : InW w ps) : Good (ts ++ ps) := fun q hq => by
  rcases List.mem_append.mp hq with z | z
  · exact ⟨(h q z).1, (h q z).2.1⟩
  · exact ⟨(h2 q z).1, (h2 q z).2.1⟩
theorem InW.both {w : Int} {ts ps : List (Int × Int)} (h : InW w ts) (h2 : InW w ps) : ∀ q ∈ ts ++ ps, 0 ≤ q.1 ∧ q.1 ≤ q.2 ∧ q.2 < w := fun q hq => (List.mem_append.mp hq).elim (h q) (h2 q)
def sp_law_right : Sp := fun vs H Q _ => ∃ (a b : Addr) (us wus : List V) (ts ps : List (Int × Int)) (wd : Int), vs = [.int wd, .ref a, .ref b] ∧ H a = some (.tup us) ∧ Ivs H us ts ∧ H b = some (.tup wus) ∧ Ivs H wus ps ∧ 1 ≤ wd ∧ wd ≤ 4 ∧ InW wd ts ∧ InW wd ps ∧ ts.Nodup ∧ ts.length ≤ 7 ∧ ps.length ≤ 1 ∧
  ∀ H', Same H H' → Q (.bl true) H'
theorem ok_law_right (T : Tx K mg f_depth_changes f_find_blocks f_has_position f_contains f_serves f_conflict f_demands_at_blocks f_is_open f_open_demands f_shadow_target f_require_few_blocks f_decisive_demands f_largest_independent f_count_needed f_law_draws f_law_next f_law_one f_law_spans f_law_covers f_law_every f_law_least f_law_served f_law_clash f_law_most f_law_right f_law d_depth_changes d_find_blocks d_has_position d_contains d_serves d_conflict d_demands_at_blocks d_is_open d_open_demands d_shadow_target d_require_few_blocks d_decisive_demands d_largest_independent d_count_needed d_law_draws d_law_next d_law_one d_law_spans d_law_covers d_law_every d_law_least d_law_served d_law_clash d_law_most d_law_right d_law t_MAX_BLOCKS) : FnG P w K mg base 70 f_law_right d_law_right ["_law_width", "_law_targets_here", "_law_pieces"] sp_law_right := by
  refine FnG.of T.F_law_right sc_law_right (fun {vs H Q} h => ?_) (fun cdv A outer s H vs Q hr hq h => ?_)
  · obtain ⟨a, b, us, wus, ts, ps, wd, rfl, _⟩ := h
    rfl
  · obtain ⟨a, b, us, wus, ts, ps, wd, rfl, ha, ivt, hb, ivp, w0, w1, trw, prw, nd, lt, lp, q⟩ := h
    refine ⟨_, (pss_cons (ps_set (i := 3) sc_law_right.nd rfl (Or.inl rfl) (pe_call (ok_law_least T) (hr.mono (by decide)) (by rfl) T.g_law_least T.F_law_least.kp T.b_law_least .nil pass0 (pa_cons (pv 0) (pa_cons (pv 1) (pa_cons (pv 2) pa_nil)))))
      (pss_one (ps_ret (pe_and (pe_cmpR op_eq (pv 3) (pe_call (ok_law_most T) (hr.mono (by decide)) (by rfl) T.g_law_most T.F_law_most.kp T.b_law_most .nil pass0 (pa_cons (pv 0) (pa_cons (pv 1) (pa_cons (pv 2) pa_nil)))) (nomark _)) (pe_one (pe_cmpR op_eq (pe_callB (call_reprD hq hr.units) (by rfl) T.z_repr (by decide +kernel) (pa_cons (pe_call (ok_count_needed T) (hr.mono (by decide)) (by rfl) T.g_count_needed T.F_count_needed.kp T.b_count_needed .nil pass0 (pa_cons (pv 1) (pa_cons (pv 2) pa_nil))) pa_nil)) (pe_callB (call_reprD hq hr.units) (by rfl) T.z_repr (by decide +kernel) (pa_cons (pv 3) pa_nil)) (nomark _))))))), ?_⟩
    have g := trw.good prw
    have bl := blocks_in (trw.both prw)
    have wn : wd.toNat ≤ 4 := by omega
    have tin4 : ∀ q ∈ ts, 0 ≤ q.1 ∧ q.1 ≤ q.2 ∧ q.2 < 4 := fun q hq => by
      have := trw q hq
      omega
    refine ⟨.int wd, rfl, .ref a, rfl, .ref b, rfl, a, b, us, wus, ts, ps, wd, rfl, ha, ivt, hb, ivp, w0, w1, trw, g, by omega, by omega, fun H1 s1 => ?_⟩
    refine ⟨_, rfl, .int wd, rfl, .ref a, rfl, .ref b, rfl, a, b, us, wus, ts, ps, wd, rfl, s1 _ _ ha, ivt.same s1, s1 _ _ hb, ivp.same s1, tin4, g, nd, lt, by omega, fun H2 s2 => ?_⟩
    have n7 : needO ts ps ≤ 7 := by
      obtain ⟨D, d1, d2, d3⟩ := (need_ok g).1
      have wd := weak_dual (S := ts) (ts := ts) (ps := ps) (fun t ht p h1 h2 => ⟨t, List.mem_append_right _ ht, Int.le_refl _, h1, h2, Int.le_refl _⟩) d1 d2
      omega
    have nb : ((needO ts ps : Nat) : Int).natAbs < 10 ^ 30 := by
      have : (10 : Nat) ^ 30 > 7 := by decide
      omega
    refine ⟨rfl, ?_⟩
    rw [decide_eq_true rfl]
    have s12 := s1.trans s2
    refine ⟨true, rfl, iteT ⟨.ref a, rfl, .ref b, rfl, a, b, us, wus, ts, ps, rfl, s12 _ _ ha, s12 _ _ hb, ivt.same s12, ivp.same s12, g, by omega, by omega, by show 8 * ts.length ≤ 64; omega, fun H3 s3 => ?_⟩⟩
    generalize ((needO ts ps : Nat) : Int) = nn at *
    refine ⟨_, .int nn, 100, 0, rfl, .int _, Sm.int nb, by decide, by decide, _, rfl, _, .int nn, 100, 0, rfl, .int _, Sm.int nb, by decide, by decide, rfl, ?_⟩
    rw [decide_eq_true rfl]
    exact q H3 (s12.trans s3)
theorem all3 {q : Int × Int} (h : 0 ≤ q.1 ∧ q.1 ≤ q.2 ∧ q.2 < 3) : q ∈ [((0 : Int), (0 : Int)), (0, 1), (0, 2), (1, 1), (1, 2), (2, 2)] := by
  obtain ⟨a, b⟩ := q
  have h : 0 ≤ a ∧ a ≤ b ∧ b < 3 := h
  have ha : a = 0 ∨ a = 1 ∨ a = 2 := by omega
  have hb : b = 0 ∨ b = 1 ∨ b = 2 := by omega
  rcases ha with rfl | rfl | rfl <;> rcases hb with rfl | rfl | rfl <;> first | (exfalso; omega) | simp
theorem few3 {ps : List (Int × Int)} (h : InW 3 ps) (nd : ps.Nodup) : ps.length ≤ 6 := nodup_le (m := [((0 : Int), (0 : Int)), (0, 1), (0, 2), (1, 1), (1, 2), (2, 2)]) nd fun x hx => all3 (h x hx)
/-- the rows of a family of which each is drawn from es -/
def RowOk (es r : List (Int × Int)) : Prop := r.Nodup ∧ ∀ x ∈ r, x ∈ es
theorem RowOk.more {es r : List (Int × Int)} {j : Nat} {e : Int × Int} (nd : es.Nodup) (h : RowOk (es.take j) r) (he : es[j]? = some e) : RowOk (es.take (j + 1)) (r ++ [e]) := by
  have up : es.take (j + 1) = es.take j ++ [e] := by
    rw [List.take_add_one, he]
    rfl
  have nd2 : (es.take (j + 1)).Nodup := nd.sublist (List.take_sublist _ _)
  rw [up] at nd2 ⊢
  have nd3 := List.nodup_append.mp nd2
  refine ⟨List.nodup_append.mpr ⟨h.1, List.pairwise_singleton _ _, fun x hx y hy z => ?_⟩, fun x hx => ?_⟩
  · rw [List.mem_singleton.mp hy] at z
    exact nd3.2.2 x (h.2 x hx) e (List.mem_singleton.mpr rfl) z
  · rcases List.mem_append.mp hx with hx | hx
    · exact List.mem_append_left _ (h.2 x hx)
    · exact List.mem_append_right _ hx
theorem RowOk.old {es r : List (Int × Int)} {j : Nat} (h : RowOk (es.take j) r) : RowOk (es.take (j + 1)) r := ⟨h.1, fun x hx => by
  rw [List.take_add_one]
  exact List.mem_append_left _ (h.2 x hx)⟩
def sp_law (K : PySem.W.Frag) : Sp := fun vs H Q _ => ∃ (a : Addr) (ns : List Int), vs = [.ref a] ∧ SqL K H a (ns.map V.int) ∧ ns.length ≤ 63 ∧ ∀ H', Q (.bl true) H'
theorem ok_law (T : Tx K mg f_depth_changes f_find_blocks f_has_position f_contains f_serves f_conflict f_demands_at_blocks f_is_open f_open_demands f_shadow_target f_require_few_blocks f_decisive_demands f_largest_independent f_count_needed f_law_draws f_law_next f_law_one f_law_spans f_law_covers f_law_every f_law_least f_law_served f_law_clash f_law_most f_law_right f_law d_depth_changes d_find_blocks d_has_position d_contains d_serves d_conflict d_demands_at_blocks d_is_open d_open_demands d_shadow_target d_require_few_blocks d_decisive_demands d_largest_independent d_count_needed d_law_draws d_law_next d_law_one d_law_spans d_law_covers d_law_every d_law_least d_law_served d_law_clash d_law_most d_law_right d_law t_MAX_BLOCKS) : FnG P w K mg base 72 f_law d_law ["_law_script"] (sp_law K) := by
  refine FnG.of T.F_law sc_law (fun {vs H Q} h => ?_) (fun cdv A outer s H vs Q hr hq h => ?_)
  · obtain ⟨a, ns, rfl, _⟩ := h
    rfl
  · obtain ⟨a, ns, rfl, hS, hlen, q⟩ := h
    refine ⟨_, (pss_cons (ps_set (i := 1) sc_law.nd rfl (Or.inr rfl) (pe_call (ok_law_draws T) (hr.mono (by decide)) (by rfl) T.g_law_draws T.F_law_draws.kp T.b_law_draws .nil pass0 (pa_cons (pv 0) pa_nil)))
      (pss_cons (ps_set (i := 2) sc_law.nd rfl (Or.inl rfl) (pe_lst (pa_cons (pe_tup pa_nil) pa_nil)))
      (pss_cons (ps_for PassesOwn.never rfl (pi_list (pe_call (ok_law_every T) (hr.mono (by decide)) (by rfl) T.g_law_every T.F_law_every.kp T.b_law_every .nil pass0 (pa_cons pe_int pa_nil))) (pg_name (i := 3) sc_law.nd rfl (Or.inr rfl))
      (pss_one (ps_set (i := 2) sc_law.nd rfl (Or.inl rfl) (pe_op op_cat (pv 2) (pe_lc (own := [("_law_row", 4)]) (g := (gName 4)) (tt := tYes) (by rfl) sc_law.nd (pi_list (pv 2)) (blkOk_by (own := [("_law_row", 4)]) (N := N_law) (sc := defScope s_law) (by decide +kernel)) (fun _ _ _ _ _ => (pg_name (i := 4) sc_law.nd rfl (Or.inl rfl))) (fun _ _ _ _ _ => pts_nil) (fun _ _ _ _ _ => (pe_op (show OpR _ (binaryOp .Add) (rCatA K) from op_catA) (pv 4) (pe_tup (pa_cons (pv 3) pa_nil)))))))))
      (pss_cons (ps_set (i := 5) sc_law.nd rfl (Or.inr rfl) (pe_tup (pa_cons (pe_call (ok_law_one T) (hr.mono (by decide)) (by rfl) T.g_law_one T.F_law_one.kp T.b_law_one .nil pass0 (pa_cons (pv 1) (pa_cons (pe_call (ok_law_every T) (hr.mono (by decide)) (by rfl) T.g_law_every T.F_law_every.kp T.b_law_every .nil pass0 (pa_cons pe_int pa_nil)) pa_nil))) pa_nil)))
      (pss_cons (ps_if (pt_cmpR (op_neL hr.units0) (pe_lc (own := [("_law_row", 4)]) (g := (gName 4)) (by rfl) sc_law.nd (pi_list (pv 2)) (blkOk_by (own := [("_law_row", 4)]) (N := N_law) (sc := defScope s_law) (by decide +kernel)) (fun _ _ _ _ _ => (pg_name (i := 4) sc_law.nd rfl (Or.inl rfl))) (fun _ _ _ _ _ => pts_one (PW.pt (pw_or (pt_not (pt_val (pe_callG (ok_law_right T) (hr.mono (by decide)) hq (by rfl) T.g_law_right T.F_law_right.kp T.b_law_right (pa_cons pe_int (pa_cons (pv 4) (pa_cons (pe_tup pa_nil) pa_nil)))))) (pw_or1 (pt_not (pt_val (pe_callG (ok_law_right T) (hr.mono (by decide)) hq (by rfl) T.g_law_right T.F_law_right.kp T.b_law_right (pa_cons pe_int (pa_cons (pv 4) (pa_cons (pv 5) pa_nil)))))))))) (fun _ _ _ _ _ => (pv 4))) (pe_lst pa_nil) (nomark _))
      (pss_one (ps_ret pe_bl))
      pss_nil)
      (pss_cons (ps_for PassesOwn.never rfl (pi_range1 (by rfl) T.z_range (pa_cons pe_int pa_nil)) (pg_name (i := 6) sc_law.nd rfl (Or.inl rfl))
      (pss_cons (ps_set (i := 7) sc_law.nd rfl (Or.inl rfl) (pe_slice sl_tupA (pe_callTy call_tuple_of (by rfl) T.z_tuple (by decide +kernel) (pa_cons (pe_lc (own := [("_law_one_here", 3)]) (g := (gName 3)) (by rfl) sc_law.nd (pi_list (pe_call (ok_law_every T) (hr.mono (by decide)) (by rfl) T.g_law_every T.F_law_every.kp T.b_law_every .nil pass0 (pa_cons pe_int pa_nil))) (blkOk_by (own := [("_law_one_here", 3)]) (N := N_law) (sc := defScope s_law) (by decide +kernel)) (fun _ _ _ _ _ => (pg_name (i := 3) sc_law.nd rfl (Or.inl rfl))) (fun _ _ _ _ _ => pts_one (pt_cmpR op_eq (pe_call (ok_law_next T) (hr.mono (by decide)) (by rfl) T.g_law_next T.F_law_next.kp T.b_law_next .nil pass0 (pa_cons (pv 1) (pa_cons pe_int pa_nil))) pe_int (nomark _))) (fun _ _ _ _ _ => (pv 3))) pa_nil)) po_none (po_some pe_int)))
      (pss_one (ps_if (pt_not (pt_val (pe_callG (ok_law_right T) (hr.mono (by decide)) hq (by rfl) T.g_law_right T.F_law_right.kp T.b_law_right (pa_cons pe_int (pa_cons (pv 7) (pa_cons (pe_call (ok_law_spans T) (hr.mono (by decide)) (by rfl) T.g_law_spans T.F_law_spans.kp T.b_law_spans .nil pass0 (pa_cons (pv 1) (pa_cons pe_int (pa_cons (pe_call (ok_law_next T) (hr.mono (by decide)) (by rfl) T.g_law_next T.F_law_next.kp T.b_law_next .nil pass0 (pa_cons (pv 1) (pa_cons pe_int pa_nil))) pa_nil)))) pa_nil))))))
      (pss_one (ps_ret pe_bl))
      pss_nil))))
      (pss_one (ps_ret pe_bl)))))))), ?_⟩
    refine ⟨.ref a, rfl, a, ns, rfl, hS, hlen, fun H1 d c s1 nd dk1 => ?_⟩
    refine ⟨by show 0 ≤ sizeLine; decide, fun e0 ne0 => ?_⟩
    have s2 := same_new (o := .tup []) ne0
    have ee0 := upd_same (H := H1) (a := e0) (o := .tup [])
    generalize upd H1 e0 (.tup []) = H2 at *
    refine ⟨by show 1 ≤ sizeLine; decide, fun R0 nR0 => ?_⟩
    have dk2 := dk1.kept s2
    have offR0 := dk2.off nR0
    have s3 := same_new (o := .lst [.ref e0]) nR0
    have eR0 := upd_same (H := H2) (a := R0) (o := .lst [.ref e0])
    generalize upd H2 R0 (.lst [.ref e0]) = H3 at *
    have dk3 := dk2.kept s3
    refine ⟨3, rfl, by decide, by decide, fun H4 ev zs es s4 eev ive mem _ le16 ndE _ => ?_⟩
    have esIn : InW 3 es := fun q hq => (mem q).mp hq
    have le6 := few3 esIn ndE
    have lz := ive.length
    have dk4 := dk3.kept s4
    refine ⟨ev, rfl, ⟨_, SqL.of eev⟩, ?_⟩
    refine for_list (K := K) (a := ev) (xs := zs) (D := ⟨_, _, fun _ _ => True, fun _ _ => True⟩) (fun j σ H' => Same H4 H' ∧ ∃ R vs rows y3, Off d c R ∧ H' R = some (.lst vs) ∧ Rws H' vs rows ∧ rows.length ≤ 2 ^ j ∧ (∀ r ∈ rows, RowOk (es.take j) r) ∧ σ = [some (.ref a), some (.ref d), some (.ref R), y3, none, none, none, none])
      ⟨Same.refl _, R0, _, [[]], _, offR0, s4 _ _ eR0, .cons ((s3.trans s4) _ _ ee0) .nil .nil, Nat.le_refl _, (fun r hr => by rw [List.mem_singleton.mp hr]; exact ⟨List.Pairwise.nil, fun x hx => (nomatch hx)⟩), rfl⟩ (fun j σ H' _ h => SqL.of (h.1 _ _ eev)) ?_ ?_
    · rintro j v σ H5 hj ⟨s5, R, vs, rows, y3, offR, eR, rws, bd, ok, rfl⟩
      obtain ⟨ob, x, y, rfl, eo, hob⟩ := ive.get hj
      have hob5 := s5 _ _ hob
      have lvs := rws.length
      have jl := (List.getElem?_eq_some_iff.mp eo).1
      have b64 : rows.length ≤ 64 := Nat.le_trans bd (Nat.le_trans (Nat.pow_le_pow_right (by decide) (show j ≤ 6 by omega)) (by decide))
      refine ⟨.ref R, rfl, .ref R, rfl, R, rfl, ⟨_, SqL.of eR⟩, fun D nD => ?_⟩
      refine lcL (K := K) (a := R) (xs := vs) (fun j H' ws => Rws H' ws ((rows.take j).map (· ++ [(x, y)]))) nD (fun H' s => SqL.of (s _ _ (eR))) (by omega) (fun _ _ _ _ t r => r.tps t) (fun j H' ws r => (by rw [r.length, List.length_map]; exact List.length_take_le _ _)) (fun _ => .nil) ?_ ?_
      · rintro k u H' N acc hk sk eA sz r no yes
        obtain ⟨ra, ru, row, rfl, er, hra, ivr⟩ := (rws.tps (Tps.same sk)).get hk
        have lrow := ivr.length
        have row6 : row.length ≤ 6 := few3 (fun q hq => esIn q (List.mem_of_mem_take ((ok row (List.mem_of_getElem? er)).2 q hq))) (ok row (List.mem_of_getElem? er)).1
        refine ⟨rfl, .ref ra, rfl, .ref ob, rfl, by show 1 ≤ sizeLine; decide, fun t nt => ?_⟩
        have s9 := same_new (o := .tup [.ref ob]) nt
        have et := upd_same (H := H') (a := t) (o := .tup [.ref ob])
        generalize upd H' t (.tup [.ref ob]) = H9 at *
        refine catA_any (s9 _ _ hra) et (by rw [show sizeLine = 16777216 by decide]; show _ + 1 ≤ _; omega) (fun Ha pp sa ep => ?_)
        have s9a := s9.trans sa
        refine yes Ha _ s9a ?_
        rw [List.take_add_one, er, List.map_append]
        exact (r.tps (Tps.same s9a)).append (.cons ep ((ivr.same s9a).snoc (s9a _ _ (sk _ _ hob5))) .nil)
      · intro H6 gws s6 eG rG
        rw [lvs, List.take_length] at rG
        have lG := rG.length
        rw [List.length_map] at lG
        refine ⟨R, D, vs, gws, rfl, rfl, s6 _ _ eR, eG, by rw [show sizeLine = 16777216 by decide]; omega, fun R2 nR2 => ?_⟩
        have offR2 := ((dk4.kept s5).kept s6).off nR2
        have s7 := same_new (o := .lst (vs ++ gws)) nR2
        have eR2 := upd_same (H := H6) (a := R2) (o := .lst (vs ++ gws))
        generalize upd H6 R2 (.lst (vs ++ gws)) = H7 at *
        have s67 := s6.trans s7
        refine ⟨s5.trans s67, R2, _, _, _, offR2, eR2, (rws.tps (Tps.same s67)).append (rG.tps (Tps.same s7)), ?_, fun r hr => ?_, rfl⟩
        · rw [List.length_append, List.length_map, Nat.pow_succ]
          omega
        · rcases List.mem_append.mp hr with hr | hr
          · exact (ok r hr).old
          · obtain ⟨r', hr', rfl⟩ := List.mem_map.mp hr
            exact (ok r' hr').more ndE eo
    · rintro σ H5 ⟨s5, R, vs, rows, y3, offR, eR, rws, bd, ok, rfl⟩
      rw [lz] at bd ok
      rw [List.take_length] at ok
      have lvs := rws.length
      have b64 : rows.length ≤ 64 := Nat.le_trans bd (Nat.le_trans (Nat.pow_le_pow_right (by decide) le6) (by decide))
      have dk5 := dk4.kept s5
      refine ⟨.ref d, rfl, 3, rfl, by decide, by decide, fun H6 ev2 zs2 es2 s6 eev2 ive2 mem2 _ le2 nd2 nev2 => ?_⟩
      have dk6 := dk5.kept s6
      have off2 := dk5.off nev2
      have lz2 := ive2.length
      have es2In : InW 3 es2 := fun q hq => (mem2 q).mp hq
      have le62 := few3 es2In nd2
      have pos : 0 < es2.length := List.length_pos_of_mem ((mem2 (0, 0)).mpr ⟨by decide, by decide, by decide⟩)
      refine ⟨d, c, 0, ev2, zs2, rfl, dk6, by decide, by decide, off2, eev2, by omega, by omega, fun H7 k v kp7 dk7 hv => ?_⟩
      obtain ⟨ob, x, y, rfl, eo, hob⟩ := ive2.get hv
      have hob7 := kp7.tup dk6 hob
      refine ⟨by show 1 ≤ sizeLine; decide, fun pt npt => ?_⟩
      have s8 := same_new (o := .tup [.ref ob]) npt
      have ept := upd_same (H := H7) (a := pt) (o := .tup [.ref ob])
      generalize upd H7 pt (.tup [.ref ob]) = H8 at *
      have dk8 := dk7.kept s8
      have eR8 := s8 _ _ (kp7.keep offR (s6 _ _ eR))
      have rws8 : Rws H8 vs rows := ((rws.tps (Tps.same s6)).tps (kp7.tps dk6)).tps (Tps.same s8)
      have ivP : Ivs H8 [.ref ob] [(x, y)] := Ivs.nil.snoc (s8 _ _ hob7)
      have pIn : InW 3 [(x, y)] := fun q hq => by
        rw [List.mem_singleton.mp hq]
        exact es2In _ (List.mem_of_getElem? eo)
      refine ⟨.ref R, rfl, R, rfl, ⟨_, SqL.of eR8⟩, fun D nD => ?_⟩
      refine lcL (K := K) (a := R) (xs := vs) (fun j H' ws => ws = []) nD (fun H' s => SqL.of (s _ _ (eR8))) (by omega) (fun _ _ _ _ t r => r) (fun j H' ws r => (by rw [r]; exact Nat.zero_le _)) (fun _ => rfl) ?_ ?_
      · rintro k u H' N acc hk sk eA sz r no yes
        obtain ⟨ra, ru, row, rfl, er, hra, ivr⟩ := (rws8.tps (Tps.same sk)).get hk
        have rk := ok row (List.mem_of_getElem? er)
        have rIn : InW 3 row := fun q hq => esIn q (rk.2 q hq)
        have row6 := few3 rIn rk.1
        refine ⟨rfl, .ref ra, rfl, by show 0 ≤ sizeLine; decide, fun et net => ?_⟩
        have s9 := same_new (o := .tup []) net
        have eet := upd_same (H := H') (a := et) (o := .tup [])
        generalize upd H' et (.tup []) = H9 at *
        refine ⟨ra, et, ru, [], row, [], 3, rfl, s9 _ _ hra, ivr.same s9, eet, .nil, by decide, by decide, rIn, (fun q hq => nomatch hq), rk.1, by omega, by decide, fun Ha sa => ⟨true, rfl, iteF ?_⟩⟩
        have s9a := s9.trans sa
        refine ⟨.ref ra, rfl, .ref pt, rfl, ra, pt, ru, [.ref ob], row, [(x, y)], 3, rfl, s9a _ _ hra, ivr.same s9a, s9a _ _ (sk _ _ ept), (ivP.same sk).same s9a, by decide, by decide, rIn, pIn, rk.1, by omega, Nat.le_refl 1, fun Hb sb => ⟨true, rfl, ?_⟩⟩
        exact no Hb (s9a.trans sb) r
      rintro H9 wz s9 eD rfl
      refine ⟨by show 0 ≤ sizeLine; decide, fun ee nee => ?_⟩
      have sa := same_new (o := .lst []) nee
      have eee := upd_same (H := H9) (a := ee) (o := .lst [])
      generalize upd H9 ee (.lst []) = Ha at *
      refine ⟨D, ee, [], rfl, rfl, SqL.of (sa _ _ eD), SqL.of eee, _, rfl, iteF ?_⟩
      have dka := (dk8.kept s9).kept sa
      clear rws8 eR8 ept ivP hob7 dk8 dk7 dk6 ive2 eev2 rws eR dk5 dk4 dk3 dk2
      refine ⟨40, rfl, by decide, by decide, for_range (D := ⟨_, _, fun _ _ => True, fun _ _ => True⟩) (n := 40) (fun i σ H' => (∃ n : Int, Dk H' d c n ∧ 0 ≤ n ∧ n ≤ 10 + 100 * i) ∧ ∃ y6 y7, σ = [some (.ref a), some (.ref d), some (.ref R), y3, none, some (.ref pt), y6, y7])
        ⟨⟨_, dka, by decide, by decide⟩, _, _, rfl⟩ ?_ (fun σ H' _ => q H')⟩
      rintro i σ Hb hi ⟨⟨n, dkb, n0, n1⟩, y6, y7, rfl⟩
      refine ⟨4, rfl, by decide, by decide, fun Hc ev4 zs4 es4 sc eev4 ive4 mem4 _ le4 nd4 nev4 => ?_⟩
      have dkc := dkb.kept sc
      have off4 := dkb.off nev4
      have lz4 := ive4.length
      have l16 := le4 (by decide)
      have es4In : InW 4 es4 := fun q hq => (mem4 q).mp hq
      refine ⟨ev4, rfl, ⟨_, SqL.of eev4⟩, fun D4 nD4 => ?_⟩
      refine lcKL (K := K) (a := ev4) (xs := zs4) (per := 1) (n0 := n) (fun k H' ws => ∃ rs, Ivs H' ws rs ∧ rs.Sublist (es4.take k)) nD4 dkc (fun H' k => SqL.of (k.keep off4 eev4)) (by omega) (fun _ _ _ _ t ⟨rs, h1, h2⟩ => ⟨rs, h1.tps t, h2⟩) (fun k H' ws ⟨rs, h1, h2⟩ => by rw [h1.length]; exact Nat.le_trans h2.length_le (List.length_take_le _ _)) (fun _ => ⟨[], .nil, List.nil_sublist _⟩) ?_ ?_
      · rintro k u H' N acc hk kp dk' eA ⟨rs, h1, h2⟩ no yes
        obtain ⟨ob4, x4, y4, rfl, eo4, hob4⟩ := (ive4.tps (kp.tps dkc)).get hk
        have kl := (List.getElem?_eq_some_iff.mp hk).1
        refine ⟨rfl, .ref d, rfl, d, c, _, 2, rfl, dk', by omega, by omega, by decide, by decide, fun H'' r kp2 dk2 r0 r1 => ⟨rfl, _, rfl, ite2 (fun _ => ?_) (fun _ => ?_)⟩⟩
        · refine ⟨.ref ob4, rfl, yes H'' _ kp2 (dk2.eq (by omega)) ⟨rs ++ [(x4, y4)], (h1.tps (kp2.tps dk')).snoc (kp2.tup dk' hob4), ?_⟩⟩
          rw [List.take_add_one, eo4]
          exact h2.append (List.Sublist.refl _)
        · refine no H'' kp2 (dk2.eq (by omega)) ⟨rs, h1.tps (kp2.tps dk'), ?_⟩
          rw [List.take_add_one]
          exact h2.trans (List.sublist_append_left _ _)
      · rintro Hd tws kpd dkd eD4 ⟨ts, ivt, sub⟩
        rw [lz4, List.take_length] at sub
        refine ⟨D4, tws, rfl, .inl ⟨SqL.of eD4, fun t nt => ?_⟩⟩
        have se := same_new (o := .tup tws) nt
        have et := upd_same (H := Hd) (a := t) (o := .tup tws)
        generalize upd Hd t (.tup tws) = He at *
        have dke := dkd.kept se
        refine noPart_of ?_
        refine ⟨7, rfl, slA_any et (fun Hf t7 sf et7 => ?_)⟩
        rw [show cutV tws none (some 7) = tws.take 7 from cutTo _ 7] at et7
        have iv7 := ((ivt.same se).same sf).take 7
        have sub7 : (ts.take 7).Sublist es4 := (List.take_sublist _ _).trans sub
        have in7 : InW 4 (ts.take 7) := fun q hq => es4In q (sub7.subset hq)
        have nd7 : (ts.take 7).Nodup := nd4.sublist sub7
        have l7 : (ts.take 7).length ≤ 7 := by
          rw [List.length_take]
          omega
        have dkf := dke.kept sf
        refine ⟨.ref t7, rfl, .ref d, rfl, .ref d, rfl, d, c, _, 2, rfl, dkf, by omega, by omega, by decide, by decide, fun Hg r kpg dkg r0 r1 => ?_⟩
        refine ⟨d, c, _, 4, r, rfl, dkg, by omega, by omega, by decide, by decide, r0, by omega, fun Hh pp pus ps m kph dkh m0 m1 epp ivp rwp lpp => ?_⟩
        have kfh := kpg.trans kph
        refine ⟨t7, pp, tws.take 7, pus, ts.take 7, ps, 4, rfl, kfh.tup dkf et7, iv7.tps (kfh.tps dkf), epp, ivp, by decide, by decide, in7, rwp.ok, nd7, l7, by omega, fun Hi si => ⟨true, rfl, iteF ?_⟩⟩
        exact ⟨⟨_, dkh.kept si, by omega, by omega⟩, _, _, rfl⟩

end
theorem all_mk {l : PySem.W.OpenLaw} {w : World} {K : PySem.W.Frag} {h : Heap} {mg : Str → Option Value} {fa f1 f2 f3 f4 f5 f6 f7 f8 f9 f10 f11 f12 f13 f14 f15 f16 f17 f18 f19 f20 f21 f22 f23 f24 f25 f26 : Addr} (X : K.In h) (G : h.Ns mainGlobals mg) (hfa : mg "law" = some (.ref fa))
    {od1 an1 od2 an2 od3 an3 od4 an4 od5 an5 od6 an6 od7 an7 od8 an8 od9 an9 od10 an10 od11 an11 od12 an12 od13 an13 od14 an14 od15 an15 od16 an16 od17 an17 od18 an18 od19 an19 od20 an20 od21 an21 od22 an22 od23 an23 od24 an24 od25 an25 od26 an26 : Option Addr} {sl1 sl2 sl3 sl4 sl5 sl6 sl7 sl8 sl9 sl10 sl11 sl12 sl13 sl14 sl15 sl16 sl17 sl18 sl19 sl20 sl21 sl22 sl23 sl24 sl25 sl26 : Array (Option Value)} {oc1 kV1 dc1 pm1 cd1 ct1 oc2 kV2 dc2 pm2 cd2 ct2 oc3 kV3 dc3 pm3 cd3 ct3 oc4 kV4 dc4 pm4 cd4 ct4 oc5 kV5 dc5 pm5 cd5 ct5 oc6 kV6 dc6 pm6 cd6 ct6 oc7 kV7 dc7 pm7 cd7 ct7 oc8 kV8 dc8 pm8 cd8 ct8 oc9 kV9 dc9 pm9 cd9 ct9 oc10 kV10 dc10 pm10 cd10 ct10 oc11 kV11 dc11 pm11 cd11 ct11 oc12 kV12 dc12 pm12 cd12 ct12 oc13 kV13 dc13 pm13 cd13 ct13 oc14 kV14 dc14 pm14 cd14 ct14 oc15 kV15 dc15 pm15 cd15 ct15 oc16 kV16 dc16 pm16 cd16 ct16 oc17 kV17 dc17 pm17 cd17 ct17 oc18 kV18 dc18 pm18 cd18 ct18 oc19 kV19 dc19 pm19 cd19 ct19 oc20 kV20 dc20 pm20 cd20 ct20 oc21 kV21 dc21 pm21 cd21 ct21 oc22 kV22 dc22 pm22 cd22 ct22 oc23 kV23 dc23 pm23 cd23 ct23 oc24 kV24 dc24 pm24 cd24 ct24 oc25 kV25 dc25 pm25 cd25 ct25 oc26 kV26 dc26 pm26 cd26 ct26 : Value} {tk0 : Tok}
    (a1 : PySem.W.nsIn K mainGlobals "depth_changes" = some (some (.ref f1))) (l1 : K.lookup f1 = some ⟨oc1, od1, .func (PySem.W.fnOf "depth_changes" "depth_changes" (defArgs s_depth_changes) (defBody s_depth_changes) (defScope s_depth_changes) .none kV1 dc1 pm1 an1 cd1 ct1), sl1⟩) (c1 : PySem.W.codeIn K cd1 "depth_changes" = true) (k1 : PySem.W.keepIn K (.ref f1) = true)
    (a2 : PySem.W.nsIn K mainGlobals "find_blocks" = some (some (.ref f2))) (l2 : K.lookup f2 = some ⟨oc2, od2, .func (PySem.W.fnOf "find_blocks" "find_blocks" (defArgs s_find_blocks) (defBody s_find_blocks) (defScope s_find_blocks) .none kV2 dc2 pm2 an2 cd2 ct2), sl2⟩) (c2 : PySem.W.codeIn K cd2 "find_blocks" = true) (k2 : PySem.W.keepIn K (.ref f2) = true)
    (a3 : PySem.W.nsIn K mainGlobals "has_position" = some (some (.ref f3))) (l3 : K.lookup f3 = some ⟨oc3, od3, .func (PySem.W.fnOf "has_position" "has_position" (defArgs s_has_position) (defBody s_has_position) (defScope s_has_position) .none kV3 dc3 pm3 an3 cd3 ct3), sl3⟩) (c3 : PySem.W.codeIn K cd3 "has_position" = true) (k3 : PySem.W.keepIn K (.ref f3) = true)
    (a4 : PySem.W.nsIn K mainGlobals "contains" = some (some (.ref f4))) (l4 : K.lookup f4 = some ⟨oc4, od4, .func (PySem.W.fnOf "contains" "contains" (defArgs s_contains) (defBody s_contains) (defScope s_contains) .none kV4 dc4 pm4 an4 cd4 ct4), sl4⟩) (c4 : PySem.W.codeIn K cd4 "contains" = true) (k4 : PySem.W.keepIn K (.ref f4) = true)
    (a5 : PySem.W.nsIn K mainGlobals "serves" = some (some (.ref f5))) (l5 : K.lookup f5 = some ⟨oc5, od5, .func (PySem.W.fnOf "serves" "serves" (defArgs s_serves) (defBody s_serves) (defScope s_serves) .none kV5 dc5 pm5 an5 cd5 ct5), sl5⟩) (c5 : PySem.W.codeIn K cd5 "serves" = true) (k5 : PySem.W.keepIn K (.ref f5) = true)
    (a6 : PySem.W.nsIn K mainGlobals "conflict" = some (some (.ref f6))) (l6 : K.lookup f6 = some ⟨oc6, od6, .func (PySem.W.fnOf "conflict" "conflict" (defArgs s_conflict) (defBody s_conflict) (defScope s_conflict) .none kV6 dc6 pm6 an6 cd6 ct6), sl6⟩) (c6 : PySem.W.codeIn K cd6 "conflict" = true) (k6 : PySem.W.keepIn K (.ref f6) = true)
    (a7 : PySem.W.nsIn K mainGlobals "demands_at_blocks" = some (some (.ref f7))) (l7 : K.lookup f7 = some ⟨oc7, od7, .func (PySem.W.fnOf "demands_at_blocks" "demands_at_blocks" (defArgs s_demands_at_blocks) (defBody s_demands_at_blocks) (defScope s_demands_at_blocks) .none kV7 dc7 pm7 an7 cd7 ct7), sl7⟩) (c7 : PySem.W.codeIn K cd7 "demands_at_blocks" = true) (k7 : PySem.W.keepIn K (.ref f7) = true)
    (a8 : PySem.W.nsIn K mainGlobals "is_open" = some (some (.ref f8))) (l8 : K.lookup f8 = some ⟨oc8, od8, .func (PySem.W.fnOf "is_open" "is_open" (defArgs s_is_open) (defBody s_is_open) (defScope s_is_open) .none kV8 dc8 pm8 an8 cd8 ct8), sl8⟩) (c8 : PySem.W.codeIn K cd8 "is_open" = true) (k8 : PySem.W.keepIn K (.ref f8) = true)
    (a9 : PySem.W.nsIn K mainGlobals "open_demands" = some (some (.ref f9))) (l9 : K.lookup f9 = some ⟨oc9, od9, .func (PySem.W.fnOf "open_demands" "open_demands" (defArgs s_open_demands) (defBody s_open_demands) (defScope s_open_demands) .none kV9 dc9 pm9 an9 cd9 ct9), sl9⟩) (c9 : PySem.W.codeIn K cd9 "open_demands" = true) (k9 : PySem.W.keepIn K (.ref f9) = true)
    (a10 : PySem.W.nsIn K mainGlobals "shadow_target" = some (some (.ref f10))) (l10 : K.lookup f10 = some ⟨oc10, od10, .func (PySem.W.fnOf "shadow_target" "shadow_target" (defArgs s_shadow_target) (defBody s_shadow_target) (defScope s_shadow_target) .none kV10 dc10 pm10 an10 cd10 ct10), sl10⟩) (c10 : PySem.W.codeIn K cd10 "shadow_target" = true) (k10 : PySem.W.keepIn K (.ref f10) = true)
    (a11 : PySem.W.nsIn K mainGlobals "require_few_blocks" = some (some (.ref f11))) (l11 : K.lookup f11 = some ⟨oc11, od11, .func (PySem.W.fnOf "require_few_blocks" "require_few_blocks" (defArgs s_require_few_blocks) (defBody s_require_few_blocks) (defScope s_require_few_blocks) .none kV11 dc11 pm11 an11 cd11 ct11), sl11⟩) (c11 : PySem.W.codeIn K cd11 "require_few_blocks" = true) (k11 : PySem.W.keepIn K (.ref f11) = true)
    (a12 : PySem.W.nsIn K mainGlobals "decisive_demands" = some (some (.ref f12))) (l12 : K.lookup f12 = some ⟨oc12, od12, .func (PySem.W.fnOf "decisive_demands" "decisive_demands" (defArgs s_decisive_demands) (defBody s_decisive_demands) (defScope s_decisive_demands) .none kV12 dc12 pm12 an12 cd12 ct12), sl12⟩) (c12 : PySem.W.codeIn K cd12 "decisive_demands" = true) (k12 : PySem.W.keepIn K (.ref f12) = true)
    (a13 : PySem.W.nsIn K mainGlobals "largest_independent" = some (some (.ref f13))) (l13 : K.lookup f13 = some ⟨oc13, od13, .func (PySem.W.fnOf "largest_independent" "largest_independent" (defArgs s_largest_independent) (defBody s_largest_independent) (defScope s_largest_independent) .none kV13 dc13 pm13 an13 cd13 ct13), sl13⟩) (c13 : PySem.W.codeIn K cd13 "largest_independent" = true) (k13 : PySem.W.keepIn K (.ref f13) = true)
    (a14 : PySem.W.nsIn K mainGlobals "count_needed" = some (some (.ref f14))) (l14 : K.lookup f14 = some ⟨oc14, od14, .func (PySem.W.fnOf "count_needed" "count_needed" (defArgs s_count_needed) (defBody s_count_needed) (defScope s_count_needed) .none kV14 dc14 pm14 an14 cd14 ct14), sl14⟩) (c14 : PySem.W.codeIn K cd14 "count_needed" = true) (k14 : PySem.W.keepIn K (.ref f14) = true)
    (a15 : PySem.W.nsIn K mainGlobals "_law_draws" = some (some (.ref f15))) (l15 : K.lookup f15 = some ⟨oc15, od15, .func (PySem.W.fnOf "_law_draws" "_law_draws" (defArgs s_law_draws) (defBody s_law_draws) (defScope s_law_draws) .none kV15 dc15 pm15 an15 cd15 ct15), sl15⟩) (c15 : PySem.W.codeIn K cd15 "_law_draws" = true) (k15 : PySem.W.keepIn K (.ref f15) = true)
    (a16 : PySem.W.nsIn K mainGlobals "_law_next" = some (some (.ref f16))) (l16 : K.lookup f16 = some ⟨oc16, od16, .func (PySem.W.fnOf "_law_next" "_law_next" (defArgs s_law_next) (defBody s_law_next) (defScope s_law_next) .none kV16 dc16 pm16 an16 cd16 ct16), sl16⟩) (c16 : PySem.W.codeIn K cd16 "_law_next" = true) (k16 : PySem.W.keepIn K (.ref f16) = true)
    (a17 : PySem.W.nsIn K mainGlobals "_law_one" = some (some (.ref f17))) (l17 : K.lookup f17 = some ⟨oc17, od17, .func (PySem.W.fnOf "_law_one" "_law_one" (defArgs s_law_one) (defBody s_law_one) (defScope s_law_one) .none kV17 dc17 pm17 an17 cd17 ct17), sl17⟩) (c17 : PySem.W.codeIn K cd17 "_law_one" = true) (k17 : PySem.W.keepIn K (.ref f17) = true)
    (a18 : PySem.W.nsIn K mainGlobals "_law_spans" = some (some (.ref f18))) (l18 : K.lookup f18 = some ⟨oc18, od18, .func (PySem.W.fnOf "_law_spans" "_law_spans" (defArgs s_law_spans) (defBody s_law_spans) (defScope s_law_spans) .none kV18 dc18 pm18 an18 cd18 ct18), sl18⟩) (c18 : PySem.W.codeIn K cd18 "_law_spans" = true) (k18 : PySem.W.keepIn K (.ref f18) = true)
    (a19 : PySem.W.nsIn K mainGlobals "_law_covers" = some (some (.ref f19))) (l19 : K.lookup f19 = some ⟨oc19, od19, .func (PySem.W.fnOf "_law_covers" "_law_covers" (defArgs s_law_covers) (defBody s_law_covers) (defScope s_law_covers) .none kV19 dc19 pm19 an19 cd19 ct19), sl19⟩) (c19 : PySem.W.codeIn K cd19 "_law_covers" = true) (k19 : PySem.W.keepIn K (.ref f19) = true)
    (a20 : PySem.W.nsIn K mainGlobals "_law_every" = some (some (.ref f20))) (l20 : K.lookup f20 = some ⟨oc20, od20, .func (PySem.W.fnOf "_law_every" "_law_every" (defArgs s_law_every) (defBody s_law_every) (defScope s_law_every) .none kV20 dc20 pm20 an20 cd20 ct20), sl20⟩) (c20 : PySem.W.codeIn K cd20 "_law_every" = true) (k20 : PySem.W.keepIn K (.ref f20) = true)
    (a21 : PySem.W.nsIn K mainGlobals "_law_least" = some (some (.ref f21))) (l21 : K.lookup f21 = some ⟨oc21, od21, .func (PySem.W.fnOf "_law_least" "_law_least" (defArgs s_law_least) (defBody s_law_least) (defScope s_law_least) .none kV21 dc21 pm21 an21 cd21 ct21), sl21⟩) (c21 : PySem.W.codeIn K cd21 "_law_least" = true) (k21 : PySem.W.keepIn K (.ref f21) = true)
    (a22 : PySem.W.nsIn K mainGlobals "_law_served" = some (some (.ref f22))) (l22 : K.lookup f22 = some ⟨oc22, od22, .func (PySem.W.fnOf "_law_served" "_law_served" (defArgs s_law_served) (defBody s_law_served) (defScope s_law_served) .none kV22 dc22 pm22 an22 cd22 ct22), sl22⟩) (c22 : PySem.W.codeIn K cd22 "_law_served" = true) (k22 : PySem.W.keepIn K (.ref f22) = true)
    (a23 : PySem.W.nsIn K mainGlobals "_law_clash" = some (some (.ref f23))) (l23 : K.lookup f23 = some ⟨oc23, od23, .func (PySem.W.fnOf "_law_clash" "_law_clash" (defArgs s_law_clash) (defBody s_law_clash) (defScope s_law_clash) .none kV23 dc23 pm23 an23 cd23 ct23), sl23⟩) (c23 : PySem.W.codeIn K cd23 "_law_clash" = true) (k23 : PySem.W.keepIn K (.ref f23) = true)
    (a24 : PySem.W.nsIn K mainGlobals "_law_most" = some (some (.ref f24))) (l24 : K.lookup f24 = some ⟨oc24, od24, .func (PySem.W.fnOf "_law_most" "_law_most" (defArgs s_law_most) (defBody s_law_most) (defScope s_law_most) .none kV24 dc24 pm24 an24 cd24 ct24), sl24⟩) (c24 : PySem.W.codeIn K cd24 "_law_most" = true) (k24 : PySem.W.keepIn K (.ref f24) = true)
    (a25 : PySem.W.nsIn K mainGlobals "_law_right" = some (some (.ref f25))) (l25 : K.lookup f25 = some ⟨oc25, od25, .func (PySem.W.fnOf "_law_right" "_law_right" (defArgs s_law_right) (defBody s_law_right) (defScope s_law_right) .none kV25 dc25 pm25 an25 cd25 ct25), sl25⟩) (c25 : PySem.W.codeIn K cd25 "_law_right" = true) (k25 : PySem.W.keepIn K (.ref f25) = true)
    (a26 : PySem.W.nsIn K mainGlobals "law" = some (some (.ref f26))) (l26 : K.lookup f26 = some ⟨oc26, od26, .func (PySem.W.fnOf "law" "law" (defArgs s_law) (defBody s_law) (defScope s_law) .none kV26 dc26 pm26 an26 cd26 ct26), sl26⟩) (c26 : PySem.W.codeIn K cd26 "law" = true) (k26 : PySem.W.keepIn K (.ref f26) = true)
    (y0 : PySem.W.nsIn K mainGlobals "MAX_BLOCKS" = some (some (.int 8 tk0))) (z0 : PySem.W.nsIn K mainGlobals "abs" = some none) (z1 : PySem.W.nsIn K mainGlobals "any" = some none) (z2 : PySem.W.nsIn K mainGlobals "int" = some none) (z3 : PySem.W.nsIn K mainGlobals "len" = some none) (z4 : PySem.W.nsIn K mainGlobals "max" = some none) (z5 : PySem.W.nsIn K mainGlobals "min" = some none) (z6 : PySem.W.nsIn K mainGlobals "range" = some none) (z7 : PySem.W.nsIn K mainGlobals "repr" = some none) (z8 : PySem.W.nsIn K mainGlobals "set" = some none) (z9 : PySem.W.nsIn K mainGlobals "sorted" = some none) (z10 : PySem.W.nsIn K mainGlobals "tuple" = some none) (z11 : PySem.W.nsIn K mainGlobals "zip" = some none) :
    ∃ fd : FuncData, (∀ (s : Shared) (v : Value), BindsTo s fd ⟨[v], []⟩ [("_law_script", v)]) ∧ ∀ base : Heap, K.In base → base.Ns mainGlobals mg → (∃ mm, base.Ns sysModules mm) → FnG l.prog w K mg base 72 fa fd ["_law_script"] (sp_law K) := by
  have e := hfa.symm.trans (PySem.W.mg_of X G a26)
  cases e
  have F1 := fun_mk (st := s_depth_changes) l1 c1 k1
  have b1 := F1.binds (ps := ["intervals"]) fun _ _ _ _ _ _ us hl => match us, hl with | [_], _ => rfl
  have F2 := fun_mk (st := s_find_blocks) l2 c2 k2
  have b2 := F2.binds (ps := ["intervals"]) fun _ _ _ _ _ _ us hl => match us, hl with | [_], _ => rfl
  have F3 := fun_mk (st := s_has_position) l3 c3 k3
  have b3 := F3.binds (ps := ["interval", "position"]) fun _ _ _ _ _ _ us hl => match us, hl with | [_, _], _ => rfl
  have F4 := fun_mk (st := s_contains) l4 c4 k4
  have b4 := F4.binds (ps := ["outer", "inner"]) fun _ _ _ _ _ _ us hl => match us, hl with | [_, _], _ => rfl
  have F5 := fun_mk (st := s_serves) l5 c5 k5
  have b5 := F5.binds (ps := ["piece", "demand"]) fun _ _ _ _ _ _ us hl => match us, hl with | [_, _], _ => rfl
  have F6 := fun_mk (st := s_conflict) l6 c6 k6
  have b6 := F6.binds (ps := ["first", "second"]) fun _ _ _ _ _ _ us hl => match us, hl with | [_, _], _ => rfl
  have F7 := fun_mk (st := s_demands_at_blocks) l7 c7 k7
  have b7 := F7.binds (ps := ["targets", "blocks"]) fun _ _ _ _ _ _ us hl => match us, hl with | [_, _], _ => rfl
  have F8 := fun_mk (st := s_is_open) l8 c8 k8
  have b8 := F8.binds (ps := ["pieces", "demand"]) fun _ _ _ _ _ _ us hl => match us, hl with | [_, _], _ => rfl
  have F9 := fun_mk (st := s_open_demands) l9 c9 k9
  have b9 := F9.binds (ps := ["targets", "pieces"]) fun _ _ _ _ _ _ us hl => match us, hl with | [_, _], _ => rfl
  have F10 := fun_mk (st := s_shadow_target) l10 c10 k10
  have b10 := F10.binds (ps := ["targets", "demand"]) fun _ _ _ _ _ _ us hl => match us, hl with | [_, _], _ => rfl
  have F11 := fun_mk (st := s_require_few_blocks) l11 c11 k11
  have b11 := F11.binds (ps := ["intervals"]) fun _ _ _ _ _ _ us hl => match us, hl with | [_], _ => rfl
  have F12 := fun_mk (st := s_decisive_demands) l12 c12 k12
  have b12 := F12.binds (ps := ["targets", "pieces"]) fun _ _ _ _ _ _ us hl => match us, hl with | [_, _], _ => rfl
  have F13 := fun_mk (st := s_largest_independent) l13 c13 k13
  have b13 := F13.binds (ps := ["demands"]) fun _ _ _ _ _ _ us hl => match us, hl with | [_], _ => rfl
  have F14 := fun_mk (st := s_count_needed) l14 c14 k14
  have b14 := F14.binds (ps := ["targets", "pieces"]) fun _ _ _ _ _ _ us hl => match us, hl with | [_, _], _ => rfl
  have F15 := fun_mk (st := s_law_draws) l15 c15 k15
  have b15 := F15.binds (ps := ["_law_script"]) fun _ _ _ _ _ _ us hl => match us, hl with | [_], _ => rfl
  have F16 := fun_mk (st := s_law_next) l16 c16 k16
  have b16 := F16.binds (ps := ["_law_state", "_law_many"]) fun _ _ _ _ _ _ us hl => match us, hl with | [_, _], _ => rfl
  have F17 := fun_mk (st := s_law_one) l17 c17 k17
  have b17 := F17.binds (ps := ["_law_state", "_law_items"]) fun _ _ _ _ _ _ us hl => match us, hl with | [_, _], _ => rfl
  have F18 := fun_mk (st := s_law_spans) l18 c18 k18
  have b18 := F18.binds (ps := ["_law_state", "_law_width", "_law_many"]) fun _ _ _ _ _ _ us hl => match us, hl with | [_, _, _], _ => rfl
  have F19 := fun_mk (st := s_law_covers) l19 c19 k19
  have b19 := F19.binds (ps := ["_law_pieces", "_law_target"]) fun _ _ _ _ _ _ us hl => match us, hl with | [_, _], _ => rfl
  have F20 := fun_mk (st := s_law_every) l20 c20 k20
  have b20 := F20.binds (ps := ["_law_width"]) fun _ _ _ _ _ _ us hl => match us, hl with | [_], _ => rfl
  have F21 := fun_mk (st := s_law_least) l21 c21 k21
  have b21 := F21.binds (ps := ["_law_width", "_law_targets_here", "_law_pieces"]) fun _ _ _ _ _ _ us hl => match us, hl with | [_, _, _], _ => rfl
  have F22 := fun_mk (st := s_law_served) l22 c22 k22
  have b22 := F22.binds (ps := ["_law_piece", "_law_demand"]) fun _ _ _ _ _ _ us hl => match us, hl with | [_, _], _ => rfl
  have F23 := fun_mk (st := s_law_clash) l23 c23 k23
  have b23 := F23.binds (ps := ["_law_one_here", "_law_other"]) fun _ _ _ _ _ _ us hl => match us, hl with | [_, _], _ => rfl
  have F24 := fun_mk (st := s_law_most) l24 c24 k24
  have b24 := F24.binds (ps := ["_law_width", "_law_targets_here", "_law_pieces"]) fun _ _ _ _ _ _ us hl => match us, hl with | [_, _, _], _ => rfl
  have F25 := fun_mk (st := s_law_right) l25 c25 k25
  have b25 := F25.binds (ps := ["_law_width", "_law_targets_here", "_law_pieces"]) fun _ _ _ _ _ _ us hl => match us, hl with | [_, _, _], _ => rfl
  have F26 := fun_mk (st := s_law) l26 c26 k26
  have b26 := F26.binds (ps := ["_law_script"]) fun _ _ _ _ _ _ us hl => match us, hl with | [_], _ => rfl
  have T : Tx K mg _ _ _ _ _ _ _ _ _ _ _ _ _ _ _ _ _ _ _ _ _ _ _ _ _ _  _ _ _ _ _ _ _ _ _ _ _ _ _ _ _ _ _ _ _ _ _ _ _ _ _ _ tk0 := ⟨F1, b1, PySem.W.mg_of X G a1, F2, b2, PySem.W.mg_of X G a2, F3, b3, PySem.W.mg_of X G a3, F4, b4, PySem.W.mg_of X G a4, F5, b5, PySem.W.mg_of X G a5, F6, b6, PySem.W.mg_of X G a6, F7, b7, PySem.W.mg_of X G a7, F8, b8, PySem.W.mg_of X G a8, F9, b9, PySem.W.mg_of X G a9, F10, b10, PySem.W.mg_of X G a10, F11, b11, PySem.W.mg_of X G a11, F12, b12, PySem.W.mg_of X G a12, F13, b13, PySem.W.mg_of X G a13, F14, b14, PySem.W.mg_of X G a14, F15, b15, PySem.W.mg_of X G a15, F16, b16, PySem.W.mg_of X G a16, F17, b17, PySem.W.mg_of X G a17, F18, b18, PySem.W.mg_of X G a18, F19, b19, PySem.W.mg_of X G a19, F20, b20, PySem.W.mg_of X G a20, F21, b21, PySem.W.mg_of X G a21, F22, b22, PySem.W.mg_of X G a22, F23, b23, PySem.W.mg_of X G a23, F24, b24, PySem.W.mg_of X G a24, F25, b25, PySem.W.mg_of X G a25, F26, b26, PySem.W.mg_of X G a26, PySem.W.mg_of X G y0, PySem.W.mg_none_of X G z0, PySem.W.mg_none_of X G z1, PySem.W.mg_none_of X G z2, PySem.W.mg_none_of X G z3, PySem.W.mg_none_of X G z4, PySem.W.mg_none_of X G z5, PySem.W.mg_none_of X G z6, PySem.W.mg_none_of X G z7, PySem.W.mg_none_of X G z8, PySem.W.mg_none_of X G z9, PySem.W.mg_none_of X G z10, PySem.W.mg_none_of X G z11⟩
  exact ⟨_, fun s v => .of_eq rfl, fun base _ _ hM => ok_law T⟩
end L9
open PySem PySem.W PyProof.Rows
set_option maxHeartbeats 0 in
theorem PySem.Challenge.cw_fewspans_k32_whole_small_families_holds : PySem.Challenge.rw_fewspans_k32_whole_small_families.Holds := by
  w_on; o_law; k_head; (case hw => w_witness2)
  k_fill
  refine L9.quiet_walk (l := PySem.Challenge.rw_fewspans_k32_whole_small_families) (n := 63) (k := 72) (x := "_law_script") (sp := fun w => L9.sp_law _) (by decide +kernel) rfl (by decide) rfl ⟨rfl, by decide, by decide⟩ (fun w h Y => PySem.W.kIn_of Y) ?F (fun _ _ a ns hl _ hS => ⟨a, ns, rfl, hS, hl, fun _ => rfl⟩)
  case F =>
    intro w mg fa h KX G hmg
    refine' L9.all_mk KX G hmg ?a1 ?l1 ?c1 ?k1 ?a2 ?l2 ?c2 ?k2 ?a3 ?l3 ?c3 ?k3 ?a4 ?l4 ?c4 ?k4 ?a5 ?l5 ?c5 ?k5 ?a6 ?l6 ?c6 ?k6 ?a7 ?l7 ?c7 ?k7 ?a8 ?l8 ?c8 ?k8 ?a9 ?l9 ?c9 ?k9 ?a10 ?l10 ?c10 ?k10 ?a11 ?l11 ?c11 ?k11 ?a12 ?l12 ?c12 ?k12 ?a13 ?l13 ?c13 ?k13 ?a14 ?l14 ?c14 ?k14 ?a15 ?l15 ?c15 ?k15 ?a16 ?l16 ?c16 ?k16 ?a17 ?l17 ?c17 ?k17 ?a18 ?l18 ?c18 ?k18 ?a19 ?l19 ?c19 ?k19 ?a20 ?l20 ?c20 ?k20 ?a21 ?l21 ?c21 ?k21 ?a22 ?l22 ?c22 ?k22 ?a23 ?l23 ?c23 ?k23 ?a24 ?l24 ?c24 ?k24 ?a25 ?l25 ?c25 ?k25 ?a26 ?l26 ?c26 ?k26 ?y0 ?z0 ?z1 ?z2 ?z3 ?z4 ?z5 ?z6 ?z7 ?z8 ?z9 ?z10 ?z11
    (case a1 => k_is)
    (case l1 => k_is)
    (case c1 => k_is)
    (case k1 => k_is)
    (case a2 => k_is)
    (case l2 => k_is)
    (case c2 => k_is)
    (case k2 => k_is)
    (case a3 => k_is)
    (case l3 => k_is)
    (case c3 => k_is)
    (case k3 => k_is)
    (case a4 => k_is)
    (case l4 => k_is)
    (case c4 => k_is)
    (case k4 => k_is)
    (case a5 => k_is)
    (case l5 => k_is)
    (case c5 => k_is)
    (case k5 => k_is)
    (case a6 => k_is)
    (case l6 => k_is)
    (case c6 => k_is)
    (case k6 => k_is)
    (case a7 => k_is)
    (case l7 => k_is)
    (case c7 => k_is)
    (case k7 => k_is)
    (case a8 => k_is)
    (case l8 => k_is)
    (case c8 => k_is)
    (case k8 => k_is)
    (case a9 => k_is)
    (case l9 => k_is)
    (case c9 => k_is)
    (case k9 => k_is)
    (case a10 => k_is)
    (case l10 => k_is)
    (case c10 => k_is)
    (case k10 => k_is)
    (case a11 => k_is)
    (case l11 => k_is)
    (case c11 => k_is)
    (case k11 => k_is)
    (case a12 => k_is)
    (case l12 => k_is)
    (case c12 => k_is)
    (case k12 => k_is)
    (case a13 => k_is)
    (case l13 => k_is)
    (case c13 => k_is)
    (case k13 => k_is)
    (case a14 => k_is)
    (case l14 => k_is)
    (case c14 => k_is)
    (case k14 => k_is)
    (case a15 => k_is)
    (case l15 => k_is)
    (case c15 => k_is)
    (case k15 => k_is)
    (case a16 => k_is)
    (case l16 => k_is)
    (case c16 => k_is)
    (case k16 => k_is)
    (case a17 => k_is)
    (case l17 => k_is)
    (case c17 => k_is)
    (case k17 => k_is)
    (case a18 => k_is)
    (case l18 => k_is)
    (case c18 => k_is)
    (case k18 => k_is)
    (case a19 => k_is)
    (case l19 => k_is)
    (case c19 => k_is)
    (case k19 => k_is)
    (case a20 => k_is)
    (case l20 => k_is)
    (case c20 => k_is)
    (case k20 => k_is)
    (case a21 => k_is)
    (case l21 => k_is)
    (case c21 => k_is)
    (case k21 => k_is)
    (case a22 => k_is)
    (case l22 => k_is)
    (case c22 => k_is)
    (case k22 => k_is)
    (case a23 => k_is)
    (case l23 => k_is)
    (case c23 => k_is)
    (case k23 => k_is)
    (case a24 => k_is)
    (case l24 => k_is)
    (case c24 => k_is)
    (case k24 => k_is)
    (case a25 => k_is)
    (case l25 => k_is)
    (case c25 => k_is)
    (case k25 => k_is)
    (case a26 => k_is)
    (case l26 => k_is)
    (case c26 => k_is)
    (case k26 => k_is)
    (case y0 => k_is)
    (case z0 => k_is)
    (case z1 => k_is)
    (case z2 => k_is)
    (case z3 => k_is)
    (case z4 => k_is)
    (case z5 => k_is)
    (case z6 => k_is)
    (case z7 => k_is)
    (case z8 => k_is)
    (case z9 => k_is)
    (case z10 => k_is)
    (case z11 => k_is)
