import PyProof.Rows.All
import Wide.All
import OpenK.AllK
import Wide.FinOn
import PySem.Challenge.RW_fewspans_k05_block_indexes
import HandS.ForMost
import HandS.Wide
import HandS.IsInst
import HandS.Conv
import HandS.TupLe
import HandS.TupSets
import HandS.TupAny
import HandS.More
import HandS.DictComp
import HandS.Strs
import HandS.SetFor
import HandS.Style
import PyProof.NeKinds
import KE.GoesEnum
import KE.GoesMore
set_option Elab.async false
set_option linter.all false
set_option maxRecDepth 100000
set_option maxHeartbeats 4000000
namespace L9
open PySem PySem.Spec PyProof.Rows L2
/-! ### set(xs), xs a list of ints: the library has it of tuples; the walk is a list's here -/
section
variable {P : Program} {w : World} {A : Around} {E : Value → Shared → Prop} {s : Shared}
abbrev noSet (w : World) : Obj := { cls := .type "set", dict := none, data := .set #[] 0 (.fresh 0 0 (!w.params.followText "set-order")) }
theorem setL_ints {l : Addr} {its : Array Value} (ns : List Int) {Q : Value → Shared → Prop} (quiet : A.handled = none) (isL : s.heap.IsList l its) (allI : IntsAre its.toList ns) (few : ns.length + 1 < scanBound)
    (fin : ∀ (h2 : Heap) (tk n : Nat), SetR w h2 s.heap.objs.size (fun j => decide (j ∈ ns)) n → n ≤ ns.length → (∀ b o, s.heap.get? b = some o → h2.get? b = some o) → Q (.ref s.heap.objs.size) { s with heap := h2, toks := tk }) :
    wpAny (model P w) A (call (.type "set") [.ref l]) Q E s := by
  have size : its.size = ns.length := by
    rw [← Array.length_toList]
    exact allI.length
  obtain ⟨cA, tA, mA⟩ := F.called_set.mro
  have f1 := F.called_set.made
  have f2 := F.called_set.sub
  refine wpAny_call (codeAny_of_tree (?_ : wpAny _ _ (callAny (.type "set") _) _ _ _))
  refine wpAny_pure (And.intro (Code.quiet_builtin _ (by decide +kernel)) (codeAny_builtin F.entry_type_call ?_))
  rw [Around.under_plain (weight_type_call_type "set" [Value.ref l] []) rfl]
  have f3 := F.called_set.notType
  have f4 := F.called_set.canCreate
  have f5 := F.typeCall_set_1 (Value.ref l)
  repeat any_goals first | assumption | wp_step
  refine codeAny_mono (code_set_led1 (.ref l) (E := E) (Q₁ := fun v s1 => v = .ref s.heap.objs.size ∧ s1 = { s with heap := s.heap.push (noSet w) }) (And.intro rfl rfl)) fun r s1 h1 => ?_
  match r, h1 with
  | .error e, h1 => exact h1
  | .ok (.ret v), h1 =>
    obtain ⟨rfl, rfl⟩ := h1
    have at0 : (s.heap.push (noSet w)).get? s.heap.objs.size = some (noSet w) := Heap.get?_push_size _ rfl
    have ty0 : Shared.TypeIs { s with heap := s.heap.push (noSet w) } (.ref s.heap.objs.size) "set" := Exists.intro _ (And.intro at0 rfl)
    have f6 := F.called_set.init.lookup
    have f7 := F.called_set.init.bind (Value.ref s.heap.objs.size)
    repeat any_goals first | assumption | wp_step
    let Z : Value → Shared → Prop := fun v s2 => v = .none ∧ ∃ h2 tk n, s2 = { s with heap := h2, toks := tk } ∧ SetR w h2 s.heap.objs.size (fun j => decide (j ∈ ns)) n ∧ n ≤ ns.length ∧ ∀ b o, s.heap.get? b = some o → h2.get? b = some o
    refine codeAny_mono (codeAny_call_builtin (R := wants Z E) F.called_set.init.plain F.entry_set_init (check_set_init_1 ty0 ?_)) fun r2 s2 h2 => ?_
    · obtain ⟨o, eo, ec, k, ed⟩ := isL
      obtain ⟨oc, od, oD, oS⟩ := o
      simp only at ec ed
      subst ec ed
      have lt : l < s.heap.objs.size := Heap.lt_size eo
      have eo1 : (s.heap.push (noSet w)).get? l = some { cls := .type "list", dict := od, data := .seq its k, slots := oS } := Heap.get?_push_of_some _ eo
      have g1 := F.sub_list_set
      have g2 := F.sub_list_frozenset
      have g3 : (Value.type "list" == Value.type "dict") = false := by decide
      have isL1 : (s.heap.push (noSet w)).IsList l its := Exists.intro _ (And.intro eo1 (And.intro rfl (Exists.intro k rfl)))
      unfold Builtin.«set.__init__» Builtin.Frozenset.updateFrom noKeywords
      generalize keep : pyIter = itr
      wp_walk
      subst keep
      refine wpAny_pyIter_list isL1 (wpAny_bind (wpAny_runValue ?_))
      have quiet3 : A.in1.in1.in1.handled = none := by simp [quiet]
      have sz : (s.heap.push (noSet w)).objs.size = s.heap.objs.size + 1 := Heap.size_push ..
      have lI : l ≠ (s.heap.push (noSet w)).objs.size := by
        rw [sz]
        exact Nat.ne_of_lt (Nat.lt_succ_of_lt lt)
      have out : s.heap.objs.size ∉ [(s.heap.push (noSet w)).objs.size, l] := by
        rw [sz]
        intro z
        rcases List.mem_cons.mp z with z | z
        · exact absurd z (Nat.ne_of_lt (Nat.lt_succ_self _))
        · exact absurd (List.mem_singleton.mp z) (Nat.ne_of_gt lt)
      have vals : ∀ (i : Nat) (v : Value), its[i]? = some v → ∃ j t, ns[i]? = some j ∧ v = .int j t := fun i v hv => by
        have lti : i < ns.length := by
          rw [← size]
          exact (Array.getElem?_eq_some_iff.mp hv).1
        obtain ⟨t, e⟩ := allI.int_at i v (by rw [Array.getElem?_toList]; exact hv)
        have en := List.getElem?_eq_getElem lti
        refine ⟨_, t, en, e.trans ?_⟩
        rw [List.getD_eq_getElem?_getD, en]
        rfl
      refine set_update_ints (Walks.list quiet3 _ l lI its).toS s.heap.objs.size out ns size few vals (its.size - 0) 0 _ rfl (Nat.zero_le _) (And.intro (Exists.intro _ (And.intro (Heap.get?_push_size _ rfl) (And.intro rfl rfl))) (isL1.push _)) ?start ?last
      case start =>
        exact ⟨0, Nat.le_refl _, setR_new_at (Heap.get?_push_of_some _ at0)⟩
      case last =>
        intro s3 n mv le R
        obtain ⟨h3, g3', d3, tk3, o3⟩ := s3
        have m1 : g3' = s.gens := mv.gens
        have m2 : d3 = s.drawn := mv.drawn
        have m3 : o3 = s.os := mv.os
        subst m1 m2 m3
        refine wpAny_pure (?_ : wpAny _ _ (ret Value.none) _ _ _)
        rw [size] at le
        refine wpAny_pure (And.intro rfl ⟨h3, tk3, n, rfl, R, le, fun b o e => ?_⟩)
        have lb := Heap.lt_size e
        refine mv.heap b o (fun z => ?_) (Heap.get?_push_of_some _ (Heap.get?_push_of_some _ e))
        rcases List.mem_cons.mp z with z | z
        · exact absurd z (Nat.ne_of_lt lb)
        · have z1 := List.mem_singleton.mp z
          rw [sz] at z1
          exact absurd z1 (Nat.ne_of_lt (Nat.lt_succ_of_lt lb))
    · match r2, h2 with
      | .error e, h2 => exact h2
      | .ok (.ret v), h2 =>
        obtain ⟨rfl, h', tk, n, rfl, R, le, kp⟩ := h2
        repeat any_goals first | assumption | wp_step
        exact fin h' tk n R le kp
      | .ok .next, h2 => exact h2
      | .ok .brk, h2 => exact h2
      | .ok .cont, h2 => exact h2
  | .ok .next, h1 => exact h1
  | .ok .brk, h1 => exact h1
  | .ok .cont, h1 => exact h1
end
section
variable {X : Cx}
def rSetOfI (K : PySem.W.Frag) (w : World) : List V → Hp → VK → Prop := fun xs H Q => ∃ (l : Addr) (ns : List Int), xs = [V.ref l] ∧ SqL K H l (ns.map V.int) ∧ ns.length < 60 ∧
  ∀ (H' : Hp) a n, Same H H' → H a = none → H' a = some (SetO w a (fun j => decide (j ∈ ns)) n) → n ≤ ns.length → Q (.ref a) H'
theorem cr_setOfI (calm : X.calm = true) : CallR X (.type "set") (rSetOfI X.K X.w) := by
  intro pins s σ H xs us Q I r h
  obtain ⟨l, ns, rfl, hl, few, q⟩ := h
  rw [Vals.ref1 r]
  obtain ⟨its, rv, pl, _⟩ := I.list hl
  refine setL_ints (P := X.prog) (w := X.w) ns (I.ok.hd calm) pl.isList (ints_of_vals rv) (by unfold scanBound; omega) fun h2 tk n R le kp => ?_
  exact ⟨.ref s.heap.objs.size, _, I.laid (t' := tk) kp (Nat.le_refl _) (setO_new R), rfl, q _ _ n (fun b x e => by rw [upd_ne (ne_of_none e (I.hok.fresh (Nat.le_refl _)))]; exact e) (I.hok.fresh (Nat.le_refl _)) upd_same le⟩
end

/-! ### defs that are run where no text-making of the machine is under way (repr, str of nested data ask for it) -/
abbrev Quiet (A : Around) : Prop := A.guards = some []
structure FnG (P : Program) (w : World) (K : PySem.W.Frag) (mg : Str → Option Value) (base : Heap) (k : Nat) (f : Addr) (fd : FuncData) (ps : List Str) (sp : Sp) : Prop where
  size : ∀ {vs H Q}, sp vs H Q E0 → vs.length = ps.length
  go : ∀ {A outer s H us vs Q}, Room k A → Quiet A → Env0 P w K mg base A outer s H → BindsTo s fd ⟨us, []⟩ (ps.zip us) → Vals vs us → sp vs H Q E0 →
    codeAny (model P w) A (.call (.ref f) ⟨us, []⟩) (CR CX0 outer P w H s Q E0) s
section
variable {P : Program} {w : World} {K : PySem.W.Frag} {mg : Str → Option Value} {base : Heap}
theorem FnG.of {x qual : Str} {st : Stmt} {f : Addr} {fd : FuncData} {N ps : List Str} {k : Nat} {sp : Sp} (F : Fun K x qual st f fd) (S : FnScope N ps (defScope st))
    (size : ∀ {vs H Q}, sp vs H Q E0 → vs.length = ps.length)
    (body : ∀ cdv A outer s H vs Q, Room k (A.deeper (envOfC qual (defScope st) s.heap.objs.size f cdv)) → Quiet (A.deeper (envOfC qual (defScope st) s.heap.objs.size f cdv)) → sp vs H Q E0 →
      ∃ t, PSs (cxOf CX0 P w K mg base N qual (defScope st) f cdv A outer s H E0).nox (defBody st) t ∧ t { nx := fun _ H' => Q .non H', rt := Q } (start N vs) H) :
    FnG P w K mg base (k + 1) f fd ps sp := by
  obtain ⟨oc, od, kV, doc, pm, an, cdv, ct, osl, rfl, look, code⟩ := F.ex
  constructor
  · exact size
  intro A outer s H us vs Q room quiet e0 bind rel want
  have inH : K.In s.heap := e0.mod.kin.keeps fun b o q => (e0.bs b o q).1
  have lim := e0.mod.nolimit.keeps (fun b o q => (e0.bs b o q).1)
  have kinds : ∀ y ∈ ps.zip us, (defScope st).names.lookup y.1 = some .local ∨ ((defScope st).names.lookup y.1 = some .cell ∧ ((cellsFrom (s.heap.objs.size + 1) (defScope st).names []).lookup y.1).isSome = true) := by
    rintro ⟨n, v⟩ hy
    have hn := (List.of_mem_zip hy).1
    cases S.par n hn with
    | inl q => exact Or.inl q
    | inr q => exact Or.inr ⟨q, PySem.W.cellsFrom_some _ _ _ (Or.inl q)⟩
  apply codeAny_call_function room.depth (inH _ _ look) rfl S.co S.gen rfl (PySem.W.codeRec_of inH code)
  apply bind
  apply wpAny_newFunctionEnv_cells S.kind kinds
  intro env he s1 x
  subst he
  refine And.intro (lim.keeps x.toInCall.keep) (codeAny_func ?_)
  obtain ⟨t, ht, hq⟩ := body cdv A outer s H vs Q (room.deeper _) quiet want
  have I := inv_start (CX := CX0) (E := E0) S room.hd e0 (size want) rel x
  apply wpAny_mono (ht.nox.run [] s1 (start N vs) H _ I hq)
  · intro fl s' hs
    cases fl with
    | ret u =>
      obtain ⟨v, σ', H', J, rv, q⟩ := hs
      exact Exists.intro v ⟨H', J.os, J.bare, J.base, J.hok, rv, q⟩
    | next =>
      obtain ⟨σ', H', J, q⟩ := hs
      exact Exists.intro V.non ⟨H', J.os, J.bare, J.base, J.hok, rfl, q⟩
    | brk => exact hs.elim fun _ h => h.elim fun _ h => h.2.elim
    | cont => exact hs.elim fun _ h => h.elim fun _ h => h.2.elim
  · intro e s' hs
    exact hs
end
section
variable {X : Cx} {k : Nat} {f : Addr} {fd : FuncData} {ps : List Str} {sp : Sp} {x : Str} {p pos : Pos} {e : Expr} {es : List Expr} {t : TA}
theorem pe_callG (F : FnG X.prog X.w X.K X.mg X.base k f fd ps sp) (room : Room k X.A) (quiet : Quiet X.A) (hg : Gl X x) (hm : X.mg x = some (.ref f)) (keep : PySem.W.keepIn X.K (.ref f) = true) (bind : Binds X.K fd ps [])
    (args : PA X (e :: es) t) (hdb : (x == ("__debug__" : Str)) = false := by decide) (star : starEach (e :: es) X.env = (false, eval e X.env) :: starEach es X.env := by rfl) (plain : (backTo pos (starEach es X.env)).any (·.1) = false := by rfl) :
    PE X (.Call (.Name x p) (e :: es) [] pos) (tCall sp [] E0 t) := by
  constructor
  intro pins s σ H Q I h
  apply wpAny_Call_Name_kw
  apply ld_glob I hg hm _ hdb
  apply PySem.W.callWith_K (h₀ := X.base) I.ok.mod.kin keep _ star plain
  apply thn (args.run pos pins s σ H _ I h)
  rintro us s1 ⟨vs, H1, I1, rel, q⟩
  refine And.intro I1.kIn ?_
  have q' : sp vs H1 Q E0 := by
    have z := q
    rw [List.append_nil] at z
    exact z
  have same : us.length = ps.length := rel.length.symm.trans (F.size q')
  have b := bind s1 us I1.kIn (by rw [List.append_nil]; exact same)
  rw [List.append_nil] at b
  apply wpAny_call
  apply codeAny_mono (F.go room quiet I1.env0 b rel q')
  intro r s' hr
  match r, hr with
  | .error _, hr => exact hr.elim
  | .ok (.ret u), hr => exact I1.after hr
  | .ok .next, hr => exact False.elim hr
  | .ok .brk, hr => exact False.elim hr
  | .ok .cont, hr => exact False.elim hr
end
/-! ### repr of data at any depth -/
structure Sm (n dp : Nat) (d : PyData) : Prop where
  shows : d.showable = true
  short : d.leavesShort 40 = true
  small : d.weight ≤ n
  flat : d.depth ≤ dp
theorem Sm.mono {n m dp dq : Nat} {d : PyData} (h : Sm n dp d) (h1 : n ≤ m) (h2 : dp ≤ dq) : Sm m dq d := ⟨h.shows, h.short, Nat.le_trans h.small h1, Nat.le_trans h.flat h2⟩
theorem Sm.none : Sm 0 0 .none := ⟨rfl, rfl, Nat.le_refl _, Nat.le_refl _⟩
theorem Sm.bool (b : Bool) : Sm 0 0 (.bool b) := ⟨rfl, rfl, Nat.le_refl _, Nat.le_refl _⟩
theorem log2_small {i : Int} (h : i.natAbs < 10 ^ 30) : i.natAbs.log2 < 100 := PySem.Flt.log2_lt_of (by decide) (Nat.lt_trans h (by decide))
theorem Sm.int {i : Int} (h : i.natAbs < 10 ^ 30) : Sm 100 0 (.int i) := by
  have l := log2_small h
  refine ⟨decide_eq_true (Nat.lt_trans l (by decide)), decide_eq_true ?_, ?_, Nat.le_refl _⟩
  · have q := int_text_length_le10 (a := i) (k := 30) (by decide) h
    show (Str.ofString (toString i)).length ≤ 40
    rw [PySem.ofString_length]
    exact Nat.le_trans q (by decide)
  · show (if i == 0 then 0 else i.natAbs.log2 + 1) ≤ 100
    split <;> omega
theorem smAll {n dp : Nat} : ∀ {ds : List PyData}, (∀ d ∈ ds, Sm n dp d) → PyData.showableAll ds = true ∧ PyData.leavesShortAll 40 ds = true ∧ PyData.weightAll ds ≤ ds.length * (n + 1) ∧ PyData.depthAll ds ≤ dp
  | [], _ => ⟨rfl, rfl, Nat.zero_le _, Nat.zero_le _⟩
  | d :: ds, h => by
    obtain ⟨a, b, c, e⟩ := smAll (ds := ds) fun x hx => h x (List.mem_cons_of_mem _ hx)
    have z := h d List.mem_cons_self
    refine ⟨?_, ?_, ?_, ?_⟩
    · show (d.showable && PyData.showableAll ds) = true
      rw [z.shows, a]
      rfl
    · show (d.leavesShort 40 && PyData.leavesShortAll 40 ds) = true
      rw [z.short, b]
      rfl
    · show d.weight + 1 + PyData.weightAll ds ≤ (ds.length + 1) * (n + 1)
      have := z.small
      rw [Nat.add_mul]
      omega
    · show max d.depth (PyData.depthAll ds) ≤ dp
      exact Nat.max_le.mpr ⟨z.flat, e⟩
theorem Sm.tup {n dp : Nat} {ds : List PyData} (h : ∀ d ∈ ds, Sm n dp d) : Sm (ds.length * (n + 1)) (dp + 1) (.tuple ds) :=
  let ⟨a, b, c, e⟩ := smAll h
  ⟨a, b, c, Nat.succ_le_succ e⟩
theorem Sm.lst {n dp : Nat} {ds : List PyData} (h : ∀ d ∈ ds, Sm n dp d) : Sm (ds.length * (n + 1)) (dp + 1) (.list ds) :=
  let ⟨a, b, c, e⟩ := smAll h
  ⟨a, b, c, Nat.succ_le_succ e⟩
theorem Sm.fits {n dp : Nat} {d : PyData} (h : Sm n dp d) (hn : n ≤ 300000) : d.shown.length ≤ sizeLine := by
  have q := PyData.shown_le 40 (by decide) d h.short
  have := h.small
  have e : sizeLine = 16777216 := by decide
  rw [e]
  omega
/-- data with dicts in it; its lists stand in the heap by themselves -/
def keyD : Key → PyData
  | .inl i => .int i
  | .inr x => .str x
mutual
inductive Dv (K : PySem.W.Frag) (H : Hp) : V → PyData → Prop
  | non : Dv K H .non .none
  | bl (b : Bool) : Dv K H (.bl b) (.bool b)
  | int (i : Int) : Dv K H (.int i) (.int i)
  | str (x : Str) : Dv K H (.str x) (.str x)
  | lst {a : Addr} {xs : List V} {ds : List PyData} : H a = some (.lst xs) → DvAll K H xs ds → Dv K H (.ref a) (.list ds)
  | tup {a : Addr} {xs : List V} {ds : List PyData} : H a = some (.tup xs) → DvAll K H xs ds → Dv K H (.ref a) (.tuple ds)
  | dic {a : Addr} {kvs : List (Key × V)} {ds : List PyData} : H a = some (.dK kvs) → DvAll K H (kvs.map (·.2)) ds → Dv K H (.ref a) (.dict ((kvs.map fun p => keyD p.1).zip ds))
inductive DvAll (K : PySem.W.Frag) (H : Hp) : List V → List PyData → Prop
  | nil : DvAll K H [] []
  | cons {v : V} {vs : List V} {d : PyData} {ds : List PyData} : Dv K H v d → DvAll K H vs ds → DvAll K H (v :: vs) (d :: ds)
end
theorem DvAll.length {K : PySem.W.Frag} {H : Hp} : ∀ {vs : List V} {ds : List PyData}, DvAll K H vs ds → vs.length = ds.length
  | _, _, .nil => rfl
  | _, _, .cons _ h => by rw [List.length_cons, List.length_cons, h.length]
theorem keys_read {P : Program} {w : World} {h : Heap} : ∀ {es : List DictEntry} {vs : List (Key × Value)}, Pairs (mixKind P w) es vs → ReadsAll h (es.map (·.key)) (vs.map fun p => keyD p.1) []
  | _, _, .nil => .nil
  | _, _, .cons (e := e) (kv := kv) hk _ r => by
    have one : Reads h e.key (keyD kv.1) [] := by
      rcases keyIs_shape hk with ⟨i, t, e1, e2⟩ | ⟨x, t, e1, e2⟩
      · rw [e1, e2]
        exact .int i t
      · rw [e1, e2]
        exact .str x t
    exact ReadsAll.cons one (keys_read r)
theorem vals_read {P : Program} {w : World} : ∀ {es : List DictEntry} {vs : List (Key × Value)}, Pairs (mixKind P w) es vs → es.map (·.val) = vs.map (·.2)
  | _, _, .nil => rfl
  | _, _, .cons _ hv r => by rw [List.map_cons, List.map_cons, hv, vals_read r]
theorem kv_vals : ∀ {kvs : List (Key × V)} {vs : List (Key × Value)}, KV kvs vs → Vals (kvs.map (·.2)) (vs.map (·.2)) ∧ (vs.map fun p => keyD p.1) = kvs.map fun p => keyD p.1
  | _, _, .nil => ⟨.nil, rfl⟩
  | _, _, .cons h r => by
    obtain ⟨a, b⟩ := kv_vals r
    refine ⟨.cons h.2 a, ?_⟩
    rw [List.map_cons, List.map_cons, b, h.1]
section
variable {X : Cx} {pins : List (Addr × Obj)} {σ : L2.St} {H : Hp} {s : Shared}
theorem Dv.reads (I : Inv X pins σ H s) (mods : ∃ mm, X.base.Ns sysModules mm) {v : V} {d : PyData} (h : Dv X.K H v d) : ∀ u : Value, RelV v u → ∃ as, Reads s.heap u d as ∧ sysModules ∉ as := by
  have free : H sysModules = none := by
    obtain ⟨mm, o, es, ep, e, _⟩ := mods
    exact (I.bs _ o e).2
  refine Dv.rec (K := X.K) (H := H) (motive_1 := fun v d _ => ∀ u : Value, RelV v u → ∃ as, Reads s.heap u d as ∧ sysModules ∉ as) (motive_2 := fun vs ds _ => ∀ us : List Value, Vals vs us → ∃ as, ReadsAll s.heap us ds as ∧ sysModules ∉ as) ?_ ?_ ?_ ?_ ?_ ?_ ?_ ?_ ?_ h
  · intro u r
    cases r
    exact ⟨_, .none, fun z => nomatch z⟩
  · intro b u r
    cases r
    exact ⟨_, .bool b, fun z => nomatch z⟩
  · intro i u r
    obtain ⟨t, rfl⟩ := r
    exact ⟨_, .int i t, fun z => nomatch z⟩
  · intro x u r
    obtain ⟨t, rfl⟩ := r
    exact ⟨_, .str x t, fun z => nomatch z⟩
  · intro a xs ds e _ ih u r
    cases r
    obtain ⟨_, its, n, rv, q⟩ := I.hok a _ e
    obtain ⟨as, ra, na⟩ := ih _ rv
    refine ⟨a :: as, .list q rfl rfl (by simpa using ra), fun z => ?_⟩
    rcases List.mem_cons.mp z with z | z
    · rw [← z, free] at e
      cases e
    · exact na z
  · intro a xs ds e _ ih u r
    cases r
    obtain ⟨_, its, rv, o, ho, hc, n, hd⟩ := I.hok a _ e
    obtain ⟨as, ra, na⟩ := ih _ rv
    exact ⟨as, .tuple ho hc hd (by simpa using ra), na⟩
  · intro a kvs ds e hall ih u r
    cases r
    obtain ⟨_, hne, vs, kv, o, es, ep, ho, ex, hd, _, prs, _⟩ := I.hok a _ e
    obtain ⟨rv, ek⟩ := kv_vals kv
    obtain ⟨as, ra, na⟩ := ih _ rv
    have len : (kvs.map fun p => keyD p.1).length = ds.length := by
      have z := hall.length
      rw [List.length_map] at z
      rw [List.length_map, z]
    refine ⟨_, .dict ho ex.1 hd (as := []) (bs := as) ?_ ?_, fun z => ?_⟩
    · rw [List.map_fst_zip (by omega), ← ek]
      exact keys_read prs
    · rw [List.map_snd_zip (by omega), vals_read prs]
      exact ra
    · rcases List.mem_cons.mp z with z | z
      · rw [← z] at hne
        exact absurd hne (by decide)
      · exact na z
  · intro us r
    cases r
    exact ⟨_, .nil, fun z => nomatch z⟩
  · intro v vs d ds _ _ ih1 ih2 us r
    cases r with
    | cons r1 r2 =>
      obtain ⟨as, ra, na⟩ := ih1 _ r1
      obtain ⟨bs, rb, nb⟩ := ih2 _ r2
      refine ⟨_, .cons ra rb, fun z => ?_⟩
      rcases List.mem_append.mp z with z | z
      · exact na z
      · exact nb z
theorem call_reprV (mods : ∃ mm, X.base.Ns sysModules mm) (quiet : Quiet X.A) (units : X.A.units + 64 < cLine) : CallR X (.builtin "repr")
    (fun xs H Q => ∃ v d n dp, xs = [v] ∧ Dv X.K H v d ∧ Sm n dp d ∧ n ≤ 300000 ∧ dp ≤ 60 ∧ Q (.str d.shown) H) := by
  intro pins s σ H xs us Q I r h
  obtain ⟨v, d, n, dp, rfl, hd, sm, hn, hdp, q⟩ := h
  obtain ⟨u, rfl, ru⟩ := vals1 r
  have fits := sm.fits hn
  have flat := sm.flat
  obtain ⟨as, rd, off⟩ := Dv.reads I mods hd _ ru
  cases hd with
  | non =>
    cases ru
    exact PySem.P.repr_of_none ⟨.str _, H, I.tok _, ⟨_, rfl⟩, q⟩
  | bl b =>
    cases ru
    exact PySem.P.repr_of_bool ⟨.str _, H, I.tok _, ⟨_, rfl⟩, q⟩
  | int i =>
    obtain ⟨t, rfl⟩ := ru
    exact PySem.P.repr_of_int (of_decide_eq_true sm.shows) ⟨.str _, H, I.tok _, ⟨_, rfl⟩, q⟩
  | str x =>
    obtain ⟨t, rfl⟩ := ru
    exact PySem.P.repr_of_str ⟨.str _, H, I.tok _, ⟨_, rfl⟩, q⟩ fits
  | _ =>
    cases ru
    exact repr_of_reads' rd sm.shows (fun _ => off) quiet (by omega) (fun _ _ e => e) (fun h' t tk more => ⟨.str _, H, I.kept more, ⟨_, rfl⟩, q⟩) fits
end
theorem Dp.noDict {K : PySem.W.Frag} {H : Hp} {v : V} {d : PyData} (h : Dp K H v d) : d.hasDict = false := by
  refine Dp.rec (K := K) (H := H) (motive_1 := fun v d _ => d.hasDict = false) (motive_2 := fun vs ds _ => PyData.hasDictAll ds = false) ?_ ?_ ?_ ?_ ?_ ?_ ?_ ?_ h
  all_goals intros
  all_goals simp_all [PyData.hasDict, PyData.hasDictAll]
section
variable {X : Cx}
theorem call_reprD (quiet : Quiet X.A) (units : X.A.units + 64 < cLine) : CallR X (.builtin "repr")
    (fun xs H Q => ∃ v d n dp, xs = [v] ∧ Dp X.K H v d ∧ Sm n dp d ∧ n ≤ 300000 ∧ dp ≤ 60 ∧ Q (.str d.shown) H) := by
  intro pins s σ H xs us Q I r h
  obtain ⟨v, d, n, dp, rfl, hd, sm, hn, hdp, q⟩ := h
  obtain ⟨u, rfl, ru⟩ := vals1 r
  have fits := sm.fits hn
  have flat := sm.flat
  obtain ⟨as, rd⟩ := Dp.reads I d v u hd ru
  cases hd with
  | non =>
    cases ru
    exact PySem.P.repr_of_none ⟨.str _, H, I.tok _, ⟨_, rfl⟩, q⟩
  | bl b =>
    cases ru
    exact PySem.P.repr_of_bool ⟨.str _, H, I.tok _, ⟨_, rfl⟩, q⟩
  | int i =>
    obtain ⟨t, rfl⟩ := ru
    exact PySem.P.repr_of_int (of_decide_eq_true sm.shows) ⟨.str _, H, I.tok _, ⟨_, rfl⟩, q⟩
  | str x =>
    obtain ⟨t, rfl⟩ := ru
    exact PySem.P.repr_of_str ⟨.str _, H, I.tok _, ⟨_, rfl⟩, q⟩ fits
  | lst h1 h2 =>
    cases ru
    exact repr_of_reads' rd sm.shows (PyData.noDict_hsm (Dp.noDict (Dp.lst h1 h2))) quiet (by omega) (fun _ _ e => e) (fun h' t tk more => ⟨.str _, H, I.kept more, ⟨_, rfl⟩, q⟩) fits
  | tup h1 h2 =>
    cases ru
    exact repr_of_reads' rd sm.shows (PyData.noDict_hsm (Dp.noDict (Dp.tup h1 h2))) quiet (by omega) (fun _ _ e => e) (fun h' t tk more => ⟨.str _, H, I.kept more, ⟨_, rfl⟩, q⟩) fits
end
/-! ### the end of a law row whose def is of the quiet kind -/
theorem quiet_law {P : Program} {w : World} {K : PySem.W.Frag} {mg mb : Str → Option Value} {k : Nat} {fa a : Addr} {fd : FuncData} {x : Str} {sp : Sp} {s₁ : Shared} {vs : List Value} {ns : List Int}
    (inK : K.In s₁.heap) (glob : s₁.heap.Ns mainGlobals mg) (blt : s₁.heap.Ns builtinsNs mb) (bltIs : ∀ y : Str, y ≠ "__name__" → mb y = bootBuiltins y) (lim : s₁.heap.NoLimit) (gens : s₁.gens = #[]) (mods : ∃ mm, s₁.heap.Ns sysModules mm)
    (here : s₁.heap.get? a = some { cls := .type "list", data := .seq vs.toArray }) (whole : IntsAre vs ns) (few : ns.length ≤ sizeLine) (room : Room k callerA)
    (F : ∀ base : Heap, K.In base → base.Ns mainGlobals mg → (∃ mm, base.Ns sysModules mm) → FnG P w K mg base k fa fd [x] sp) (bind : ∀ (s : Shared) (u : Value), BindsTo s fd ⟨[u], []⟩ [(x, u)])
    (want : ∀ H : Hp, Only H → SqL K H a (ns.map V.int) → sp [.ref a] H (fun v _ => v = .bl true) E0) :
    codeAny (model P w) callerA (.call (.ref fa) ⟨[.ref a], []⟩) (fun r s' => r = .ok (.ret (.bool true)) ∧ OldK s₁.heap s'.heap ∧ s'.os = s₁.os ∧ AllBare s'.gens) s₁ := by
  have rel := vals_ints whole
  -- H: the script alone, or nothing
  have main : ∀ H : Hp, Only H → SqL K H a (ns.map V.int) → HOk P w H s₁.heap → (∀ b u, H b = some u → b = a ∧ K.lookup b = none) →
      codeAny (model P w) callerA (.call (.ref fa) ⟨[.ref a], []⟩) (fun r s' => r = .ok (.ret (.bool true)) ∧ OldK s₁.heap s'.heap ∧ s'.os = s₁.os ∧ AllBare s'.gens) s₁ := by
    intro H only sq ok apart
    have untold : ∀ {b o}, s₁.heap.get? b = some o → (b = a → False) → H b = none := by
      intro b o e ne
      cases q : H b with
      | none => rfl
      | some u => exact (ne (apart b u q).1).elim
    have ns1 : ∀ {b m}, s₁.heap.Ns b m → (hidT s₁.heap H).Ns b m := by
      rintro b m ⟨o, es, ep, e, d, r⟩
      refine ⟨o, es, ep, hidT_get e (untold e fun z => ?_), d, r⟩
      subst z
      rw [here] at e
      cases e
      cases d
    have kIn : K.In (hidT s₁.heap H) := by
      intro b o e
      apply hidT_get (inK b o e)
      cases q : H b with
      | none => rfl
      | some u =>
        have z := (apart b u q).2
        rw [e] at z
        cases z
    have lim1 : (hidT s₁.heap H).NoLimit := by
      obtain ⟨mc, h1, h2⟩ := lim
      exact ⟨mc, ns1 h1, h2⟩
    have e0 : Env0 P w K mg (hidT s₁.heap H) callerA [] s₁ H := {
      frames := rfl, mod := ⟨kIn, ns1 glob, ⟨mb, ns1 blt, bltIs⟩, lim1⟩, bs := fun _ _ e => of_hidT e, bsz := Nat.le_of_eq (hidT_size _ _), funs := True.intro, frf := (fun _ hb => nomatch hb), hok := ok, bare := .of_eq gens }
    apply codeAny_mono ((F _ kIn (ns1 glob) (mods.elim fun mm h => ⟨mm, ns1 h⟩)).go (us := [.ref a]) (vs := [.ref a]) room rfl e0 (bind s₁ _) (.cons rfl .nil) (want H only sq))
    intro r s' hr
    match r, hr with
    | .error _, hr => exact hr.elim
    | .ok .next, hr => exact False.elim hr
    | .ok .brk, hr => exact False.elim hr
    | .ok .cont, hr => exact False.elim hr
    | .ok (.ret u), hr =>
      obtain ⟨v, H', os, bare, un, ok', rv, q⟩ := hr
      cases (show v = V.bl true from q)
      cases (show u = Value.bool true from rv)
      refine ⟨rfl, OldK.of_keep ?_, os, bare⟩
      intro b o e
      cases only b with
      | inl n => exact un.keep b o e n (fun z => nomatch z) (fun z => nomatch z)
      | inr n =>
        obtain ⟨ob, xs, z⟩ := n
        have e1 := (ok b _ z).1
        have e2 := (ok' b _ (un.frzs b ob _ z)).1
        rw [e] at e1
        cases e1
        exact e2
  have small : (ns.map V.int).length ≤ sizeLine := by rw [List.length_map]; exact few
  cases known : K.lookup a with
  | some o =>
    have e := inK a o known
    rw [here] at e
    cases e
    have sz : vs.length ≤ sizeLine := by rw [← rel.length]; exact small
    exact main (fun _ => none) (fun _ => .inl rfl) (.inr ⟨_, vs.toArray, _, known, rfl, rfl, rfl, by simpa using sz, by simpa using rel⟩) (fun _ _ z => nomatch z) (fun _ _ z => nomatch z)
  | none =>
    have at1 : ∀ {b u}, (if b = a then some (HO.frz { cls := .type "list", data := .seq vs.toArray } (.lst (ns.map V.int))) else none) = some u → b = a := by
      intro b u z
      by_cases hb : b = a
      · exact hb
      · rw [if_neg hb] at z
        cases z
    refine main (fun b => if b = a then some (.frz { cls := .type "list", data := .seq vs.toArray } (.lst (ns.map V.int))) else none) (fun b => ?_) (.inl (.inr ⟨{ cls := .type "list", data := .seq vs.toArray }, if_pos rfl⟩)) (fun b u z => ?_) (fun b u z => ?_)
    · by_cases hb : b = a
      · exact .inr ⟨_, _, if_pos hb⟩
      · exact .inl (if_neg hb)
    · have hb := at1 z
      subst hb
      have z2 := (if_pos rfl).symm.trans z
      cases z2
      exact ⟨here, small, vs, _, rel, here⟩
    · have hb := at1 z
      subst hb
      exact ⟨rfl, known⟩
theorem quiet_walk {l : PySem.W.OpenLaw} {n k : Nat} {q : Program} {loose : List Str} {XP : (Str → Option Value) → Heap → Prop} {YP : World → Heap → Prop} {d : DefRec} {K : Params → PySem.W.Frag} {sp : World → Sp} {x : Str}
    (noImport : importsNone q = true) (most : l.most = some n) (n2 : n ≤ sizeLine) (defaults : d.params.defaults = []) (room : Room k callerA) (hY : ∀ (w : World) (h : Heap), YP w h → (K w.params).In h)
    (F : ∀ (w : World) (mg : Str → Option Value) (fa : Addr) (h : Heap), (K w.params).In h → h.Ns mainGlobals mg → mg d.name = some (.ref fa) →
      ∃ fd : FuncData, (∀ (s : Shared) (u : Value), BindsTo s fd ⟨[u], []⟩ [(x, u)]) ∧ ∀ base : Heap, (K w.params).In base → base.Ns mainGlobals mg → (∃ mm, base.Ns sysModules mm) → FnG l.prog w (K w.params) mg base k fa fd [x] (sp w))
    (want : ∀ (w : World) (H : Hp) (a : Addr) (ns : List Int), ns.length ≤ n → Only H → SqL (K w.params) H a (ns.map V.int) → sp w [.ref a] H (fun v _ => v = .bl true) E0) :
    PySem.W.WalkO q loose XP YP l.row.toRowW d [] (fun f vs => PySem.call f vs) := by
  apply Att.attach_call most defaults
  intro w s₀ s₁ mg mb fa o pm cd doc a vs ns G Y ho hd hcd hmg hobj hints hlen hg
  obtain ⟨fd, hb, hF⟩ := F w mg fa _ (hY w _ Y) G.T.g hmg
  exact quiet_law (hY w _ Y) G.T.g G.T.b G.T.builtins G.T.nolimit hg ((G.T.seer noImport).mods.elim fun mm h => ⟨mm, h.1⟩) hobj hints (Nat.le_trans hlen n2) room hF hb fun H o1 s1 => want w H a ns hlen o1 s1

/-! ### a op1 b op2 c op3 .. : chains of any length -/
section
variable {X : Cx}
structure PCh (X : Cx) (ops : List CmpOp) (es : List Expr) (t : V → TE) : Prop where
  run : ∀ (pos : Pos) (pins : List (Addr × Obj)) (s : Shared) (σ : L2.St) (H : Hp) (Q : VK) (x : V) (v : Value), Inv X pins σ H s → RelV x v → t x σ H Q → wpAny (model X.prog X.w) X.A (compareChain pos v ops (evalEach es X.env)) (EP X pins σ Q) X.xe s
structure PChT (X : Cx) (ops : List CmpOp) (es : List Expr) (t : V → TE) : Prop where
  run : ∀ (pos : Pos) (pins : List (Addr × Obj)) (s : Shared) (σ : L2.St) (H : Hp) (Q : Bool → Hp → Prop) (x : V) (v : Value), Inv X pins σ H s → RelV x v → (t x σ H fun y H' => ∃ k, y = .bl k ∧ Q k H') → wpAny (model X.prog X.w) X.A (testChain pos v ops (evalEach es X.env)) (TP X pins σ Q) X.xe s
def tLast (r : R2) (tb : TE) : V → TE := fun x σ H Q => tb σ H fun y H2 => r x y H2 Q
def tLink (r : R2) (tb : TE) (rest : V → TE) : V → TE := fun x σ H Q => tb σ H fun y H2 => r x y H2 fun z H3 => ∃ k, z = .bl k ∧ (if k = true then rest y σ H3 Q else Q (.bl false) H3)
def tCh (ta : TE) (rest : V → TE) : TE := fun σ H Q => ta σ H fun x H1 => rest x σ H1 Q
theorem pch_last {op : CmpOp} {r : R2} {b : Expr} {tb : TE} (ho : OpR X (compareOp op) r) (hb : PE X b tb) : PCh X [op] [b] (tLast r tb) :=
  ⟨fun pos pins s σ H Q x v I rx h => chain_last (thn (hb.run pins s σ H _ I h) fun u s2 ⟨y, H2, I2, r2, q2⟩ => ho pins s2 σ H2 x y v u Q I2 rx r2 q2)⟩
theorem pch_link {op op' : CmpOp} {ops : List CmpOp} {r : R2} {b b' : Expr} {bs : List Expr} {tb : TE} {rest : V → TE} (ho : OpR X (compareOp op) r) (hb : PE X b tb) (hr : PCh X (op' :: ops) (b' :: bs) rest) : PCh X (op :: op' :: ops) (b :: b' :: bs) (tLink r tb rest) := by
  refine ⟨fun pos pins s σ H Q x v I rx h => ?_⟩
  refine chain_link (thn (hb.run pins s σ H _ I h) fun u s2 ⟨y, H2, I2, r2, q2⟩ => thn (ho pins s2 σ H2 x y v u _ I2 rx r2 q2) fun d s3 ⟨z, H3, I3, r3, k, e, q3⟩ => ?_)
  subst e
  cases r3
  refine wpAny_truthy_bool ?_
  cases k with
  | false => exact ite_ff ⟨.bl false, H3, I3, rfl, q3⟩
  | true => exact ite_tt (hr.run pos pins s3 σ H3 Q y u I3 r2 q3)
theorem pe_chN {op op' : CmpOp} {ops : List CmpOp} {a b b' : Expr} {bs : List Expr} {pos : Pos} {ta : TE} {rest : V → TE} (ha : PE X a ta) (hr : PCh X (op :: op' :: ops) (b :: b' :: bs) rest)
    (hm : lastMarks (op :: op' :: ops) (b :: b' :: bs) = false := by with_unfolding_all rfl) : PE X (.Compare a (op :: op' :: ops) (b :: b' :: bs) pos) (tCh ta rest) :=
  ⟨fun pins s σ H Q I h => Compare_chain (thn (ha.run pins s σ H _ I h) fun v s1 ⟨x, H1, I1, r1, q1⟩ => hr.run pos pins s1 σ H1 Q x v I1 r1 q1) hm⟩
theorem pchT_last {op : CmpOp} {r : R2} {b : Expr} {tb : TE} (ho : OpR X (compareOp op) r) (hb : PE X b tb) : PChT X [op] [b] (tLast r tb) := by
  refine ⟨fun pos pins s σ H Q x v I rx h => ?_⟩
  refine test_last (thn (hb.run pins s σ H _ I h) fun u s2 ⟨y, H2, I2, r2, q2⟩ => thn (ho pins s2 σ H2 x y v u _ I2 rx r2 q2) fun d s3 ⟨z, H3, I3, r3, k, e, q3⟩ => ?_)
  subst e
  cases r3
  exact wpAny_truthy_bool ⟨H3, I3, q3⟩
theorem pchT_link {op op' : CmpOp} {ops : List CmpOp} {r : R2} {b b' : Expr} {bs : List Expr} {tb : TE} {rest : V → TE} (ho : OpR X (compareOp op) r) (hb : PE X b tb) (hr : PChT X (op' :: ops) (b' :: bs) rest) : PChT X (op :: op' :: ops) (b :: b' :: bs) (tLink r tb rest) := by
  refine ⟨fun pos pins s σ H Q x v I rx h => ?_⟩
  refine test_link (thn (hb.run pins s σ H _ I h) fun u s2 ⟨y, H2, I2, r2, q2⟩ => thn (ho pins s2 σ H2 x y v u _ I2 rx r2 q2) fun d s3 ⟨z, H3, I3, r3, k, e, q3⟩ => ?_)
  subst e
  cases r3
  refine wpAny_truthy_bool ?_
  cases k with
  | false =>
    obtain ⟨k', e', q'⟩ := q3
    cases e'
    exact ite_ff ⟨H3, I3, q'⟩
  | true => exact ite_tt (hr.run pos pins s3 σ H3 Q y u I3 r2 q3)
theorem pt_chN {op op' : CmpOp} {ops : List CmpOp} {a b b' : Expr} {bs : List Expr} {pos : Pos} {ta : TE} {rest : V → TE} (ha : PE X a ta) (hr : PChT X (op :: op' :: ops) (b :: b' :: bs) rest)
    (hm : lastMarks (op :: op' :: ops) (b :: b' :: bs) = false := by with_unfolding_all rfl) : PT X (.Compare a (op :: op' :: ops) (b :: b' :: bs) pos) (tTest (tCh ta rest)) :=
  ⟨fun pins s σ H Q I h => isTrue_chain (thn (ha.run pins s σ H _ I h) fun v s1 ⟨x, H1, I1, r1, q1⟩ => hr.run pos pins s1 σ H1 Q x v I1 r1 q1) hm⟩
end

theorem pi_listK {X : Cx} {K : PySem.W.Frag} {tg l : Expr} {tl : TE} (hK : X.K = K) (hl : PE X l tl) : PI X tg l (iList K tl) := hK ▸ pi_list hl
theorem pi_tupK {X : Cx} {K : PySem.W.Frag} {tg l : Expr} {tl : TE} (hK : X.K = K) (hl : PE X l tl) : PI X tg l (iTup K tl) := hK ▸ pi_tup hl

/-! ### enumerate of a tuple -/
section
open Sem (wp)
set_option maxHeartbeats 4000000 in
theorem enum_of_tuple (t : Addr) (items : Array Value) : Meets (Builtin.«enumerate.__new__» ⟨[.type "enumerate", .ref t], []⟩) (fun _ R s => s.heap.IsTuple t items ∧
    R (.ok (.ret (.ref (s.heap.push { cls := .type "tuple_iterator", data := .fields #[.ref t, .int 0 0] }).objs.size)))
      { s with heap := (s.heap.push { cls := .type "tuple_iterator", data := .fields #[.ref t, .int 0 0] }).push { cls := .type "enumerate", data := .fields #[.none, .bool false, .ref s.heap.objs.size, rawInt 0, .none, .none] } }) := by
  refine .of_wp fun prog w A R s h => ?_
  obtain ⟨hp, g, d, tk, os⟩ := s
  obtain ⟨isT, h⟩ := h
  have sub := sub_enumerate
  have start : ∀ {A' : Around} {E : Value → Shared → Prop} {Q : Value → Shared → Prop}, Q (.ref hp.objs.size) ⟨hp.push { cls := .type "tuple_iterator", data := .fields #[.ref t, .int 0 0] }, g, d, tk, os⟩ → wpAny (model prog w) A' (pyIter (.ref t)) Q E ⟨hp, g, d, tk, os⟩ := by
    intro A' E Q q
    exact (begins_tuple t items).iter prog w A' E ⟨hp, g, d, tk, os⟩ Q isT q
  wp_walk using start
  refine wpAny_stack_any fun st => wpAny_pure ?_
  split
  · rename_i cc _ _ _ _ _
    cases (cc == Value.type "enumerate") <;> (wp_walk using start; exact Exists.intro _ ⟨rfl, h⟩)
  · wp_walk using start
    exact Exists.intro _ ⟨rfl, h⟩
end
theorem call_enumT {prog : Program} {w : World} {A : Around} {E : Value → Shared → Prop} {s : Shared} {t : Addr} {items : Array Value} {Q : Value → Shared → Prop} (isT : s.heap.IsTuple t items)
    (h : ∀ h', IsEnum h' (s.heap.objs.size + 1) s.heap.objs.size 0 .none → h'.IsTupleIter s.heap.objs.size t 0 → (∀ b o, s.heap.get? b = some o → h'.get? b = some o) → Q (.ref (s.heap.objs.size + 1)) { s with heap := h' }) :
    wpAny (model prog w) A (call (.type "enumerate") [.ref t]) Q E s := by
  refine callType_new F.called_enumerate (by decide) (F.typeCall_enumerate_1 _) (F.newCall_enumerate_1 _) (fun obj => F.args_object_init_2 obj _) F.entry_enumerate_new (enum_of_tuple t items) (And.intro isT ?_)
  have size : (s.heap.push { cls := .type "tuple_iterator", data := .fields #[.ref t, .int 0 0] }).objs.size = s.heap.objs.size + 1 := Heap.size_push ..
  show _ ∧ _
  rw [size]
  have made := Heap.get?_push_size (s.heap.push { cls := .type "tuple_iterator", data := .fields #[.ref t, .int 0 0] }) (o := { cls := .type "enumerate", data := .fields #[.none, .bool false, .ref s.heap.objs.size, rawInt 0, .none, .none] }) rfl
  rw [size] at made
  refine ⟨⟨_, made, rfl⟩, h _ made ⟨_, Heap.get?_push_of_some _ (Heap.get?_push_size _ rfl), rfl, rfl⟩ ?_⟩
  intro b o e
  exact Heap.get?_push_of_some _ (Heap.get?_push_of_some _ e)
/-- the tuple at a, each item in a new pair with its place -/
def IteT (K : PySem.W.Frag) (a : Addr) (N : Nat) : It where
  go := fun i H => ∃ (xs : List V) (x : V), SqT K H a xs ∧ xs[i]? = some x ∧ xs.length = N
  yld := fun i H v H' => ∃ t x, v = .ref t ∧ H t = none ∧ H' = upd H t (.tup [.int (i : Nat), x]) ∧ ∀ xs, SqT K H a xs → xs[i]? = some x
  stop := fun i H => ∃ xs : List V, SqT K H a xs ∧ xs.length = N ∧ N ≤ i
theorem turn_enumT {P : Program} {w : World} {K : PySem.W.Frag} {elts : List Expr} {kk : Nat} {tpos : Pos} (a e it : Addr) (N : Nat) :
    Turn P w K (.Tuple elts kk tpos) (IteT K a N) [e, it] e (fun i h => (∃ old, IsEnum h e it ((i : Nat) : Int) old) ∧ h.IsTupleIter it a i ∧ e ≠ it ∧ i ≤ N) := by
  have two : ∀ {b : Addr}, b ∈ [e, it] → b = e ∨ b = it := fun hb => by simpa using hb
  constructor
  · simp
  · rintro i h ⟨⟨old, he⟩, ⟨o, ho, hc, hd⟩, _, _⟩ b hb
    rcases two hb with rfl | rfl
    · exact ⟨_, he, fun v q => nomatch q⟩
    · refine ⟨o, ho, fun v q => ?_⟩
      rw [hd] at q
      cases q
  · rintro i h h' ⟨⟨old, he⟩, hi, hne, hN⟩ k
    exact ⟨⟨old, k e (by simp) _ he⟩, hi.at fun o q => k it (by simp) o q, hne, hN⟩
  · intro X hP hw hK hc i pins s σ H E I hf st hg
    subst hP hw hK
    obtain ⟨⟨old, he⟩, hit, hne, hN⟩ := st
    obtain ⟨xs, x, hq, hx, hxN⟩ := hg
    have inside := (List.getElem?_eq_some_iff.mp hx).1
    obtain ⟨its, rv, p, _⟩ := I.tuple hq
    obtain ⟨u, hu, ru⟩ := rv.get hx
    have isT : s.heap.IsTuple a its.toArray := p
    have apart : a ≠ it := by
      rintro rfl
      obtain ⟨o1, q1, c1, _⟩ := hit
      obtain ⟨o2, q2, c2, _⟩ := isT
      rw [q1] at q2
      cases q2
      rw [c1] at c2
      exact absurd (Value.type.inj c2) (by decide)
    have hea : e ≠ a := by
      rintro rfl
      obtain ⟨o2, q2, c2, _⟩ := isT
      rw [he] at q2
      cases q2
      exact absurd (Value.type.inj c2) (by decide)
    have lte : e < s.heap.objs.size := Heap.lt_size he
    have lti : it < s.heap.objs.size := hit.elim fun _ q => Heap.lt_size q.1
    have less : i < its.toArray.size := by
      have z := (List.getElem?_eq_some_iff.mp hu).1
      rw [List.size_toArray]
      exact z
    apply wpAny_pyNext_enum_itemD (Draws.tuple (A := X.A.in1) (I.ok.hd hc) it a apart its.toArray) he ⟨hit, isT⟩ less hne (by simp [hne, hea])
    intro y h' tk hy ho st' hT hsz hk
    have ey : y = u := by
      have z : its[i]? = some y := by simpa using hy
      rw [hu] at z
      exact (Option.some.inj z).symm
    subst ey
    refine ⟨_, rfl, wpAny_letOwnedTupleGo_enum (s := { s with heap := h', toks := tk + 1 }) ho fun h2 he2 sb => ?_⟩
    have kept : ∀ b o, b ∉ [e, it] → s.heap.get? b = some o → h2.get? b = some o := by
      intro b o nb q
      have n1 : b ≠ e := fun z => nb (by simp [z])
      have n2 : b ≠ it := fun z => nb (by simp [z])
      exact (sb.2 b n1).trans (hk b o n1 n2 q)
    have hT2 : h2.get? s.heap.objs.size = some { cls := .type "tuple", data := .seq #[.int i tk, y] } := (sb.2 _ (Nat.ne_of_gt lte)).trans hT
    have I1 : Inv X pins σ (upd H s.heap.objs.size (.tup [.int (i : Nat), x])) { s with heap := h2, toks := tk + 1 } := by
      refine I.turnedNew (ch := [e, it]) kept hf (Nat.le_refl _) ⟨by show 2 ≤ sizeLine; decide, [.int i tk, y], .cons ⟨_, rfl⟩ (.cons ru .nil), ?_⟩
      exact ⟨_, hT2, rfl, _, rfl⟩
    refine ⟨.ref s.heap.objs.size, _, I1, rfl, ⟨_, x, rfl, I.hok.fresh (Nat.le_refl _), rfl, fun ys hys => ?_⟩, ⟨⟨y, ?_⟩, ?_, hne, by omega⟩, fun b hb => ?_⟩
    · rw [I.tuple_inj hys hq]
      exact hx
    · have cast : ((i + 1 : Nat) : Int) = (i : Int) + 1 := by omega
      rw [cast]
      exact he2
    · exact st'.1.at fun o q => (sb.2 it hne.symm).trans q
    · have lt : b < s.heap.objs.size := by
        rcases two hb with rfl | rfl
        · exact lte
        · exact lti
      rw [upd_ne (Nat.ne_of_lt lt)]
      exact (hf b hb).1
  · intro X hP hw hK hc i pins s σ H E I hf st hg
    subst hP hw hK
    obtain ⟨⟨old, he⟩, hit, hne, hN⟩ := st
    obtain ⟨xs, hq, hxN, hx⟩ := hg
    obtain ⟨its, rv, p, _⟩ := I.tuple hq
    have isT : s.heap.IsTuple a its.toArray := p
    have apart : a ≠ it := by
      rintro rfl
      obtain ⟨o1, q1, c1, _⟩ := hit
      obtain ⟨o2, q2, c2, _⟩ := isT
      rw [q1] at q2
      cases q2
      rw [c1] at c2
      exact absurd (Value.type.inj c2) (by decide)
    obtain ⟨f0, f1, f2, f3, f4, f5⟩ := hf it (by simp)
    have len := rv.length
    have at1 : i = its.toArray.size := by
      rw [List.size_toArray]
      omega
    subst at1
    apply wpAny_pyNext_enum_endD (Draws.tuple (A := X.A.in1) (I.ok.hd hc) it a apart its.toArray) he ⟨hit, isT⟩
    intro h' eb
    exact And.intro rfl (I.turned (t' := s.toks) (fun b o hb q => eb b o hb q) f0 f1 f3 f4 f5)
  · rintro A i s Q E ⟨⟨_, he⟩, _⟩ h
    exact wpAny_pyIter_enum he h
def iEnumT (K : PySem.W.Frag) (ta : TA) : TI := fun σ H R => ta σ H fun vs H1 => ∃ a xs, vs = [.ref a] ∧ SqT K H1 a xs ∧ R (IteT K a xs.length) H1
theorem pi_enumT {X : Cx} {e : Expr} {ta : TA} {p pos tpos : Pos} {elts : List Expr} {kk : Nat} (hg : Gl X "enumerate") (hm : X.mg "enumerate" = none) (args : PA X [e] ta) (star : starEach [e] X.env = [(false, eval e X.env)] := by rfl) :
    PI X (.Tuple elts kk tpos) (.Call (.Name "enumerate" p) [e] [] pos) (iEnumT X.K ta) := by
  constructor
  intro pins s σ H R I h
  refine Call_ (ld_blt I hg hm boot_enumerate ?_)
  refine PyProof.Rows.callWith_type1 (thn (args.run pos pins s σ H _ I h) ?_) star rfl
  rintro us s1 ⟨vs, H1, I1, rel, a, xs, rfl, sq, q⟩
  obtain ⟨u, rfl, ru⟩ := vals1 rel
  cases ru
  obtain ⟨its, rv, isT, _⟩ := I1.tuple sq
  refine call_enumT (items := its.toArray) isT fun h' he hit hk => wpAny_pyIter_enum he ?_
  have fresh : ∀ b ∈ [s1.heap.objs.size + 1, s1.heap.objs.size], s1.heap.objs.size ≤ b := by
    intro b hb
    have z : b = s1.heap.objs.size + 1 ∨ b = s1.heap.objs.size := by simpa using hb
    rcases z with rfl | rfl
    · exact Nat.le_add_right _ _
    · exact Nat.le_refl _
  exact ⟨_, _, _, _, H1, rfl, I1.kept hk, turn_enumT a (s1.heap.objs.size + 1) s1.heap.objs.size xs.length, ⟨⟨.none, he⟩, hit, Nat.succ_ne_self _, Nat.zero_le _⟩, fun b hb => I1.fpOk (fresh b hb) (I1.hok.fresh (fresh b hb)), q⟩

/-! ### t[::-1] of a tuple; xs == [], xs != [] of a list that may hold anything -/
section
open HT
variable {prog : Program} {w : World} {A : Around} {E : Value → Shared → Prop} {s : Shared}
theorem adjust_rev (n : Nat) : Builtin.Slice.sliceAdjust none none (-1) (n : Int) = ((n : Int) - 1, -1) := by
  unfold Builtin.Slice.sliceAdjust
  have h1 : (-1 : Int) < 0 := by decide
  simp only [h1, if_true]
theorem places_rev (n : Nat) : Builtin.Slice.slicePlaces ((n : Int) - 1) (-1) (-1) = n := by
  unfold Builtin.Slice.slicePlaces
  have h1 : ¬ ((-1 : Int) > 0) := by decide
  simp only [h1, if_false]
  have h2 : (-(-1) : Int) = 1 := by decide
  rw [h2, Int.ediv_one]
  split <;> omega
theorem sliceApplied_rev {sl : Addr} {vl vu vs : Value} {n : Nat} {Q : Int × Int × Nat → Shared → Prop} (hs : s.heap.IsSliceOf sl vl vu vs) (pl : IsPart vl none) (pu : IsPart vu none) (pt : IsPart vs (some (-1)))
    (h : Q ((n : Int) - 1, -1, n) s) : wpAny (model prog w) A (Builtin.Slice.sliceApplied (.ref sl) (pure (n : Int))) Q E s := by
  obtain ⟨os, hos, hcs, hds⟩ := id hs
  unfold Builtin.Slice.sliceApplied Builtin.Slice.sliceFields
  refine wpAny_bind (wpAny_bind (wpAny_field hos hds (x := vl) rfl (wpAny_bind (wpAny_field hos hds (x := vu) rfl (wpAny_bind (wpAny_field hos hds (x := vs) rfl (wpAny_pure ?_)))))))
  refine wpAny_bind (slicePart_ pt ?_)
  show wpAny _ _ (if ((-1 : Int) == 0) = true then _ else _) _ _ s
  rw [if_neg (by decide)]
  refine wpAny_bind (slicePart_ pl (wpAny_bind (slicePart_ pu (wpAny_bind (wpAny_pure ?_)))))
  show wpAny _ _ (match Builtin.Slice.sliceAdjust none none (-1) (n : Int) with | (lo, hi) => pure (lo, (-1 : Int), Builtin.Slice.slicePlaces lo hi (-1))) _ _ s
  rw [adjust_rev]
  show wpAny _ _ (pure ((n : Int) - 1, (-1 : Int), Builtin.Slice.slicePlaces ((n : Int) - 1) (-1) (-1))) _ _ s
  rw [places_rev]
  exact wpAny_pure h
theorem pick_rev (xs : Array Value) : ((List.range xs.size).filterMap fun (k : Nat) => xs[((xs.size : Int) - 1 + (k : Int) * (-1)).toNat]?) = xs.toList.reverse := by
  have e : ∀ m : Nat, m ≤ xs.size → ((List.range m).filterMap fun (k : Nat) => xs[((xs.size : Int) - 1 + (k : Int) * (-1)).toNat]?) = xs.toList.reverse.take m := by
    intro m
    induction m with
    | zero => intro _; rfl
    | succ m ih =>
      intro hm
      rw [List.range_succ, List.filterMap_append, ih (by omega), List.take_add_one]
      congr 1
      have e1 : ((xs.size : Int) - 1 + (m : Int) * (-1)).toNat = xs.size - 1 - m := by omega
      have e2 : xs.toList.reverse[m]? = xs[xs.size - 1 - m]? := by
        rw [List.getElem?_reverse (by rw [Array.length_toList]; omega), Array.length_toList, Array.getElem?_toList]
      rw [e2]
      have lt : xs.size - 1 - m < xs.size := by omega
      simp only [List.filterMap_cons, List.filterMap_nil, e1]
      rw [Array.getElem?_eq_getElem lt]
      rfl
  rw [e _ (Nat.le_refl _), List.take_of_length_le (by rw [List.length_reverse, Array.length_toList]; exact Nat.le_refl _)]
theorem getItem_tuple_rev {t sl : Addr} {items : Array Value} {vl vu vs : Value} {Q : Value → Shared → Prop} (ht : IsTup s.heap t items) (hs : s.heap.IsSliceOf sl vl vu vs) (pl : IsPart vl none) (pu : IsPart vu none) (pt : IsPart vs (some (-1)))
    (h : Q (.ref s.heap.objs.size) { s with heap := s.heap.push { cls := .type "tuple", data := .seq items.toList.reverse.toArray } })
    (hsz : items.size ≤ sizeLine) : wpAny (model prog w) A (getItem (.ref t) (.ref sl)) Q E s := by
  have htake : sizeOk (.seq items.toList.reverse.toArray) := by
    show items.toList.reverse.toArray.size ≤ sizeLine
    rw [List.size_toArray, List.length_reverse, Array.length_toList]
    omega
  obtain ⟨os, hos, hcs, hds⟩ := id hs
  have hTs : s.TypeIs (.ref sl) "slice" := ⟨os, hos, hcs⟩
  unfold getItem
  try with_reducible refine wpAny_holding ?_
  first | refine wpAny_bind (wpAny_pure ?_) | skip
  refine wpAny_bind (wpAny_sequenceKey ht.typeIs (by decide) ?_)
  refine wpAny_bind (wpAny_callSpecial?_slot (name := Str.ofString "__getitem__") ht.typeIs PyProof.Rows.slot_tuple_getitem
    (wpAny_call_entry PyProof.Rows.slot_tuple_getitem ht.typeIs entry_tuple_getitem ?_ (args_tuple_getitem _ _)))
  show wpAny _ _ (Builtin.Tuple.tupleItemsOf (.ref t) >>= _) _ _ s
  refine wpAny_bind (tupleItemsOf_ ht ?_)
  refine wpAny_bind (wpAny_typeOf hTs ?_)
  rw [if_pos (by decide)]
  refine wpAny_bind (sliceApplied_rev hs pl pu pt ?_)
  have hno : ¬ ((((items.size : Int) - 1) == 0 && (-1 : Int) == 1 && items.size == items.size) = true) := by
    intro q
    rw [Bool.and_eq_true, Bool.and_eq_true] at q
    exact absurd q.1.2 (by decide)
  show wpAny _ _ (if (((items.size : Int) - 1) == 0 && (-1 : Int) == 1 && items.size == items.size) = true then _ else _) _ _ s
  rw [if_neg hno, pick_rev]
  first
    | exact wpAny_bind (m := Builtin.Tuple.tupleExact _) (wpAny_newObj_type (wpAny_pure ⟨_, rfl, wpAny_pure h⟩) htake)
    | exact wpAny_bind (m := Builtin.Tuple.tupleExact _) (wpAny_newObj_type (wpAny_bind (wpAny_pure (wpAny_pure ⟨_, rfl, wpAny_pure h⟩))) htake)
    | exact wpAny_bind (wpAny_bind (m := Builtin.Tuple.tupleExact _) (wpAny_newObj_type (wpAny_pure (wpAny_pure ⟨_, rfl, wpAny_pure h⟩)) htake))
    | exact wpAny_bind (wpAny_bind (m := Builtin.Tuple.tupleExact _) (wpAny_newObj_type (wpAny_pure ⟨_, rfl, wpAny_pure h⟩) htake))
end
section
variable {X : Cx}
def tRevT (K : PySem.W.Frag) (te : TE) : TE := fun σ H Q => te σ H fun x H1 => ∃ a xs, x = .ref a ∧ SqT K H1 a xs ∧ ∀ p, H1 p = none → Q (.ref p) (upd H1 p (.tup xs.reverse))
theorem pe_revT {e : Expr} {te : TE} {k : Nat} {p1 p2 p3 pos : Pos} (he : PE X e te) : PE X (.Subscript e (.Slice none none (some (.UnaryOp .USub (.Constant (.int 1) k p1) p2)) p3) pos) (tRevT X.K te) := by
  refine ⟨fun pins s σ H Q I h => ?_⟩
  refine Subscript_ (thn (he.run pins s σ H _ I h) fun v s1 ⟨x, H1, I1, r1, q1⟩ => ?_)
  obtain ⟨a, xs, ex, hx, q⟩ := q1
  subst ex
  cases r1
  have hst : PO X (some (.UnaryOp .USub (.Constant (.int 1) k p1) p2)) (tPart (tUn (rU fun i => .int (-i)) (tC (.int 1)))) := po_some (pe_un un_neg pe_int)
  refine wpAny_Slice (thn (po_none.run pins s1 σ H1 (fun o H2 => o = none ∧ H2 = H1) I1 ⟨rfl, rfl⟩) fun vl s2 ⟨l, H2, I2, pl, el, e2⟩ => ?_)
  subst el e2
  refine thn (po_none.run pins s2 σ H2 (fun o H3 => o = none ∧ H3 = H2) I2 ⟨rfl, rfl⟩) fun vu s3 ⟨u, H3, I3, pu, eu, e3⟩ => ?_
  subst eu e3
  refine thn (hst.run pins s3 σ H3 (fun o H4 => o = some (-1) ∧ H4 = H3) I3 ⟨1, rfl, -1, rfl, rfl, rfl⟩) fun vs s4 ⟨o, H4, I4, ps, eo, e4⟩ => ?_
  subst eo e4
  have I5 : Inv X pins σ H4 { s4 with heap := s4.heap.push { cls := .type "slice", data := .fields #[vl, vu, vs] } } := I4.kept (t' := s4.toks) fun b ob q => Heap.get?_push_of_some _ q
  obtain ⟨its, r, ht, hz⟩ := I5.tuple hx
  have hlen := r.length
  show wpAny (model X.prog X.w) X.A (subscriptTail e (.Slice none none (some (.UnaryOp .USub (.Constant (.int 1) k p1) p2)) p3) (.ref a) (.ref s4.heap.objs.size)) (EP X pins σ Q) X.xe { s4 with heap := s4.heap.push { cls := .type "slice", data := .fields #[vl, vu, vs] } }
  refine tail_any (ops := [.ref a, .ref s4.heap.objs.size]) ht.typeIs (PyProof.Rows.slot_tuple_getitem.lookup) ?_ (by with_unfolding_all rfl)
  refine getItem_tuple_rev ht (Heap.IsSliceOf.new _ vl vu vs) pl pu ps ?_ (by rw [List.size_toArray]; omega)
  refine ⟨.ref _, _, I5.laid (t' := s4.toks) (o := .tup xs.reverse) (fun b ob q => Heap.get?_push_of_some _ q) (Nat.le_refl _) ?_, rfl, q _ (I5.hok.fresh (Nat.le_refl _))⟩
  exact ⟨by rw [List.length_reverse]; exact hz, _, r.reverse, IsTup.new _ _⟩
def rEqL (K : PySem.W.Frag) : R2 := fun x y H Q => ∃ (a b : Addr) (xs : List V), x = .ref a ∧ y = .ref b ∧ SqL K H a xs ∧ SqL K H b [] ∧ Q (.bl xs.isEmpty) H
def rNeL (K : PySem.W.Frag) : R2 := fun x y H Q => ∃ (a b : Addr) (xs : List V), x = .ref a ∧ y = .ref b ∧ SqL K H a xs ∧ SqL K H b [] ∧ Q (.bl (!xs.isEmpty)) H
theorem op_eqL (units : X.A.units < cLine) : OpR X (compareOp .Eq) (rEqL X.K) := by
  intro pins s σ H x y v u Q I rx ry h
  obtain ⟨a, b, xs, rfl, rfl, ha, hb, q⟩ := h
  cases rx
  cases ry
  obtain ⟨its, r1, p1, _⟩ := I.list ha
  obtain ⟨its2, r2, p2, _⟩ := I.list hb
  cases r2
  cases r1 with
  | nil =>
    exact SeqAt.eq_listAt (e := fun _ => true) p1.isList p2.isList rfl units (fun j h1 h2 => absurd h2 (Nat.not_lt_zero j)) ⟨.bl true, H, I, rfl, q⟩
  | cons r t =>
    exact SeqAt.eq_list_lengthsAt p1.isList p2.isList (by simp) units ⟨.bl false, H, I, rfl, q⟩
theorem op_neL (units : X.A.units < cLine) : OpR X (compareOp .NotEq) (rNeL X.K) := by
  intro pins s σ H x y v u Q I rx ry h
  obtain ⟨a, b, xs, rfl, rfl, ha, hb, q⟩ := h
  cases rx
  cases ry
  obtain ⟨its, r1, p1, _⟩ := I.list ha
  obtain ⟨its2, r2, p2, _⟩ := I.list hb
  cases r2
  cases r1 with
  | nil =>
    exact SeqAt.RcNeAt.lists (e := fun _ => true) p1.isList p2.isList rfl units (fun j h1 h2 => absurd h2 (Nat.not_lt_zero j)) X.prog X.w X.xe (EP X pins σ Q) ⟨.bl false, H, I, rfl, q⟩
  | cons r t =>
    exact SeqAt.RcNeAt.lists_lengths p1.isList p2.isList (by simp) units X.prog X.w X.xe (EP X pins σ Q) ⟨.bl true, H, I, rfl, q⟩
end

def topS (i : Nat) : Stmt := PySem.Challenge.pw_fewspans_k05_block_indexes.main.body.getD i (.Pass ⟨0, 0, 0, 0⟩)
abbrev s_depth_changes : Stmt := topS 1
abbrev N_depth_changes : List Str := ["intervals", "changes", "low", "high"]
theorem sc_depth_changes : FnScope N_depth_changes ["intervals"] (defScope s_depth_changes) := ⟨rfl, rfl, rfl, by decide +kernel, rfl, by decide +kernel, by decide +kernel⟩
abbrev s_find_blocks : Stmt := topS 2
abbrev N_find_blocks : List Str := ["intervals", "changes", "borders", "blocks", "depth", "low", "after"]
theorem sc_find_blocks : FnScope N_find_blocks ["intervals"] (defScope s_find_blocks) := ⟨rfl, rfl, rfl, by decide +kernel, rfl, by decide +kernel, by decide +kernel⟩
abbrev s_block_index : Stmt := topS 3
abbrev N_block_index : List Str := ["intervals", "position", "index", "low", "high"]
theorem sc_block_index : FnScope N_block_index ["intervals", "position"] (defScope s_block_index) := ⟨rfl, rfl, rfl, by decide +kernel, rfl, by decide +kernel, by decide +kernel⟩
abbrev s_compress : Stmt := topS 4
abbrev N_compress : List Str := ["intervals", "blocks", "index_by_low", "index", "low", "high", "index_by_high"]
theorem sc_compress : FnScope N_compress ["intervals"] (defScope s_compress) := ⟨rfl, rfl, rfl, by decide +kernel, rfl, by decide +kernel, by decide +kernel⟩
abbrev s_law_deck : Stmt := topS 6
abbrev N_law_deck : List Str := ["_law_script", "_law_cell"]
theorem sc_law_deck : FnScope N_law_deck ["_law_script"] (defScope s_law_deck) := ⟨rfl, rfl, rfl, by decide +kernel, rfl, by decide +kernel, by decide +kernel⟩
abbrev s_law_draw : Stmt := topS 7
abbrev N_law_draw : List Str := ["_law_deck_here", "_law_limit", "_law_cell", "_law_index_here"]
theorem sc_law_draw : FnScope N_law_draw ["_law_deck_here", "_law_limit"] (defScope s_law_draw) := ⟨rfl, rfl, rfl, by decide +kernel, rfl, by decide +kernel, by decide +kernel⟩
abbrev s_law_same : Stmt := topS 8
abbrev N_law_same : List Str := ["_law_value", "_law_due"]
theorem sc_law_same : FnScope N_law_same ["_law_value", "_law_due"] (defScope s_law_same) := ⟨rfl, rfl, rfl, by decide +kernel, rfl, by decide +kernel, by decide +kernel⟩
abbrev s_law_interval : Stmt := topS 9
abbrev N_law_interval : List Str := ["_law_deck_here", "_law_limit", "_law_low"]
theorem sc_law_interval : FnScope N_law_interval ["_law_deck_here", "_law_limit"] (defScope s_law_interval) := ⟨rfl, rfl, rfl, by decide +kernel, rfl, by decide +kernel, by decide +kernel⟩
abbrev s_law_stretched : Stmt := topS 10
abbrev N_law_stretched : List Str := ["_law_row", "_law_factor", "_law_shift", "_law_low", "_law_high"]
theorem sc_law_stretched : FnScope N_law_stretched ["_law_row", "_law_factor", "_law_shift"] (defScope s_law_stretched) := ⟨rfl, rfl, rfl, by decide +kernel, rfl, by decide +kernel, by decide +kernel⟩
abbrev s_law_index : Stmt := topS 11
abbrev N_law_index : List Str := ["_law_row", "_law_position", "_law_cuts", "_law_low", "_law_high", "_law_starts", "_law_cut"]
theorem sc_law_index : FnScope N_law_index ["_law_row", "_law_position"] (defScope s_law_index) := ⟨rfl, rfl, rfl, by decide +kernel, rfl, by decide +kernel, by decide +kernel⟩
abbrev s_law : Stmt := topS 12
abbrev N_law : List Str := ["_law_script", "_law_deck_here", "_law_turn", "_law_limit", "_law_row", "_law_k", "_law_factor", "_law_before", "_law_ends", "_law_low", "_law_high", "_law_spots", "_law_end", "_law_position", "_law_due"]
theorem sc_law : FnScope N_law ["_law_script"] (defScope s_law) := ⟨rfl, rfl, rfl, by decide +kernel, rfl, by decide +kernel, by decide +kernel⟩
/-! ### the deck and its draws -/
structure Dk (H : Hp) (d c : Addr) (n : Int) : Prop where
  top : H d = some (.lst [.ref c, .int n])
  cells : ∃ xs : List Int, H c = some (.lst (xs.map V.int)) ∧ xs.length ≤ 63 ∧ ∀ x ∈ xs, 0 ≤ x
theorem Dk.ne {H : Hp} {d c : Addr} {n : Int} (h : Dk H d c n) : c ≠ d := by
  obtain ⟨xs, e, _⟩ := h.cells
  intro z
  subst z
  have q := e.symm.trans h.top
  cases xs with
  | nil => cases q
  | cons x r => cases q
/-- nothing but the deck has changed -/
def Kp (d c : Addr) (H H' : Hp) : Prop := ∀ b o, b ≠ d → b ≠ c → H b = some o → H' b = some o
theorem Kp.trans {d c : Addr} {H H1 H2 : Hp} (h1 : Kp d c H H1) (h2 : Kp d c H1 H2) : Kp d c H H2 := fun b o n1 n2 e => h2 b o n1 n2 (h1 b o n1 n2 e)
theorem Kp.same {d c : Addr} {H H1 : Hp} (h : Same H H1) : Kp d c H H1 := fun b o _ _ e => h b o e
def sp_law_deck (K : PySem.W.Frag) : Sp := fun vs H Q _ => ∃ (a : Addr) (ns : List Int), vs = [.ref a] ∧ SqL K H a (ns.map V.int) ∧ ns.length ≤ 63 ∧
  ∀ H' d c, Same H H' → H d = none → H c = none → Dk H' d c 0 → Q (.ref d) H'
def sp_law_draw : Sp := fun vs H Q _ => ∃ (d c : Addr) (n lim : Int), vs = [.ref d, .int lim] ∧ Dk H d c n ∧ 0 ≤ n ∧ n < 1000000 ∧ 0 < lim ∧ lim < 2 ^ 63 ∧
  ∀ H' r, Kp d c H H' → Dk H' d c (n + 1) → 0 ≤ r → r < lim → Q (.int r) H'
theorem cut63 {xs : List V} (h : xs.length ≤ 63) : cutV xs none (some 63) = xs := by
  unfold cutV
  rw [HT.sIx_none, show HT.sIx xs.length xs.length (some 63) = min 63 xs.length from HT.sIx_nat xs.length xs.length 63]
  rw [Nat.min_eq_right h]
  simp
theorem same_new {H : Hp} {p : Addr} {o : HO} (h : H p = none) : Same H (upd H p o) := fun b x e => by
  rw [upd_ne (ne_of_none e h)]
  exact e
section
structure Tx (K : PySem.W.Frag) (mg : Str → Option Value) (f_depth_changes f_find_blocks f_block_index f_compress f_law_deck f_law_draw f_law_same f_law_interval f_law_stretched f_law_index f_law : Addr) (d_depth_changes d_find_blocks d_block_index d_compress d_law_deck d_law_draw d_law_same d_law_interval d_law_stretched d_law_index d_law : FuncData) : Prop where
  F_depth_changes : Fun K "depth_changes" "depth_changes" s_depth_changes f_depth_changes d_depth_changes
  b_depth_changes : Binds K d_depth_changes ["intervals"] []
  g_depth_changes : mg "depth_changes" = some (.ref f_depth_changes)
  F_find_blocks : Fun K "find_blocks" "find_blocks" s_find_blocks f_find_blocks d_find_blocks
  b_find_blocks : Binds K d_find_blocks ["intervals"] []
  g_find_blocks : mg "find_blocks" = some (.ref f_find_blocks)
  F_block_index : Fun K "block_index" "block_index" s_block_index f_block_index d_block_index
  b_block_index : Binds K d_block_index ["intervals", "position"] []
  g_block_index : mg "block_index" = some (.ref f_block_index)
  F_compress : Fun K "compress" "compress" s_compress f_compress d_compress
  b_compress : Binds K d_compress ["intervals"] []
  g_compress : mg "compress" = some (.ref f_compress)
  F_law_deck : Fun K "_law_deck" "_law_deck" s_law_deck f_law_deck d_law_deck
  b_law_deck : Binds K d_law_deck ["_law_script"] []
  g_law_deck : mg "_law_deck" = some (.ref f_law_deck)
  F_law_draw : Fun K "_law_draw" "_law_draw" s_law_draw f_law_draw d_law_draw
  b_law_draw : Binds K d_law_draw ["_law_deck_here", "_law_limit"] []
  g_law_draw : mg "_law_draw" = some (.ref f_law_draw)
  F_law_same : Fun K "_law_same" "_law_same" s_law_same f_law_same d_law_same
  b_law_same : Binds K d_law_same ["_law_value", "_law_due"] []
  g_law_same : mg "_law_same" = some (.ref f_law_same)
  F_law_interval : Fun K "_law_interval" "_law_interval" s_law_interval f_law_interval d_law_interval
  b_law_interval : Binds K d_law_interval ["_law_deck_here", "_law_limit"] []
  g_law_interval : mg "_law_interval" = some (.ref f_law_interval)
  F_law_stretched : Fun K "_law_stretched" "_law_stretched" s_law_stretched f_law_stretched d_law_stretched
  b_law_stretched : Binds K d_law_stretched ["_law_row", "_law_factor", "_law_shift"] []
  g_law_stretched : mg "_law_stretched" = some (.ref f_law_stretched)
  F_law_index : Fun K "_law_index" "_law_index" s_law_index f_law_index d_law_index
  b_law_index : Binds K d_law_index ["_law_row", "_law_position"] []
  g_law_index : mg "_law_index" = some (.ref f_law_index)
  F_law : Fun K "law" "law" s_law f_law d_law
  b_law : Binds K d_law ["_law_script"] []
  g_law : mg "law" = some (.ref f_law)
  z_abs : mg "abs" = none
  z_enumerate : mg "enumerate" = none
  z_len : mg "len" = none
  z_range : mg "range" = none
  z_repr : mg "repr" = none
  z_set : mg "set" = none
  z_sorted : mg "sorted" = none
  z_tuple : mg "tuple" = none
  z_zip : mg "zip" = none
variable {P : Program} {w : World} {K : PySem.W.Frag} {mg : Str → Option Value} {base : Heap} {f_depth_changes f_find_blocks f_block_index f_compress f_law_deck f_law_draw f_law_same f_law_interval f_law_stretched f_law_index f_law : Addr} {d_depth_changes d_find_blocks d_block_index d_compress d_law_deck d_law_draw d_law_same d_law_interval d_law_stretched d_law_index d_law : FuncData}
abbrev TxA (K : PySem.W.Frag) (mg : Str → Option Value) (f_depth_changes f_find_blocks f_block_index f_compress f_law_deck f_law_draw f_law_same f_law_interval f_law_stretched f_law_index f_law : Addr) (d_depth_changes d_find_blocks d_block_index d_compress d_law_deck d_law_draw d_law_same d_law_interval d_law_stretched d_law_index d_law : FuncData) := Tx K mg f_depth_changes f_find_blocks f_block_index f_compress f_law_deck f_law_draw f_law_same f_law_interval f_law_stretched f_law_index f_law d_depth_changes d_find_blocks d_block_index d_compress d_law_deck d_law_draw d_law_same d_law_interval d_law_stretched d_law_index d_law 
theorem ok_law_deck (T : Tx K mg f_depth_changes f_find_blocks f_block_index f_compress f_law_deck f_law_draw f_law_same f_law_interval f_law_stretched f_law_index f_law d_depth_changes d_find_blocks d_block_index d_compress d_law_deck d_law_draw d_law_same d_law_interval d_law_stretched d_law_index d_law) : FnOk P w K mg base CX0 1 f_law_deck d_law_deck ["_law_script"] (sp_law_deck K) := by
  refine T.F_law_deck.ok sc_law_deck (fun vs H Q E h => ?_) (fun cdv A outer s H vs Q E hr h => ?_)
  · obtain ⟨a, ns, rfl, _⟩ := h
    rfl
  · obtain ⟨a, ns, rfl, hS, hlen, q⟩ := h
    refine ⟨_, (pss_one (ps_ret (pe_lst (pa_cons (pe_lc (own := [("_law_cell", 1)]) (g := (gName 1)) (tt := tYes) (by rfl) sc_law_deck.nd (pi_list (pe_slice sl_list (pv 0) po_none (po_some pe_int))) (blkOk_by (own := [("_law_cell", 1)]) (N := N_law_deck) (sc := defScope s_law_deck) (by decide +kernel)) (fun _ _ _ _ _ => (pg_name (i := 1) sc_law_deck.nd rfl (Or.inl rfl))) (fun _ _ _ _ _ => pts_nil) (fun _ _ _ _ _ => (pe_callB call_abs (by rfl) T.z_abs (by decide +kernel) (pa_cons (pv 1) pa_nil)))) (pa_cons pe_int pa_nil))))), ?_⟩
    refine ⟨.ref a, rfl, 63, rfl, a, ns.map V.int, rfl, hS, fun p np => ?_⟩
    rw [cut63 (by rw [List.length_map]; exact hlen)]
    have s1 : Same H (upd H p (.lst (ns.map V.int))) := same_new np
    refine ⟨p, rfl, ⟨_, SqL.of upd_same⟩, fun D nD => ?_⟩
    have nDp : D ≠ p := fun e => by
      rw [e, upd_same] at nD
      cases nD
    have nD0 : H D = none := by
      rw [upd_ne nDp] at nD
      exact nD
    refine lc_list (K := K) (a := p) (xs := ns.map V.int) (fun i H' => Same (upd H p (.lst (ns.map V.int))) H' ∧ H' D = some (.lst (((ns.take i).map fun (x : Int) => if x < 0 then -x else x).map V.int))) ⟨same_new nD, upd_same⟩ (fun i H' _ h => h.1.seq (SqL.of upd_same)) ?_ ?_
    · rintro i x H' hi ⟨sm, eD⟩
      rw [List.getElem?_map] at hi
      obtain ⟨n, en, rfl⟩ := Option.map_eq_some_iff.mp hi
      refine ⟨rfl, .int n, rfl, n, rfl, _, eD, ?_, ?_, ?_⟩
      · have : (List.take i ns).length ≤ ns.length := List.length_take_le' i ns
        simp only [List.length_map]
        exact small1000 (by omega)
      · intro b o e
        have nb : b ≠ D := ne_of_none e nD
        rw [upd_ne nb]
        exact sm b o e
      · rw [upd_same, List.take_add_one, en]
        simp
    · rintro H' ⟨sm, eD⟩
      rw [List.length_map, List.take_length] at eD
      refine ⟨by show 2 ≤ sizeLine; decide, fun d nd => ?_⟩
      have nDd : D ≠ d := ne_of_none eD nd
      have nd0 : H d = none := s1.free (sm.free nd)
      refine q _ d D (s1.trans (sm.trans (same_new nd))) nd0 nD0 ⟨upd_same, _, by rw [upd_ne nDd]; exact eD, by rw [List.length_map]; exact hlen, fun x hx => ?_⟩
      obtain ⟨y, _, rfl⟩ := List.mem_map.mp hx
      split <;> omega
theorem pow5 {x : Int} (h0 : 0 ≤ x) (h1 : x < 2 ^ 63) : x.natAbs < 2 ^ 64 := by omega
theorem ok_law_draw (T : Tx K mg f_depth_changes f_find_blocks f_block_index f_compress f_law_deck f_law_draw f_law_same f_law_interval f_law_stretched f_law_index f_law d_depth_changes d_find_blocks d_block_index d_compress d_law_deck d_law_draw d_law_same d_law_interval d_law_stretched d_law_index d_law) : FnOk P w K mg base CX0 1 f_law_draw d_law_draw ["_law_deck_here", "_law_limit"] sp_law_draw := by
  refine T.F_law_draw.ok sc_law_draw (fun vs H Q E h => ?_) (fun cdv A outer s H vs Q E hr h => ?_)
  · obtain ⟨d, c, n, lim, rfl, _⟩ := h
    rfl
  · obtain ⟨d, c, n, lim, rfl, dk, n0, n1, l0, l1, q⟩ := h
    obtain ⟨xs, ec, xl, xp⟩ := dk.cells
    have ncd := dk.ne
    have ed := dk.top
    have l64 : lim.natAbs < 2 ^ 64 := by omega
    have n64 : (n + 1).natAbs < 2 ^ 64 := by omega
    refine ⟨_, (pss_cons (ps_asg (pe_op op_add (pe_ix ix_list (pv 0) pe_int (fun _ _ => rfl)) pe_int) (pg_sub (pv 0) pe_int set_list))
      (pss_cons (ps_asg (pe_tup (pa_cons pe_int (pa_cons (pe_un un_neg pe_int) pa_nil))) (pg_tup rfl (pgs_cons (pg_name (i := 2) sc_law_draw.nd rfl (Or.inl rfl)) (pgs_cons (pg_name (i := 3) sc_law_draw.nd rfl (Or.inl rfl)) pgs_nil))))
      (pss_cons (ps_if (pt_cmpR op_gt (pe_callB call_len_seq (by rfl) T.z_len PySem.boot_len (pa_cons (pe_ix ix_list (pv 0) pe_int (fun _ _ => rfl)) pa_nil)) pe_int (nomark _))
      (pss_cons (ps_set (i := 3) sc_law_draw.nd rfl (Or.inl rfl) (pe_op op_mod (pe_ix ix_list (pv 0) pe_int (fun _ _ => rfl)) (pe_callB call_len_seq (by rfl) T.z_len PySem.boot_len (pa_cons (pe_ix ix_list (pv 0) pe_int (fun _ _ => rfl)) pa_nil))))
      (pss_one (ps_set (i := 2) sc_law_draw.nd rfl (Or.inl rfl) (pe_ix ix_list (pe_ix ix_list (pv 0) pe_int (fun _ _ => rfl)) (pv 3) (fun _ _ => rfl)))))
      pss_nil)
      (pss_cons (ps_if (pt_cmpR op_ge (pv 2) (pe_op op_pow pe_int pe_int) (nomark _))
      (pss_cons (ps_asg (pe_op op_fdivW (pv 2) (pv 1)) (pg_sub (pe_ix ix_list (pv 0) pe_int (fun _ _ => rfl)) (pv 3) set_list))
      (pss_one (ps_ret (pe_op op_mod (pv 2) (pv 1)))))
      pss_nil)
      (pss_one (ps_ret (pe_op op_mod (pe_op op_fdivW (pe_op op_mod (pe_op op_pow (pe_op op_add (pe_op op_add (pe_op op_mod (pv 2) pe_int) (pe_op op_mulW pe_int (pe_ix ix_list (pv 0) pe_int (fun _ _ => rfl)))) pe_int) pe_int) pe_int) pe_int) (pv 1)))))))), ?_⟩
    -- deck[1] = deck[1] + 1
    refine ⟨.ref d, rfl, d, _, 1, .int n, rfl, rfl, SqL.of ed, rfl, n, 1, rfl, rfl, .ref d, rfl, d, _, 1, 1, rfl, rfl, ed, rfl, ?_⟩
    -- cell, index = (0, -1)
    refine ⟨1, rfl, by show 2 ≤ sizeLine; decide, fun t nt => ?_⟩
    generalize eH : upd (upd H d (.lst ([V.ref c, V.int n].set 1 (.int (n + 1))))) t (.tup [.int 0, .int (-1)]) = H1
    have nt' : t ≠ d := fun e => by
      rw [e, upd_same] at nt
      cases nt
    have nt0 : H t = none := by
      rw [upd_ne nt'] at nt
      exact nt
    have ntc : c ≠ t := ne_of_none ec nt0
    have ed1 : H1 d = some (.lst [.ref c, .int (n + 1)]) := by
      rw [← eH, upd_ne nt'.symm, upd_same]
      rfl
    have ec1 : H1 c = some (.lst (xs.map V.int)) := by
      rw [← eH, upd_ne ntc, upd_ne ncd]
      exact ec
    have kp1 : Kp d c H H1 := fun b o nb _ e => by
      rw [← eH, upd_ne (ne_of_none e nt0), upd_ne nb]
      exact e
    have et1 : H1 t = some (.tup [.int 0, .int (-1)]) := by
      rw [← eH, upd_same]
    have dk1 : Dk H1 d c (n + 1) := ⟨ed1, xs, ec1, xl, xp⟩
    refine ⟨t, _, rfl, SqT.of et1, rfl, .int 0, [.int (-1)], rfl, .int (-1), [], rfl, rfl, ?_⟩
    -- if len(deck[0]) > 0
    refine ⟨.ref d, rfl, d, _, 0, .ref c, rfl, rfl, SqL.of ed1, rfl, c, _, rfl, .inl (SqL.of ec1), _, _, rfl, rfl, _, rfl, ite2 (fun e => ?_) (fun e => ?_)⟩
    · have e1 := of_decide_eq_true e
      rw [List.length_map] at e1
      have lp : (0 : Int) < (xs.map V.int).length := by rw [List.length_map]; exact e1
      have rem0 : 0 ≤ (n + 1) % ((xs.map V.int).length : Int) := Int.emod_nonneg _ (by omega)
      have rem1 : (n + 1) % ((xs.map V.int).length : Int) < (xs.map V.int).length := Int.emod_lt_of_pos _ lp
      obtain ⟨j, ej⟩ : ∃ j : Nat, (n + 1) % ((xs.map V.int).length : Int) = j := ⟨_, (Int.toNat_of_nonneg rem0).symm⟩
      have hj : j < xs.length := by
        rw [ej, List.length_map] at rem1
        omega
      have gj : (xs.map V.int)[j]? = some (.int xs[j]) := by
        rw [List.getElem?_map, List.getElem?_eq_getElem hj]
        rfl
      have x0 : 0 ≤ xs[j] := xp _ (List.getElem_mem hj)
      -- index = deck[1] % len(deck[0]); cell = deck[0][index]
      refine ⟨.ref d, rfl, d, _, 1, .int (n + 1), rfl, rfl, SqL.of ed1, rfl, .ref d, rfl, d, _, 0, .ref c, rfl, rfl, SqL.of ed1, rfl, c, _, rfl, .inl (SqL.of ec1), _, _, rfl, rfl, lp, ?_⟩
      refine ⟨.ref d, rfl, d, _, 0, .ref c, rfl, rfl, SqL.of ed1, rfl, .int _, rfl, c, _, _, .int xs[j], rfl, rfl, SqL.of ec1, (by rw [ej]; exact atI_nat gj), ?_⟩
      -- if cell >= 10 ** 18
      refine ⟨.int xs[j], rfl, 10, 18, rfl, rfl, ⟨by decide, by decide, by decide⟩, _, _, rfl, rfl, _, rfl, ite2 (fun e2 => ?_) (fun e2 => ?_)⟩
      · -- deck[0][index] = cell // limit; return cell % limit
        refine ⟨.int xs[j], rfl, .int lim, rfl, _, _, rfl, rfl, wide_div l0 l64 (by decide) (by decide), .ref d, rfl, d, _, 0, .ref c, rfl, rfl, SqL.of ed1, rfl, .int _, rfl, c, _, _, j, rfl, rfl, ec1, ?_, ?_⟩
        · rw [ej]
          unfold ixN
          rw [if_pos (by omega), if_pos (by rw [List.length_map]; omega)]
          rfl
        · refine ⟨.int xs[j], rfl, .int lim, rfl, _, _, rfl, rfl, l0, ?_⟩
          refine q _ _ ?_ ⟨?_, xs.set j (xs[j] / lim), ?_, ?_, ?_⟩ (Int.emod_nonneg _ (by omega)) (Int.emod_lt_of_pos _ l0)
          · intro b o nb nc e
            rw [upd_ne nc]
            exact kp1 b o nb nc e
          · rw [upd_ne ncd.symm]
            exact ed1
          · rw [upd_same, List.map_set]
          · rw [List.length_set]
            exact xl
          · intro x hx
            rcases List.mem_or_eq_of_mem_set hx with hm | he
            · exact xp x hm
            · rw [he]
              exact Int.ediv_nonneg x0 (by omega)
      · refine ⟨.int xs[j], rfl, _, _, rfl, rfl, (by show (0 : Int) < 2147483587; decide), .ref d, rfl, d, _, 1, .int (n + 1), rfl, rfl, SqL.of ed1, rfl, _, _, rfl, rfl, wide_mul (a := 13) (b := 64) (by decide) n64 (by decide) (by decide) (by decide), _, _, rfl, rfl, _, _, rfl, rfl, _, _, rfl, rfl, ⟨by decide, by decide, ?_⟩, _, _, rfl, rfl, (by show (0 : Int) < 2147483647; decide), _, _, rfl, rfl, wide_div (b := 3) (by decide) (by decide) (by decide) (by decide), .int lim, rfl, _, _, rfl, rfl, l0, ?_⟩
        · have a0 := Int.emod_nonneg xs[j] (show (2147483587 : Int) ≠ 0 by decide)
          have a1 := Int.emod_lt_of_pos xs[j] (show (0 : Int) < 2147483587 by decide)
          omega
        · exact q _ _ kp1 dk1 (Int.emod_nonneg _ (by omega)) (Int.emod_lt_of_pos _ l0)
    · -- the cell is 0
      refine ⟨.int 0, rfl, 10, 18, rfl, rfl, ⟨by decide, by decide, by decide⟩, _, _, rfl, rfl, _, rfl, ite2 (fun e2 => ?_) (fun e2 => ?_)⟩
      · exact absurd e2 (by decide)
      · refine ⟨.int 0, rfl, _, _, rfl, rfl, (by show (0 : Int) < 2147483587; decide), .ref d, rfl, d, _, 1, .int (n + 1), rfl, rfl, SqL.of ed1, rfl, _, _, rfl, rfl, wide_mul (a := 13) (b := 64) (by decide) n64 (by decide) (by decide) (by decide), _, _, rfl, rfl, _, _, rfl, rfl, _, _, rfl, rfl, ⟨by decide, by decide, ?_⟩, _, _, rfl, rfl, (by show (0 : Int) < 2147483647; decide), _, _, rfl, rfl, wide_div (b := 3) (by decide) (by decide) (by decide) (by decide), .int lim, rfl, _, _, rfl, rfl, l0, ?_⟩
        · have a0 := Int.emod_nonneg 0 (show (2147483587 : Int) ≠ 0 by decide)
          have a1 := Int.emod_lt_of_pos 0 (show (0 : Int) < 2147483587 by decide)
          omega
        · exact q _ _ kp1 dk1 (Int.emod_nonneg _ (by omega)) (Int.emod_lt_of_pos _ l0)
def sp_law_interval : Sp := fun vs H Q _ => ∃ (d c : Addr) (n lim : Int), vs = [.ref d, .int lim] ∧ Dk H d c n ∧ 0 ≤ n ∧ n < 999990 ∧ 0 < lim ∧ lim < 2 ^ 62 ∧
  ∀ H' lo hi t, Kp d c H H' → Dk H' d c (n + 2) → 0 ≤ lo → lo ≤ hi → hi < lim → H t = none → H' t = some (.tup [.int lo, .int hi]) → Q (.ref t) H'
theorem Kp.none {d c : Addr} {H H' : Hp} (k : Kp d c H H') {n m : Int} (h : Dk H d c n) (h' : Dk H' d c m) {t : Addr} (e : H' t = none) : H t = none := by
  by_cases e1 : t = d
  · rw [e1, h'.top] at e
    cases e
  · by_cases e2 : t = c
    · obtain ⟨xs, z, _⟩ := h'.cells
      rw [e2, z] at e
      cases e
    · cases q : H t with
      | none => rfl
      | some o =>
        rw [k t o e1 e2 q] at e
        cases e
theorem Dk.kept {H H' : Hp} {d c : Addr} {n : Int} (h : Dk H d c n) (s : Same H H') : Dk H' d c n :=
  let ⟨xs, e, a⟩ := h.cells
  ⟨s _ _ h.top, xs, s _ _ e, a⟩
theorem ok_law_interval (T : Tx K mg f_depth_changes f_find_blocks f_block_index f_compress f_law_deck f_law_draw f_law_same f_law_interval f_law_stretched f_law_index f_law d_depth_changes d_find_blocks d_block_index d_compress d_law_deck d_law_draw d_law_same d_law_interval d_law_stretched d_law_index d_law) : FnOk P w K mg base CX0 2 f_law_interval d_law_interval ["_law_deck_here", "_law_limit"] sp_law_interval := by
  refine T.F_law_interval.ok sc_law_interval (fun vs H Q E h => ?_) (fun cdv A outer s H vs Q E hr h => ?_)
  · obtain ⟨d, c, n, lim, rfl, _⟩ := h
    rfl
  · obtain ⟨d, c, n, lim, rfl, dk, n0, n1, l0, l1, q⟩ := h
    refine ⟨_, (pss_cons (ps_set (i := 2) sc_law_interval.nd rfl (Or.inl rfl) (pe_call (ok_law_draw T) (hr.mono (by decide)) (by rfl) T.g_law_draw T.F_law_draw.kp T.b_law_draw .nil pass0 (pa_cons (pv 0) (pa_cons (pv 1) pa_nil))))
      (pss_one (ps_ret (pe_tup (pa_cons (pv 2) (pa_cons (pe_op op_add (pv 2) (pe_call (ok_law_draw T) (hr.mono (by decide)) (by rfl) T.g_law_draw T.F_law_draw.kp T.b_law_draw .nil pass0 (pa_cons (pv 0) (pa_cons (pe_op op_sub (pv 1) (pv 2)) pa_nil)))) pa_nil)))))), ?_⟩
    refine ⟨.ref d, rfl, .int lim, rfl, d, c, n, lim, rfl, dk, n0, by omega, l0, by omega, fun H1 lo kp1 dk1 lo0 lo1 => ?_⟩
    refine ⟨.int lo, rfl, .int lo, rfl, .ref d, rfl, .int lim, rfl, .int lo, rfl, _, _, rfl, rfl, d, c, n + 1, lim - lo, rfl, dk1, by omega, by omega, by omega, by omega, fun H2 r kp2 dk2 r0 r1 => ?_⟩
    refine ⟨_, _, rfl, rfl, by show 2 ≤ sizeLine; decide, fun t nt => ?_⟩
    have s := same_new (o := .tup [.int lo, .int (lo + r)]) nt
    have kp : Kp d c H H2 := kp1.trans kp2
    refine q _ lo (lo + r) t (kp.trans (Kp.same s)) ?_ lo0 (by omega) (by omega) (kp.none dk dk2 nt) upd_same
    have e : n + 1 + 1 = n + 2 := by omega
    rw [e] at dk2
    exact dk2.kept s

/-! ### what stays when the heap grows, or the deck is drawn from -/
theorem rd_same {H H' : Hp} (s : Same H H') {a : Addr} {u : HO} (h : Rd H a u) : Rd H' a u := by
  rcases h with h | ⟨o, h⟩
  · exact .inl (s _ _ h)
  · exact .inr ⟨o, s _ _ h⟩
theorem sqT_same {K : PySem.W.Frag} {H H' : Hp} (s : Same H H') {a : Addr} {xs : List V} (h : SqT K H a xs) : SqT K H' a xs := by
  rcases h with h | h
  · exact .inl (rd_same s h)
  · exact .inr h
theorem dp_same {K : PySem.W.Frag} {H H' : Hp} (s : Same H H') {v : V} {d : PyData} (h : Dp K H v d) : Dp K H' v d := by
  refine Dp.rec (K := K) (H := H) (motive_1 := fun v d _ => Dp K H' v d) (motive_2 := fun vs ds _ => DpAll K H' vs ds) .non (fun b => .bl b) (fun i => .int i) (fun x => .str x) (fun hs _ q => .lst (s.seq hs) q) (fun hs _ q => .tup (sqT_same s hs) q) .nil (fun _ _ a b => .cons a b) h
theorem Kp.keep {d c : Addr} {H H' : Hp} (k : Kp d c H H') {a : Addr} {o : HO} (n1 : a ≠ d) (n2 : a ≠ c) (h : H a = some o) : H' a = some o := k a o n1 n2 h
theorem Kp.tup {d c : Addr} {n : Int} {H H' : Hp} (k : Kp d c H H') (dk : Dk H d c n) {a : Addr} {xs : List V} (h : H a = some (.tup xs)) : H' a = some (.tup xs) := by
  obtain ⟨ys, e, _⟩ := dk.cells
  exact k a _ (ne_of h dk.top (fun z => by cases z)) (ne_of h e (fun z => by cases z)) h
theorem Dk.off {H : Hp} {d c : Addr} {n : Int} (h : Dk H d c n) {p : Addr} (e : H p = none) : p ≠ d ∧ p ≠ c := by
  obtain ⟨ys, z, _⟩ := h.cells
  exact ⟨(ne_of_none h.top e).symm, (ne_of_none z e).symm⟩
theorem dp2 {K : PySem.W.Frag} {H : Hp} {t : Addr} {x y : Int} (h : H t = some (.tup [.int x, .int y])) : Dp K H (.ref t) (.tuple [.int x, .int y]) := .tup (SqT.of h) (.cons (.int x) (.cons (.int y) .nil))
theorem sm2 {x y : Int} (h1 : x.natAbs < 10 ^ 30) (h2 : y.natAbs < 10 ^ 30) : Sm 202 1 (.tuple [.int x, .int y]) := by
  have h := Sm.tup (n := 100) (dp := 0) (ds := [.int x, .int y]) (fun d hd => by
    rcases List.mem_cons.mp hd with rfl | hd
    · exact Sm.int h1
    · rcases List.mem_cons.mp hd with rfl | hd
      · exact Sm.int h2
      · cases hd)
  exact h
/-- an interval, or None -/
def optD : Option (Int × Int) → PyData
  | none => .none
  | some (x, y) => .tuple [.int x, .int y]
def OV (H : Hp) (v : V) : Option (Int × Int) → Prop
  | none => v = .non
  | some (x, y) => ∃ t, v = .ref t ∧ H t = some (.tup [.int x, .int y])
theorem OV.same {H H' : Hp} (s : Same H H') {v : V} {o : Option (Int × Int)} (h : OV H v o) : OV H' v o := by
  match o, h with
  | none, h => exact h
  | some (x, y), h =>
    obtain ⟨t, e, z⟩ := h
    exact ⟨t, e, s _ _ z⟩
theorem OV.kp {d c : Addr} {n : Int} {H H' : Hp} (k : Kp d c H H') (dk : Dk H d c n) {v : V} {o : Option (Int × Int)} (h : OV H v o) : OV H' v o := by
  match o, h with
  | none, h => exact h
  | some (x, y), h =>
    obtain ⟨t, e, z⟩ := h
    exact ⟨t, e, k.tup dk z⟩
theorem OV.dp {K : PySem.W.Frag} {H : Hp} {v : V} {o : Option (Int × Int)} (h : OV H v o) : Dp K H v (optD o) := by
  match o, h with
  | none, h =>
    cases h
    exact .non
  | some (x, y), h =>
    obtain ⟨t, e, z⟩ := h
    subst e
    exact dp2 z

/-! ### rows of intervals -/
inductive Ivs (H : Hp) : List V → List (Int × Int) → Prop
  | nil : Ivs H [] []
  | cons {a : Addr} {x y : Int} {vs : List V} {ps : List (Int × Int)} : H a = some (.tup [.int x, .int y]) → Ivs H vs ps → Ivs H (.ref a :: vs) ((x, y) :: ps)
theorem Ivs.length {H : Hp} {vs : List V} {ps : List (Int × Int)} (h : Ivs H vs ps) : vs.length = ps.length := by
  induction h with
  | nil => rfl
  | cons _ _ ih => rw [List.length_cons, List.length_cons, ih]
theorem Ivs.same {H H' : Hp} (s : Same H H') {vs : List V} {ps : List (Int × Int)} (h : Ivs H vs ps) : Ivs H' vs ps := by
  induction h with
  | nil => exact .nil
  | cons e _ ih => exact .cons (s _ _ e) ih
theorem Ivs.kp {d c : Addr} {n : Int} {H H' : Hp} (k : Kp d c H H') (dk : Dk H d c n) {vs : List V} {ps : List (Int × Int)} (h : Ivs H vs ps) : Ivs H' vs ps := by
  induction h with
  | nil => exact .nil
  | cons e _ ih => exact .cons (k.tup dk e) ih
theorem Ivs.get {H : Hp} {vs : List V} {ps : List (Int × Int)} (h : Ivs H vs ps) : ∀ {i : Nat} {v : V}, vs[i]? = some v → ∃ a x y, v = .ref a ∧ ps[i]? = some (x, y) ∧ H a = some (.tup [.int x, .int y]) := by
  induction h with
  | nil =>
    intro i v e
    simp at e
  | cons e _ ih =>
    intro i v q
    cases i with
    | zero =>
      cases q
      exact ⟨_, _, _, rfl, rfl, e⟩
    | succ i => exact ih q
theorem Ivs.snoc {H : Hp} {vs : List V} {ps : List (Int × Int)} {a : Addr} {x y : Int} (h : Ivs H vs ps) (e : H a = some (.tup [.int x, .int y])) : Ivs H (vs ++ [.ref a]) (ps ++ [(x, y)]) := by
  induction h with
  | nil => exact .cons e .nil
  | cons z _ ih => exact .cons z ih
def pairD (p : Int × Int) : PyData := .tuple [.int p.1, .int p.2]
theorem Ivs.dp {K : PySem.W.Frag} {H : Hp} {vs : List V} {ps : List (Int × Int)} (h : Ivs H vs ps) : DpAll K H vs (ps.map pairD) := by
  induction h with
  | nil => exact .nil
  | cons e _ ih => exact .cons (dp2 e) ih

def strI (f s : Int) (p : Int × Int) : Int × Int := (p.1 * f + s, p.2 * f + f - 1 + s)

/-! ### blocks, position by position -/
def depI (row : List (Int × Int)) (p : Int) : Int := (row.map fun q => if q.1 ≤ p ∧ p ≤ q.2 then (1 : Int) else 0).sum
def delI (row : List (Int × Int)) (p : Int) : Int := (row.map fun q => (if q.1 = p then (1 : Int) else 0) - (if q.2 + 1 = p then 1 else 0)).sum
def Bd (row : List (Int × Int)) (p : Int) : Prop := ∃ q ∈ row, q.1 = p ∨ q.2 + 1 = p
def Good (row : List (Int × Int)) : Prop := ∀ q ∈ row, 0 ≤ q.1 ∧ q.1 ≤ q.2
instance (row : List (Int × Int)) (p : Int) : Decidable (Bd row p) := by
  unfold Bd
  infer_instance
theorem Good.tail {q : Int × Int} {row : List (Int × Int)} (g : Good (q :: row)) : Good row := fun x hx => g x (List.mem_cons_of_mem _ hx)
theorem dep_step : ∀ {row : List (Int × Int)}, Good row → ∀ p : Int, depI row p = depI row (p - 1) + delI row p
  | [], _, _ => rfl
  | q :: row, g, p => by
    have ih := dep_step g.tail p
    have z := g q List.mem_cons_self
    unfold depI delI at *
    simp only [List.map_cons, List.sum_cons]
    rw [ih]
    split <;> split <;> split <;> split <;> omega
theorem del_zero : ∀ {row : List (Int × Int)} {p : Int}, ¬ Bd row p → delI row p = 0
  | [], _, _ => rfl
  | q :: row, p, h => by
    have ih := del_zero (row := row) (p := p) fun ⟨x, hx, e⟩ => h ⟨x, List.mem_cons_of_mem _ hx, e⟩
    have n1 : ¬ q.1 = p := fun e => h ⟨q, List.mem_cons_self, .inl e⟩
    have n2 : ¬ q.2 + 1 = p := fun e => h ⟨q, List.mem_cons_self, .inr e⟩
    unfold delI at *
    simp only [List.map_cons, List.sum_cons]
    rw [ih, if_neg n1, if_neg n2]
    rfl
theorem dep_nonneg : ∀ (row : List (Int × Int)) (p : Int), 0 ≤ depI row p
  | [], _ => Int.le_refl _
  | q :: row, p => by
    have ih := dep_nonneg row p
    unfold depI at *
    simp only [List.map_cons, List.sum_cons]
    split <;> omega
theorem dep_pos : ∀ {row : List (Int × Int)} {p : Int}, 0 < depI row p ↔ ∃ q ∈ row, q.1 ≤ p ∧ p ≤ q.2
  | [], p => by
    constructor
    · intro h
      exact absurd h (by show ¬ (0 : Int) < 0; decide)
    · rintro ⟨q, h, _⟩
      cases h
  | q :: row, p => by
    have ih := dep_pos (row := row) (p := p)
    have nn := dep_nonneg row p
    have e : depI (q :: row) p = (if q.1 ≤ p ∧ p ≤ q.2 then (1 : Int) else 0) + depI row p := by
      unfold depI
      rw [List.map_cons, List.sum_cons]
    rw [e]
    by_cases h : q.1 ≤ p ∧ p ≤ q.2
    · rw [if_pos h]
      constructor
      · intro _
        exact ⟨q, List.mem_cons_self, h⟩
      · intro _
        omega
    · rw [if_neg h]
      constructor
      · intro z
        obtain ⟨x, hx, w⟩ := ih.mp (by omega)
        exact ⟨x, List.mem_cons_of_mem _ hx, w⟩
      · rintro ⟨x, hx, w⟩
        rcases List.mem_cons.mp hx with rfl | hx
        · exact absurd w h
        · have := ih.mpr ⟨x, hx, w⟩
          omega
theorem dep_zero {row : List (Int × Int)} {p : Int} (h : ∀ q ∈ row, p < q.1 ∨ q.2 < p) : depI row p = 0 := by
  have nn := dep_nonneg row p
  by_cases z : 0 < depI row p
  · obtain ⟨q, hq, w⟩ := dep_pos.mp z
    have := h q hq
    omega
  · omega
theorem dep_const {row : List (Int × Int)} (g : Good row) {a : Int} : ∀ k : Nat, (∀ j : Int, a < j → j ≤ a + k → ¬ Bd row j) → depI row (a + k) = depI row a
  | 0, _ => by
    rw [show a + ((0 : Nat) : Int) = a by omega]
  | k + 1, h => by
    have ih := dep_const g k fun j h1 h2 => h j h1 (by omega)
    rw [dep_step g, del_zero (h _ (by omega) (Int.le_refl _)), show a + ((k + 1 : Nat) : Int) - 1 = a + (k : Int) by omega, ih]
    omega
def extl (l : List (Int × Int)) (p : Int) : List (Int × Int) := l.dropLast ++ (l.getLast?.map fun q => (q.1, p)).toList
theorem extl_snoc (l : List (Int × Int)) (q : Int × Int) (p : Int) : extl (l ++ [q]) p = l ++ [(q.1, p)] := by
  unfold extl
  rw [List.dropLast_concat, List.getLast?_concat]
  rfl
theorem extl_nil (p : Int) : extl [] p = [] := rfl
theorem extl_extl (l : List (Int × Int)) (p r : Int) : extl (extl l p) r = extl l r := by
  rcases List.eq_nil_or_concat l with rfl | ⟨m, q, rfl⟩
  · rfl
  · rw [List.concat_eq_append, extl_snoc, extl_snoc, extl_snoc]
theorem extl_ne {l : List (Int × Int)} (h : l ≠ []) (p : Int) : extl l p ≠ [] := by
  rcases List.eq_nil_or_concat l with rfl | ⟨m, q, rfl⟩
  · exact absurd rfl h
  · rw [List.concat_eq_append, extl_snoc]
    exact List.append_ne_nil_of_right_ne_nil _ (List.cons_ne_nil _ _)
theorem extl_map (f : Int × Int → Int × Int) {l : List (Int × Int)} {p r : Int} (h : ∀ q : Int × Int, f (q.1, p) = ((f q).1, r)) : extl (l.map f) r = (extl l p).map f := by
  rcases List.eq_nil_or_concat l with rfl | ⟨m, q, rfl⟩
  · rfl
  · rw [List.concat_eq_append, extl_snoc, List.map_append, List.map_singleton, extl_snoc, List.map_append, List.map_singleton, h]
/-- the blocks of the positions below n -/
def Cb (row : List (Int × Int)) : Nat → List (Int × Int)
  | 0 => []
  | n + 1 => if 0 < depI row n then (if Bd row n then Cb row n ++ [((n : Int), (n : Int))] else extl (Cb row n) n) else Cb row n
theorem Cb_succ (row : List (Int × Int)) (n : Nat) : Cb row (n + 1) = if 0 < depI row n then (if Bd row n then Cb row n ++ [((n : Int), (n : Int))] else extl (Cb row n) n) else Cb row n := rfl
theorem Cb_seg {row : List (Int × Int)} (g : Good row) {a : Nat} : ∀ k : Nat, (∀ j : Int, (a : Int) < j → j ≤ a + k → ¬ Bd row j) →
    Cb row (a + k + 1) = if 0 < depI row a then (if Bd row a then Cb row a ++ [((a : Int), (a : Int) + k)] else extl (Cb row a) (a + k)) else Cb row a
  | 0, _ => by
    rw [Nat.add_zero, Cb_succ, show (a : Int) + ((0 : Nat) : Int) = a by omega]
  | k + 1, h => by
    have ih := Cb_seg g k fun j h1 h2 => h j h1 (by omega)
    have dc := dep_const g (k + 1) h
    have cast : (((a + (k + 1)) : Nat) : Int) = (a : Int) + ((k + 1 : Nat) : Int) := by omega
    rw [Cb_succ, cast, dc]
    by_cases hd : 0 < depI row a
    · rw [if_pos hd, if_neg (h _ (by omega) (Int.le_refl _)), show a + (k + 1) = a + k + 1 by omega, ih, if_pos hd]
      by_cases hb : Bd row a
      · rw [if_pos hb, if_pos hb, if_pos hd, extl_snoc]
      · rw [if_neg hb, if_neg hb, if_pos hd, extl_extl]
    · rw [if_neg hd, if_neg hd, show a + (k + 1) = a + k + 1 by omega, ih, if_neg hd]
theorem Cb_top {row : List (Int × Int)} {N : Nat} (h : ∀ q ∈ row, q.2 + 1 ≤ N) : ∀ k : Nat, Cb row (N + k) = Cb row N
  | 0 => rfl
  | k + 1 => by
    have z : depI row ((N + k : Nat) : Int) = 0 := dep_zero fun q hq => by
      have := h q hq
      omega
    rw [show N + (k + 1) = (N + k) + 1 by omega, Cb_succ, z, if_neg (by omega)]
    exact Cb_top h k
theorem Cb_low {row : List (Int × Int)} : ∀ {N : Nat}, (∀ q ∈ row, (N : Int) ≤ q.1) → Cb row N = []
  | 0, _ => rfl
  | N + 1, h => by
    have z : depI row (N : Int) = 0 := dep_zero fun q hq => by
      have := h q hq
      omega
    rw [Cb_succ, z, if_neg (by omega)]
    exact Cb_low fun q hq => by
      have := h q hq
      omega
def topN : List (Int × Int) → Nat
  | [] => 0
  | q :: r => max (q.2 + 1).toNat (topN r)
theorem topN_le : ∀ {row : List (Int × Int)} {q : Int × Int}, q ∈ row → q.2 + 1 ≤ topN row
  | r :: row, q, h => by
    rcases List.mem_cons.mp h with rfl | h
    · show q.2 + 1 ≤ ((max (q.2 + 1).toNat (topN row) : Nat) : Int)
      omega
    · have := topN_le h
      show q.2 + 1 ≤ ((max (r.2 + 1).toNat (topN row) : Nat) : Int)
      omega
def blocksOf (row : List (Int × Int)) : List (Int × Int) := Cb row (topN row)
theorem Cb_all {row : List (Int × Int)} {N : Nat} (h : ∀ q ∈ row, q.2 + 1 ≤ N) : Cb row N = blocksOf row := by
  unfold blocksOf
  rcases Nat.le_total N (topN row) with z | z
  · obtain ⟨k, e⟩ := Nat.le.dest z
    rw [← e, Cb_top h k]
  · obtain ⟨k, e⟩ := Nat.le.dest z
    rw [← e, Cb_top (fun q hq => topN_le hq) k]
theorem Cb_ne {row : List (Int × Int)} (g : Good row) : ∀ n : Nat, 0 < depI row n → Cb row (n + 1) ≠ []
  | 0, h => by
    obtain ⟨q, hq, w⟩ := dep_pos.mp h
    have z := g q hq
    have hb : Bd row ((0 : Nat) : Int) := ⟨q, hq, .inl (by omega)⟩
    rw [Cb_succ, if_pos h, if_pos hb]
    exact List.append_ne_nil_of_right_ne_nil _ (List.cons_ne_nil _ _)
  | n + 1, h => by
    rw [Cb_succ, if_pos h]
    by_cases hb : Bd row ((n + 1 : Nat) : Int)
    · rw [if_pos hb]
      exact List.append_ne_nil_of_right_ne_nil _ (List.cons_ne_nil _ _)
    · rw [if_neg hb]
      have e := dep_step g ((n + 1 : Nat) : Int)
      rw [del_zero hb, show ((n + 1 : Nat) : Int) - 1 = (n : Int) by omega] at e
      exact extl_ne (Cb_ne g n (by omega)) _
/-- the blocks of stretched intervals -/
theorem bd_str {row : List (Int × Int)} {f s : Int} {j : Int} : Bd (row.map (strI f s)) j ↔ ∃ b, Bd row b ∧ j = b * f + s := by
  constructor
  · rintro ⟨q, hq, h⟩
    obtain ⟨r, hr, rfl⟩ := List.mem_map.mp hq
    rcases h with h | h
    · exact ⟨r.1, ⟨r, hr, .inl rfl⟩, h.symm⟩
    · refine ⟨r.2 + 1, ⟨r, hr, .inr rfl⟩, ?_⟩
      rw [← h, Int.add_mul]
      show r.2 * f + f - 1 + s + 1 = r.2 * f + 1 * f + s
      omega
  · rintro ⟨b, ⟨r, hr, h⟩, rfl⟩
    refine ⟨strI f s r, List.mem_map.mpr ⟨r, hr, rfl⟩, ?_⟩
    rcases h with h | h
    · exact .inl (by rw [← h]; rfl)
    · refine .inr ?_
      rw [← h, Int.add_mul]
      show r.2 * f + f - 1 + s + 1 = r.2 * f + 1 * f + s
      omega
theorem mul_le_iff {a b f : Int} (hf : 0 < f) : a * f ≤ b * f ↔ a ≤ b := ⟨fun h => Int.le_of_mul_le_mul_right h hf, fun h => Int.mul_le_mul_of_nonneg_right h (by omega)⟩
theorem dep_str {f s : Int} (hf : 0 < f) : ∀ {row : List (Int × Int)} {N : Int}, depI (row.map (strI f s)) (N * f + s) = depI row N
  | [], _ => rfl
  | q :: row, N => by
    have ih := dep_str (s := s) hf (row := row) (N := N)
    have e1 := mul_le_iff (a := q.1) (b := N) hf
    have e2 := mul_le_iff (a := N) (b := q.2) hf
    have e3 : N * f ≤ q.2 * f + f - 1 ↔ N ≤ q.2 := by
      constructor
      · intro h
        by_cases z : N ≤ q.2
        · exact z
        · have w := (mul_le_iff (a := q.2 + 1) (b := N) hf).mpr (by omega)
          rw [Int.add_mul] at w
          omega
      · intro h
        have := e2.mpr h
        omega
    have c : (q.1 * f + s ≤ N * f + s ∧ N * f + s ≤ q.2 * f + f - 1 + s) ↔ (q.1 ≤ N ∧ N ≤ q.2) := by
      rw [← e1, ← e3]
      constructor
      · rintro ⟨h1, h2⟩
        exact ⟨by omega, by omega⟩
      · rintro ⟨h1, h2⟩
        exact ⟨by omega, by omega⟩
    unfold depI at *
    simp only [List.map_cons, List.sum_cons]
    rw [ih]
    congr 1
    show (if q.1 * f + s ≤ N * f + s ∧ N * f + s ≤ q.2 * f + f - 1 + s then (1 : Int) else 0) = _
    by_cases z : q.1 ≤ N ∧ N ≤ q.2
    · rw [if_pos z, if_pos (c.mpr z)]
    · rw [if_neg z, if_neg (fun w => z (c.mp w))]
theorem good_str {row : List (Int × Int)} (g : Good row) {f s : Int} (hf : 0 < f) (hs : 0 ≤ s) : Good (row.map (strI f s)) := by
  intro q hq
  obtain ⟨r, hr, rfl⟩ := List.mem_map.mp hq
  have z := g r hr
  have m1 := (mul_le_iff (a := 0) (b := r.1) hf).mpr z.1
  have m2 := (mul_le_iff (a := r.1) (b := r.2) hf).mpr z.2
  constructor
  · show 0 ≤ r.1 * f + s
    omega
  · show r.1 * f + s ≤ r.2 * f + f - 1 + s
    omega
theorem Cb_str {row : List (Int × Int)} (g : Good row) {f s : Int} (hf : 0 < f) (hs : 0 ≤ s) : ∀ N : Nat, Cb (row.map (strI f s)) ((N : Int) * f + s).toNat = (Cb row N).map (strI f s)
  | 0 => by
    have e : ((0 : Nat) : Int) * f + s = s := by
      rw [show ((0 : Nat) : Int) = 0 from rfl, Int.zero_mul]
      omega
    rw [e, Cb_low]
    · rfl
    · intro q hq
      obtain ⟨r, hr, rfl⟩ := List.mem_map.mp hq
      have z := g r hr
      have m1 := (mul_le_iff (a := 0) (b := r.1) hf).mpr z.1
      show ((s.toNat : Nat) : Int) ≤ r.1 * f + s
      omega
  | N + 1 => by
    have ih := Cb_str g hf hs N
    have nn := (mul_le_iff (a := 0) (b := N) hf).mpr (by omega)
    have cast : (((N : Int) * f + s).toNat : Int) = (N : Int) * f + s := by omega
    have e : (((N + 1 : Nat) : Int) * f + s).toNat = ((N : Int) * f + s).toNat + (f - 1).toNat + 1 := by
      have : ((N + 1 : Nat) : Int) * f = (N : Int) * f + f := by
        rw [show ((N + 1 : Nat) : Int) = (N : Int) + 1 by omega, Int.add_mul, Int.one_mul]
      omega
    have seg := Cb_seg (good_str g hf hs) (a := ((N : Int) * f + s).toNat) (f - 1).toNat (fun j h1 h2 hb => by
      obtain ⟨b, _, ej⟩ := bd_str.mp hb
      rw [cast] at h1 h2
      have l1 : (N : Int) < b := by
        by_cases z : b ≤ N
        · have := (mul_le_iff (a := b) (b := N) hf).mpr z
          omega
        · omega
      have := (mul_le_iff (a := (N : Int) + 1) (b := b) hf).mpr (by omega)
      rw [Int.add_mul] at this
      omega)
    have eb : Bd (row.map (strI f s)) ((N : Int) * f + s) ↔ Bd row N := by
      constructor
      · intro h
        obtain ⟨b, hb, ej⟩ := bd_str.mp h
        have : b = N := by
          rcases Int.lt_trichotomy b N with z | z | z
          · have := (mul_le_iff (a := b + 1) (b := N) hf).mpr (by omega)
            rw [Int.add_mul] at this
            omega
          · exact z
          · have := (mul_le_iff (a := (N : Int) + 1) (b := b) hf).mpr (by omega)
            rw [Int.add_mul] at this
            omega
        rw [← this]
        exact hb
      · intro h
        exact bd_str.mpr ⟨N, h, rfl⟩
    rw [e, seg, cast, dep_str hf, ih, Cb_succ]
    by_cases hd : 0 < depI row N
    · rw [if_pos hd, if_pos hd]
      have last : (N : Int) * f + s + ((f - 1).toNat : Int) = (N : Int) * f + f - 1 + s := by omega
      by_cases hb : Bd row N
      · rw [if_pos hb, if_pos (eb.mpr hb), List.map_append, List.map_singleton, last]
        rfl
      · rw [if_neg hb, if_neg (fun z => hb (eb.mp z)), last]
        exact extl_map (strI f s) fun q => rfl
    · rw [if_neg hd, if_neg hd]
theorem blocks_str {row : List (Int × Int)} (g : Good row) {f s : Int} (hf : 0 < f) (hs : 0 ≤ s) : blocksOf (row.map (strI f s)) = (blocksOf row).map (strI f s) := by
  rw [← Cb_all (row := row.map (strI f s)) (N := ((topN row : Int) * f + s).toNat)]
  · exact Cb_str g hf hs _
  · intro q hq
    obtain ⟨r, hr, rfl⟩ := List.mem_map.mp hq
    have z := topN_le hr
    have m := (mul_le_iff (a := r.2 + 1) (b := topN row) hf).mpr z
    have nn := (mul_le_iff (a := 0) (b := topN row) hf).mpr (by omega)
    rw [Int.add_mul] at m
    show r.2 * f + f - 1 + s + 1 ≤ ((((topN row : Int) * f + s).toNat : Nat) : Int)
    omega

/-! ### what the blocks are: ascending, apart, covering, begun at the borders that are covered -/
theorem extl_fst (l : List (Int × Int)) (p : Int) : (extl l p).map (·.1) = l.map (·.1) := by
  rcases List.eq_nil_or_concat l with rfl | ⟨m, q, rfl⟩
  · rfl
  · rw [List.concat_eq_append, extl_snoc, List.map_append, List.map_append]
    rfl
def stB (row : List (Int × Int)) (p : Nat) : Bool := decide (0 < depI row p) && decide (Bd row p)
structure Bl (row : List (Int × Int)) (N : Nat) (l : List (Int × Int)) : Prop where
  asc : l.Pairwise (fun a b => a.2 < b.1)
  ok : ∀ q ∈ l, 0 ≤ q.1 ∧ q.1 ≤ q.2 ∧ q.2 < N
  cov : ∀ p : Nat, p < N → (0 < depI row p ↔ ∃ q ∈ l, q.1 ≤ p ∧ (p : Int) ≤ q.2)
  fst : l.map (·.1) = ((List.range N).filter (stB row)).map (fun n : Nat => (n : Int))
theorem Cb_bl {row : List (Int × Int)} (g : Good row) : ∀ N : Nat, Bl row N (Cb row N)
  | 0 => ⟨.nil, (fun q hq => nomatch hq), (fun p hp => absurd hp (Nat.not_lt_zero p)), rfl⟩
  | n + 1 => by
    have ih := Cb_bl g n
    have fr : ((List.range (n + 1)).filter (stB row)).map (fun n : Nat => (n : Int)) = ((List.range n).filter (stB row)).map (fun n : Nat => (n : Int)) ++ (if stB row n then [(n : Int)] else []) := by
      rw [List.range_succ, List.filter_append, List.map_append]
      congr 1
      cases h : stB row n <;> simp [List.filter_cons, h]
    rw [Cb_succ]
    by_cases hd : 0 < depI row n
    · rw [if_pos hd]
      by_cases hb : Bd row n
      · rw [if_pos hb]
        refine ⟨?_, fun q hq => ?_, fun p hp => ?_, ?_⟩
        · refine List.pairwise_append.mpr ⟨ih.asc, List.pairwise_singleton _ _, fun a ha b hb2 => ?_⟩
          rw [List.mem_singleton.mp hb2]
          exact (ih.ok a ha).2.2
        · rcases List.mem_append.mp hq with hq | hq
          · have := ih.ok q hq
            exact ⟨this.1, this.2.1, by omega⟩
          · rw [List.mem_singleton.mp hq]
            refine ⟨?_, ?_, ?_⟩
            · show (0 : Int) ≤ (n : Int)
              omega
            · show (n : Int) ≤ (n : Int)
              omega
            · show (n : Int) < ((n + 1 : Nat) : Int)
              omega
        · rcases Nat.lt_or_ge p n with h | h
          · rw [ih.cov p h]
            constructor
            · rintro ⟨q, hq, w⟩
              exact ⟨q, List.mem_append_left _ hq, w⟩
            · rintro ⟨q, hq, w⟩
              rcases List.mem_append.mp hq with hq | hq
              · exact ⟨q, hq, w⟩
              · rw [List.mem_singleton.mp hq] at w
                have w1 : (n : Int) ≤ (p : Int) := w.1
                omega
          · have e : p = n := by omega
            subst e
            exact ⟨fun _ => ⟨((p : Int), (p : Int)), List.mem_append_right _ (List.mem_singleton.mpr rfl), Int.le_refl _, Int.le_refl _⟩, fun _ => hd⟩
        · rw [List.map_append, ih.fst, fr]
          have : stB row n = true := Bool.and_eq_true_iff.mpr ⟨decide_eq_true hd, decide_eq_true hb⟩
          rw [this]
          rfl
      · rw [if_neg hb]
        have sf : stB row n = false := by
          unfold stB
          rw [decide_eq_false hb, Bool.and_false]
        -- the last block ends just before n
        have e := dep_step g (n : Int)
        rw [del_zero hb] at e
        have n0 : 0 < n := by
          rcases Nat.eq_zero_or_pos n with z | z
          · subst z
            obtain ⟨q, hq, w⟩ := dep_pos.mp hd
            have := g q hq
            exact absurd ⟨q, hq, .inl (by omega)⟩ hb
          · exact z
        obtain ⟨k, rfl⟩ : ∃ k, n = k + 1 := ⟨n - 1, by omega⟩
        have dk : 0 < depI row k := by
          rw [show ((k + 1 : Nat) : Int) - 1 = (k : Int) by omega] at e
          omega
        obtain ⟨q, hq, w1, w2⟩ := (ih.cov k (by omega)).mp dk
        have oq := ih.ok q hq
        generalize Cb row (k + 1) = l at *
        rcases List.eq_nil_or_concat l with rfl | ⟨m, z, rfl⟩
        · cases hq
        · rw [List.concat_eq_append] at *
          rw [extl_snoc]
          have pa := List.pairwise_append.mp ih.asc
          have oz := ih.ok z (List.mem_append_right _ (List.mem_singleton.mpr rfl))
          have qz : q = z := by
            rcases List.mem_append.mp hq with h | h
            · have := pa.2.2 q h z (List.mem_singleton.mpr rfl)
              omega
            · exact List.mem_singleton.mp h
          subst qz
          have q2 : q.2 = (k : Int) := by omega
          refine ⟨?_, fun r hr => ?_, fun p hp => ?_, ?_⟩
          · refine List.pairwise_append.mpr ⟨pa.1, List.pairwise_singleton _ _, fun a ha b hb2 => ?_⟩
            rw [List.mem_singleton.mp hb2]
            exact pa.2.2 a ha q (List.mem_singleton.mpr rfl)
          · rcases List.mem_append.mp hr with hr | hr
            · have := ih.ok r (List.mem_append_left _ hr)
              exact ⟨this.1, this.2.1, by omega⟩
            · rw [List.mem_singleton.mp hr]
              refine ⟨oq.1, ?_, ?_⟩
              · show q.1 ≤ ((k + 1 : Nat) : Int)
                omega
              · show ((k + 1 : Nat) : Int) < ((k + 1 + 1 : Nat) : Int)
                omega
          · rcases Nat.lt_or_ge p (k + 1) with h | h
            · rw [ih.cov p h]
              constructor
              · rintro ⟨r, hr, w⟩
                rcases List.mem_append.mp hr with hr | hr
                · exact ⟨r, List.mem_append_left _ hr, w⟩
                · rw [List.mem_singleton.mp hr] at w
                  refine ⟨_, List.mem_append_right _ (List.mem_singleton.mpr rfl), w.1, ?_⟩
                  show (p : Int) ≤ ((k + 1 : Nat) : Int)
                  omega
              · rintro ⟨r, hr, w⟩
                rcases List.mem_append.mp hr with hr | hr
                · exact ⟨r, List.mem_append_left _ hr, w⟩
                · rw [List.mem_singleton.mp hr] at w
                  exact ⟨q, List.mem_append_right _ (List.mem_singleton.mpr rfl), w.1, by omega⟩
            · have e : p = k + 1 := by omega
              subst e
              refine ⟨fun _ => ⟨_, List.mem_append_right _ (List.mem_singleton.mpr rfl), ?_, ?_⟩, fun _ => hd⟩
              · show q.1 ≤ ((k + 1 : Nat) : Int)
                omega
              · exact Int.le_refl _
          · rw [fr, sf, ← ih.fst, List.map_append, List.map_append]
            simp
    · rw [if_neg hd]
      have sf : stB row n = false := by
        unfold stB
        rw [decide_eq_false hd, Bool.false_and]
      refine ⟨ih.asc, fun q hq => ?_, fun p hp => ?_, ?_⟩
      · have := ih.ok q hq
        exact ⟨this.1, this.2.1, by omega⟩
      · rcases Nat.lt_or_ge p n with h | h
        · exact ih.cov p h
        · have e : p = n := by omega
          subst e
          refine ⟨fun z => absurd z hd, ?_⟩
          rintro ⟨q, hq, w⟩
          have := (ih.ok q hq).2.2
          omega
      · rw [fr, sf, ih.fst]
        simp
theorem blocks_bl {row : List (Int × Int)} (g : Good row) : Bl row (topN row) (blocksOf row) := Cb_bl g _
def lowsOf (row : List (Int × Int)) : List Int := (blocksOf row).map (·.1)
def ixI (row : List (Int × Int)) (pos : Int) : Int := (((lowsOf row).filter fun c => decide (c ≤ pos)).length : Int) - 1
theorem cnt_at {pos : Int} : ∀ {l : List (Int × Int)} {j : Nat} {q : Int × Int}, l.Pairwise (fun a b => a.2 < b.1) → (∀ q ∈ l, q.1 ≤ q.2) → l[j]? = some q → q.1 ≤ pos → pos ≤ q.2 → ((l.map (·.1)).filter fun c => decide (c ≤ pos)).length = j + 1
  | [], _, _, _, _, e, _, _ => by simp at e
  | x :: r, 0, q, asc, ok, e, h1, h2 => by
    cases e
    have p := List.pairwise_cons.mp asc
    rw [List.map_cons, List.filter_cons, if_pos (decide_eq_true h1), List.length_cons]
    have nil : (r.map (·.1)).filter (fun c => decide (c ≤ pos)) = [] := by
      apply List.filter_eq_nil_iff.mpr
      intro c hc
      obtain ⟨y, hy, rfl⟩ := List.mem_map.mp hc
      have := p.1 y hy
      rw [decide_eq_true_eq]
      omega
    rw [nil]
    rfl
  | x :: r, j + 1, q, asc, ok, e, h1, h2 => by
    have p := List.pairwise_cons.mp asc
    have e' : r[j]? = some q := e
    have := p.1 q (List.mem_of_getElem? e')
    have := ok x List.mem_cons_self
    rw [List.map_cons, List.filter_cons, if_pos (decide_eq_true (by omega)), List.length_cons, cnt_at p.2 (fun z hz => ok z (List.mem_cons_of_mem _ hz)) e' h1 h2]
theorem ix_at {row : List (Int × Int)} (g : Good row) {pos : Int} {j : Nat} {q : Int × Int} (e : (blocksOf row)[j]? = some q) (h1 : q.1 ≤ pos) (h2 : pos ≤ q.2) : ixI row pos = j ∧ 0 < depI row pos := by
  have B := blocks_bl g
  have mq := List.mem_of_getElem? e
  have oq := B.ok q mq
  refine ⟨?_, ?_⟩
  · unfold ixI lowsOf
    rw [cnt_at B.asc (fun z hz => (B.ok z hz).2.1) e h1 h2]
    omega
  · obtain ⟨p, rfl⟩ : ∃ p : Nat, pos = p := ⟨pos.toNat, by omega⟩
    exact (B.cov p (by omega)).mpr ⟨q, mq, h1, h2⟩
theorem dep_in {row : List (Int × Int)} (g : Good row) {pos : Int} (h : 0 < depI row pos) : ∃ q ∈ blocksOf row, q.1 ≤ pos ∧ pos ≤ q.2 := by
  obtain ⟨r, hr, w⟩ := dep_pos.mp h
  have := g r hr
  have := topN_le hr
  obtain ⟨p, rfl⟩ : ∃ p : Nat, pos = p := ⟨pos.toNat, by omega⟩
  exact ((blocks_bl g).cov p (by omega)).mp h
theorem Bl.idx {row : List (Int × Int)} {N : Nat} {l : List (Int × Int)} (B : Bl row N l) {i j : Nat} {a b : Int × Int} (ij : i < j) (ea : l[i]? = some a) (eb : l[j]? = some b) : a.2 < b.1 := by
  obtain ⟨hi, rfl⟩ := List.getElem?_eq_some_iff.mp ea
  obtain ⟨hj, rfl⟩ := List.getElem?_eq_some_iff.mp eb
  exact List.pairwise_iff_getElem.mp B.asc i j hi hj ij
theorem low_at {row : List (Int × Int)} (g : Good row) {q : Int × Int} (hq : q ∈ row) : ∃ (j : Nat) (b : Int × Int), (blocksOf row)[j]? = some b ∧ b.1 = q.1 := by
  have B := blocks_bl g
  have gq := g q hq
  have tq := topN_le hq
  have d : 0 < depI row q.1 := dep_pos.mpr ⟨q, hq, Int.le_refl _, gq.2⟩
  have bd : Bd row q.1 := ⟨q, hq, .inl rfl⟩
  have m : q.1 ∈ (blocksOf row).map (·.1) := by
    rw [B.fst]
    refine List.mem_map.mpr ⟨q.1.toNat, List.mem_filter.mpr ⟨List.mem_range.mpr (by omega), ?_⟩, by omega⟩
    have c : ((q.1.toNat : Nat) : Int) = q.1 := by omega
    unfold stB
    rw [c]
    exact Bool.and_eq_true_iff.mpr ⟨decide_eq_true d, decide_eq_true bd⟩
  obtain ⟨b, hb, e⟩ := List.mem_map.mp m
  obtain ⟨j, ej⟩ := List.getElem?_of_mem hb
  exact ⟨j, b, ej, e⟩
/-- no border lies within a block -/
theorem Bl.inner {row : List (Int × Int)} {N : Nat} {l : List (Int × Int)} (B : Bl row N l) {q : Int × Int} (hq : q ∈ l) {p : Int} (h1 : q.1 < p) (h2 : p ≤ q.2) : ¬ Bd row p := by
  intro bd
  have oq := B.ok q hq
  have c : ((p.toNat : Nat) : Int) = p := by omega
  have d : 0 < depI row p := by
    have z := (B.cov p.toNat (by omega)).mpr ⟨q, hq, by omega, by omega⟩
    rw [c] at z
    exact z
  have m : p ∈ l.map (·.1) := by
    rw [B.fst]
    refine List.mem_map.mpr ⟨p.toNat, List.mem_filter.mpr ⟨List.mem_range.mpr (by omega), ?_⟩, by omega⟩
    unfold stB
    rw [c]
    exact Bool.and_eq_true_iff.mpr ⟨decide_eq_true d, decide_eq_true bd⟩
  obtain ⟨r, hr, e⟩ := List.mem_map.mp m
  obtain ⟨i, ei⟩ := List.getElem?_of_mem hq
  obtain ⟨j, ej⟩ := List.getElem?_of_mem hr
  rcases Nat.lt_trichotomy i j with z | z | z
  · have := B.idx z ei ej
    omega
  · subst z
    rw [ei] at ej
    cases ej
    omega
  · have := B.idx z ej ei
    have := B.ok r hr
    omega
theorem high_at {row : List (Int × Int)} (g : Good row) {q : Int × Int} (hq : q ∈ row) : ∃ (j : Nat) (b : Int × Int), (blocksOf row)[j]? = some b ∧ b.2 = q.2 ∧ b.1 ≤ q.2 := by
  have B := blocks_bl g
  have gq := g q hq
  obtain ⟨b, hb, w1, w2⟩ := dep_in g (dep_pos.mpr ⟨q, hq, gq.2, Int.le_refl _⟩)
  obtain ⟨j, ej⟩ := List.getElem?_of_mem hb
  refine ⟨j, b, ej, ?_, w1⟩
  rcases Int.lt_or_le q.2 b.2 with z | z
  · exact absurd ⟨q, hq, .inr rfl⟩ (B.inner hb (p := q.2 + 1) (by omega) (by omega))
  · omega
theorem nodup_sub {α : Type} [DecidableEq α] : ∀ {l m : List α}, l.Nodup → (∀ x ∈ l, x ∈ m) → l.length ≤ m.length
  | [], _, _, _ => Nat.zero_le _
  | a :: l, m, h, hs => by
    have hm := hs a List.mem_cons_self
    have h' := List.nodup_cons.mp h
    have ih := nodup_sub (l := l) (m := m.erase a) h'.2 (fun x hx => (List.mem_erase_of_ne (fun e => h'.1 (by rw [← e]; exact hx))).mpr (hs x (List.mem_cons_of_mem _ hx)))
    rw [List.length_erase_of_mem hm] at ih
    have := List.length_pos_of_mem hm
    rw [List.length_cons]
    omega
theorem blocks_few {row : List (Int × Int)} (g : Good row) : (blocksOf row).length ≤ 2 * row.length := by
  have B := blocks_bl g
  have nd : ((blocksOf row).map (·.1)).Nodup := by
    rw [B.fst]
    refine List.Pairwise.map _ (fun a b h e => h (Int.ofNat.inj e)) ((List.nodup_range).filter _)
  have z := nodup_sub (m := row.map (·.1) ++ row.map (fun q => q.2 + 1)) nd (fun c hc => by
    rw [B.fst] at hc
    obtain ⟨n, hn, rfl⟩ := List.mem_map.mp hc
    obtain ⟨q, hq, w⟩ := of_decide_eq_true (Bool.and_eq_true_iff.mp (List.mem_filter.mp hn).2).2
    rcases w with w | w
    · exact List.mem_append_left _ (List.mem_map.mpr ⟨q, hq, w⟩)
    · exact List.mem_append_right _ (List.mem_map.mpr ⟨q, hq, w⟩))
  rw [List.length_map, List.length_append, List.length_map, List.length_map] at z
  omega

/-! ### the program's find_blocks -/
structure Dd (row : List (Int × Int)) (kvs : List (Key × V)) : Prop where
  val : ∀ k : Int, valV kvs (Sum.inl k) = if Bd row k then some (.int (delI row k)) else none
  nd : (kvs.map (·.1)).Nodup
  keys : ∃ ks : List Int, kvs.map (·.1) = ks.map Sum.inl
  len : kvs.length ≤ 2 * row.length
theorem keys_put (kvs : List (Key × V)) (k : Key) (v : V) : ((putK kvs k v).map (·.1) = kvs.map (·.1) ∧ k ∈ kvs.map (·.1)) ∨ ((putK kvs k v).map (·.1) = kvs.map (·.1) ++ [k] ∧ k ∉ kvs.map (·.1)) := by
  cases e : valV kvs k with
  | none =>
    refine .inr ⟨?_, valV_not e⟩
    rw [putK_new v e, List.map_append]
    rfl
  | some u =>
    refine .inl ⟨?_, valV_in e⟩
    have h : (kvs.any fun kv => decide (kv.1 = k)) = true := by
      rw [valV_any, e]
      rfl
    unfold putK
    rw [if_pos h, List.map_map]
    apply List.map_congr_left
    intro p _
    show (if p.1 = k then (p.1, v) else p).1 = p.1
    split <;> rfl
theorem put_parts {kvs : List (Key × V)} {k : Int} {v : V} (nd : (kvs.map (·.1)).Nodup) (keys : ∃ ks : List Int, kvs.map (·.1) = ks.map Sum.inl) :
    ((putK kvs (Sum.inl k) v).map (·.1)).Nodup ∧ (∃ ks : List Int, (putK kvs (Sum.inl k) v).map (·.1) = ks.map Sum.inl) ∧ (putK kvs (Sum.inl k) v).length ≤ kvs.length + 1 := by
  obtain ⟨ks, ek⟩ := keys
  rcases keys_put kvs (Sum.inl k) v with ⟨e, _⟩ | ⟨e, hn⟩
  · refine ⟨by rw [e]; exact nd, ⟨ks, by rw [e, ek]⟩, ?_⟩
    have l := congrArg List.length e
    rw [List.length_map, List.length_map] at l
    omega
  · refine ⟨?_, ⟨ks ++ [k], by rw [e, ek, List.map_append]; rfl⟩, ?_⟩
    · rw [e]
      exact List.nodup_append.mpr ⟨nd, by simp, fun a ha b hb z => hn (by rw [List.mem_singleton.mp hb] at z; rw [← z]; exact ha)⟩
    · have l := congrArg List.length e
      rw [List.length_map, List.length_append, List.length_map] at l
      simp at l
      omega
theorem bd_snoc {row : List (Int × Int)} {q : Int × Int} {k : Int} : Bd (row ++ [q]) k ↔ Bd row k ∨ q.1 = k ∨ q.2 + 1 = k := by
  constructor
  · rintro ⟨x, hx, h⟩
    rcases List.mem_append.mp hx with hx | hx
    · exact .inl ⟨x, hx, h⟩
    · rw [List.mem_singleton.mp hx] at h
      exact .inr h
  · rintro (⟨x, hx, h⟩ | h)
    · exact ⟨x, List.mem_append_left _ hx, h⟩
    · exact ⟨q, List.mem_append_right _ (List.mem_singleton.mpr rfl), h⟩
theorem del_snoc (row : List (Int × Int)) (q : Int × Int) (k : Int) : delI (row ++ [q]) k = delI row k + ((if q.1 = k then (1 : Int) else 0) - (if q.2 + 1 = k then 1 else 0)) := by
  unfold delI
  rw [List.map_append, List.sum_append, List.map_singleton, List.sum_singleton]
theorem Dd.get {row : List (Int × Int)} {kvs : List (Key × V)} (h : Dd row kvs) (k : Int) : (valV kvs (Sum.inl k)).getD (.int 0) = .int (delI row k) := by
  rw [h.val]
  by_cases b : Bd row k
  · rw [if_pos b]
    rfl
  · rw [if_neg b, del_zero b]
    rfl
theorem Dd.step {row : List (Int × Int)} {kvs : List (Key × V)} (h : Dd row kvs) {x y : Int} (xy : x ≤ y) :
    Dd (row ++ [(x, y)]) (putK (putK kvs (Sum.inl x) (.int (delI row x + 1))) (Sum.inl (y + 1)) (.int (delI row (y + 1) - 1))) := by
  obtain ⟨n1, k1, l1⟩ := put_parts (k := x) (v := .int (delI row x + 1)) h.nd h.keys
  obtain ⟨n2, k2, l2⟩ := put_parts (k := y + 1) (v := .int (delI row (y + 1) - 1)) n1 k1
  refine ⟨fun k => ?_, n2, k2, ?_⟩
  · rw [valV_put, valV_put, h.val]
    by_cases e1 : k = y + 1
    · have b : Bd (row ++ [(x, y)]) k := bd_snoc.mpr (.inr (.inr e1.symm))
      rw [if_pos (by rw [e1]), if_pos b, del_snoc, e1, if_neg (show ¬ x = y + 1 by omega), if_pos rfl]
      congr 2
    · rw [if_neg (fun z => e1 (Sum.inl.inj z))]
      by_cases e2 : k = x
      · have b : Bd (row ++ [(x, y)]) k := bd_snoc.mpr (.inr (.inl e2.symm))
        rw [if_pos (by rw [e2]), if_pos b, del_snoc, e2, if_pos rfl, if_neg (show ¬ y + 1 = x by omega)]
        congr 2
      · rw [if_neg (fun z => e2 (Sum.inl.inj z))]
        have same : delI (row ++ [(x, y)]) k = delI row k := by
          rw [del_snoc, if_neg (fun z => e2 z.symm), if_neg (fun z => e1 z.symm)]
          omega
        by_cases b : Bd row k
        · rw [if_pos b, if_pos (bd_snoc.mpr (.inl b)), same]
        · rw [if_neg b, if_neg (fun z => (bd_snoc.mp z).elim b (fun w => w.elim (fun w => e2 w.symm) (fun w => e1 w.symm)))]
  · rw [List.length_append, List.length_singleton]
    have := h.len
    omega
def sp_depth_changes : Sp := fun vs H Q _ => ∃ (a : Addr) (us : List V) (row : List (Int × Int)), vs = [.ref a] ∧ H a = some (.tup us) ∧ Ivs H us row ∧ (∀ q ∈ row, q.1 ≤ q.2) ∧ row.length ≤ 100 ∧
  ∀ H' p kvs, Same H H' → H p = none → H' p = some (.dK kvs) → Dd row kvs → Q (.ref p) H'
theorem ok_depth_changes (T : Tx K mg f_depth_changes f_find_blocks f_block_index f_compress f_law_deck f_law_draw f_law_same f_law_interval f_law_stretched f_law_index f_law d_depth_changes d_find_blocks d_block_index d_compress d_law_deck d_law_draw d_law_same d_law_interval d_law_stretched d_law_index d_law) : FnOk P w K mg base CX0 1 f_depth_changes d_depth_changes ["intervals"] sp_depth_changes := by
  refine T.F_depth_changes.ok sc_depth_changes (fun vs H Q E h => ?_) (fun cdv A outer s H vs Q E hr h => ?_)
  · obtain ⟨a, us, row, rfl, _⟩ := h
    rfl
  · obtain ⟨a, us, row, rfl, ha, iv, xy, few, q⟩ := h
    refine ⟨_, (pss_cons (ps_set (i := 1) sc_depth_changes.nd rfl (Or.inl rfl) pe_dnewK)
      (pss_cons (ps_for PassesOwn.never rfl (pi_tup (pv 0)) (pg_tup rfl (pgs_cons (pg_name (i := 2) sc_depth_changes.nd rfl (Or.inl rfl)) (pgs_cons (pg_name (i := 3) sc_depth_changes.nd rfl (Or.inl rfl)) pgs_nil)))
      (pss_cons (ps_dput (hu_of hr) (pv 1) (pv 2) (pe_op op_add (pe_dget2 (hu_of hr) (pv 1) (pv 2) pe_int ⟨rfl, rfl, rfl, rfl⟩) pe_int) rfl)
      (pss_one (ps_dput (hu_of hr) (pv 1) (pe_op op_add (pv 3) pe_int) (pe_op op_sub (pe_dget2 (hu_of hr) (pv 1) (pe_op op_add (pv 3) pe_int) pe_int ⟨rfl, rfl, rfl, rfl⟩) pe_int) rfl))))
      (pss_one (ps_ret (pv 1))))), ?_⟩
    refine fun p np => ?_
    refine ⟨.ref a, rfl, a, rfl, ⟨_, SqT.of (same_new np _ _ ha)⟩, for_tup (K := K) (a := a) (xs := us) (fun i σ H' => Same H H' ∧ (∃ kvs, H' p = some (.dK kvs) ∧ Dd (row.take i) kvs) ∧ ∃ y2 y3, σ = [some (.ref a), some (.ref p), y2, y3])
      ⟨same_new np, ⟨[], upd_same, ⟨fun k => rfl, List.nodup_nil, ⟨[], rfl⟩, Nat.zero_le _⟩⟩, _, _, rfl⟩ (fun i σ H' _ h => SqT.of (h.1 _ _ ha)) ?_ ?_⟩
    · rintro i v σ H1 hi ⟨sm, ⟨kvs, ep, dd⟩, y2, y3, rfl⟩
      obtain ⟨b, x, y, rfl, er, eb⟩ := iv.get hi
      have le := xy _ (List.mem_of_getElem? er)
      have lt := List.length_take_le' i row
      have len := dd.len
      refine ⟨b, _, rfl, SqT.of (sm _ _ eb), rfl, .int x, [.int y], rfl, .int y, [], rfl, rfl, ?_⟩
      refine ⟨.ref p, rfl, p, rfl, .inl ⟨kvs, .inl ep⟩, .int x, rfl, _, DGet.k (k := Sum.inl x) ep, _, _, dd.get x, rfl, .ref p, rfl, .int x, rfl, p, _, rfl, DPut.k (k := Sum.inl x) ep (small1000 (by omega)), ?_⟩
      have e1 := upd_same (H := H1) (a := p) (o := .dK (putK kvs (Sum.inl x) (.int (delI (row.take i) x + 1))))
      have g1 : (valV (putK kvs (Sum.inl x) (.int (delI (row.take i) x + 1))) (Sum.inl (y + 1))).getD (.int 0) = .int (delI (row.take i) (y + 1)) := by
        rw [valV_put, if_neg (fun z => by
          have z' := Sum.inl.inj z
          have le' : x ≤ y := le
          omega)]
        exact dd.get (y + 1)
      obtain ⟨_, _, l1⟩ := put_parts (k := x) (v := .int (delI (row.take i) x + 1)) dd.nd dd.keys
      refine ⟨.ref p, rfl, p, rfl, .inl ⟨_, .inl e1⟩, .int y, rfl, _, _, rfl, rfl, _, DGet.k (k := Sum.inl (y + 1)) e1, _, _, g1, rfl, .ref p, rfl, .int y, rfl, _, _, rfl, rfl, p, _, rfl, DPut.k (k := Sum.inl (y + 1)) e1 (small1000 (by omega)), ?_⟩
      refine ⟨fun b' o eb' => ?_, ⟨_, upd_same, ?_⟩, _, _, rfl⟩
      · have nb := ne_of_none eb' np
        rw [upd_ne nb, upd_ne nb]
        exact sm _ _ eb'
      · rw [List.take_add_one, er]
        exact dd.step le
    · rintro σ H1 ⟨sm, ⟨kvs, ep, dd⟩, y2, y3, rfl⟩
      rw [iv.length, List.take_length] at dd
      exact ⟨.ref p, rfl, q _ p kvs sm np ep dd⟩

structure Bs (row : List (Int × Int)) (bs : List Int) : Prop where
  mem : ∀ k, k ∈ bs ↔ Bd row k
  srt : bs.Pairwise (· < ·)
theorem Bs.lt {row : List (Int × Int)} {bs : List Int} (h : Bs row bs) {i j : Nat} {a b : Int} (ij : i < j) (ea : bs[i]? = some a) (eb : bs[j]? = some b) : a < b := by
  obtain ⟨hi, rfl⟩ := List.getElem?_eq_some_iff.mp ea
  obtain ⟨hj, rfl⟩ := List.getElem?_eq_some_iff.mp eb
  exact List.pairwise_iff_getElem.mp h.srt i j hi hj ij
theorem Bs.gap {row : List (Int × Int)} {bs : List Int} (h : Bs row bs) {i : Nat} {a b : Int} (ea : bs[i]? = some a) (eb : bs[i + 1]? = some b) : ∀ j : Int, a < j → j < b → ¬ Bd row j := by
  intro j h1 h2 hb
  obtain ⟨m, hm⟩ := List.getElem?_of_mem ((h.mem j).mpr hb)
  rcases Nat.lt_trichotomy m i with z | z | z
  · have := h.lt z hm ea
    omega
  · subst z
    rw [ea] at hm
    cases hm
    omega
  · rcases Nat.lt_or_ge (i + 1) m with z2 | z2
    · have := h.lt z2 eb hm
      omega
    · have z3 : m = i + 1 := by omega
      subst z3
      rw [eb] at hm
      cases hm
      omega
theorem Bs.first {row : List (Int × Int)} {bs : List Int} (h : Bs row bs) {a : Int} (ea : bs[0]? = some a) {k : Int} (hb : Bd row k) : a ≤ k := by
  obtain ⟨m, hm⟩ := List.getElem?_of_mem ((h.mem k).mpr hb)
  rcases Nat.lt_or_ge 0 m with z | z
  · have := h.lt z ea hm
    omega
  · have z2 : m = 0 := by omega
    subst z2
    rw [ea] at hm
    cases hm
    exact Int.le_refl _
theorem Bs.last {row : List (Int × Int)} {bs : List Int} (h : Bs row bs) {i : Nat} {a : Int} (ea : bs[i]? = some a) (hi : i + 1 = bs.length) {k : Int} (hb : Bd row k) : k ≤ a := by
  obtain ⟨m, hm⟩ := List.getElem?_of_mem ((h.mem k).mpr hb)
  have hl := (List.getElem?_eq_some_iff.mp hm).1
  rcases Nat.lt_or_ge m i with z | z
  · have := h.lt z hm ea
    omega
  · have z2 : m = i := by omega
    subst z2
    rw [ea] at hm
    cases hm
    exact Int.le_refl _
theorem Dd.bs {row : List (Int × Int)} {kvs : List (Key × V)} (dd : Dd row kvs) {ks bs : List Int} (ek : kvs.map (·.1) = ks.map Sum.inl) (perm : bs.Perm ks) (srt : bs.Pairwise (· ≤ ·)) : Bs row bs := by
  have ndk : ks.Nodup := by
    have z := dd.nd
    rw [ek] at z
    exact List.Pairwise.of_map Sum.inl (fun a b h e => h (by rw [e])) z
  have ndb : bs.Nodup := perm.nodup_iff.mpr ndk
  refine ⟨fun k => ?_, ?_⟩
  · rw [perm.mem_iff]
    constructor
    · intro hk
      have hm : (Sum.inl k : Key) ∈ kvs.map (·.1) := by
        rw [ek]
        exact List.mem_map.mpr ⟨k, hk, rfl⟩
      by_cases b : Bd row k
      · exact b
      · have v := dd.val k
        rw [if_neg b] at v
        exact absurd hm (valV_not v)
    · intro b
      have v := dd.val k
      rw [if_pos b] at v
      have hm := valV_in v
      rw [ek] at hm
      obtain ⟨j, hj, e⟩ := List.mem_map.mp hm
      rw [← Sum.inl.inj e]
      exact hj
  · refine (srt.and ndb).imp fun {a b} h => ?_
    have h1 := h.1
    have h2 := h.2
    omega
theorem Cb_next {row : List (Int × Int)} (g : Good row) {bs : List Int} (h : Bs row bs) {i : Nat} {a b : Int} (ea : bs[i]? = some a) (eb : bs[i + 1]? = some b) (a0 : 0 ≤ a) :
    Cb row b.toNat = (if 0 < depI row a then Cb row a.toNat ++ [(a, b - 1)] else Cb row a.toNat) ∧ depI row (b - 1) = depI row a := by
  have ab := h.lt (Nat.lt_succ_self i) ea eb
  have gap := h.gap ea eb
  have hb : Bd row a := (h.mem a).mp (List.mem_of_getElem? ea)
  have ca : ((a.toNat : Nat) : Int) = a := by omega
  have seg := Cb_seg g (a := a.toNat) (b - a - 1).toNat (fun j h1 h2 => gap j (by omega) (by omega))
  have e : a.toNat + (b - a - 1).toNat + 1 = b.toNat := by omega
  rw [e, ca, if_pos hb, show a + ((b - a - 1).toNat : Int) = b - 1 by omega] at seg
  refine ⟨seg, ?_⟩
  have dc := dep_const g (a := a) (b - a - 1).toNat (fun j h1 h2 => gap j h1 (by omega))
  rw [show a + ((b - a - 1).toNat : Int) = b - 1 by omega] at dc
  exact dc
def atB (row : List (Int × Int)) (bs : List Int) (i : Nat) : List (Int × Int) := match bs[i]? with
  | some b => Cb row b.toNat
  | none => []
def depB (row : List (Int × Int)) (bs : List Int) (i : Nat) : Int := match bs[i]? with
  | some b => depI row (b - 1)
  | none => 0
theorem atB_some {row : List (Int × Int)} {bs : List Int} {i : Nat} {b : Int} (e : bs[i]? = some b) : atB row bs i = Cb row b.toNat := by
  unfold atB
  rw [e]
theorem depB_some {row : List (Int × Int)} {bs : List Int} {i : Nat} {b : Int} (e : bs[i]? = some b) : depB row bs i = depI row (b - 1) := by
  unfold depB
  rw [e]
theorem atB_start {row : List (Int × Int)} (g : Good row) {bs : List Int} (h : Bs row bs) : atB row bs 0 = [] ∧ depB row bs 0 = 0 := by
  cases e : bs[0]? with
  | none =>
    unfold atB depB
    rw [e]
    exact ⟨rfl, rfl⟩
  | some b =>
    rw [atB_some e, depB_some e]
    have low : ∀ q ∈ row, b ≤ q.1 := fun q hq => h.first e ⟨q, hq, .inl rfl⟩
    have b0 : 0 ≤ b := by
      obtain ⟨q, hq, w⟩ := (h.mem b).mp (List.mem_of_getElem? e)
      have := g q hq
      omega
    refine ⟨Cb_low fun q hq => ?_, dep_zero fun q hq => .inl ?_⟩
    · have := low q hq
      omega
    · have := low q hq
      omega
theorem atB_end {row : List (Int × Int)} (g : Good row) {bs : List Int} (h : Bs row bs) {i : Nat} (hi : i = bs.length - 1) : atB row bs i = blocksOf row := by
  cases e : bs[i]? with
  | none =>
    have le := List.getElem?_eq_none_iff.mp e
    have nil : bs = [] := by
      cases bs with
      | nil => rfl
      | cons x r =>
        rw [List.length_cons] at hi le
        omega
    have rn : row = [] := by
      cases row with
      | nil => rfl
      | cons q r =>
        have z := (h.mem q.1).mpr ⟨q, List.mem_cons_self, .inl rfl⟩
        rw [nil] at z
        cases z
    unfold atB
    rw [e, rn]
    rfl
  | some b =>
    have lt := (List.getElem?_eq_some_iff.mp e).1
    rw [atB_some e]
    apply Cb_all
    intro q hq
    have := h.last e (by omega) ⟨q, hq, .inr rfl⟩
    omega
def sp_find_blocks : Sp := fun vs H Q _ => ∃ (a : Addr) (us : List V) (row : List (Int × Int)), vs = [.ref a] ∧ H a = some (.tup us) ∧ Ivs H us row ∧ Good row ∧ row.length ≤ 31 ∧
  ∀ H' p ws, Same H H' → H' p = some (.tup ws) → Ivs H' ws (blocksOf row) → Q (.ref p) H'
theorem cutFrom1 (xs : List V) : cutV xs (some 1) none = xs.drop 1 := by
  unfold cutV
  rw [show HT.sIx xs.length 0 (some 1) = min 1 xs.length from HT.sIx_nat xs.length 0 1, HT.sIx_none]
  cases xs with
  | nil => rfl
  | cons x r =>
    rw [List.length_cons, show min 1 (r.length + 1) = 1 by omega]
    show List.take (r.length + 1 - 1) r = r
    rw [Nat.add_sub_cancel]
    exact List.take_length
theorem ok_find_blocks (T : Tx K mg f_depth_changes f_find_blocks f_block_index f_compress f_law_deck f_law_draw f_law_same f_law_interval f_law_stretched f_law_index f_law d_depth_changes d_find_blocks d_block_index d_compress d_law_deck d_law_draw d_law_same d_law_interval d_law_stretched d_law_index d_law) : FnOk P w K mg base CX0 2 f_find_blocks d_find_blocks ["intervals"] sp_find_blocks := by
  refine T.F_find_blocks.ok sc_find_blocks (fun vs H Q E h => ?_) (fun cdv A outer s H vs Q E hr h => ?_)
  · obtain ⟨a, us, row, rfl, _⟩ := h
    rfl
  · obtain ⟨a, us, row, rfl, ha, iv, good, few, q⟩ := h
    refine ⟨_, (pss_cons (ps_set (i := 1) sc_find_blocks.nd rfl (Or.inl rfl) (pe_call (ok_depth_changes T) (hr.mono (by decide)) (by rfl) T.g_depth_changes T.F_depth_changes.kp T.b_depth_changes .nil pass0 (pa_cons (pv 0) pa_nil)))
      (pss_cons (ps_set (i := 2) sc_find_blocks.nd rfl (Or.inl rfl) (pe_callB (call_sortedDI rfl) (by rfl) T.z_sorted (by decide +kernel) (pa_cons (pv 1) pa_nil)))
      (pss_cons (ps_set (i := 3) sc_find_blocks.nd rfl (Or.inl rfl) (pe_lst pa_nil))
      (pss_cons (ps_set (i := 4) sc_find_blocks.nd rfl (Or.inl rfl) pe_int)
      (pss_cons (ps_for PassesOwn.never rfl (pi_zip (by rfl) T.z_zip (pa_cons (pv 2) (pa_cons (pe_slice sl_list (pv 2) (po_some pe_int) po_none) pa_nil))) (pg_tup rfl (pgs_cons (pg_name (i := 5) sc_find_blocks.nd rfl (Or.inl rfl)) (pgs_cons (pg_name (i := 6) sc_find_blocks.nd rfl (Or.inl rfl)) pgs_nil)))
      (pss_cons (ps_aug (i := 4) sc_find_blocks.nd rfl (Or.inl rfl) (pe_dget (hu_of hr) (pv 1) (pv 5) (fun _ _ => rfl)) ip_add)
      (pss_one (ps_if (pt_cmpR op_gt (pv 4) pe_int (nomark _))
      (pss_one (ps_expr (pe_bm PySem.F.plainAttrs_list PySem.F.slot_list_append PySem.F.type_list_append mt_append (pv 3) (pa_cons (pe_tup (pa_cons (pv 5) (pa_cons (pe_op op_sub (pv 6) pe_int) pa_nil))) pa_nil))))
      pss_nil))))
      (pss_one (ps_ret (pe_callTy call_tuple_of (by rfl) T.z_tuple (by decide +kernel) (pa_cons (pv 3) pa_nil))))))))), ?_⟩
    refine ⟨.ref a, rfl, a, us, row, rfl, ha, iv, fun x hx => (good x hx).2, by omega, fun H1 pc kvs s1 npc ec dd => ?_⟩
    obtain ⟨ks, ek⟩ := dd.keys
    have lk : kvs.length = ks.length := by
      have z := congrArg List.length ek
      rw [List.length_map, List.length_map] at z
      exact z
    have dl := dd.len
    refine ⟨.ref pc, rfl, pc, kvs, ks, rfl, .inl ec, ek, by omega, fun bs pb perm srt npb => ?_⟩
    have hB := dd.bs ek perm srt
    have lb : bs.length = ks.length := perm.length_eq
    have s2 := same_new (o := .lst (bs.map V.int)) npb
    have eb := upd_same (H := H1) (a := pb) (o := .lst (bs.map V.int))
    generalize upd H1 pb (.lst (bs.map V.int)) = H2 at *
    refine ⟨by show 0 ≤ sizeLine; decide, fun pl npl => ?_⟩
    have nbl : pb ≠ pl := ne_of_none eb npl
    have ncl : pc ≠ pl := ne_of_none (s2 _ _ ec) npl
    have npl0 : H pl = none := (s1.trans s2).free npl
    have s3 := same_new (o := .lst []) npl
    have el := upd_same (H := H2) (a := pl) (o := .lst [])
    generalize upd H2 pl (.lst []) = H3 at *
    refine ⟨.ref pb, rfl, .ref pb, rfl, 1, rfl, pb, _, rfl, SqL.of (s3 _ _ eb), fun pz npz => ?_⟩
    rw [cutFrom1]
    have nlz : pl ≠ pz := ne_of_none el npz
    have s4 := same_new (o := .lst ((bs.map V.int).drop 1)) npz
    have ez := upd_same (H := H3) (a := pz) (o := .lst ((bs.map V.int).drop 1))
    generalize upd H3 pz (.lst ((bs.map V.int).drop 1)) = H4 at *
    replace eb := s4 _ _ (s3 _ _ eb)
    replace ec := s4 _ _ (s3 _ _ (s2 _ _ ec))
    replace el := s4 _ _ el
    have sm4 : Same H H4 := s1.trans (s2.trans (s3.trans s4))
    obtain ⟨st1, st2⟩ := atB_start good hB
    refine ⟨pb, pz, bs.map V.int, (bs.map V.int).drop 1, rfl, SqL.of eb, SqL.of ez, ?_⟩
    refine ⟨fun i m σ H' => i + m = bs.length - 1 ∧ Same H H' ∧ H' pb = some (.lst (bs.map V.int)) ∧ H' pz = some (.lst ((bs.map V.int).drop 1)) ∧ H' pc = some (.dK kvs) ∧ (∃ ws, H' pl = some (.lst ws) ∧ ws.length ≤ i ∧ Ivs H' ws (atB row bs i)) ∧
        ∃ y5 y6, σ = [some (.ref a), some (.ref pc), some (.ref pb), some (.ref pl), some (.int (depB row bs i)), y5, y6],
      ⟨bs.length - 1, by omega, sm4, eb, ez, ec, ⟨[], el, Nat.zero_le _, by rw [st1]; exact .nil⟩, none, none, by rw [st2]; rfl⟩, fun i m σ H5 hW => ?_⟩
    obtain ⟨em, sm, fb, fz, fc, ⟨ws, fl, wl, ivw⟩, y5, y6, rfl⟩ := hW
    by_cases hi : i < bs.length - 1
    · obtain ⟨x, ex⟩ : ∃ x, bs[i]? = some x := ⟨bs[i], List.getElem?_eq_getElem (by omega)⟩
      obtain ⟨y, ey⟩ : ∃ y, bs[i + 1]? = some y := ⟨bs[i + 1], List.getElem?_eq_getElem (by omega)⟩
      have g1 : (bs.map V.int)[i]? = some (.int x) := by
        rw [List.getElem?_map, ex]
        rfl
      have g2 : ((bs.map V.int).drop 1)[i]? = some (.int y) := by
        rw [List.getElem?_drop, Nat.add_comm 1 i, List.getElem?_map, ey]
        rfl
      have hbx : Bd row x := (hB.mem x).mp (List.mem_of_getElem? ex)
      have x0 : 0 ≤ x := by
        obtain ⟨r, hr1, w1⟩ := hbx
        have := good r hr1
        omega
      obtain ⟨cn, dn⟩ := Cb_next good hB ex ey x0
      have hval : valV kvs (Sum.inl x) = some (.int (delI row x)) := by
        rw [dd.val, if_pos hbx]
      refine .inr ⟨⟨_, _, _, _, SqL.of fb, SqL.of fz, g1, g2⟩, fun σ' H' => Same H H' ∧ H' pb = some (.lst (bs.map V.int)) ∧ H' pz = some (.lst ((bs.map V.int).drop 1)) ∧ H' pc = some (.dK kvs) ∧ (∃ ws, H' pl = some (.lst ws) ∧ ws.length ≤ i + 1 ∧ Ivs H' ws (atB row bs (i + 1))) ∧
          ∃ y5 y6, σ' = [some (.ref a), some (.ref pc), some (.ref pb), some (.ref pl), some (.int (depB row bs (i + 1))), y5, y6], fun σ' H' hN => ?_, fun z H' hy => ?_⟩
      · obtain ⟨n1, n2, n3, n4, n5, n6⟩ := hN
        exact ⟨m - 1, by omega, by omega, n1, n2, n3, n4, n5, n6⟩
      · obtain ⟨tt, x1, x2, rfl, nT, rfl, f1, f2⟩ := hy
        have ex1 : x1 = .int x := Option.some.inj ((f1 _ (SqL.of fb)).symm.trans g1)
        have ex2 : x2 = .int y := Option.some.inj ((f2 _ (SqL.of fz)).symm.trans g2)
        subst ex1 ex2
        have sT := same_new (o := .tup [.int x, .int y]) nT
        have eT := upd_same (H := H5) (a := tt) (o := .tup [.int x, .int y])
        generalize upd H5 tt (.tup [.int x, .int y]) = H6 at *
        refine ⟨tt, _, rfl, SqT.of eT, rfl, .int x, [.int y], rfl, .int y, [], rfl, rfl, ?_⟩
        have dg := DGet.k (k := Sum.inl x) (sT _ _ fc)
        rw [hval] at dg
        refine ⟨_, rfl, .ref pc, rfl, .int x, rfl, pc, _, rfl, dg, _, _, rfl, rfl, ?_⟩
        have ed : depB row bs i + delI row x = depI row x := by
          rw [depB_some ex]
          exact (dep_step good x).symm
        have ed2 : depB row bs (i + 1) = depI row x := by
          rw [depB_some ey]
          exact dn
        have ea2 : atB row bs (i + 1) = if 0 < depI row x then atB row bs i ++ [(x, y - 1)] else atB row bs i := by
          rw [atB_some ey, atB_some ex]
          exact cn
        refine ⟨_, rfl, _, _, rfl, rfl, _, rfl, ite2 (fun e => ?_) (fun e => ?_)⟩
        · have e1 : 0 < depB row bs i + delI row x := of_decide_eq_true e
          rw [ed] at e1
          refine ⟨.ref pl, rfl, .inl ⟨rfl, _, SqL.of (sT _ _ fl)⟩, .int x, rfl, .int y, rfl, _, _, rfl, rfl, by show 2 ≤ sizeLine; decide, fun t nt => ?_⟩
          have st := same_new (o := .tup [.int x, .int (y - 1)]) nt
          have et := upd_same (H := H6) (a := t) (o := .tup [.int x, .int (y - 1)])
          generalize upd H6 t (.tup [.int x, .int (y - 1)]) = H7 at *
          have fl7 := st _ _ (sT _ _ fl)
          refine ⟨pl, ws, _, rfl, rfl, fl7, small1000 (by omega), ?_⟩
          have up : ∀ {b' : Addr} {o' : HO}, b' ≠ pl → H5 b' = some o' → (upd H7 pl (.lst (ws ++ [.ref t]))) b' = some o' := fun nb e' => by
            rw [upd_ne nb]
            exact st _ _ (sT _ _ e')
          have upI : ∀ {vs : List V} {qs : List (Int × Int)}, Ivs H5 vs qs → Ivs (upd H7 pl (.lst (ws ++ [.ref t]))) vs qs := by
            intro vs qs hv
            induction hv with
            | nil => exact .nil
            | cons e' _ ih => exact .cons (up (ne_of e' fl (fun z => by cases z)) e') ih
          refine ⟨fun b' o' e' => up (ne_of_none e' npl0) (sm _ _ e'), up nbl fb, up nlz.symm fz, up ncl fc, ⟨_, upd_same, ?_, ?_⟩, some (.int x), some (.int y), ?_⟩
          · rw [List.length_append, List.length_singleton]
            omega
          · rw [ea2, if_pos e1]
            refine (upI ivw).snoc ?_
            rw [upd_ne (ne_of et fl7 (fun z => by cases z))]
            exact et
          · rw [ed2, ← ed]
            rfl
        · have e1 : ¬ 0 < depI row x := fun z => e (by
            rw [← ed] at z
            exact decide_eq_true z)
          refine ⟨sm.trans sT, sT _ _ fb, sT _ _ fz, sT _ _ fc, ⟨ws, sT _ _ fl, by omega, ?_⟩, some (.int x), some (.int y), ?_⟩
          · rw [ea2, if_neg e1]
            exact ivw.same sT
          · rw [ed2, ← ed]
            rfl
    · refine .inl ⟨⟨_, _, SqL.of fb, SqL.of fz, .inr ?_⟩, ?_⟩
      · rw [List.length_drop, List.length_map]
        omega
      · have ei : i = bs.length - 1 := by omega
        rw [atB_end good hB ei] at ivw
        refine ⟨.ref pl, rfl, pl, ws, rfl, .inl ⟨SqL.of fl, fun p np => ?_⟩⟩
        exact q _ p ws (sm.trans (same_new np)) upd_same (ivw.same (same_new np))

def ixV (row : List (Int × Int)) (pos : Int) : V := if 0 < depI row pos then .int (ixI row pos) else .non
def sp_block_index : Sp := fun vs H Q _ => ∃ (a : Addr) (us : List V) (row : List (Int × Int)) (pos : Int), vs = [.ref a, .int pos] ∧ H a = some (.tup us) ∧ Ivs H us row ∧ Good row ∧ row.length ≤ 31 ∧
  ∀ H', Same H H' → Q (ixV row pos) H'
theorem ok_block_index (T : Tx K mg f_depth_changes f_find_blocks f_block_index f_compress f_law_deck f_law_draw f_law_same f_law_interval f_law_stretched f_law_index f_law d_depth_changes d_find_blocks d_block_index d_compress d_law_deck d_law_draw d_law_same d_law_interval d_law_stretched d_law_index d_law) : FnOk P w K mg base CX0 3 f_block_index d_block_index ["intervals", "position"] sp_block_index := by
  refine T.F_block_index.ok sc_block_index (fun vs H Q E h => ?_) (fun cdv A outer s H vs Q E hr h => ?_)
  · obtain ⟨a, us, row, pos, rfl, _⟩ := h
    rfl
  · obtain ⟨a, us, row, pos, rfl, ha, iv, good, few, q⟩ := h
    refine ⟨_, (pss_cons (ps_for PassesOwn.never rfl (pi_enumT (by rfl) T.z_enumerate (pa_cons (pe_call (ok_find_blocks T) (hr.mono (by decide)) (by rfl) T.g_find_blocks T.F_find_blocks.kp T.b_find_blocks .nil pass0 (pa_cons (pv 0) pa_nil)) pa_nil)) (pg_tup rfl (pgs_cons (pg_name (i := 2) sc_block_index.nd rfl (Or.inl rfl)) (pgs_cons (pg_tup rfl (pgs_cons (pg_name (i := 3) sc_block_index.nd rfl (Or.inl rfl)) (pgs_cons (pg_name (i := 4) sc_block_index.nd rfl (Or.inl rfl)) pgs_nil))) pgs_nil)))
      (pss_one (ps_if (pt_chain op_le op_le (pv 3) (pv 1) (pv 4))
      (pss_one (ps_ret (pv 2)))
      pss_nil)))
      (pss_one (ps_ret pe_non))), ?_⟩
    refine ⟨.ref a, rfl, a, us, row, rfl, ha, iv, good, few, fun H1 p ws s1 ep ivw => ⟨p, ws, rfl, SqT.of ep, ?_⟩⟩
    have lw := ivw.length
    refine ⟨fun i m σ H' => i + m = ws.length ∧ Same H1 H' ∧ (∀ j b, j < i → (blocksOf row)[j]? = some b → ¬ (b.1 ≤ pos ∧ pos ≤ b.2)) ∧ ∃ y2 y3 y4, σ = [some (.ref a), some (.int pos), y2, y3, y4], ⟨ws.length, by omega, Same.refl _, fun j b hj => absurd hj (Nat.not_lt_zero j), none, none, none, rfl⟩, fun i m σ H2 hW => ?_⟩
    obtain ⟨em, sm, no, y2, y3, y4, rfl⟩ := hW
    have ep2 := sm _ _ ep
    by_cases hi : i < ws.length
    · have hx : ws[i]? = some ws[i] := List.getElem?_eq_getElem hi
      refine .inr ⟨⟨_, _, SqT.of ep2, hx, rfl⟩, fun σ' H' => Same H1 H' ∧ (∀ j b, j < i + 1 → (blocksOf row)[j]? = some b → ¬ (b.1 ≤ pos ∧ pos ≤ b.2)) ∧ ∃ y2 y3 y4, σ' = [some (.ref a), some (.int pos), y2, y3, y4], fun σ' H' hN => ?_, fun z H' hy => ?_⟩
      · obtain ⟨n1, n2, n3⟩ := hN
        exact ⟨m - 1, by omega, by omega, n1, n2, n3⟩
      · obtain ⟨t, x, rfl, nt, rfl, fx⟩ := hy
        obtain ⟨b, x1, x2, eb, ei, hb⟩ := (ivw.same sm).get hx
        have ex : x = .ref b := (Option.some.inj ((fx _ (SqT.of ep2)).symm.trans hx)).trans eb
        subst ex
        have st := same_new (o := .tup [.int (i : Nat), .ref b]) nt
        have et := upd_same (H := H2) (a := t) (o := .tup [.int (i : Nat), .ref b])
        generalize upd H2 t (.tup [.int (i : Nat), .ref b]) = H3 at *
        refine ⟨t, _, rfl, SqT.of et, rfl, .int (i : Nat), [.ref b], rfl, .ref b, [], rfl, b, _, rfl, SqT.of (st _ _ hb), rfl, .int x1, [.int x2], rfl, .int x2, [], rfl, rfl, rfl, ?_⟩
        have out : ¬ (x1 ≤ pos ∧ pos ≤ x2) → Same H1 H3 ∧ (∀ j b, j < i + 1 → (blocksOf row)[j]? = some b → ¬ (b.1 ≤ pos ∧ pos ≤ b.2)) := fun w => ⟨sm.trans st, fun j b' hj e => by
          rcases Nat.lt_or_ge j i with h | h
          · exact no j b' h e
          · have : j = i := by omega
            subst this
            rw [ei] at e
            cases e
            exact w⟩
        refine ⟨.int x1, rfl, .int pos, rfl, _, _, rfl, rfl, _, rfl, ite2 (fun c1 => ?_) (fun c1 => ?_)⟩
        · refine ⟨.int x2, rfl, _, _, rfl, rfl, _, rfl, ite2 (fun c2 => ?_) (fun c2 => ?_)⟩
          · obtain ⟨e1, e2⟩ := ix_at good ei (of_decide_eq_true c1) (of_decide_eq_true c2)
            have q2 := q H3 (s1.trans (sm.trans st))
            unfold ixV at q2
            rw [if_pos e2, e1] at q2
            exact ⟨_, rfl, q2⟩
          · obtain ⟨o1, o2⟩ := out fun w => c2 (decide_eq_true w.2)
            exact ⟨o1, o2, _, _, _, rfl⟩
        · obtain ⟨o1, o2⟩ := out fun w => c1 (decide_eq_true w.1)
          exact ⟨_, rfl, iteF ⟨o1, o2, _, _, _, rfl⟩⟩
    · refine .inl ⟨⟨_, SqT.of ep2, rfl, by omega⟩, ?_⟩
      have q2 := q H2 (s1.trans sm)
      unfold ixV at q2
      rw [if_neg (fun d => ?_)] at q2
      · exact q2
      · obtain ⟨b, hb, w⟩ := dep_in good d
        obtain ⟨j, ej⟩ := List.getElem?_of_mem hb
        have := (List.getElem?_eq_some_iff.mp ej).1
        exact no j b (by omega) ej w

theorem put_len (kvs : List (Key × V)) (k : Key) (v : V) : (putK kvs k v).length ≤ kvs.length + 1 := by
  rcases keys_put kvs k v with ⟨e, _⟩ | ⟨e, _⟩
  · have l := congrArg List.length e
    rw [List.length_map, List.length_map] at l
    omega
  · have l := congrArg List.length e
    rw [List.length_map, List.length_append, List.length_map, List.length_singleton] at l
    omega
def sp_compress (K : PySem.W.Frag) : Sp := fun vs H Q _ => ∃ (a : Addr) (us : List V) (row : List (Int × Int)), vs = [.ref a] ∧ H a = some (.tup us) ∧ Ivs H us row ∧ Good row ∧ row.length ≤ 31 ∧
  ∀ H' p ws, Same H H' → H' p = some (.tup ws) → Ivs H' ws (row.map fun q => (ixI row q.1, ixI row q.2)) → Q (.ref p) H'
theorem ok_compress (T : Tx K mg f_depth_changes f_find_blocks f_block_index f_compress f_law_deck f_law_draw f_law_same f_law_interval f_law_stretched f_law_index f_law d_depth_changes d_find_blocks d_block_index d_compress d_law_deck d_law_draw d_law_same d_law_interval d_law_stretched d_law_index d_law) : FnOk P w K mg base CX0 3 f_compress d_compress ["intervals"] (sp_compress K) := by
  refine T.F_compress.ok sc_compress (fun vs H Q E h => ?_) (fun cdv A outer s H vs Q E hr h => ?_)
  · obtain ⟨a, us, row, rfl, _⟩ := h
    rfl
  · obtain ⟨a, us, row, rfl, ha, iv, good, few, q⟩ := h
    refine ⟨_, (pss_cons (ps_set (i := 1) sc_compress.nd rfl (Or.inl rfl) (pe_call (ok_find_blocks T) (hr.mono (by decide)) (by rfl) T.g_find_blocks T.F_find_blocks.kp T.b_find_blocks .nil pass0 (pa_cons (pv 0) pa_nil)))
      (pss_cons (ps_set (i := 2) sc_compress.nd rfl (Or.inr rfl) (pe_dc (own := [("index", 3), ("low", 4), ("high", 5)]) (g := (gTup K 2 (gCons (gName 3) (gCons (gTup K 2 (gCons (gName 4) (gCons (gName 5) gNil))) gNil)))) (tt := tYes) (by rfl) sc_compress.nd (pi_enumT (by rfl) T.z_enumerate (pa_cons (pv 1) pa_nil)) (blkOk_by (own := [("index", 3), ("low", 4), ("high", 5)]) (N := N_compress) (sc := defScope s_compress) (by decide +kernel)) (fun _ _ _ _ _ => (pg_tup rfl (pgs_cons (pg_name (i := 3) sc_compress.nd rfl (Or.inl rfl)) (pgs_cons (pg_tup rfl (pgs_cons (pg_name (i := 4) sc_compress.nd rfl (Or.inl rfl)) (pgs_cons (pg_name (i := 5) sc_compress.nd rfl (Or.inl rfl)) pgs_nil))) pgs_nil)))) (fun _ _ _ _ _ => pts_nil) (fun _ _ _ _ _ => (pv 4)) (fun _ _ _ _ _ => (pv 3))))
      (pss_cons (ps_set (i := 6) sc_compress.nd rfl (Or.inr rfl) (pe_dc (own := [("index", 3), ("low", 4), ("high", 5)]) (g := (gTup K 2 (gCons (gName 3) (gCons (gTup K 2 (gCons (gName 4) (gCons (gName 5) gNil))) gNil)))) (tt := tYes) (by rfl) sc_compress.nd (pi_enumT (by rfl) T.z_enumerate (pa_cons (pv 1) pa_nil)) (blkOk_by (own := [("index", 3), ("low", 4), ("high", 5)]) (N := N_compress) (sc := defScope s_compress) (by decide +kernel)) (fun _ _ _ _ _ => (pg_tup rfl (pgs_cons (pg_name (i := 3) sc_compress.nd rfl (Or.inl rfl)) (pgs_cons (pg_tup rfl (pgs_cons (pg_name (i := 4) sc_compress.nd rfl (Or.inl rfl)) (pgs_cons (pg_name (i := 5) sc_compress.nd rfl (Or.inl rfl)) pgs_nil))) pgs_nil)))) (fun _ _ _ _ _ => pts_nil) (fun _ _ _ _ _ => (pv 5)) (fun _ _ _ _ _ => (pv 3))))
      (pss_one (ps_ret (pe_callTy call_tuple_of (by rfl) T.z_tuple (by decide +kernel) (pa_cons (pe_lc (own := [("low", 4), ("high", 5)]) (g := (gTup K 2 (gCons (gName 4) (gCons (gName 5) gNil)))) (tt := tYes) (by rfl) sc_compress.nd (pi_tup (pv 0)) (blkOk_by (own := [("low", 4), ("high", 5)]) (N := N_compress) (sc := defScope s_compress) (by decide +kernel)) (fun _ _ _ _ _ => (pg_tup rfl (pgs_cons (pg_name (i := 4) sc_compress.nd rfl (Or.inl rfl)) (pgs_cons (pg_name (i := 5) sc_compress.nd rfl (Or.inl rfl)) pgs_nil)))) (fun _ _ _ _ _ => pts_nil) (fun _ _ _ _ _ => (pe_tup (pa_cons (pe_dget (hu_of hr) (pv 2) (pv 4) (fun _ _ => rfl)) (pa_cons (pe_dget (hu_of hr) (pv 6) (pv 5) (fun _ _ => rfl)) pa_nil))))) pa_nil))))))), ?_⟩
    have B := blocks_bl good
    refine ⟨.ref a, rfl, a, us, row, rfl, ha, iv, good, few, fun H1 p ws s1 ep1 ivw1 => ?_⟩
    have lw := ivw1.length
    have bf := blocks_few good
    -- by lows
    refine ⟨.ref p, rfl, p, ws, rfl, SqT.of ep1, fun D1 nD1 => ?_⟩
    refine ⟨fun i m H' => i + m = ws.length ∧ Same H1 H' ∧ ∃ kvs, H' D1 = some (.dK kvs) ∧ kvs.length ≤ i ∧ ∀ (j : Nat) (b : Int × Int), j < i → (blocksOf row)[j]? = some b → valV kvs (Sum.inl b.1) = some (.int j), ⟨ws.length, by omega, same_new nD1, [], upd_same, Nat.le_refl _, fun j b hj => absurd hj (Nat.not_lt_zero j)⟩, fun i m H1a hW => ?_⟩
    obtain ⟨em1, sm1, kvs1, eD1, lk1, val1⟩ := hW
    have ep1a := sm1 _ _ ep1
    by_cases hi : i < ws.length
    · have hx : ws[i]? = some ws[i] := List.getElem?_eq_getElem hi
      refine .inr ⟨⟨_, _, SqT.of ep1a, hx, rfl⟩, fun H' => Same H1 H' ∧ ∃ kvs, H' D1 = some (.dK kvs) ∧ kvs.length ≤ i + 1 ∧ ∀ (j : Nat) (b : Int × Int), j < i + 1 → (blocksOf row)[j]? = some b → valV kvs (Sum.inl b.1) = some (.int j), fun H' hN => ?_, fun z H' hy => ?_⟩
      · obtain ⟨n1, n2⟩ := hN
        exact ⟨m - 1, by omega, by omega, n1, n2⟩
      · obtain ⟨t, x, rfl, nt, rfl, fx⟩ := hy
        obtain ⟨b, x1, x2, eb, ei, hb⟩ := (ivw1.same sm1).get hx
        have ex : x = .ref b := (Option.some.inj ((fx _ (SqT.of ep1a)).symm.trans hx)).trans eb
        subst ex
        have st := same_new (o := .tup [.int (i : Nat), .ref b]) nt
        have et := upd_same (H := H1a) (a := t) (o := .tup [.int (i : Nat), .ref b])
        generalize upd H1a t (.tup [.int (i : Nat), .ref b]) = H1b at *
        refine ⟨t, _, rfl, SqT.of et, rfl, .int (i : Nat), [.ref b], rfl, .ref b, [], rfl, b, _, rfl, SqT.of (st _ _ hb), rfl, .int x1, [.int x2], rfl, .int x2, [], rfl, rfl, rfl, rfl, ?_⟩
        refine ⟨.int x1, rfl, .int (i : Nat), rfl, kvs1, Sum.inl x1, rfl, st _ _ eD1, small1000 (by omega), fun b' o e => ?_, _, upd_same, Nat.le_trans (put_len _ _ _) (by omega), fun j b' hj e => ?_⟩
        · rw [upd_ne (ne_of_none e nD1)]
          exact st _ _ (sm1 _ _ e)
        · rw [valV_put]
          rcases Nat.lt_or_ge j i with h | h
          · have lt := B.idx h e ei
            have o1 := (B.ok _ (List.mem_of_getElem? e)).2.1
            have o2 := (B.ok _ (List.mem_of_getElem? ei)).2.1
            rw [if_neg (fun z => ?_)]
            · exact val1 j b' h e
            · have z' : b'.1 = x1 := Sum.inl.inj z
              have lt' : b'.2 < x1 := lt
              have o2' : x1 ≤ x2 := o2
              omega
          · have : j = i := by omega
            subst this
            rw [ei] at e
            cases e
            rw [if_pos rfl]
    refine .inl ⟨⟨_, SqT.of ep1a, rfl, by omega⟩, ?_⟩
    have ep2 := ep1a
    have ivw2 := ivw1.same sm1
    have all1 : ∀ (j : Nat) (b : Int × Int), (blocksOf row)[j]? = some b → valV kvs1 (Sum.inl b.1) = some (.int j) := fun j b e => val1 j b (by have := (List.getElem?_eq_some_iff.mp e).1; omega) e
    -- by highs
    refine ⟨.ref p, rfl, p, ws, rfl, SqT.of ep2, fun D2 nD2 => ?_⟩
    refine ⟨fun i m H' => i + m = ws.length ∧ Same H1a H' ∧ ∃ kvs, H' D2 = some (.dK kvs) ∧ kvs.length ≤ i ∧ ∀ (j : Nat) (b : Int × Int), j < i → (blocksOf row)[j]? = some b → valV kvs (Sum.inl b.2) = some (.int j), ⟨ws.length, by omega, same_new nD2, [], upd_same, Nat.le_refl _, fun j b hj => absurd hj (Nat.not_lt_zero j)⟩, fun i m H1aa hW => ?_⟩
    obtain ⟨em2, sm2, kvs2, eD2, lk2, val2⟩ := hW
    have ep2a := sm2 _ _ ep2
    by_cases hi : i < ws.length
    · have hx : ws[i]? = some ws[i] := List.getElem?_eq_getElem hi
      refine .inr ⟨⟨_, _, SqT.of ep2a, hx, rfl⟩, fun H' => Same H1a H' ∧ ∃ kvs, H' D2 = some (.dK kvs) ∧ kvs.length ≤ i + 1 ∧ ∀ (j : Nat) (b : Int × Int), j < i + 1 → (blocksOf row)[j]? = some b → valV kvs (Sum.inl b.2) = some (.int j), fun H' hN => ?_, fun z H' hy => ?_⟩
      · obtain ⟨n1, n2⟩ := hN
        exact ⟨m - 1, by omega, by omega, n1, n2⟩
      · obtain ⟨t, x, rfl, nt, rfl, fx⟩ := hy
        obtain ⟨b, x1, x2, eb, ei, hb⟩ := (ivw2.same sm2).get hx
        have ex : x = .ref b := (Option.some.inj ((fx _ (SqT.of ep2a)).symm.trans hx)).trans eb
        subst ex
        have st := same_new (o := .tup [.int (i : Nat), .ref b]) nt
        have et := upd_same (H := H1aa) (a := t) (o := .tup [.int (i : Nat), .ref b])
        generalize upd H1aa t (.tup [.int (i : Nat), .ref b]) = H1ab at *
        refine ⟨t, _, rfl, SqT.of et, rfl, .int (i : Nat), [.ref b], rfl, .ref b, [], rfl, b, _, rfl, SqT.of (st _ _ hb), rfl, .int x1, [.int x2], rfl, .int x2, [], rfl, rfl, rfl, rfl, ?_⟩
        refine ⟨.int x2, rfl, .int (i : Nat), rfl, kvs2, Sum.inl x2, rfl, st _ _ eD2, small1000 (by omega), fun b' o e => ?_, _, upd_same, Nat.le_trans (put_len _ _ _) (by omega), fun j b' hj e => ?_⟩
        · rw [upd_ne (ne_of_none e nD2)]
          exact st _ _ (sm2 _ _ e)
        · rw [valV_put]
          rcases Nat.lt_or_ge j i with h | h
          · have lt := B.idx h e ei
            have o1 := (B.ok _ (List.mem_of_getElem? e)).2.1
            have o2 := (B.ok _ (List.mem_of_getElem? ei)).2.1
            rw [if_neg (fun z => ?_)]
            · exact val2 j b' h e
            · have z' : b'.2 = x2 := Sum.inl.inj z
              have lt' : b'.2 < x1 := lt
              have o2' : x1 ≤ x2 := o2
              omega
          · have : j = i := by omega
            subst this
            rw [ei] at e
            cases e
            rw [if_pos rfl]
    refine .inl ⟨⟨_, SqT.of ep2a, rfl, by omega⟩, ?_⟩
    have all2 : ∀ (j : Nat) (b : Int × Int), (blocksOf row)[j]? = some b → valV kvs2 (Sum.inl b.2) = some (.int j) := fun j b e => val2 j b (by have := (List.getElem?_eq_some_iff.mp e).1; omega) e
    have sA := s1.trans (sm1.trans sm2)
    have eD1' := sm2 _ _ eD1
    generalize H1aa = H5 at *
    refine ⟨.ref a, rfl, a, rfl, ⟨_, SqT.of (sA _ _ ha)⟩, fun D nD => ?_⟩
    have il := iv.length
    refine lc_tup (K := K) (a := a) (xs := us) (fun i H' => Same H5 H' ∧ ∃ zs, H' D = some (.lst zs) ∧ Ivs H' zs ((row.take i).map fun q => (ixI row q.1, ixI row q.2))) ⟨same_new nD, [], upd_same, .nil⟩ (fun i H' _ h => SqT.of (h.1 _ _ (sA _ _ ha))) ?_ ?_
    · rintro i x H6 hi ⟨sm, zs, eD, ivz⟩
      obtain ⟨b, x1, x2, rfl, ei, hb⟩ := iv.get hi
      have mq := List.mem_of_getElem? ei
      have gq := good _ mq
      obtain ⟨j1, b1, e1, f1⟩ := low_at good mq
      obtain ⟨j2, b2, e2, f2, f3⟩ := high_at good mq
      have v1 := all1 j1 b1 e1
      have v2 := all2 j2 b2 e2
      have o1 := (B.ok _ (List.mem_of_getElem? e1)).2.1
      have i1 := (ix_at good e1 (pos := x1) (by rw [f1]; exact Int.le_refl _) (by rw [f1] at o1; exact o1)).1
      have i2 := (ix_at good e2 (pos := x2) f3 (by rw [f2]; exact Int.le_refl _)).1
      rw [f1] at v1
      rw [f2] at v2
      have g1 := DGet.k (k := Sum.inl x1) (sm _ _ eD1')
      have g2 := DGet.k (k := Sum.inl x2) (sm _ _ eD2)
      rw [v1] at g1
      rw [v2] at g2
      refine ⟨b, _, rfl, SqT.of (sm _ _ (sA _ _ hb)), rfl, .int x1, [.int x2], rfl, .int x2, [], rfl, rfl, rfl, ?_⟩
      refine ⟨.ref D1, rfl, .int x1, rfl, D1, _, rfl, g1, .ref D2, rfl, .int x2, rfl, D2, _, rfl, g2, by show 2 ≤ sizeLine; decide, fun t nt => ?_⟩
      have st := same_new (o := .tup [.int (j1 : Int), .int (j2 : Int)]) nt
      have et := upd_same (H := H6) (a := t) (o := .tup [.int (j1 : Int), .int (j2 : Int)])
      generalize upd H6 t (.tup [.int (j1 : Int), .int (j2 : Int)]) = H7 at *
      have eD7 := st _ _ eD
      have zl : zs.length ≤ 31 := by
        rw [ivz.length, List.length_map]
        exact Nat.le_trans (List.length_take_le' _ _) few
      refine ⟨zs, eD7, small1000 (by omega), fun b' o e => ?_, _, upd_same, ?_⟩
      · rw [upd_ne (ne_of_none e nD)]
        exact st _ _ (sm _ _ e)
      · have up : ∀ {vs : List V} {qs : List (Int × Int)}, Ivs H7 vs qs → Ivs (upd H7 D (.lst (zs ++ [.ref t]))) vs qs := by
          intro vs qs hv
          induction hv with
          | nil => exact .nil
          | cons e' _ ih =>
            refine .cons ?_ ih
            rw [upd_ne (ne_of e' eD7 (fun z => by cases z))]
            exact e'
        rw [List.take_add_one, ei, List.map_append]
        refine (up (ivz.same st)).snoc ?_
        rw [upd_ne (ne_of et eD7 (fun z => by cases z)), i1, i2]
        exact et
    · rintro H6 ⟨sm, zs, eD, ivz⟩
      rw [il, List.take_length] at ivz
      refine ⟨D, zs, rfl, .inl ⟨SqL.of eD, fun l nl => ?_⟩⟩
      exact q _ l zs (sA.trans (sm.trans (same_new nl))) upd_same (ivz.same (same_new nl))

/-! ### comprehensions that change nothing but make new objects -/
/-- the tuples stay -/
def Tps (H H' : Hp) : Prop := ∀ b xs, H b = some (.tup xs) → H' b = some (.tup xs)
theorem Tps.refl (H : Hp) : Tps H H := fun _ _ e => e
theorem Tps.trans {H H1 H2 : Hp} (h : Tps H H1) (h2 : Tps H1 H2) : Tps H H2 := fun b xs e => h2 b xs (h b xs e)
theorem Tps.same {H H1 : Hp} (h : Same H H1) : Tps H H1 := fun b xs e => h b _ e
theorem Kp.tps {d c : Addr} {n : Int} {H H' : Hp} (k : Kp d c H H') (dk : Dk H d c n) : Tps H H' := fun _ _ e => k.tup dk e
theorem Tps.lst {H : Hp} {D : Addr} {ws vs : List V} (e : H D = some (.lst ws)) : Tps H (upd H D (.lst vs)) := fun b xs h => by
  rw [upd_ne (ne_of h e (fun z => by cases z))]
  exact h
theorem same_off {H0 H : Hp} {D : Addr} {o : HO} (n : H0 D = none) (s : Same H0 H) : Same H0 (upd H D o) := fun b u e => by
  rw [upd_ne (ne_of_none e n)]
  exact s b u e
theorem few_line {n : Nat} (h : n < 1000) : n < sizeLine := by
  rw [show sizeLine = 16777216 by decide]
  omega
theorem lcL {K : PySem.W.Frag} {a : Addr} {xs : List V} {g : TG} {tt : TT} {te : TE} {vs : List Nat} {σ : L2.St} {H1 : Hp} {D : Addr} {Qd : Hp → Prop} (R : Nat → Hp → List V → Prop) (nD : H1 D = none) (hl : ∀ H', Same H1 H' → SqL K H' a xs) (few : xs.length < 1000)
    (mono : ∀ i H' H'' ws, Tps H' H'' → R i H' ws → R i H'' ws) (len : ∀ i H' ws, R i H' ws → ws.length ≤ i) (r0 : ∀ H', R 0 H' [])
    (hs : ∀ i x H' (N : Hp → Prop) acc, xs[i]? = some x → Same H1 H' → H' D = some (.lst acc) → acc.length < sizeLine → R i H' acc → (∀ H'', Same H' H'' → R (i + 1) H'' acc → N H'') → (∀ H'' y, Same H' H'' → R (i + 1) H'' (acc ++ [y]) → ∃ acc', H'' D = some (.lst acc') ∧ acc'.length < sizeLine ∧ N (upd H'' D (.lst (acc' ++ [y])))) →
      g x (wipe σ vs) H' fun σ2 H2 => wipe σ2 vs = wipe σ vs ∧ tt σ2 H2 fun b H3 => if b = true then te σ2 H3 fun y H4 => ∃ acc, H4 D = some (.lst acc) ∧ acc.length < sizeLine ∧ N (upd H4 D (.lst (acc ++ [y]))) else N H3)
    (hd : ∀ H' ws, Same H1 H' → H' D = some (.lst ws) → R xs.length H' ws → Qd H') :
    ∃ W : Nat → Nat → Hp → Prop, (∃ m, W 0 m (upd H1 D (.lst []))) ∧ ∀ i m H, W i m H →
      ((Itl K a).stop i H ∧ Qd H) ∨ ((Itl K a).go i H ∧ ∃ Nx : Hp → Prop, (∀ H', Nx H' → ∃ m', m' < m ∧ W (i + 1) m' H') ∧ ∀ x H', (Itl K a).yld i H x H' → g x (wipe σ vs) H' fun σ2 H2 => wipe σ2 vs = wipe σ vs ∧ tt σ2 H2 fun b H3 =>
        if b = true then te σ2 H3 fun y H4 => ∃ acc, H4 D = some (.lst acc) ∧ acc.length < sizeLine ∧ Nx (upd H4 D (.lst (acc ++ [y]))) else Nx H3) := by
  refine lc_list (K := K) (a := a) (xs := xs) (fun i H' => Same H1 H' ∧ ∃ ws, H' D = some (.lst ws) ∧ R i H' ws) ⟨same_new nD, [], upd_same, r0 _⟩ (fun i H' _ h => hl H' h.1) ?_ ?_
  · rintro i x H' hi ⟨sm, ws, eD, r⟩
    have lt := (List.getElem?_eq_some_iff.mp hi).1
    have lw := len i H' ws r
    have sz : ws.length < sizeLine := few_line (by omega)
    refine hs i x H' _ ws hi sm eD sz r (fun H'' s r2 => ⟨sm.trans s, ws, s _ _ eD, r2⟩) (fun H'' y s r2 => ?_)
    exact ⟨ws, s _ _ eD, sz, same_off nD (sm.trans s), _, upd_same, mono _ _ _ _ (Tps.lst (s _ _ eD)) r2⟩
  · rintro H' ⟨sm, ws, eD, r⟩
    exact hd H' ws sm eD r
theorem lcT {K : PySem.W.Frag} {a : Addr} {xs : List V} {g : TG} {tt : TT} {te : TE} {vs : List Nat} {σ : L2.St} {H1 : Hp} {D : Addr} {Qd : Hp → Prop} (R : Nat → Hp → List V → Prop) (nD : H1 D = none) (hl : ∀ H', Same H1 H' → SqT K H' a xs) (few : xs.length < 1000)
    (mono : ∀ i H' H'' ws, Tps H' H'' → R i H' ws → R i H'' ws) (len : ∀ i H' ws, R i H' ws → ws.length ≤ i) (r0 : ∀ H', R 0 H' [])
    (hs : ∀ i x H' (N : Hp → Prop) acc, xs[i]? = some x → Same H1 H' → H' D = some (.lst acc) → acc.length < sizeLine → R i H' acc → (∀ H'', Same H' H'' → R (i + 1) H'' acc → N H'') → (∀ H'' y, Same H' H'' → R (i + 1) H'' (acc ++ [y]) → ∃ acc', H'' D = some (.lst acc') ∧ acc'.length < sizeLine ∧ N (upd H'' D (.lst (acc' ++ [y])))) →
      g x (wipe σ vs) H' fun σ2 H2 => wipe σ2 vs = wipe σ vs ∧ tt σ2 H2 fun b H3 => if b = true then te σ2 H3 fun y H4 => ∃ acc, H4 D = some (.lst acc) ∧ acc.length < sizeLine ∧ N (upd H4 D (.lst (acc ++ [y]))) else N H3)
    (hd : ∀ H' ws, Same H1 H' → H' D = some (.lst ws) → R xs.length H' ws → Qd H') :
    ∃ W : Nat → Nat → Hp → Prop, (∃ m, W 0 m (upd H1 D (.lst []))) ∧ ∀ i m H, W i m H →
      ((Itt K a).stop i H ∧ Qd H) ∨ ((Itt K a).go i H ∧ ∃ Nx : Hp → Prop, (∀ H', Nx H' → ∃ m', m' < m ∧ W (i + 1) m' H') ∧ ∀ x H', (Itt K a).yld i H x H' → g x (wipe σ vs) H' fun σ2 H2 => wipe σ2 vs = wipe σ vs ∧ tt σ2 H2 fun b H3 =>
        if b = true then te σ2 H3 fun y H4 => ∃ acc, H4 D = some (.lst acc) ∧ acc.length < sizeLine ∧ Nx (upd H4 D (.lst (acc ++ [y]))) else Nx H3) := by
  refine lc_tup (K := K) (a := a) (xs := xs) (fun i H' => Same H1 H' ∧ ∃ ws, H' D = some (.lst ws) ∧ R i H' ws) ⟨same_new nD, [], upd_same, r0 _⟩ (fun i H' _ h => hl H' h.1) ?_ ?_
  · rintro i x H' hi ⟨sm, ws, eD, r⟩
    have lt := (List.getElem?_eq_some_iff.mp hi).1
    have lw := len i H' ws r
    have sz : ws.length < sizeLine := few_line (by omega)
    refine hs i x H' _ ws hi sm eD sz r (fun H'' s r2 => ⟨sm.trans s, ws, s _ _ eD, r2⟩) (fun H'' y s r2 => ?_)
    exact ⟨ws, s _ _ eD, sz, same_off nD (sm.trans s), _, upd_same, mono _ _ _ _ (Tps.lst (s _ _ eD)) r2⟩
  · rintro H' ⟨sm, ws, eD, r⟩
    exact hd H' ws sm eD r
theorem map_filter_len {α : Type} {ns : List α} {p : α → Bool} {f : α → V} (i : Nat) : (((ns.take i).filter p).map f).length ≤ i := by
  rw [List.length_map]
  exact Nat.le_trans (List.length_filter_le _ _) (List.length_take_le _ _)
theorem take_filter {α : Type} {ns : List α} {i : Nat} {n : α} {p : α → Bool} (h : ns[i]? = some n) : (ns.take (i + 1)).filter p = (ns.take i).filter p ++ (if p n = true then [n] else []) := by
  rw [List.take_add_one, h, List.filter_append]
  congr 1
  show List.filter p [n] = _
  rw [List.filter_cons]
  split <;> rfl
theorem nodup_le {α : Type} [DecidableEq α] : ∀ {l m : List α}, l.Nodup → (∀ x ∈ l, x ∈ m) → l.length ≤ m.length
  | [], _, _, _ => Nat.zero_le _
  | a :: l, m, h, hs => by
    have hm := hs a List.mem_cons_self
    have h' := List.nodup_cons.mp h
    have ih := nodup_le (l := l) (m := m.erase a) h'.2 (fun x hx => (List.mem_erase_of_ne (fun e => h'.1 (by rw [← e]; exact hx))).mpr (hs x (List.mem_cons_of_mem _ hx)))
    rw [List.length_erase_of_mem hm] at ih
    have := List.length_pos_of_mem hm
    rw [List.length_cons]
    omega

theorem Ivs.tps {H H' : Hp} (s : Tps H H') {vs : List V} {ps : List (Int × Int)} (h : Ivs H vs ps) : Ivs H' vs ps := by
  induction h with
  | nil => exact .nil
  | cons e _ ih => exact .cons (s _ _ e) ih
theorem Ivs.append {H : Hp} {vs us : List V} {ps qs : List (Int × Int)} (h : Ivs H vs ps) (h2 : Ivs H us qs) : Ivs H (vs ++ us) (ps ++ qs) := by
  induction h with
  | nil => exact h2
  | cons e _ ih => exact .cons e ih
theorem Ivs.take {H : Hp} {vs : List V} {ps : List (Int × Int)} (h : Ivs H vs ps) : ∀ n : Nat, Ivs H (vs.take n) (ps.take n) := by
  induction h with
  | nil =>
    intro n
    rw [List.take_nil, List.take_nil]
    exact .nil
  | cons e _ ih =>
    intro n
    cases n with
    | zero => exact .nil
    | succ n => exact .cons e (ih n)
theorem cutTo (xs : List V) (j : Nat) : cutV xs none (some (j : Int)) = xs.take j := by
  unfold cutV
  rw [HT.sIx_none, show HT.sIx xs.length xs.length (some (j : Int)) = min j xs.length from HT.sIx_nat xs.length xs.length j]
  rw [Nat.sub_zero, List.drop_zero]
  rcases Nat.le_total j xs.length with h | h
  · rw [Nat.min_eq_left h]
  · rw [Nat.min_eq_right h, List.take_length, List.take_of_length_le h]
theorem sm_row {ps : List (Int × Int)} {n : Nat} (h : ∀ p ∈ ps, p.1.natAbs < 10 ^ 30 ∧ p.2.natAbs < 10 ^ 30) (hn : ps.length ≤ n) : Sm (n * 203) 2 (.tuple (ps.map pairD)) := by
  refine (Sm.tup (n := 202) (dp := 1) (fun d hd => ?_)).mono ?_ (Nat.le_refl _)
  · obtain ⟨p, hp, rfl⟩ := List.mem_map.mp hd
    have z := h p hp
    exact sm2 z.1 z.2
  · rw [List.length_map]
    exact Nat.mul_le_mul_right _ hn
theorem Dk.upd {H : Hp} {d c : Addr} {n : Int} (h : Dk H d c n) {p : Addr} {o : HO} (off : p ≠ d ∧ p ≠ c) : Dk (upd H p o) d c n := by
  obtain ⟨xs, e, a⟩ := h.cells
  exact ⟨by rw [upd_ne off.1.symm]; exact h.top, xs, by rw [upd_ne off.2.symm]; exact e, a⟩

def sp_law_index : Sp := fun vs H Q _ => ∃ (a : Addr) (us : List V) (row : List (Int × Int)) (pos : Int), vs = [.ref a, .int pos] ∧ H a = some (.tup us) ∧ Ivs H us row ∧ Good row ∧ row.length ≤ 20 ∧
  ∀ H', Same H H' → Q (ixV row pos) H'
theorem dep_empty {row : List (Int × Int)} {p : Int} : (row.filter fun q => decide (q.1 ≤ p) && decide (p ≤ q.2)).isEmpty = !decide (0 < depI row p) := by
  rw [Bool.eq_iff_iff, List.isEmpty_iff, List.filter_eq_nil_iff, Bool.not_eq_true', decide_eq_false_iff_not]
  constructor
  · intro h z
    obtain ⟨q, hq, w⟩ := dep_pos.mp z
    exact h q hq (Bool.and_eq_true_iff.mpr ⟨decide_eq_true w.1, decide_eq_true w.2⟩)
  · intro h q hq z
    have z := Bool.and_eq_true_iff.mp z
    exact h (dep_pos.mpr ⟨q, hq, of_decide_eq_true z.1, of_decide_eq_true z.2⟩)
theorem asc_ext {l m : List Int} (hl : l.Pairwise (· < ·)) (hm : m.Pairwise (· < ·)) (h : ∀ x, x ∈ l ↔ x ∈ m) : l = m := by
  induction l generalizing m with
  | nil =>
    cases m with
    | nil => rfl
    | cons b m => exact absurd ((h b).mpr List.mem_cons_self) (fun z => nomatch z)
  | cons a l ih =>
    cases m with
    | nil => exact absurd ((h a).mp List.mem_cons_self) (fun z => nomatch z)
    | cons b m =>
      have pl := List.pairwise_cons.mp hl
      have pm := List.pairwise_cons.mp hm
      have e : a = b := by
        rcases List.mem_cons.mp ((h a).mp List.mem_cons_self) with e | e
        · exact e
        · rcases List.mem_cons.mp ((h b).mpr List.mem_cons_self) with e2 | e2
          · exact e2.symm
          · have := pm.1 a e
            have := pl.1 b e2
            omega
      subst e
      rw [ih pl.2 pm.2 fun x => ?_]
      constructor
      · intro hx
        rcases List.mem_cons.mp ((h x).mp (List.mem_cons_of_mem _ hx)) with e | e
        · have := pl.1 x hx
          omega
        · exact e
      · intro hx
        rcases List.mem_cons.mp ((h x).mpr (List.mem_cons_of_mem _ hx)) with e | e
        · have := pm.1 x hx
          omega
        · exact e
theorem lows_cuts {row : List (Int × Int)} (g : Good row) {cs : List Int} (asc : cs.Pairwise (· < ·)) (mem : ∀ c, c ∈ cs ↔ Bd row c) : cs.filter (fun c => decide (0 < depI row c)) = lowsOf row := by
  have B := blocks_bl g
  refine asc_ext (asc.filter _) ?_ fun x => ?_
  · unfold lowsOf
    rw [B.fst]
    exact List.Pairwise.map _ (fun a b h => by omega) ((List.pairwise_lt_range).filter _)
  · rw [List.mem_filter, mem]
    unfold lowsOf
    rw [B.fst]
    constructor
    · rintro ⟨bd, d⟩
      have d := of_decide_eq_true d
      obtain ⟨q, hq, w⟩ := dep_pos.mp d
      have gq := g q hq
      have tq := topN_le hq
      refine List.mem_map.mpr ⟨x.toNat, List.mem_filter.mpr ⟨List.mem_range.mpr (by omega), ?_⟩, by omega⟩
      have c : ((x.toNat : Nat) : Int) = x := by omega
      unfold stB
      rw [c]
      exact Bool.and_eq_true_iff.mpr ⟨decide_eq_true d, decide_eq_true bd⟩
    · intro h
      obtain ⟨n, hn, rfl⟩ := List.mem_map.mp h
      have z := Bool.and_eq_true_iff.mp (List.mem_filter.mp hn).2
      exact ⟨of_decide_eq_true z.2, z.1⟩
theorem ok_law_index (T : Tx K mg f_depth_changes f_find_blocks f_block_index f_compress f_law_deck f_law_draw f_law_same f_law_interval f_law_stretched f_law_index f_law d_depth_changes d_find_blocks d_block_index d_compress d_law_deck d_law_draw d_law_same d_law_interval d_law_stretched d_law_index d_law) : FnOk P w K mg base CX0 1 f_law_index d_law_index ["_law_row", "_law_position"] sp_law_index := by
  refine T.F_law_index.ok sc_law_index (fun vs H Q E h => ?_) (fun cdv A outer s H vs Q E hr h => ?_)
  · obtain ⟨a, us, row, pos, rfl, _⟩ := h
    rfl
  · obtain ⟨a, us, row, pos, rfl, ha, iv, good, few, q⟩ := h
    have lu := iv.length
    refine ⟨_, (pss_cons (ps_set (i := 2) sc_law_index.nd rfl (Or.inl rfl) (pe_callB (cr_sortedSet rfl) (by rfl) T.z_sorted (by decide +kernel) (pa_cons (pe_callTy (cr_setOfI rfl) (by rfl) T.z_set (by decide +kernel) (pa_cons (pe_op op_cat (pe_lc (own := [("_law_low", 3), ("_law_high", 4)]) (g := (gTup K 2 (gCons (gName 3) (gCons (gName 4) gNil)))) (tt := tYes) (by rfl) sc_law_index.nd (pi_tup (pv 0)) (blkOk_by (own := [("_law_low", 3), ("_law_high", 4)]) (N := N_law_index) (sc := defScope s_law_index) (by decide +kernel)) (fun _ _ _ _ _ => (pg_tup rfl (pgs_cons (pg_name (i := 3) sc_law_index.nd rfl (Or.inl rfl)) (pgs_cons (pg_name (i := 4) sc_law_index.nd rfl (Or.inl rfl)) pgs_nil)))) (fun _ _ _ _ _ => pts_nil) (fun _ _ _ _ _ => (pv 3))) (pe_lc (own := [("_law_low", 3), ("_law_high", 4)]) (g := (gTup K 2 (gCons (gName 3) (gCons (gName 4) gNil)))) (tt := tYes) (by rfl) sc_law_index.nd (pi_tup (pv 0)) (blkOk_by (own := [("_law_low", 3), ("_law_high", 4)]) (N := N_law_index) (sc := defScope s_law_index) (by decide +kernel)) (fun _ _ _ _ _ => (pg_tup rfl (pgs_cons (pg_name (i := 3) sc_law_index.nd rfl (Or.inl rfl)) (pgs_cons (pg_name (i := 4) sc_law_index.nd rfl (Or.inl rfl)) pgs_nil)))) (fun _ _ _ _ _ => pts_nil) (fun _ _ _ _ _ => (pe_op op_add (pv 4) pe_int)))) pa_nil)) pa_nil)))
      (pss_cons (ps_if (pt_cmpR (op_eqL hr.units0) (pe_lc (own := [("_law_low", 3), ("_law_high", 4)]) (g := (gTup K 2 (gCons (gName 3) (gCons (gName 4) gNil)))) (by rfl) sc_law_index.nd (pi_tup (pv 0)) (blkOk_by (own := [("_law_low", 3), ("_law_high", 4)]) (N := N_law_index) (sc := defScope s_law_index) (by decide +kernel)) (fun _ _ _ _ _ => (pg_tup rfl (pgs_cons (pg_name (i := 3) sc_law_index.nd rfl (Or.inl rfl)) (pgs_cons (pg_name (i := 4) sc_law_index.nd rfl (Or.inl rfl)) pgs_nil)))) (fun _ _ _ _ _ => pts_one (pt_chain op_le op_le (pv 3) (pv 1) (pv 4))) (fun _ _ _ _ _ => pe_int)) (pe_lst pa_nil) (nomark _))
      (pss_one (ps_ret pe_non))
      pss_nil)
      (pss_cons (ps_setLc (i := 5) (own := [("_law_cut", 6)]) (g := (gName 6)) (by rfl) sc_law_index.nd rfl rfl (sw_true rfl rfl rfl (by decide +kernel)) (pi_list (pv 2)) (blkOk_by (own := [("_law_cut", 6)]) (N := N_law_index) (sc := defScope s_law_index) (by decide +kernel)) (fun _ _ _ _ _ => (pg_name (i := 6) sc_law_index.nd rfl (Or.inr rfl))) (fun _ _ _ _ _ => pts_one (PW.pt (pw_and (pt_cmpR op_le (pv 6) (pv 1) (nomark _)) (pw_and1 (pt_cmpR (show OpR _ (compareOp .NotEq) (rNeL K) from (op_neL hr.units0)) (pe_lc (own := [("_law_low", 3), ("_law_high", 4)]) (g := (gTup K 2 (gCons (gName 3) (gCons (gName 4) gNil)))) (by rfl) sc_law_index.nd (pi_tupK (K := K) rfl (pv 0)) (blkOk_by (own := [("_law_low", 3), ("_law_high", 4)]) (N := N_law_index) (by rfl)) (fun _ _ _ _ _ => (pg_tup rfl (pgs_cons (pg_name (i := 3) sc_law_index.nd rfl (Or.inl rfl)) (pgs_cons (pg_name (i := 4) sc_law_index.nd rfl (Or.inl rfl)) pgs_nil)))) (fun _ _ _ _ _ => pts_one (pt_chain op_le op_le (pv 3) (pv 6) (pv 4))) (fun _ _ _ _ _ => pe_int)) (pe_lst pa_nil) (nomark _)))))) (fun _ _ _ _ _ => (pv 6)))
      (pss_one (ps_ret (pe_op op_sub (pe_callB call_len_seq (by rfl) T.z_len PySem.boot_len (pa_cons (pv 5) pa_nil)) pe_int)))))), ?_⟩
    -- the low ends
    refine ⟨.ref a, rfl, a, rfl, ⟨_, SqT.of ha⟩, fun D nD => ?_⟩
    refine lcT (K := K) (a := a) (xs := us) (fun j H' ws => ws = ((row.take j).map (·.1)).map V.int) nD (fun H' s => SqT.of (s _ _ ha)) (by omega) (fun _ _ _ _ _ r => r) (fun j H' ws r => by rw [r, List.length_map, List.length_map]; exact List.length_take_le _ _) (fun _ => rfl) ?_ ?_
    · rintro j z H' N acc hj sj eA sz r no yes
      obtain ⟨b, x, y, rfl, exy, hb⟩ := iv.get hj
      refine ⟨b, _, rfl, SqT.of (sj _ _ hb), rfl, .int x, [.int y], rfl, .int y, [], rfl, rfl, rfl, .int x, rfl, yes H' _ (Same.refl _) ?_⟩
      rw [r, List.take_add_one, exy, List.map_append, List.map_append]
      rfl
    intro H1 ws s1 eD r
    rw [lu, List.take_length] at r
    subst r
    -- the high ends
    refine ⟨.ref a, rfl, a, rfl, ⟨_, SqT.of (s1 _ _ ha)⟩, fun D2 nD2 => ?_⟩
    refine lcT (K := K) (a := a) (xs := us) (fun j H' ws => ws = ((row.take j).map (fun q => q.2 + 1)).map V.int) nD2 (fun H' s => SqT.of (s _ _ (s1 _ _ ha))) (by omega) (fun _ _ _ _ _ r => r) (fun j H' ws r => by rw [r, List.length_map, List.length_map]; exact List.length_take_le _ _) (fun _ => rfl) ?_ ?_
    · rintro j z H' N acc hj sj eA sz r no yes
      obtain ⟨b, x, y, rfl, exy, hb⟩ := iv.get hj
      refine ⟨b, _, rfl, SqT.of (sj _ _ (s1 _ _ hb)), rfl, .int x, [.int y], rfl, .int y, [], rfl, rfl, rfl, .int y, rfl, _, _, rfl, rfl, yes H' _ (Same.refl _) ?_⟩
      rw [r, List.take_add_one, exy, List.map_append, List.map_append]
      rfl
    intro H2 ws s2 eD2 r
    rw [lu, List.take_length] at r
    subst r
    refine ⟨D, D2, _, _, rfl, rfl, s2 _ _ eD, eD2, by rw [show sizeLine = 16777216 by decide, List.length_map, List.length_map, List.length_map, List.length_map]; omega, fun g ng => ?_⟩
    have s3 := same_new (o := .lst ((row.map (·.1)).map V.int ++ (row.map (fun q => q.2 + 1)).map V.int)) ng
    have e3 := upd_same (H := H2) (a := g) (o := .lst ((row.map (·.1)).map V.int ++ (row.map (fun q => q.2 + 1)).map V.int))
    generalize upd H2 g (.lst ((row.map (·.1)).map V.int ++ (row.map (fun q => q.2 + 1)).map V.int)) = H3 at *
    rw [← List.map_append] at e3
    have s13 := s1.trans (s2.trans s3)
    have lall : (row.map (fun q : Int × Int => q.1) ++ row.map (fun q : Int × Int => q.2 + 1)).length ≤ 40 := by
      rw [List.length_append, List.length_map, List.length_map]
      omega
    have mall : ∀ c : Int, c ∈ row.map (fun q : Int × Int => q.1) ++ row.map (fun q : Int × Int => q.2 + 1) ↔ Bd row c := fun c => by
      rw [List.mem_append, List.mem_map, List.mem_map]
      constructor
      · rintro (⟨q, hq, e⟩ | ⟨q, hq, e⟩)
        · exact ⟨q, hq, .inl e⟩
        · exact ⟨q, hq, .inr e⟩
      · rintro ⟨q, hq, e | e⟩
        · exact .inl ⟨q, hq, e⟩
        · exact .inr ⟨q, hq, e⟩
    generalize row.map (fun q : Int × Int => q.1) ++ row.map (fun q : Int × Int => q.2 + 1) = all at *
    refine ⟨g, all, rfl, SqL.of e3, by omega, fun H4 st n s4 nst est ln => ?_⟩
    refine ⟨st, _, n, rfl, est, by omega, fun cs pe asc mem len npe => ?_⟩
    have s5 := same_new (o := .lst (cs.map V.int)) npe
    have e5 := upd_same (H := H4) (a := pe) (o := .lst (cs.map V.int))
    generalize upd H4 pe (.lst (cs.map V.int)) = H5 at *
    have s15 := s13.trans (s4.trans s5)
    have memB : ∀ c, c ∈ cs ↔ Bd row c := fun c => by
      rw [mem, ← mall]
      exact decide_eq_true_iff
    -- is the position anywhere
    refine ⟨.ref a, rfl, a, rfl, ⟨_, SqT.of (s15 _ _ ha)⟩, fun D3 nD3 => ?_⟩
    refine lcT (K := K) (a := a) (xs := us) (fun j H' ws => ws = ((row.take j).filter fun q => decide (q.1 ≤ pos) && decide (pos ≤ q.2)).map fun _ => V.int 1) nD3 (fun H' s => SqT.of (s _ _ (s15 _ _ ha))) (by omega) (fun _ _ _ _ _ r => r) (fun j H' ws r => by rw [r]; exact map_filter_len j) (fun _ => rfl) ?_ ?_
    · rintro j z H' N acc hj sj eA sz r no yes
      obtain ⟨b, x, y, rfl, exy, hb⟩ := iv.get hj
      have out : ¬ (decide (x ≤ pos) && decide (pos ≤ y)) = true → N H' := fun e => by
        refine no H' (Same.refl _) ?_
        rw [r, take_filter exy, if_neg e, List.append_nil]
      refine ⟨b, _, rfl, SqT.of (sj _ _ (s15 _ _ hb)), rfl, .int x, [.int y], rfl, .int y, [], rfl, rfl, rfl, .int x, rfl, .int pos, rfl, _, _, rfl, rfl, _, rfl, ite2 (fun c1 => ?_) (fun c1 => ?_)⟩
      · refine ⟨.int y, rfl, _, _, rfl, rfl, _, rfl, ite2 (fun c2 => ?_) (fun c2 => ?_)⟩
        · refine yes H' _ (Same.refl _) ?_
          rw [r, take_filter exy, if_pos (Bool.and_eq_true_iff.mpr ⟨c1, c2⟩), List.map_append]
          rfl
        · exact out fun e => c2 (Bool.and_eq_true_iff.mp e).2
      · exact ⟨_, rfl, iteF (out fun e => c1 (Bool.and_eq_true_iff.mp e).1)⟩
    intro H6 ws s6 eD3 r
    rw [lu, List.take_length] at r
    refine ⟨by show 0 ≤ sizeLine; decide, fun z nz => ?_⟩
    have s7 := same_new (o := .lst []) nz
    refine ⟨D3, z, ws, rfl, rfl, SqL.of (s7 _ _ eD3), SqL.of upd_same, _, rfl, ?_⟩
    have ew : ws.isEmpty = !decide (0 < depI row pos) := by
      rw [r, List.isEmpty_map, dep_empty]
    rw [ew]
    have s17 := s15.trans (s6.trans s7)
    have e57 := s7 _ _ (s6 _ _ e5)
    generalize upd H6 z (.lst []) = H7 at *
    refine ite2 (fun c => ?_) (fun c => ?_)
    · have dn : ¬ 0 < depI row pos := by
        intro d
        rw [decide_eq_true d] at c
        cases c
      have zz := q _ s17
      unfold ixV at zz
      rw [if_neg dn] at zz
      exact zz
    · have dp : 0 < depI row pos := by
        apply Classical.byContradiction
        intro d
        apply c
        rw [decide_eq_false d]
        rfl
      -- the starts
      refine ⟨.ref pe, rfl, pe, rfl, ⟨_, SqL.of e57⟩, fun D4 nD4 => ?_⟩
      refine lcL (K := K) (a := pe) (xs := cs.map V.int) (fun j H' ws => ws = (((cs.take j).filter fun c => decide (c ≤ pos) && decide (0 < depI row c)).map V.int)) nD4 (fun H' s => SqL.of (s _ _ e57)) (by rw [List.length_map]; omega) (fun _ _ _ _ _ r => r) (fun j H' ws r => by rw [r]; exact map_filter_len j) (fun _ => rfl) ?_ ?_
      · rintro j v H' N acc hj sj eA sz r no yes
        rw [List.getElem?_map] at hj
        obtain ⟨ct, ec, rfl⟩ := Option.map_eq_some_iff.mp hj
        have s1j := s17.trans sj
        have out : ∀ H'', Same H' H'' → ¬ (decide (ct ≤ pos) && decide (0 < depI row ct)) = true → N H'' := fun H'' s'' e => by
          refine no H'' s'' ?_
          rw [r, take_filter ec, if_neg e, List.append_nil]
        refine ⟨rfl, .int ct, rfl, .int pos, rfl, _, _, rfl, rfl, _, rfl, ite2 (fun c1 => ?_) (fun c1 => ?_)⟩
        · refine ⟨.ref a, rfl, a, rfl, ⟨_, SqT.of (s1j _ _ ha)⟩, fun D5 nD5 => ?_⟩
          refine lcT (K := K) (a := a) (xs := us) (fun j H' ws => ws = ((row.take j).filter fun q => decide (q.1 ≤ ct) && decide (ct ≤ q.2)).map fun _ => V.int 1) nD5 (fun H' s => SqT.of (s _ _ (s1j _ _ ha))) (by omega) (fun _ _ _ _ _ r => r) (fun j H' ws r => by rw [r]; exact map_filter_len j) (fun _ => rfl) ?_ ?_
          · rintro j2 z2 H'' N2 acc2 hj2 sj2 eA2 sz2 r2 no2 yes2
            obtain ⟨b, x, y, rfl, exy, hb⟩ := iv.get hj2
            have out2 : ¬ (decide (x ≤ ct) && decide (ct ≤ y)) = true → N2 H'' := fun e => by
              refine no2 H'' (Same.refl _) ?_
              rw [r2, take_filter exy, if_neg e, List.append_nil]
            refine ⟨b, _, rfl, SqT.of (sj2 _ _ (s1j _ _ hb)), rfl, .int x, [.int y], rfl, .int y, [], rfl, rfl, rfl, .int x, rfl, .int ct, rfl, _, _, rfl, rfl, _, rfl, ite2 (fun c2 => ?_) (fun c2 => ?_)⟩
            · refine ⟨.int y, rfl, _, _, rfl, rfl, _, rfl, ite2 (fun c3 => ?_) (fun c3 => ?_)⟩
              · refine yes2 H'' _ (Same.refl _) ?_
                rw [r2, take_filter exy, if_pos (Bool.and_eq_true_iff.mpr ⟨c2, c3⟩), List.map_append]
                rfl
              · exact out2 fun e => c3 (Bool.and_eq_true_iff.mp e).2
            · exact ⟨_, rfl, iteF (out2 fun e => c2 (Bool.and_eq_true_iff.mp e).1)⟩
          · intro H8 ws8 s8 eD5 r8
            rw [lu, List.take_length] at r8
            refine ⟨by show 0 ≤ sizeLine; decide, fun z9 nz9 => ?_⟩
            have s9 := same_new (o := .lst []) nz9
            refine ⟨D5, z9, ws8, rfl, rfl, SqL.of (s9 _ _ eD5), SqL.of upd_same, _, rfl, ?_⟩
            have ew8 : ws8.isEmpty = !decide (0 < depI row ct) := by
              rw [r8, List.isEmpty_map, dep_empty]
            rw [ew8, Bool.not_not]
            refine ite2 (fun c4 => ?_) (fun c4 => ?_)
            · refine ⟨.int ct, rfl, yes _ _ (s8.trans s9) ?_⟩
              rw [r, take_filter ec, if_pos (Bool.and_eq_true_iff.mpr ⟨c1, c4⟩), List.map_append]
              rfl
            · exact out _ (s8.trans s9) fun e => c4 (Bool.and_eq_true_iff.mp e).2
        · exact iteF (out H' (Same.refl _) fun e => c1 (Bool.and_eq_true_iff.mp e).1)
      · intro H8 ws8 s8 eD4 r8
        rw [List.length_map, List.take_length] at r8
        subst r8
        refine ⟨.ref D4, rfl, D4, _, rfl, .inl (SqL.of eD4), _, _, rfl, rfl, ?_⟩
        have zz := q _ (s17.trans s8)
        unfold ixV ixI at zz
        rw [if_pos dp, ← lows_cuts good asc memB, List.filter_filter] at zz
        rw [List.length_map]
        exact zz

def sp_law_stretched (K : PySem.W.Frag) : Sp := fun vs H Q _ => ∃ (a : Addr) (f s : Int) (us : List V) (ps : List (Int × Int)), vs = [.ref a, .int f, .int s] ∧ (SqL K H a us ∨ SqT K H a us) ∧ Ivs H us ps ∧ ps.length ≤ 100 ∧ (∀ p ∈ ps, p.1.natAbs < 2 ^ 30 ∧ p.2.natAbs < 2 ^ 30) ∧ f.natAbs < 2 ^ 60 ∧
  ∀ H' p ws, Same H H' → H' p = some (.tup ws) → Ivs H' ws (ps.map (strI f s)) → Q (.ref p) H'
theorem ok_law_stretched (T : Tx K mg f_depth_changes f_find_blocks f_block_index f_compress f_law_deck f_law_draw f_law_same f_law_interval f_law_stretched f_law_index f_law d_depth_changes d_find_blocks d_block_index d_compress d_law_deck d_law_draw d_law_same d_law_interval d_law_stretched d_law_index d_law) : FnOk P w K mg base CX0 1 f_law_stretched d_law_stretched ["_law_row", "_law_factor", "_law_shift"] (sp_law_stretched K) := by
  refine T.F_law_stretched.ok sc_law_stretched (fun vs H Q E h => ?_) (fun cdv A outer s H vs Q E hr h => ?_)
  · obtain ⟨a, f, s, us, ps, rfl, _⟩ := h
    rfl
  · obtain ⟨a, f, sh, us, ps, rfl, row, iv, few, low, fs, q⟩ := h
    have turn : ∀ (D : Addr) (i : Nat) (x : V) (H' : Hp), H D = none → us[i]? = some x → (Same H H' ∧ ∃ ws, H' D = some (.lst ws) ∧ Ivs H' ws ((ps.take i).map (strI f sh))) →
        ∃ b x1 x2, x = .ref b ∧ H' b = some (.tup [.int x1, .int x2]) ∧ x1.natAbs < 2 ^ 30 ∧ x2.natAbs < 2 ^ 30 ∧ ∃ ws, H' D = some (.lst ws) ∧ ws.length < sizeLine ∧
          ∀ t, H' t = none → (upd H' t (.tup [.int (x1 * f + sh), .int (x2 * f + f - 1 + sh)])) D = some (.lst ws) ∧
            (Same H (upd (upd H' t (.tup [.int (x1 * f + sh), .int (x2 * f + f - 1 + sh)])) D (.lst (ws ++ [.ref t]))) ∧ ∃ ws', (upd (upd H' t (.tup [.int (x1 * f + sh), .int (x2 * f + f - 1 + sh)])) D (.lst (ws ++ [.ref t]))) D = some (.lst ws') ∧ Ivs (upd (upd H' t (.tup [.int (x1 * f + sh), .int (x2 * f + f - 1 + sh)])) D (.lst (ws ++ [.ref t]))) ws' ((ps.take (i + 1)).map (strI f sh))) := by
      rintro D i x H' nD hi ⟨sm, ws, eD, ivw⟩
      obtain ⟨b, x1, x2, rfl, ep, eb⟩ := iv.get hi
      have lo := low _ (List.mem_of_getElem? ep)
      refine ⟨b, x1, x2, rfl, sm _ _ eb, lo.1, lo.2, ws, eD, ?_, fun t nt => ?_⟩
      · rw [ivw.length, List.length_map]
        exact small1000 (Nat.le_trans (List.length_take_le' _ _) (by omega))
      · have s1 := same_new (o := .tup [.int (x1 * f + sh), .int (x2 * f + f - 1 + sh)]) nt
        have nDt : D ≠ t := ne_of_none eD nt
        have off : ∀ {b' : Addr} {zs : List V}, H' b' = some (.tup zs) → b' ≠ D := fun e => ne_of e eD (fun z => by cases z)
        refine ⟨s1 _ _ eD, fun b' o e => ?_, _, upd_same, ?_⟩
        · rw [upd_ne (ne_of_none e nD)]
          exact s1 _ _ (sm _ _ e)
        · have up : ∀ {vs : List V} {qs : List (Int × Int)}, Ivs H' vs qs → Ivs (upd (upd H' t (.tup [.int (x1 * f + sh), .int (x2 * f + f - 1 + sh)])) D (.lst (ws ++ [.ref t]))) vs qs := by
            intro vs qs hv
            induction hv with
            | nil => exact .nil
            | cons e _ ih =>
              refine .cons ?_ ih
              rw [upd_ne (off e)]
              exact s1 _ _ e
          rw [List.take_add_one, ep, List.map_append]
          refine (up ivw).snoc ?_
          rw [upd_ne nDt.symm, upd_same]
    have last : ∀ (D : Addr) (H' : Hp), (Same H H' ∧ ∃ ws, H' D = some (.lst ws) ∧ Ivs H' ws ((ps.take us.length).map (strI f sh))) → ∃ p ys, [V.ref D] = [.ref p] ∧ ((SqL K H' p ys ∧ ∀ l, H' l = none → Q (.ref l) (upd H' l (.tup ys))) ∨ (SqT K H' p ys ∧ Q (.ref p) H')) := by
      rintro D H' ⟨sm, ws, eD, ivw⟩
      refine ⟨D, ws, rfl, .inl ⟨SqL.of eD, fun l nl => ?_⟩⟩
      rw [iv.length, List.take_length] at ivw
      exact q _ l ws (sm.trans (same_new nl)) upd_same (ivw.same (same_new nl))
    rcases row with row | row
    · refine ⟨_, (pss_one (ps_ret (pe_callTy call_tuple_of (by rfl) T.z_tuple (by decide +kernel) (pa_cons (pe_lc (own := [("_law_low", 3), ("_law_high", 4)]) (g := (gTup K 2 (gCons (gName 3) (gCons (gName 4) gNil)))) (tt := tYes) (by rfl) sc_law_stretched.nd (pi_list (pv 0)) (blkOk_by (own := [("_law_low", 3), ("_law_high", 4)]) (N := N_law_stretched) (sc := defScope s_law_stretched) (by decide +kernel)) (fun _ _ _ _ _ => (pg_tup rfl (pgs_cons (pg_name (i := 3) sc_law_stretched.nd rfl (Or.inl rfl)) (pgs_cons (pg_name (i := 4) sc_law_stretched.nd rfl (Or.inl rfl)) pgs_nil)))) (fun _ _ _ _ _ => pts_nil) (fun _ _ _ _ _ => (pe_tup (pa_cons (pe_op op_add (pe_op op_mulW (pv 3) (pv 1)) (pv 2)) (pa_cons (pe_op op_add (pe_op op_sub (pe_op op_add (pe_op op_mulW (pv 4) (pv 1)) (pv 1)) pe_int) (pv 2)) pa_nil))))) pa_nil)))), ?_⟩
      refine ⟨.ref a, rfl, a, rfl, ⟨_, row⟩, fun D nD => ?_⟩
      refine lc_list (K := K) (a := a) (xs := us) (fun i H' => Same H H' ∧ ∃ ws, H' D = some (.lst ws) ∧ Ivs H' ws ((ps.take i).map (strI f sh))) ⟨same_new nD, [], upd_same, .nil⟩ (fun i H' _ h => h.1.seq row) ?_ (fun H' h => last D H' h)
      intro i x H' hi h
      obtain ⟨b, x1, x2, rfl, eb, lo1, lo2, ws, eD, sz, step⟩ := turn D i x H' nD hi h
      refine ⟨b, _, rfl, SqT.of eb, rfl, .int x1, _, rfl, .int x2, _, rfl, rfl, rfl, .int x1, rfl, .int f, rfl, _, _, rfl, rfl, wide_mul lo1 fs (by decide) (by decide) (by decide), .int sh, rfl, _, _, rfl, rfl, .int x2, rfl, .int f, rfl, _, _, rfl, rfl, wide_mul lo2 fs (by decide) (by decide) (by decide), .int f, rfl, _, _, rfl, rfl, _, _, rfl, rfl, .int sh, rfl, _, _, rfl, rfl, by show 2 ≤ sizeLine; decide, fun t nt => ?_⟩
      obtain ⟨e1, e2⟩ := step t nt
      exact ⟨ws, e1, sz, e2⟩
    · refine ⟨_, (pss_one (ps_ret (pe_callTy call_tuple_of (by rfl) T.z_tuple (by decide +kernel) (pa_cons (pe_lc (own := [("_law_low", 3), ("_law_high", 4)]) (g := (gTup K 2 (gCons (gName 3) (gCons (gName 4) gNil)))) (tt := tYes) (by rfl) sc_law_stretched.nd (pi_tup (pv 0)) (blkOk_by (own := [("_law_low", 3), ("_law_high", 4)]) (N := N_law_stretched) (sc := defScope s_law_stretched) (by decide +kernel)) (fun _ _ _ _ _ => (pg_tup rfl (pgs_cons (pg_name (i := 3) sc_law_stretched.nd rfl (Or.inl rfl)) (pgs_cons (pg_name (i := 4) sc_law_stretched.nd rfl (Or.inl rfl)) pgs_nil)))) (fun _ _ _ _ _ => pts_nil) (fun _ _ _ _ _ => (pe_tup (pa_cons (pe_op op_add (pe_op op_mulW (pv 3) (pv 1)) (pv 2)) (pa_cons (pe_op op_add (pe_op op_sub (pe_op op_add (pe_op op_mulW (pv 4) (pv 1)) (pv 1)) pe_int) (pv 2)) pa_nil))))) pa_nil)))), ?_⟩
      refine ⟨.ref a, rfl, a, rfl, ⟨_, row⟩, fun D nD => ?_⟩
      refine lc_tup (K := K) (a := a) (xs := us) (fun i H' => Same H H' ∧ ∃ ws, H' D = some (.lst ws) ∧ Ivs H' ws ((ps.take i).map (strI f sh))) ⟨same_new nD, [], upd_same, .nil⟩ (fun i H' _ h => sqT_same h.1 row) ?_ (fun H' h => last D H' h)
      intro i x H' hi h
      obtain ⟨b, x1, x2, rfl, eb, lo1, lo2, ws, eD, sz, step⟩ := turn D i x H' nD hi h
      refine ⟨b, _, rfl, SqT.of eb, rfl, .int x1, _, rfl, .int x2, _, rfl, rfl, rfl, .int x1, rfl, .int f, rfl, _, _, rfl, rfl, wide_mul lo1 fs (by decide) (by decide) (by decide), .int sh, rfl, _, _, rfl, rfl, .int x2, rfl, .int f, rfl, _, _, rfl, rfl, wide_mul lo2 fs (by decide) (by decide) (by decide), .int f, rfl, _, _, rfl, rfl, _, _, rfl, rfl, .int sh, rfl, _, _, rfl, rfl, by show 2 ≤ sizeLine; decide, fun t nt => ?_⟩
      obtain ⟨e1, e2⟩ := step t nt
      exact ⟨ws, e1, sz, e2⟩

def sp_law_same (K : PySem.W.Frag) : Sp := fun vs H Q _ => ∃ (v u : V) (d : PyData) (n dp : Nat), vs = [v, u] ∧ Dp K H v d ∧ Dp K H u d ∧ Sm n dp d ∧ n ≤ 300000 ∧ dp ≤ 60 ∧ Q (.bl true) H
theorem ok_law_same (T : Tx K mg f_depth_changes f_find_blocks f_block_index f_compress f_law_deck f_law_draw f_law_same f_law_interval f_law_stretched f_law_index f_law d_depth_changes d_find_blocks d_block_index d_compress d_law_deck d_law_draw d_law_same d_law_interval d_law_stretched d_law_index d_law) : FnG P w K mg base 1 f_law_same d_law_same ["_law_value", "_law_due"] (sp_law_same K) := by
  refine FnG.of T.F_law_same sc_law_same (fun {vs H Q} h => ?_) (fun cdv A outer s H vs Q hr hq h => ?_)
  · obtain ⟨v, u, d, n, dp, rfl, _⟩ := h
    rfl
  · obtain ⟨v, u, d, n, dp, rfl, h1, h2, sm, hn, hdp, q⟩ := h
    refine ⟨_, (pss_one (ps_ret (pe_cmpR op_eq (pe_callB (call_reprD hq hr.units) (by rfl) T.z_repr (by decide +kernel) (pa_cons (pv 0) pa_nil)) (pe_callB (call_reprD hq hr.units) (by rfl) T.z_repr (by decide +kernel) (pa_cons (pv 1) pa_nil)) (nomark _)))), ?_⟩
    refine ⟨v, rfl, v, d, n, dp, rfl, h1, sm, hn, hdp, u, rfl, u, d, n, dp, rfl, h2, sm, hn, hdp, rfl, ?_⟩
    rw [decide_eq_true rfl]
    exact q
def ixD (row : List (Int × Int)) (pos : Int) : PyData := if 0 < depI row pos then .int (ixI row pos) else .none
theorem ix_dp {K : PySem.W.Frag} {H : Hp} (row : List (Int × Int)) (pos : Int) : Dp K H (ixV row pos) (ixD row pos) := by
  unfold ixV ixD
  split
  · exact .int _
  · exact .non
theorem ix_small {row : List (Int × Int)} (g : Good row) (pos : Int) (few : row.length ≤ 31) : (ixI row pos).natAbs < 10 ^ 30 := by
  have h1 := blocks_few g
  have h2 := List.length_filter_le (fun c => decide (c ≤ pos)) (lowsOf row)
  have h3 : (lowsOf row).length = (blocksOf row).length := by
    unfold lowsOf
    rw [List.length_map]
  unfold ixI
  omega
theorem ix_sm {row : List (Int × Int)} (g : Good row) (pos : Int) (few : row.length ≤ 31) : Sm 100 0 (ixD row pos) := by
  unfold ixD
  split
  · exact Sm.int (ix_small g pos few)
  · exact Sm.none.mono (by decide) (by decide)
/-- a list of ints -/
def IL (m : Nat) (ws : List V) : Prop := ∃ ns : List Int, ws = ns.map V.int ∧ ns.length ≤ m
theorem IL.snoc {m : Nat} {ws : List V} (h : IL m ws) (x : Int) : IL (m + 1) (ws ++ [.int x]) := by
  obtain ⟨ns, e, l⟩ := h
  exact ⟨ns ++ [x], by rw [e, List.map_append]; rfl, by rw [List.length_append]; exact Nat.succ_le_succ l⟩
theorem IL.len {m : Nat} {ws : List V} (h : IL m ws) : ws.length ≤ m := by
  obtain ⟨ns, e, l⟩ := h
  rw [e, List.length_map]
  exact l
theorem IL.mono {m k : Nat} {ws : List V} (h : IL m ws) (hk : m ≤ k) : IL k ws := by
  obtain ⟨ns, e, l⟩ := h
  exact ⟨ns, e, Nat.le_trans l hk⟩
theorem IL.app {m k : Nat} {ws us : List V} (h : IL m ws) (h2 : IL k us) : IL (m + k) (ws ++ us) := by
  obtain ⟨ns, e, l⟩ := h
  obtain ⟨ms, e2, l2⟩ := h2
  exact ⟨ns ++ ms, by rw [e, e2, List.map_append], by rw [List.length_append]; omega⟩
theorem IL.get {m : Nat} {ws : List V} (h : IL m ws) {i : Nat} {v : V} (e : ws[i]? = some v) : ∃ x : Int, v = .int x := by
  obtain ⟨ns, rfl, _⟩ := h
  rw [List.getElem?_map] at e
  obtain ⟨x, _, rfl⟩ := Option.map_eq_some_iff.mp e
  exact ⟨x, rfl⟩
theorem lim4 {r : Int} (h0 : 0 ≤ r) (h1 : r < 4) : ∃ L : Int, atI [V.int 1, .int 4, .int 9, .int 20] r = some (.int L) ∧ 0 < L ∧ L ≤ 20 := by
  have : r = 0 ∨ r = 1 ∨ r = 2 ∨ r = 3 := by omega
  rcases this with rfl | rfl | rfl | rfl
  · exact ⟨1, rfl, by decide, by decide⟩
  · exact ⟨4, rfl, by decide, by decide⟩
  · exact ⟨9, rfl, by decide, by decide⟩
  · exact ⟨20, rfl, by decide, by decide⟩
theorem two2 {r a b : Int} (h0 : 0 ≤ r) (h1 : r < 2) : ∃ x : Int, atI [V.int a, .int b] r = some (.int x) ∧ (x = a ∨ x = b) := by
  have : r = 0 ∨ r = 1 := by omega
  rcases this with rfl | rfl
  · exact ⟨a, rfl, .inl rfl⟩
  · exact ⟨b, rfl, .inr rfl⟩
def sp_law (K : PySem.W.Frag) : Sp := fun vs H Q _ => ∃ (a : Addr) (ns : List Int), vs = [.ref a] ∧ SqL K H a (ns.map V.int) ∧ ns.length ≤ 63 ∧ ∀ H', Q (.bl true) H'
theorem ok_law (T : Tx K mg f_depth_changes f_find_blocks f_block_index f_compress f_law_deck f_law_draw f_law_same f_law_interval f_law_stretched f_law_index f_law d_depth_changes d_find_blocks d_block_index d_compress d_law_deck d_law_draw d_law_same d_law_interval d_law_stretched d_law_index d_law) : FnG P w K mg base 4 f_law d_law ["_law_script"] (sp_law K) := by
  refine FnG.of T.F_law sc_law (fun {vs H Q} h => ?_) (fun cdv A outer s H vs Q hr hq h => ?_)
  · obtain ⟨a, ns, rfl, _⟩ := h
    rfl
  · obtain ⟨a, ns, rfl, hS, hlen, q⟩ := h
    refine ⟨_, (pss_cons (ps_set (i := 1) sc_law.nd rfl (Or.inr rfl) (pe_call (ok_law_deck T) (hr.mono (by decide)) (by rfl) T.g_law_deck T.F_law_deck.kp T.b_law_deck .nil pass0 (pa_cons (pv 0) pa_nil)))
      (pss_cons (ps_for PassesOwn.never rfl (pi_range1 (by rfl) T.z_range (pa_cons pe_int pa_nil)) (pg_name (i := 2) sc_law.nd rfl (Or.inl rfl))
      (pss_cons (ps_set (i := 3) sc_law.nd rfl (Or.inr rfl) (pe_ix ix_list (pe_lst (pa_cons pe_int (pa_cons pe_int (pa_cons pe_int (pa_cons pe_int pa_nil))))) (pe_call (ok_law_draw T) (hr.mono (by decide)) (by rfl) T.g_law_draw T.F_law_draw.kp T.b_law_draw .nil pass0 (pa_cons (pv 1) (pa_cons pe_int pa_nil))) (fun _ _ => rfl)))
      (pss_cons (ps_set (i := 4) sc_law.nd rfl (Or.inr rfl) (pe_lc (own := [("_law_k", 5)]) (g := (gName 5)) (tt := tYes) (by rfl) sc_law.nd (pi_range1 (by rfl) T.z_range (pa_cons (pe_call (ok_law_draw T) (hr.mono (by decide)) (by rfl) T.g_law_draw T.F_law_draw.kp T.b_law_draw .nil pass0 (pa_cons (pv 1) (pa_cons pe_int pa_nil))) pa_nil)) (blkOk_by (own := [("_law_k", 5)]) (N := N_law) (sc := defScope s_law) (by decide +kernel)) (fun _ _ _ _ _ => (pg_name (i := 5) sc_law.nd rfl (Or.inl rfl))) (fun _ _ _ _ _ => pts_nil) (fun _ _ _ _ _ => (pe_call (ok_law_interval T) (hr.mono (by decide)) (by rfl) T.g_law_interval T.F_law_interval.kp T.b_law_interval .nil pass0 (pa_cons (pv 1) (pa_cons (pv 3) pa_nil))))))
      (pss_cons (ps_set (i := 4) sc_law.nd rfl (Or.inr rfl) (pe_callTy call_tuple_of (by rfl) T.z_tuple (by decide +kernel) (pa_cons (pe_op op_cat (pv 4) (pe_slice sl_list (pv 4) po_none (po_some (pe_call (ok_law_draw T) (hr.mono (by decide)) (by rfl) T.g_law_draw T.F_law_draw.kp T.b_law_draw .nil pass0 (pa_cons (pv 1) (pa_cons pe_int pa_nil)))))) pa_nil)))
      (pss_cons (ps_set (i := 6) sc_law.nd rfl (Or.inl rfl) (pe_ix ix_list (pe_lst (pa_cons pe_int (pa_cons (pe_op op_add pe_int (pe_call (ok_law_draw T) (hr.mono (by decide)) (by rfl) T.g_law_draw T.F_law_draw.kp T.b_law_draw .nil pass0 (pa_cons (pv 1) (pa_cons (pe_op op_pow pe_int pe_int) pa_nil)))) pa_nil))) (pe_call (ok_law_draw T) (hr.mono (by decide)) (by rfl) T.g_law_draw T.F_law_draw.kp T.b_law_draw .nil pass0 (pa_cons (pv 1) (pa_cons pe_int pa_nil))) (fun _ _ => rfl)))
      (pss_cons (ps_set (i := 4) sc_law.nd rfl (Or.inr rfl) (pe_call (ok_law_stretched T) (hr.mono (by decide)) (by rfl) T.g_law_stretched T.F_law_stretched.kp T.b_law_stretched .nil pass0 (pa_cons (pv 4) (pa_cons (pv 6) (pa_cons (pe_ix ix_list (pe_lst (pa_cons pe_int (pa_cons (pe_call (ok_law_draw T) (hr.mono (by decide)) (by rfl) T.g_law_draw T.F_law_draw.kp T.b_law_draw .nil pass0 (pa_cons (pv 1) (pa_cons (pe_op op_pow pe_int pe_int) pa_nil))) pa_nil))) (pe_call (ok_law_draw T) (hr.mono (by decide)) (by rfl) T.g_law_draw T.F_law_draw.kp T.b_law_draw .nil pass0 (pa_cons (pv 1) (pa_cons pe_int pa_nil))) (fun _ _ => rfl)) pa_nil)))))
      (pss_cons (ps_set (i := 7) sc_law.nd rfl (Or.inl rfl) (pe_callB (call_reprD hq hr.units) (by rfl) T.z_repr (by decide +kernel) (pa_cons (pv 4) pa_nil)))
      (pss_cons (ps_set (i := 8) sc_law.nd rfl (Or.inl rfl) (pe_op op_cat (pe_lc (own := [("_law_low", 9), ("_law_high", 10)]) (g := (gTup K 2 (gCons (gName 9) (gCons (gName 10) gNil)))) (tt := tYes) (by rfl) sc_law.nd (pi_tup (pv 4)) (blkOk_by (own := [("_law_low", 9), ("_law_high", 10)]) (N := N_law) (sc := defScope s_law) (by decide +kernel)) (fun _ _ _ _ _ => (pg_tup rfl (pgs_cons (pg_name (i := 9) sc_law.nd rfl (Or.inl rfl)) (pgs_cons (pg_name (i := 10) sc_law.nd rfl (Or.inl rfl)) pgs_nil)))) (fun _ _ _ _ _ => pts_nil) (fun _ _ _ _ _ => (pv 9))) (pe_lc (own := [("_law_low", 9), ("_law_high", 10)]) (g := (gTup K 2 (gCons (gName 9) (gCons (gName 10) gNil)))) (tt := tYes) (by rfl) sc_law.nd (pi_tup (pv 4)) (blkOk_by (own := [("_law_low", 9), ("_law_high", 10)]) (N := N_law) (sc := defScope s_law) (by decide +kernel)) (fun _ _ _ _ _ => (pg_tup rfl (pgs_cons (pg_name (i := 9) sc_law.nd rfl (Or.inl rfl)) (pgs_cons (pg_name (i := 10) sc_law.nd rfl (Or.inl rfl)) pgs_nil)))) (fun _ _ _ _ _ => pts_nil) (fun _ _ _ _ _ => (pv 10)))))
      (pss_cons (ps_set (i := 11) sc_law.nd rfl (Or.inl rfl) (pe_op op_cat (pe_op op_cat (pe_lst (pa_cons pe_int (pa_cons (pe_op op_pow pe_int pe_int) (pa_cons (pe_call (ok_law_draw T) (hr.mono (by decide)) (by rfl) T.g_law_draw T.F_law_draw.kp T.b_law_draw .nil pass0 (pa_cons (pv 1) (pa_cons (pe_op op_pow pe_int pe_int) pa_nil))) pa_nil)))) (pv 8)) (pe_lc (own := [("_law_end", 12)]) (g := (gName 12)) (by rfl) sc_law.nd (pi_list (pv 8)) (blkOk_by (own := [("_law_end", 12)]) (N := N_law) (sc := defScope s_law) (by decide +kernel)) (fun _ _ _ _ _ => (pg_name (i := 12) sc_law.nd rfl (Or.inl rfl))) (fun _ _ _ _ _ => pts_one (pt_cmpR op_lt (pv 12) (pe_op op_pow pe_int pe_int) (nomark _))) (fun _ _ _ _ _ => (pe_op op_add (pv 12) pe_int)))))
      (pss_cons (ps_for PassesOwn.never rfl (pi_list (pe_op op_cat (pv 11) (pe_lc (own := [("_law_end", 12)]) (g := (gName 12)) (by rfl) sc_law.nd (pi_list (pv 8)) (blkOk_by (own := [("_law_end", 12)]) (N := N_law) (sc := defScope s_law) (by decide +kernel)) (fun _ _ _ _ _ => (pg_name (i := 12) sc_law.nd rfl (Or.inl rfl))) (fun _ _ _ _ _ => pts_one (pt_cmpR op_gt (pv 12) pe_int (nomark _))) (fun _ _ _ _ _ => (pe_op op_sub (pv 12) pe_int))))) (pg_name (i := 13) sc_law.nd rfl (Or.inl rfl))
      (pss_one (ps_if (pt_not (pt_val (pe_callG (ok_law_same T) (hr.mono (by decide)) hq (by rfl) T.g_law_same T.F_law_same.kp T.b_law_same (pa_cons (pe_call (ok_block_index T) (hr.mono (by decide)) (by rfl) T.g_block_index T.F_block_index.kp T.b_block_index .nil pass0 (pa_cons (pv 4) (pa_cons (pv 13) pa_nil))) (pa_cons (pe_call (ok_law_index T) (hr.mono (by decide)) (by rfl) T.g_law_index T.F_law_index.kp T.b_law_index .nil pass0 (pa_cons (pv 4) (pa_cons (pv 13) pa_nil))) pa_nil)))))
      (pss_one (ps_ret pe_bl))
      pss_nil)))
      (pss_cons (ps_set (i := 14) sc_law.nd rfl (Or.inl rfl) (pe_callTy call_tuple_of (by rfl) T.z_tuple (by decide +kernel) (pa_cons (pe_lc (own := [("_law_low", 9), ("_law_high", 10)]) (g := (gTup K 2 (gCons (gName 9) (gCons (gName 10) gNil)))) (tt := tYes) (by rfl) sc_law.nd (pi_tup (pv 4)) (blkOk_by (own := [("_law_low", 9), ("_law_high", 10)]) (N := N_law) (sc := defScope s_law) (by decide +kernel)) (fun _ _ _ _ _ => (pg_tup rfl (pgs_cons (pg_name (i := 9) sc_law.nd rfl (Or.inl rfl)) (pgs_cons (pg_name (i := 10) sc_law.nd rfl (Or.inl rfl)) pgs_nil)))) (fun _ _ _ _ _ => pts_nil) (fun _ _ _ _ _ => (pe_tup (pa_cons (pe_call (ok_law_index T) (hr.mono (by decide)) (by rfl) T.g_law_index T.F_law_index.kp T.b_law_index .nil pass0 (pa_cons (pv 4) (pa_cons (pv 9) pa_nil))) (pa_cons (pe_call (ok_law_index T) (hr.mono (by decide)) (by rfl) T.g_law_index T.F_law_index.kp T.b_law_index .nil pass0 (pa_cons (pv 4) (pa_cons (pv 10) pa_nil))) pa_nil))))) pa_nil)))
      (pss_one (ps_if (PW.pt (pw_or (pt_not (pt_val (pe_callG (ok_law_same T) (hr.mono (by decide)) hq (by rfl) T.g_law_same T.F_law_same.kp T.b_law_same (pa_cons (pe_call (ok_compress T) (hr.mono (by decide)) (by rfl) T.g_compress T.F_compress.kp T.b_compress .nil pass0 (pa_cons (pv 4) pa_nil)) (pa_cons (pv 14) pa_nil))))) (pw_or1 (pt_cmpR op_ne (pe_callB (call_reprD hq hr.units) (by rfl) T.z_repr (by decide +kernel) (pa_cons (pv 4) pa_nil)) (pv 7) (nomark _)))))
      (pss_one (ps_ret pe_bl))
      pss_nil)))))))))))))
      (pss_one (ps_ret pe_bl)))), ?_⟩
    refine ⟨.ref a, rfl, a, ns, rfl, hS, hlen, fun H1 d c s1 nd nc dk0 => ?_⟩
    refine ⟨12, rfl, by decide, by decide, for_range (n := 12) (fun i σ H' => (∃ n : Int, Dk H' d c n ∧ 0 ≤ n ∧ n ≤ 40 * i) ∧ ∃ y2 y3 y4 y5 y6 y7 y8 y9 y10 y11 y12 y13 y14, σ = [some (.ref a), some (.ref d), y2, y3, y4, y5, y6, y7, y8, y9, y10, y11, y12, y13, y14])
      ⟨⟨0, dk0, by decide, by decide⟩, _, _, _, _, _, _, _, _, _, _, _, _, _, rfl⟩ ?_ (fun σ H' _ => q H')⟩
    rintro i σ H2 hi ⟨⟨n, dk2, n0, n1⟩, y2, y3, y4, y5, y6, y7, y8, y9, y10, y11, y12, y13, y14, rfl⟩
    -- the limit
    refine ⟨by show 4 ≤ sizeLine; decide, fun p np => ?_⟩
    have off := dk2.off np
    refine ⟨.ref d, rfl, d, c, n, 4, rfl, dk2.kept (same_new np), n0, by omega, by decide, by decide, fun H3 r kp3 dk3 r0 r1 => ?_⟩
    obtain ⟨L, eL, L0, L1⟩ := lim4 r0 r1
    refine ⟨p, _, r, _, rfl, rfl, SqL.of (kp3.keep off.1 off.2 upd_same), eL, ?_⟩
    -- the row's intervals
    refine ⟨.ref d, rfl, d, c, n + 1, 11, rfl, dk3, by omega, by omega, by decide, by decide, fun H4 m kp4 dk4 m0 m1 => ?_⟩
    refine ⟨m, rfl, by omega, by omega, fun D nD => ?_⟩
    have offD := dk4.off nD
    refine lc_range (lo := 0) (n := m.toNat) (fun k H' => Kp d c H4 H' ∧ Dk H' d c (n + 2 + 2 * k) ∧ ∃ ws ps, H' D = some (.lst ws) ∧ Ivs H' ws ps ∧ ps.length = k ∧ ∀ p ∈ ps, 0 ≤ p.1 ∧ p.1 ≤ p.2 ∧ p.2 < L) ⟨Kp.same (same_new nD), ?_, [], [], upd_same, .nil, rfl, fun p hp => nomatch hp⟩ ?_ ?_
    · have en : n + 1 + 1 = n + 2 + 2 * ((0 : Nat) : Int) := by omega
      rw [← en]
      exact dk4.upd offD
    · rintro k H5 hk ⟨kp5, dk5, ws, ps, eD, iv, pl, low⟩
      refine ⟨rfl, .ref d, rfl, .int L, rfl, d, c, _, L, rfl, dk5, by omega, by omega, L0, by omega, fun H6 x y t kp6 dk6 x0 xy yL nt et => ?_⟩
      have eD6 := kp6.keep offD.1 offD.2 eD
      refine ⟨ws, eD6, small1000 (by rw [iv.length, pl]; omega), fun b o n1 n2 e => ?_, ?_, _, ps ++ [(x, y)], upd_same, ((iv.kp kp6 dk5).snoc et).tps (Tps.lst eD6), ?_, ?_⟩
      · rw [upd_ne (ne_of_none e nD)]
        exact (kp5.trans kp6) b o n1 n2 e
      · have en : n + 2 + 2 * (k : Int) + 2 = n + 2 + 2 * ((k + 1 : Nat) : Int) := by omega
        rw [← en]
        exact dk6.upd offD
      · rw [List.length_append, List.length_singleton, pl]
      · intro q1 hq1
        rcases List.mem_append.mp hq1 with hq1 | hq1
        · exact low q1 hq1
        · rw [List.mem_singleton.mp hq1]
          exact ⟨x0, xy, yL⟩
    rintro H5 ⟨kp5, dk5, ws, ps, eD, iv, pl, low⟩
    have lw := iv.length
    -- row = tuple(row + row[:draw])
    refine ⟨.ref D, rfl, .ref D, rfl, .ref d, rfl, d, c, _, 3, rfl, dk5, by omega, by omega, by decide, by decide, fun H6 jj kp6 dk6 j0 j1 => ?_⟩
    obtain ⟨j, rfl⟩ : ∃ j : Nat, jj = j := ⟨jj.toNat, by omega⟩
    have eD6 := kp6.keep offD.1 offD.2 eD
    have iv6 := iv.kp kp6 dk5
    refine ⟨(j : Int), rfl, D, ws, rfl, SqL.of eD6, fun pz npz => ?_⟩
    rw [cutTo]
    have s7 := same_new (o := .lst (ws.take j)) npz
    have ez := upd_same (H := H6) (a := pz) (o := .lst (ws.take j))
    generalize upd H6 pz (.lst (ws.take j)) = H7 at *
    have lt := List.length_take_le' j ws
    refine ⟨D, pz, ws, ws.take j, rfl, rfl, s7 _ _ eD6, ez, by rw [show sizeLine = 16777216 by decide]; omega, fun pc npc => ?_⟩
    have s8 := same_new (o := .lst (ws ++ ws.take j)) npc
    have ec := upd_same (H := H7) (a := pc) (o := .lst (ws ++ ws.take j))
    generalize upd H7 pc (.lst (ws ++ ws.take j)) = H8 at *
    refine ⟨pc, _, rfl, .inl ⟨SqL.of ec, fun pt npt => ?_⟩⟩
    have s9 := same_new (o := .tup (ws ++ ws.take j)) npt
    have et := upd_same (H := H8) (a := pt) (o := .tup (ws ++ ws.take j))
    generalize upd H8 pt (.tup (ws ++ ws.take j)) = H9 at *
    have s69 := s7.trans (s8.trans s9)
    have ivR : Ivs H9 (ws ++ ws.take j) (ps ++ ps.take j) := (iv6.append (iv6.take j)).same s69
    have lowR : ∀ q1 ∈ ps ++ ps.take j, 0 ≤ q1.1 ∧ q1.1 ≤ q1.2 ∧ q1.2 < L := fun q1 hq1 => by
      rcases List.mem_append.mp hq1 with h | h
      · exact low q1 h
      · exact low q1 (List.mem_of_mem_take h)
    have lenR : (ps ++ ps.take j).length ≤ 12 := by
      have h1 := List.length_take_le' j ps
      have h2 := List.length_take_le j ps
      rw [List.length_append]
      omega
    have dk9 := dk6.kept s69
    generalize ws ++ ws.take j = us at *
    generalize ps ++ ps.take j = row at *
    have good : Good row := fun q1 hq1 => ⟨(lowR q1 hq1).1, (lowR q1 hq1).2.1⟩
    have e10 : (10 : Int) ^ (10 : Int).toNat = 10000000000 := by decide
    have e11 : (10 : Int) ^ (11 : Int).toNat = 100000000000 := by decide
    -- the factor
    refine ⟨.ref d, rfl, 10, 10, rfl, rfl, ⟨by decide, by decide, by decide⟩, d, c, _, _, rfl, dk9, by omega, by omega, by decide, by decide, fun Ha rf kpa dka rf0 rf1 => ?_⟩
    rw [e10] at rf1
    refine ⟨_, _, rfl, rfl, by show 2 ≤ sizeLine; decide, fun pa npa => ?_⟩
    have offa := dka.off npa
    refine ⟨.ref d, rfl, d, c, _, 2, rfl, dka.kept (same_new npa), by omega, by omega, by decide, by decide, fun Hb rb kpb dkb rb0 rb1 => ?_⟩
    obtain ⟨f, ef, f01⟩ := two2 (a := 1) (b := 1 + rf) rb0 rb1
    refine ⟨pa, _, rb, _, rfl, rfl, SqL.of (kpb.keep offa.1 offa.2 upd_same), ef, ?_⟩
    have f0 : 0 < f := by omega
    have f1 : f ≤ 10000000000 := by omega
    have fb : f.natAbs < 2 ^ 60 := by omega
    -- the shift
    refine ⟨.ref pt, rfl, .int f, rfl, .ref d, rfl, 10, 11, rfl, rfl, ⟨by decide, by decide, by decide⟩, d, c, _, _, rfl, dkb, by omega, by omega, by decide, by decide, fun Hc rs kpc dkc rs0 rs1 => ?_⟩
    rw [e11] at rs1
    refine ⟨by show 2 ≤ sizeLine; decide, fun pb npb => ?_⟩
    have offb := dkc.off npb
    refine ⟨.ref d, rfl, d, c, _, 2, rfl, dkc.kept (same_new npb), by omega, by omega, by decide, by decide, fun Hd rd kpd dkd rd0 rd1 => ?_⟩
    obtain ⟨sh, es, sh01⟩ := two2 (a := 0) (b := rs) rd0 rd1
    have sh0 : 0 ≤ sh := by omega
    have sh1 : sh < 100000000000 := by omega
    have kp9d : Kp d c H9 Hd := kpa.trans ((Kp.same (same_new npa)).trans (kpb.trans (kpc.trans ((Kp.same (same_new npb)).trans kpd))))
    have lowS : ∀ q1 ∈ row, q1.1.natAbs < 2 ^ 30 ∧ q1.2.natAbs < 2 ^ 30 := fun q1 hq1 => by
      have := lowR q1 hq1
      omega
    refine ⟨pb, _, rd, _, rfl, rfl, SqL.of (kpd.keep offb.1 offb.2 upd_same), es, pt, f, sh, us, row, rfl, .inr (SqT.of (kp9d.tup dk9 et)), ivR.kp kp9d dk9, by omega, lowS, fb, fun He pe we se ee ive => ?_⟩
    have dke := dkd.kept se
    obtain ⟨R, eR⟩ : ∃ R, R = row.map (strI f sh) := ⟨_, rfl⟩
    have goodR : Good R := by
      rw [eR]
      exact good_str good f0 sh0
    have lenRR : R.length ≤ 12 := by
      rw [eR, List.length_map]
      exact lenR
    have bR : ∀ q1 ∈ R, q1.1.natAbs < 10 ^ 30 ∧ q1.2.natAbs < 10 ^ 30 := fun q1 hq1 => by
      rw [eR] at hq1
      obtain ⟨q2, hq2, rfl⟩ := List.mem_map.mp hq1
      have z := lowR q2 hq2
      have m1 := (mul_le_iff (a := 0) (b := q2.1) f0).mpr z.1
      have m2 := (mul_le_iff (a := q2.1) (b := 20) f0).mpr (by omega)
      have m3 := (mul_le_iff (a := 0) (b := q2.2) f0).mpr (by omega)
      have m4 := (mul_le_iff (a := q2.2) (b := 20) f0).mpr (by omega)
      constructor
      · show (q2.1 * f + sh).natAbs < 10 ^ 30
        omega
      · show (q2.2 * f + f - 1 + sh).natAbs < 10 ^ 30
        omega
    rw [← eR] at ive
    have lwe := ive.length
    obtain ⟨dR, edR, smR⟩ : ∃ dR : PyData, dR = .tuple (R.map pairD) ∧ Sm (12 * 203) 2 dR := ⟨_, rfl, sm_row bR lenRR⟩
    have dpR : ∀ H', H' pe = some (.tup we) → Ivs H' we R → Dp K H' (.ref pe) dR := fun H' e i => by
      rw [edR]
      exact .tup (SqT.of e) i.dp
    -- before
    refine ⟨.ref pe, rfl, .ref pe, dR, _, _, rfl, dpR _ ee ive, smR, by decide, by decide, ?_⟩
    -- ends
    refine ⟨.ref pe, rfl, pe, rfl, ⟨_, SqT.of ee⟩, fun Da nDa => ?_⟩
    refine lcT (K := K) (a := pe) (xs := we) (fun j H' ws => IL j ws) nDa (fun H' s => SqT.of (s _ _ ee)) (by omega) (fun _ _ _ _ _ r => r) (fun j H' ws r => r.len) (fun _ => ⟨[], rfl, Nat.le_refl _⟩) ?_ ?_
    · rintro k z H' N acc hk sk eA sz r no yes
      obtain ⟨b, x, y, rfl, exy, hb⟩ := ive.get hk
      exact ⟨b, _, rfl, SqT.of (sk _ _ hb), rfl, .int x, [.int y], rfl, .int y, [], rfl, rfl, rfl, .int x, rfl, yes H' _ (Same.refl _) (r.snoc x)⟩
    intro Hf wa sf eDa ila
    refine ⟨.ref pe, rfl, pe, rfl, ⟨_, SqT.of (sf _ _ ee)⟩, fun Db nDb => ?_⟩
    refine lcT (K := K) (a := pe) (xs := we) (fun j H' ws => IL j ws) nDb (fun H' s => SqT.of (s _ _ (sf _ _ ee))) (by omega) (fun _ _ _ _ _ r => r) (fun j H' ws r => r.len) (fun _ => ⟨[], rfl, Nat.le_refl _⟩) ?_ ?_
    · rintro k z H' N acc hk sk eA sz r no yes
      obtain ⟨b, x, y, rfl, exy, hb⟩ := ive.get hk
      exact ⟨b, _, rfl, SqT.of (sk _ _ (sf _ _ hb)), rfl, .int x, [.int y], rfl, .int y, [], rfl, rfl, rfl, .int y, rfl, yes H' _ (Same.refl _) (r.snoc y)⟩
    intro Hg wb sg eDb ilb
    have lwa := ila.len
    have lwb := ilb.len
    refine ⟨Da, Db, wa, wb, rfl, rfl, sg _ _ eDa, eDb, by rw [show sizeLine = 16777216 by decide]; omega, fun lE nlE => ?_⟩
    have sh' := same_new (o := .lst (wa ++ wb)) nlE
    have eE := upd_same (H := Hg) (a := lE) (o := .lst (wa ++ wb))
    have ilE : IL 24 (wa ++ wb) := (ila.app ilb).mono (by omega)
    generalize upd Hg lE (.lst (wa ++ wb)) = Hh at *
    generalize wa ++ wb = wE at *
    have seh := sf.trans (sg.trans sh')
    have dkh := dke.kept seh
    have offE := (dke.kept (sf.trans sg)).off nlE
    have lwE := ilE.len
    -- spots
    refine ⟨10, 12, rfl, rfl, ⟨by decide, by decide, by decide⟩, .ref d, rfl, 10, 12, rfl, rfl, ⟨by decide, by decide, by decide⟩, d, c, _, _, rfl, dkh, by omega, by omega, by decide, by decide, fun Hi ri kpi dki ri0 ri1 => ?_⟩
    refine ⟨by show 3 ≤ sizeLine; decide, fun l1 nl1 => ?_⟩
    have sj := same_new (o := .lst [.int 0, .int ((10 : Int) ^ (12 : Int).toNat), .int ri]) nl1
    have e1 := upd_same (H := Hi) (a := l1) (o := .lst [.int 0, .int ((10 : Int) ^ (12 : Int).toNat), .int ri])
    have il1 : IL 3 [V.int 0, .int ((10 : Int) ^ (12 : Int).toNat), .int ri] := ⟨[0, _, ri], rfl, Nat.le_refl _⟩
    generalize upd Hi l1 (.lst [.int 0, .int ((10 : Int) ^ (12 : Int).toNat), .int ri]) = Hj at *
    generalize [V.int 0, .int ((10 : Int) ^ (12 : Int).toNat), .int ri] = w1 at *
    have eEi := kpi.keep offE.1 offE.2 eE
    have lw1 := il1.len
    refine ⟨.ref lE, rfl, l1, lE, w1, wE, rfl, rfl, e1, sj _ _ eEi, by rw [show sizeLine = 16777216 by decide]; omega, fun l2 nl2 => ?_⟩
    have sk := same_new (o := .lst (w1 ++ wE)) nl2
    have e2 := upd_same (H := Hj) (a := l2) (o := .lst (w1 ++ wE))
    have il2 : IL 27 (w1 ++ wE) := (il1.app ilE).mono (by omega)
    generalize upd Hj l2 (.lst (w1 ++ wE)) = Hk at *
    generalize w1 ++ wE = w2 at *
    have sik := sj.trans sk
    have lw2 := il2.len
    have eEk := sik _ _ eEi
    refine ⟨.ref lE, rfl, lE, rfl, ⟨_, SqL.of eEk⟩, fun Dc nDc => ?_⟩
    refine lcL (K := K) (a := lE) (xs := wE) (fun j H' ws => IL j ws) nDc (fun H' s => SqL.of (s _ _ eEk)) (by omega) (fun _ _ _ _ _ r => r) (fun j H' ws r => r.len) (fun _ => ⟨[], rfl, Nat.le_refl _⟩) ?_ ?_
    · rintro k z H' N acc hk sk' eA sz r no yes
      obtain ⟨x, rfl⟩ := ilE.get hk
      refine ⟨rfl, .int x, rfl, 10, 12, rfl, rfl, ⟨by decide, by decide, by decide⟩, _, _, rfl, rfl, _, rfl, ite2 (fun c1 => ?_) (fun c1 => ?_)⟩
      · exact ⟨.int x, rfl, _, _, rfl, rfl, yes H' _ (Same.refl _) (r.snoc _)⟩
      · exact no H' (Same.refl _) (r.mono (by omega))
    intro Hl wc sl eDc ilc
    have lwc := ilc.len
    refine ⟨l2, Dc, w2, wc, rfl, rfl, sl _ _ e2, eDc, by rw [show sizeLine = 16777216 by decide]; omega, fun l3 nl3 => ?_⟩
    have sm := same_new (o := .lst (w2 ++ wc)) nl3
    have e3 := upd_same (H := Hl) (a := l3) (o := .lst (w2 ++ wc))
    have il3 : IL 60 (w2 ++ wc) := (il2.app ilc).mono (by omega)
    generalize upd Hl l3 (.lst (w2 ++ wc)) = Hm at *
    generalize w2 ++ wc = w3 at *
    have skm := sl.trans sm
    have lw3 := il3.len
    have eEm := skm _ _ eEk
    refine ⟨.ref l3, rfl, .ref lE, rfl, lE, rfl, ⟨_, SqL.of eEm⟩, fun Dd nDd => ?_⟩
    refine lcL (K := K) (a := lE) (xs := wE) (fun j H' ws => IL j ws) nDd (fun H' s => SqL.of (s _ _ eEm)) (by omega) (fun _ _ _ _ _ r => r) (fun j H' ws r => r.len) (fun _ => ⟨[], rfl, Nat.le_refl _⟩) ?_ ?_
    · rintro k z H' N acc hk sk' eA sz r no yes
      obtain ⟨x, rfl⟩ := ilE.get hk
      refine ⟨rfl, .int x, rfl, _, _, rfl, rfl, _, rfl, ite2 (fun c1 => ?_) (fun c1 => ?_)⟩
      · exact ⟨.int x, rfl, _, _, rfl, rfl, yes H' _ (Same.refl _) (r.snoc _)⟩
      · exact no H' (Same.refl _) (r.mono (by omega))
    intro Hn wd sn eDd ild
    have lwd := ild.len
    refine ⟨l3, Dd, w3, wd, rfl, rfl, sn _ _ e3, eDd, by rw [show sizeLine = 16777216 by decide]; omega, fun l4 nl4 => ?_⟩
    have so := same_new (o := .lst (w3 ++ wd)) nl4
    have e4 := upd_same (H := Hn) (a := l4) (o := .lst (w3 ++ wd))
    have il4 : IL 90 (w3 ++ wd) := (il3.app ild).mono (by omega)
    generalize upd Hn l4 (.lst (w3 ++ wd)) = Ho at *
    generalize w3 ++ wd = w4 at *
    have sio : Same Hi Ho := sik.trans (skm.trans (sn.trans so))
    have dko := dki.kept sio
    have kpeo : Kp d c He Ho := (Kp.same seh).trans (kpi.trans (Kp.same sio))
    have eeo := kpeo.tup dke ee
    have iveo := ive.kp kpeo dke
    refine ⟨l4, rfl, ⟨_, SqL.of e4⟩, ?_⟩
    refine for_list (K := K) (a := l4) (xs := w4) (D := ⟨_, _, fun _ _ => True, fun _ _ => True⟩) (fun k σ H' => Same Ho H' ∧ ∃ z3 z5 z6 z8 z9 z10 z11 z12 z13 z14, σ = [some (.ref a), some (.ref d), some (.int (0 + (i : Nat))), z3, some (.ref pe), z5, z6, some (.str dR.shown), z8, z9, z10, z11, z12, z13, z14])
      ⟨Same.refl _, _, _, _, _, _, _, _, _, _, _, rfl⟩ (fun k σ H' _ h => SqL.of (h.1 _ _ e4)) ?_ ?_
    · rintro k v σ Hp' hk ⟨sp, z3, z5, z6, z8, z9, z10, z11, z12, z13, z14, rfl⟩
      obtain ⟨pos, rfl⟩ := il4.get hk
      refine ⟨.ref pe, rfl, .int pos, rfl, pe, we, R, pos, rfl, sp _ _ eeo, iveo.same sp, goodR, by omega, fun Hq sq => ?_⟩
      have spq := sp.trans sq
      refine ⟨.ref pe, rfl, .int pos, rfl, pe, we, R, pos, rfl, spq _ _ eeo, iveo.same spq, goodR, by omega, fun Hr' sr => ?_⟩
      refine ⟨_, _, ixD R pos, _, _, rfl, ix_dp R pos, ix_dp R pos, ix_sm goodR pos (by omega), by decide, by decide, ?_⟩
      exact ⟨_, rfl, iteF ⟨spq.trans sr, _, _, _, _, _, _, _, _, _, _, rfl⟩⟩
    · rintro σ Hp' ⟨sp, z3, z5, z6, z8, z9, z10, z11, z12, z13, z14, rfl⟩
      -- due
      have eep := sp _ _ eeo
      have ivep := iveo.same sp
      refine ⟨.ref pe, rfl, pe, rfl, ⟨_, SqT.of eep⟩, fun De nDe => ?_⟩
      refine lcT (K := K) (a := pe) (xs := we) (fun j H' ws => Ivs H' ws ((R.take j).map fun q : Int × Int => (ixI R q.1, ixI R q.2))) nDe (fun H' s => SqT.of (s _ _ eep)) (by omega) (fun _ _ _ _ t r => r.tps t) (fun j H' ws r => by rw [r.length, List.length_map]; exact List.length_take_le _ _) (fun _ => .nil) ?_ ?_
      · rintro k z H' N acc hk sk' eA sz r no yes
        obtain ⟨b, x, y, rfl, exy, hb⟩ := ivep.get hk
        have mq := List.mem_of_getElem? exy
        have gq := goodR _ mq
        have d1 : ixV R x = .int (ixI R x) := by
          unfold ixV
          rw [if_pos (dep_pos.mpr ⟨_, mq, Int.le_refl _, gq.2⟩)]
        have d2 : ixV R y = .int (ixI R y) := by
          unfold ixV
          rw [if_pos (dep_pos.mpr ⟨_, mq, gq.2, Int.le_refl _⟩)]
        refine ⟨b, _, rfl, SqT.of (sk' _ _ hb), rfl, .int x, [.int y], rfl, .int y, [], rfl, rfl, rfl, .ref pe, rfl, .int x, rfl, pe, we, R, x, rfl, sk' _ _ eep, ivep.same sk', goodR, by omega, fun Hq sq => ?_⟩
        have skq := sk'.trans sq
        refine ⟨.ref pe, rfl, .int y, rfl, pe, we, R, y, rfl, skq _ _ eep, ivep.same skq, goodR, by omega, fun Hr' sr => ?_⟩
        rw [d1, d2]
        refine ⟨by show 2 ≤ sizeLine; decide, fun t9 nt9 => yes _ _ (sq.trans (sr.trans (same_new nt9))) ?_⟩
        rw [List.take_add_one, exy, List.map_append]
        exact (r.same (sq.trans (sr.trans (same_new nt9)))).snoc upd_same
      intro Hq wq sq eDe rq
      rw [lwe, List.take_length] at rq
      refine ⟨De, wq, rfl, .inl ⟨SqL.of eDe, fun td ntd => ?_⟩⟩
      have sr := same_new (o := .tup wq) ntd
      have etd := upd_same (H := Hq) (a := td) (o := .tup wq)
      replace rq := rq.same sr
      generalize upd Hq td (.tup wq) = Hr' at *
      have sqr := sq.trans sr
      obtain ⟨cp, ecp⟩ : ∃ cp, cp = R.map fun q : Int × Int => (ixI R q.1, ixI R q.2) := ⟨_, rfl⟩
      have bcp : ∀ q1 ∈ cp, q1.1.natAbs < 10 ^ 30 ∧ q1.2.natAbs < 10 ^ 30 := fun q1 hq1 => by
        rw [ecp] at hq1
        obtain ⟨q2, _, rfl⟩ := List.mem_map.mp hq1
        exact ⟨ix_small goodR _ (by omega), ix_small goodR _ (by omega)⟩
      have lcp : cp.length ≤ 12 := by
        rw [ecp, List.length_map]
        exact lenRR
      rw [← ecp] at rq
      refine ⟨.ref pe, rfl, pe, we, R, rfl, sqr _ _ eep, ivep.same sqr, goodR, by omega, fun Hs' pcm wcm ss ecm ivcm => ?_⟩
      rw [← ecp] at ivcm
      refine ⟨.ref td, rfl, .ref pcm, .ref td, .tuple (cp.map pairD), _, _, rfl, .tup (SqT.of ecm) ivcm.dp, .tup (SqT.of (ss _ _ etd)) (rq.same ss).dp, sm_row bcp lcp, by decide, by decide, ?_⟩
      refine ⟨_, rfl, iteF ?_⟩
      have sqs := sqr.trans ss
      refine ⟨.ref pe, rfl, .ref pe, dR, _, _, rfl, dpR _ (sqs _ _ eep) (ivep.same sqs), smR, by decide, by decide, _, rfl, rfl, _, rfl, ?_⟩
      refine iteNS rfl ?_
      exact ⟨⟨_, (dko.kept sp).kept sqs, by omega, by omega⟩, _, _, _, _, _, _, _, _, _, _, _, _, _, rfl⟩

end
theorem all_mk {l : PySem.W.OpenLaw} {w : World} {K : PySem.W.Frag} {h : Heap} {mg : Str → Option Value} {fa f1 f2 f3 f4 f5 f6 f7 f8 f9 f10 f11 : Addr} (X : K.In h) (G : h.Ns mainGlobals mg) (hfa : mg "law" = some (.ref fa))
    {od1 an1 od2 an2 od3 an3 od4 an4 od5 an5 od6 an6 od7 an7 od8 an8 od9 an9 od10 an10 od11 an11 : Option Addr} {sl1 sl2 sl3 sl4 sl5 sl6 sl7 sl8 sl9 sl10 sl11 : Array (Option Value)} {oc1 kV1 dc1 pm1 cd1 ct1 oc2 kV2 dc2 pm2 cd2 ct2 oc3 kV3 dc3 pm3 cd3 ct3 oc4 kV4 dc4 pm4 cd4 ct4 oc5 kV5 dc5 pm5 cd5 ct5 oc6 kV6 dc6 pm6 cd6 ct6 oc7 kV7 dc7 pm7 cd7 ct7 oc8 kV8 dc8 pm8 cd8 ct8 oc9 kV9 dc9 pm9 cd9 ct9 oc10 kV10 dc10 pm10 cd10 ct10 oc11 kV11 dc11 pm11 cd11 ct11 : Value}
    (a1 : PySem.W.nsIn K mainGlobals "depth_changes" = some (some (.ref f1))) (l1 : K.lookup f1 = some ⟨oc1, od1, .func (PySem.W.fnOf "depth_changes" "depth_changes" (defArgs s_depth_changes) (defBody s_depth_changes) (defScope s_depth_changes) .none kV1 dc1 pm1 an1 cd1 ct1), sl1⟩) (c1 : PySem.W.codeIn K cd1 "depth_changes" = true) (k1 : PySem.W.keepIn K (.ref f1) = true)
    (a2 : PySem.W.nsIn K mainGlobals "find_blocks" = some (some (.ref f2))) (l2 : K.lookup f2 = some ⟨oc2, od2, .func (PySem.W.fnOf "find_blocks" "find_blocks" (defArgs s_find_blocks) (defBody s_find_blocks) (defScope s_find_blocks) .none kV2 dc2 pm2 an2 cd2 ct2), sl2⟩) (c2 : PySem.W.codeIn K cd2 "find_blocks" = true) (k2 : PySem.W.keepIn K (.ref f2) = true)
    (a3 : PySem.W.nsIn K mainGlobals "block_index" = some (some (.ref f3))) (l3 : K.lookup f3 = some ⟨oc3, od3, .func (PySem.W.fnOf "block_index" "block_index" (defArgs s_block_index) (defBody s_block_index) (defScope s_block_index) .none kV3 dc3 pm3 an3 cd3 ct3), sl3⟩) (c3 : PySem.W.codeIn K cd3 "block_index" = true) (k3 : PySem.W.keepIn K (.ref f3) = true)
    (a4 : PySem.W.nsIn K mainGlobals "compress" = some (some (.ref f4))) (l4 : K.lookup f4 = some ⟨oc4, od4, .func (PySem.W.fnOf "compress" "compress" (defArgs s_compress) (defBody s_compress) (defScope s_compress) .none kV4 dc4 pm4 an4 cd4 ct4), sl4⟩) (c4 : PySem.W.codeIn K cd4 "compress" = true) (k4 : PySem.W.keepIn K (.ref f4) = true)
    (a5 : PySem.W.nsIn K mainGlobals "_law_deck" = some (some (.ref f5))) (l5 : K.lookup f5 = some ⟨oc5, od5, .func (PySem.W.fnOf "_law_deck" "_law_deck" (defArgs s_law_deck) (defBody s_law_deck) (defScope s_law_deck) .none kV5 dc5 pm5 an5 cd5 ct5), sl5⟩) (c5 : PySem.W.codeIn K cd5 "_law_deck" = true) (k5 : PySem.W.keepIn K (.ref f5) = true)
    (a6 : PySem.W.nsIn K mainGlobals "_law_draw" = some (some (.ref f6))) (l6 : K.lookup f6 = some ⟨oc6, od6, .func (PySem.W.fnOf "_law_draw" "_law_draw" (defArgs s_law_draw) (defBody s_law_draw) (defScope s_law_draw) .none kV6 dc6 pm6 an6 cd6 ct6), sl6⟩) (c6 : PySem.W.codeIn K cd6 "_law_draw" = true) (k6 : PySem.W.keepIn K (.ref f6) = true)
    (a7 : PySem.W.nsIn K mainGlobals "_law_same" = some (some (.ref f7))) (l7 : K.lookup f7 = some ⟨oc7, od7, .func (PySem.W.fnOf "_law_same" "_law_same" (defArgs s_law_same) (defBody s_law_same) (defScope s_law_same) .none kV7 dc7 pm7 an7 cd7 ct7), sl7⟩) (c7 : PySem.W.codeIn K cd7 "_law_same" = true) (k7 : PySem.W.keepIn K (.ref f7) = true)
    (a8 : PySem.W.nsIn K mainGlobals "_law_interval" = some (some (.ref f8))) (l8 : K.lookup f8 = some ⟨oc8, od8, .func (PySem.W.fnOf "_law_interval" "_law_interval" (defArgs s_law_interval) (defBody s_law_interval) (defScope s_law_interval) .none kV8 dc8 pm8 an8 cd8 ct8), sl8⟩) (c8 : PySem.W.codeIn K cd8 "_law_interval" = true) (k8 : PySem.W.keepIn K (.ref f8) = true)
    (a9 : PySem.W.nsIn K mainGlobals "_law_stretched" = some (some (.ref f9))) (l9 : K.lookup f9 = some ⟨oc9, od9, .func (PySem.W.fnOf "_law_stretched" "_law_stretched" (defArgs s_law_stretched) (defBody s_law_stretched) (defScope s_law_stretched) .none kV9 dc9 pm9 an9 cd9 ct9), sl9⟩) (c9 : PySem.W.codeIn K cd9 "_law_stretched" = true) (k9 : PySem.W.keepIn K (.ref f9) = true)
    (a10 : PySem.W.nsIn K mainGlobals "_law_index" = some (some (.ref f10))) (l10 : K.lookup f10 = some ⟨oc10, od10, .func (PySem.W.fnOf "_law_index" "_law_index" (defArgs s_law_index) (defBody s_law_index) (defScope s_law_index) .none kV10 dc10 pm10 an10 cd10 ct10), sl10⟩) (c10 : PySem.W.codeIn K cd10 "_law_index" = true) (k10 : PySem.W.keepIn K (.ref f10) = true)
    (a11 : PySem.W.nsIn K mainGlobals "law" = some (some (.ref f11))) (l11 : K.lookup f11 = some ⟨oc11, od11, .func (PySem.W.fnOf "law" "law" (defArgs s_law) (defBody s_law) (defScope s_law) .none kV11 dc11 pm11 an11 cd11 ct11), sl11⟩) (c11 : PySem.W.codeIn K cd11 "law" = true) (k11 : PySem.W.keepIn K (.ref f11) = true)
    (z0 : PySem.W.nsIn K mainGlobals "abs" = some none) (z1 : PySem.W.nsIn K mainGlobals "enumerate" = some none) (z2 : PySem.W.nsIn K mainGlobals "len" = some none) (z3 : PySem.W.nsIn K mainGlobals "range" = some none) (z4 : PySem.W.nsIn K mainGlobals "repr" = some none) (z5 : PySem.W.nsIn K mainGlobals "set" = some none) (z6 : PySem.W.nsIn K mainGlobals "sorted" = some none) (z7 : PySem.W.nsIn K mainGlobals "tuple" = some none) (z8 : PySem.W.nsIn K mainGlobals "zip" = some none) :
    ∃ fd : FuncData, (∀ (s : Shared) (v : Value), BindsTo s fd ⟨[v], []⟩ [("_law_script", v)]) ∧ ∀ base : Heap, K.In base → base.Ns mainGlobals mg → (∃ mm, base.Ns sysModules mm) → FnG l.prog w K mg base 4 fa fd ["_law_script"] (sp_law K) := by
  have e := hfa.symm.trans (PySem.W.mg_of X G a11)
  cases e
  have F1 := fun_mk (st := s_depth_changes) l1 c1 k1
  have b1 := F1.binds (ps := ["intervals"]) fun _ _ _ _ _ _ us hl => match us, hl with | [_], _ => rfl
  have F2 := fun_mk (st := s_find_blocks) l2 c2 k2
  have b2 := F2.binds (ps := ["intervals"]) fun _ _ _ _ _ _ us hl => match us, hl with | [_], _ => rfl
  have F3 := fun_mk (st := s_block_index) l3 c3 k3
  have b3 := F3.binds (ps := ["intervals", "position"]) fun _ _ _ _ _ _ us hl => match us, hl with | [_, _], _ => rfl
  have F4 := fun_mk (st := s_compress) l4 c4 k4
  have b4 := F4.binds (ps := ["intervals"]) fun _ _ _ _ _ _ us hl => match us, hl with | [_], _ => rfl
  have F5 := fun_mk (st := s_law_deck) l5 c5 k5
  have b5 := F5.binds (ps := ["_law_script"]) fun _ _ _ _ _ _ us hl => match us, hl with | [_], _ => rfl
  have F6 := fun_mk (st := s_law_draw) l6 c6 k6
  have b6 := F6.binds (ps := ["_law_deck_here", "_law_limit"]) fun _ _ _ _ _ _ us hl => match us, hl with | [_, _], _ => rfl
  have F7 := fun_mk (st := s_law_same) l7 c7 k7
  have b7 := F7.binds (ps := ["_law_value", "_law_due"]) fun _ _ _ _ _ _ us hl => match us, hl with | [_, _], _ => rfl
  have F8 := fun_mk (st := s_law_interval) l8 c8 k8
  have b8 := F8.binds (ps := ["_law_deck_here", "_law_limit"]) fun _ _ _ _ _ _ us hl => match us, hl with | [_, _], _ => rfl
  have F9 := fun_mk (st := s_law_stretched) l9 c9 k9
  have b9 := F9.binds (ps := ["_law_row", "_law_factor", "_law_shift"]) fun _ _ _ _ _ _ us hl => match us, hl with | [_, _, _], _ => rfl
  have F10 := fun_mk (st := s_law_index) l10 c10 k10
  have b10 := F10.binds (ps := ["_law_row", "_law_position"]) fun _ _ _ _ _ _ us hl => match us, hl with | [_, _], _ => rfl
  have F11 := fun_mk (st := s_law) l11 c11 k11
  have b11 := F11.binds (ps := ["_law_script"]) fun _ _ _ _ _ _ us hl => match us, hl with | [_], _ => rfl
  have T : Tx K mg _ _ _ _ _ _ _ _ _ _ _ _ _ _ _ _ _ _ _ _ _ _ := ⟨F1, b1, PySem.W.mg_of X G a1, F2, b2, PySem.W.mg_of X G a2, F3, b3, PySem.W.mg_of X G a3, F4, b4, PySem.W.mg_of X G a4, F5, b5, PySem.W.mg_of X G a5, F6, b6, PySem.W.mg_of X G a6, F7, b7, PySem.W.mg_of X G a7, F8, b8, PySem.W.mg_of X G a8, F9, b9, PySem.W.mg_of X G a9, F10, b10, PySem.W.mg_of X G a10, F11, b11, PySem.W.mg_of X G a11, PySem.W.mg_none_of X G z0, PySem.W.mg_none_of X G z1, PySem.W.mg_none_of X G z2, PySem.W.mg_none_of X G z3, PySem.W.mg_none_of X G z4, PySem.W.mg_none_of X G z5, PySem.W.mg_none_of X G z6, PySem.W.mg_none_of X G z7, PySem.W.mg_none_of X G z8⟩
  exact ⟨_, fun s v => .of_eq rfl, fun base _ _ hM => ok_law T⟩
end L9
open PySem PySem.W PyProof.Rows
set_option maxHeartbeats 0 in
theorem PySem.Challenge.cw_fewspans_k05_block_indexes_holds : PySem.Challenge.rw_fewspans_k05_block_indexes.Holds := by
  w_on; o_law; k_head; (case hw => w_witness2)
  k_fill
  refine L9.quiet_walk (l := PySem.Challenge.rw_fewspans_k05_block_indexes) (n := 63) (k := 4) (x := "_law_script") (sp := fun w => L9.sp_law _) (by decide +kernel) rfl (by decide) rfl ⟨rfl, by decide, by decide⟩ (fun w h Y => PySem.W.kIn_of Y) ?F (fun _ _ a ns hl _ hS => ⟨a, ns, rfl, hS, hl, fun _ => rfl⟩)
  case F =>
    intro w mg fa h KX G hmg
    refine' L9.all_mk KX G hmg ?a1 ?l1 ?c1 ?k1 ?a2 ?l2 ?c2 ?k2 ?a3 ?l3 ?c3 ?k3 ?a4 ?l4 ?c4 ?k4 ?a5 ?l5 ?c5 ?k5 ?a6 ?l6 ?c6 ?k6 ?a7 ?l7 ?c7 ?k7 ?a8 ?l8 ?c8 ?k8 ?a9 ?l9 ?c9 ?k9 ?a10 ?l10 ?c10 ?k10 ?a11 ?l11 ?c11 ?k11 ?z0 ?z1 ?z2 ?z3 ?z4 ?z5 ?z6 ?z7 ?z8
    (case a1 => k_is)
    (case l1 => k_is)
    (case c1 => k_is)
    (case k1 => k_is)
    (case a2 => k_is)
    (case l2 => k_is)
    (case c2 => k_is)
    (case k2 => k_is)
    (case a3 => k_is)
    (case l3 => k_is)
    (case c3 => k_is)
    (case k3 => k_is)
    (case a4 => k_is)
    (case l4 => k_is)
    (case c4 => k_is)
    (case k4 => k_is)
    (case a5 => k_is)
    (case l5 => k_is)
    (case c5 => k_is)
    (case k5 => k_is)
    (case a6 => k_is)
    (case l6 => k_is)
    (case c6 => k_is)
    (case k6 => k_is)
    (case a7 => k_is)
    (case l7 => k_is)
    (case c7 => k_is)
    (case k7 => k_is)
    (case a8 => k_is)
    (case l8 => k_is)
    (case c8 => k_is)
    (case k8 => k_is)
    (case a9 => k_is)
    (case l9 => k_is)
    (case c9 => k_is)
    (case k9 => k_is)
    (case a10 => k_is)
    (case l10 => k_is)
    (case c10 => k_is)
    (case k10 => k_is)
    (case a11 => k_is)
    (case l11 => k_is)
    (case c11 => k_is)
    (case k11 => k_is)
    (case z0 => k_is)
    (case z1 => k_is)
    (case z2 => k_is)
    (case z3 => k_is)
    (case z4 => k_is)
    (case z5 => k_is)
    (case z6 => k_is)
    (case z7 => k_is)
    (case z8 => k_is)
