import PyProof.Rows.All
import Wide.All
import OpenK.AllK
import Wide.FinOn
import PySem.Challenge.RW_fewspans_k20_whole_pairs_make_joint_piec
import HandS.ForMost
import HandS.Wide
import HandS.IsInst
import HandS.Conv
import HandS.TupLe
import HandS.Strs
import HandS.SetFor
import HandS.Style
import PyProof.NeKinds
import HandS.TupAny
import KE.GoesEnum
import KE.GoesMore
set_option Elab.async false
set_option linter.all false
set_option maxRecDepth 100000
set_option maxHeartbeats 4000000
namespace L9
open PySem PySem.Spec PyProof.Rows L2
/-! ### defs that are run where no text-making of the machine is under way (repr, str of nested data ask for it) -/
abbrev Quiet (A : Around) : Prop := A.guards = some []
structure FnG (P : Program) (w : World) (K : PySem.W.Frag) (mg : Str → Option Value) (base : Heap) (k : Nat) (f : Addr) (fd : FuncData) (ps : List Str) (sp : Sp) : Prop where
  size : ∀ {vs H Q}, sp vs H Q E0 → vs.length = ps.length
  go : ∀ {A outer s H us vs Q}, Room k A → Quiet A → Env0 P w K mg base A outer s H → BindsTo s fd ⟨us, []⟩ (ps.zip us) → Vals vs us → sp vs H Q E0 →
    codeAny (model P w) A (.call (.ref f) ⟨us, []⟩) (CR CX0 outer P w H s Q E0) s
section
variable {P : Program} {w : World} {K : PySem.W.Frag} {mg : Str → Option Value} {base : Heap}
theorem FnG.of {x qual : Str} {st : Stmt} {f : Addr} {fd : FuncData} {N ps : List Str} {k : Nat} {sp : Sp} (F : Fun K x qual st f fd) (S : FnScope N ps (defScope st))
    (size : ∀ {vs H Q}, sp vs H Q E0 → vs.length = ps.length)
    (body : ∀ cdv A outer s H vs Q, Room k (A.deeper (envOfC qual (defScope st) s.heap.objs.size f cdv)) → Quiet (A.deeper (envOfC qual (defScope st) s.heap.objs.size f cdv)) → sp vs H Q E0 →
      ∃ t, PSs (cxOf CX0 P w K mg base N qual (defScope st) f cdv A outer s H E0).nox (defBody st) t ∧ t { nx := fun _ H' => Q .non H', rt := Q } (start N vs) H) :
    FnG P w K mg base (k + 1) f fd ps sp := by
  obtain ⟨oc, od, kV, doc, pm, an, cdv, ct, osl, rfl, look, code⟩ := F.ex
  constructor
  · exact size
  intro A outer s H us vs Q room quiet e0 bind rel want
  have inH : K.In s.heap := e0.mod.kin.keeps fun b o q => (e0.bs b o q).1
  have lim := e0.mod.nolimit.keeps (fun b o q => (e0.bs b o q).1)
  have kinds : ∀ y ∈ ps.zip us, (defScope st).names.lookup y.1 = some .local ∨ ((defScope st).names.lookup y.1 = some .cell ∧ ((cellsFrom (s.heap.objs.size + 1) (defScope st).names []).lookup y.1).isSome = true) := by
    rintro ⟨n, v⟩ hy
    have hn := (List.of_mem_zip hy).1
    cases S.par n hn with
    | inl q => exact Or.inl q
    | inr q => exact Or.inr ⟨q, PySem.W.cellsFrom_some _ _ _ (Or.inl q)⟩
  apply codeAny_call_function room.depth (inH _ _ look) rfl S.co S.gen rfl (PySem.W.codeRec_of inH code)
  apply bind
  apply wpAny_newFunctionEnv_cells S.kind kinds
  intro env he s1 x
  subst he
  refine And.intro (lim.keeps x.toInCall.keep) (codeAny_func ?_)
  obtain ⟨t, ht, hq⟩ := body cdv A outer s H vs Q (room.deeper _) quiet want
  have I := inv_start (CX := CX0) (E := E0) S room.hd e0 (size want) rel x
  apply wpAny_mono (ht.nox.run [] s1 (start N vs) H _ I hq)
  · intro fl s' hs
    cases fl with
    | ret u =>
      obtain ⟨v, σ', H', J, rv, q⟩ := hs
      exact Exists.intro v ⟨H', J.os, J.bare, J.base, J.hok, rv, q⟩
    | next =>
      obtain ⟨σ', H', J, q⟩ := hs
      exact Exists.intro V.non ⟨H', J.os, J.bare, J.base, J.hok, rfl, q⟩
    | brk => exact hs.elim fun _ h => h.elim fun _ h => h.2.elim
    | cont => exact hs.elim fun _ h => h.elim fun _ h => h.2.elim
  · intro e s' hs
    exact hs
end
section
variable {X : Cx} {k : Nat} {f : Addr} {fd : FuncData} {ps : List Str} {sp : Sp} {x : Str} {p pos : Pos} {e : Expr} {es : List Expr} {t : TA}
theorem pe_callG (F : FnG X.prog X.w X.K X.mg X.base k f fd ps sp) (room : Room k X.A) (quiet : Quiet X.A) (hg : Gl X x) (hm : X.mg x = some (.ref f)) (keep : PySem.W.keepIn X.K (.ref f) = true) (bind : Binds X.K fd ps [])
    (args : PA X (e :: es) t) (hdb : (x == ("__debug__" : Str)) = false := by decide) (star : starEach (e :: es) X.env = (false, eval e X.env) :: starEach es X.env := by rfl) (plain : (backTo pos (starEach es X.env)).any (·.1) = false := by rfl) :
    PE X (.Call (.Name x p) (e :: es) [] pos) (tCall sp [] E0 t) := by
  constructor
  intro pins s σ H Q I h
  apply wpAny_Call_Name_kw
  apply ld_glob I hg hm _ hdb
  apply PySem.W.callWith_K (h₀ := X.base) I.ok.mod.kin keep _ star plain
  apply thn (args.run pos pins s σ H _ I h)
  rintro us s1 ⟨vs, H1, I1, rel, q⟩
  refine And.intro I1.kIn ?_
  have q' : sp vs H1 Q E0 := by
    have z := q
    rw [List.append_nil] at z
    exact z
  have same : us.length = ps.length := rel.length.symm.trans (F.size q')
  have b := bind s1 us I1.kIn (by rw [List.append_nil]; exact same)
  rw [List.append_nil] at b
  apply wpAny_call
  apply codeAny_mono (F.go room quiet I1.env0 b rel q')
  intro r s' hr
  match r, hr with
  | .error _, hr => exact hr.elim
  | .ok (.ret u), hr => exact I1.after hr
  | .ok .next, hr => exact False.elim hr
  | .ok .brk, hr => exact False.elim hr
  | .ok .cont, hr => exact False.elim hr
end
/-! ### repr of data at any depth -/
structure Sm (n dp : Nat) (d : PyData) : Prop where
  shows : d.showable = true
  short : d.leavesShort 40 = true
  small : d.weight ≤ n
  flat : d.depth ≤ dp
theorem Sm.mono {n m dp dq : Nat} {d : PyData} (h : Sm n dp d) (h1 : n ≤ m) (h2 : dp ≤ dq) : Sm m dq d := ⟨h.shows, h.short, Nat.le_trans h.small h1, Nat.le_trans h.flat h2⟩
theorem Sm.none : Sm 0 0 .none := ⟨rfl, rfl, Nat.le_refl _, Nat.le_refl _⟩
theorem Sm.bool (b : Bool) : Sm 0 0 (.bool b) := ⟨rfl, rfl, Nat.le_refl _, Nat.le_refl _⟩
theorem log2_small {i : Int} (h : i.natAbs < 10 ^ 30) : i.natAbs.log2 < 100 := PySem.Flt.log2_lt_of (by decide) (Nat.lt_trans h (by decide))
theorem Sm.int {i : Int} (h : i.natAbs < 10 ^ 30) : Sm 100 0 (.int i) := by
  have l := log2_small h
  refine ⟨decide_eq_true (Nat.lt_trans l (by decide)), decide_eq_true ?_, ?_, Nat.le_refl _⟩
  · have q := int_text_length_le10 (a := i) (k := 30) (by decide) h
    show (Str.ofString (toString i)).length ≤ 40
    rw [PySem.ofString_length]
    exact Nat.le_trans q (by decide)
  · show (if i == 0 then 0 else i.natAbs.log2 + 1) ≤ 100
    split <;> omega
theorem smAll {n dp : Nat} : ∀ {ds : List PyData}, (∀ d ∈ ds, Sm n dp d) → PyData.showableAll ds = true ∧ PyData.leavesShortAll 40 ds = true ∧ PyData.weightAll ds ≤ ds.length * (n + 1) ∧ PyData.depthAll ds ≤ dp
  | [], _ => ⟨rfl, rfl, Nat.zero_le _, Nat.zero_le _⟩
  | d :: ds, h => by
    obtain ⟨a, b, c, e⟩ := smAll (ds := ds) fun x hx => h x (List.mem_cons_of_mem _ hx)
    have z := h d List.mem_cons_self
    refine ⟨?_, ?_, ?_, ?_⟩
    · show (d.showable && PyData.showableAll ds) = true
      rw [z.shows, a]
      rfl
    · show (d.leavesShort 40 && PyData.leavesShortAll 40 ds) = true
      rw [z.short, b]
      rfl
    · show d.weight + 1 + PyData.weightAll ds ≤ (ds.length + 1) * (n + 1)
      have := z.small
      rw [Nat.add_mul]
      omega
    · show max d.depth (PyData.depthAll ds) ≤ dp
      exact Nat.max_le.mpr ⟨z.flat, e⟩
theorem Sm.tup {n dp : Nat} {ds : List PyData} (h : ∀ d ∈ ds, Sm n dp d) : Sm (ds.length * (n + 1)) (dp + 1) (.tuple ds) :=
  let ⟨a, b, c, e⟩ := smAll h
  ⟨a, b, c, Nat.succ_le_succ e⟩
theorem Sm.lst {n dp : Nat} {ds : List PyData} (h : ∀ d ∈ ds, Sm n dp d) : Sm (ds.length * (n + 1)) (dp + 1) (.list ds) :=
  let ⟨a, b, c, e⟩ := smAll h
  ⟨a, b, c, Nat.succ_le_succ e⟩
theorem Sm.fits {n dp : Nat} {d : PyData} (h : Sm n dp d) (hn : n ≤ 300000) : d.shown.length ≤ sizeLine := by
  have q := PyData.shown_le 40 (by decide) d h.short
  have := h.small
  have e : sizeLine = 16777216 := by decide
  rw [e]
  omega
/-- data with dicts in it; its lists stand in the heap by themselves -/
def keyD : Key → PyData
  | .inl i => .int i
  | .inr x => .str x
mutual
inductive Dv (K : PySem.W.Frag) (H : Hp) : V → PyData → Prop
  | non : Dv K H .non .none
  | bl (b : Bool) : Dv K H (.bl b) (.bool b)
  | int (i : Int) : Dv K H (.int i) (.int i)
  | str (x : Str) : Dv K H (.str x) (.str x)
  | lst {a : Addr} {xs : List V} {ds : List PyData} : H a = some (.lst xs) → DvAll K H xs ds → Dv K H (.ref a) (.list ds)
  | tup {a : Addr} {xs : List V} {ds : List PyData} : H a = some (.tup xs) → DvAll K H xs ds → Dv K H (.ref a) (.tuple ds)
  | dic {a : Addr} {kvs : List (Key × V)} {ds : List PyData} : H a = some (.dK kvs) → DvAll K H (kvs.map (·.2)) ds → Dv K H (.ref a) (.dict ((kvs.map fun p => keyD p.1).zip ds))
inductive DvAll (K : PySem.W.Frag) (H : Hp) : List V → List PyData → Prop
  | nil : DvAll K H [] []
  | cons {v : V} {vs : List V} {d : PyData} {ds : List PyData} : Dv K H v d → DvAll K H vs ds → DvAll K H (v :: vs) (d :: ds)
end
theorem DvAll.length {K : PySem.W.Frag} {H : Hp} : ∀ {vs : List V} {ds : List PyData}, DvAll K H vs ds → vs.length = ds.length
  | _, _, .nil => rfl
  | _, _, .cons _ h => by rw [List.length_cons, List.length_cons, h.length]
theorem keys_read {P : Program} {w : World} {h : Heap} : ∀ {es : List DictEntry} {vs : List (Key × Value)}, Pairs (mixKind P w) es vs → ReadsAll h (es.map (·.key)) (vs.map fun p => keyD p.1) []
  | _, _, .nil => .nil
  | _, _, .cons (e := e) (kv := kv) hk _ r => by
    have one : Reads h e.key (keyD kv.1) [] := by
      rcases keyIs_shape hk with ⟨i, t, e1, e2⟩ | ⟨x, t, e1, e2⟩
      · rw [e1, e2]
        exact .int i t
      · rw [e1, e2]
        exact .str x t
    exact ReadsAll.cons one (keys_read r)
theorem vals_read {P : Program} {w : World} : ∀ {es : List DictEntry} {vs : List (Key × Value)}, Pairs (mixKind P w) es vs → es.map (·.val) = vs.map (·.2)
  | _, _, .nil => rfl
  | _, _, .cons _ hv r => by rw [List.map_cons, List.map_cons, hv, vals_read r]
theorem kv_vals : ∀ {kvs : List (Key × V)} {vs : List (Key × Value)}, KV kvs vs → Vals (kvs.map (·.2)) (vs.map (·.2)) ∧ (vs.map fun p => keyD p.1) = kvs.map fun p => keyD p.1
  | _, _, .nil => ⟨.nil, rfl⟩
  | _, _, .cons h r => by
    obtain ⟨a, b⟩ := kv_vals r
    refine ⟨.cons h.2 a, ?_⟩
    rw [List.map_cons, List.map_cons, b, h.1]
section
variable {X : Cx} {pins : List (Addr × Obj)} {σ : L2.St} {H : Hp} {s : Shared}
theorem Dv.reads (I : Inv X pins σ H s) (mods : ∃ mm, X.base.Ns sysModules mm) {v : V} {d : PyData} (h : Dv X.K H v d) : ∀ u : Value, RelV v u → ∃ as, Reads s.heap u d as ∧ sysModules ∉ as := by
  have free : H sysModules = none := by
    obtain ⟨mm, o, es, ep, e, _⟩ := mods
    exact (I.bs _ o e).2
  refine Dv.rec (K := X.K) (H := H) (motive_1 := fun v d _ => ∀ u : Value, RelV v u → ∃ as, Reads s.heap u d as ∧ sysModules ∉ as) (motive_2 := fun vs ds _ => ∀ us : List Value, Vals vs us → ∃ as, ReadsAll s.heap us ds as ∧ sysModules ∉ as) ?_ ?_ ?_ ?_ ?_ ?_ ?_ ?_ ?_ h
  · intro u r
    cases r
    exact ⟨_, .none, fun z => nomatch z⟩
  · intro b u r
    cases r
    exact ⟨_, .bool b, fun z => nomatch z⟩
  · intro i u r
    obtain ⟨t, rfl⟩ := r
    exact ⟨_, .int i t, fun z => nomatch z⟩
  · intro x u r
    obtain ⟨t, rfl⟩ := r
    exact ⟨_, .str x t, fun z => nomatch z⟩
  · intro a xs ds e _ ih u r
    cases r
    obtain ⟨_, its, n, rv, q⟩ := I.hok a _ e
    obtain ⟨as, ra, na⟩ := ih _ rv
    refine ⟨a :: as, .list q rfl rfl (by simpa using ra), fun z => ?_⟩
    rcases List.mem_cons.mp z with z | z
    · rw [← z, free] at e
      cases e
    · exact na z
  · intro a xs ds e _ ih u r
    cases r
    obtain ⟨_, its, rv, o, ho, hc, n, hd⟩ := I.hok a _ e
    obtain ⟨as, ra, na⟩ := ih _ rv
    exact ⟨as, .tuple ho hc hd (by simpa using ra), na⟩
  · intro a kvs ds e hall ih u r
    cases r
    obtain ⟨_, hne, vs, kv, o, es, ep, ho, ex, hd, _, prs, _⟩ := I.hok a _ e
    obtain ⟨rv, ek⟩ := kv_vals kv
    obtain ⟨as, ra, na⟩ := ih _ rv
    have len : (kvs.map fun p => keyD p.1).length = ds.length := by
      have z := hall.length
      rw [List.length_map] at z
      rw [List.length_map, z]
    refine ⟨_, .dict ho ex.1 hd (as := []) (bs := as) ?_ ?_, fun z => ?_⟩
    · rw [List.map_fst_zip (by omega), ← ek]
      exact keys_read prs
    · rw [List.map_snd_zip (by omega), vals_read prs]
      exact ra
    · rcases List.mem_cons.mp z with z | z
      · rw [← z] at hne
        exact absurd hne (by decide)
      · exact na z
  · intro us r
    cases r
    exact ⟨_, .nil, fun z => nomatch z⟩
  · intro v vs d ds _ _ ih1 ih2 us r
    cases r with
    | cons r1 r2 =>
      obtain ⟨as, ra, na⟩ := ih1 _ r1
      obtain ⟨bs, rb, nb⟩ := ih2 _ r2
      refine ⟨_, .cons ra rb, fun z => ?_⟩
      rcases List.mem_append.mp z with z | z
      · exact na z
      · exact nb z
theorem call_reprV (mods : ∃ mm, X.base.Ns sysModules mm) (quiet : Quiet X.A) (units : X.A.units + 64 < cLine) : CallR X (.builtin "repr")
    (fun xs H Q => ∃ v d n dp, xs = [v] ∧ Dv X.K H v d ∧ Sm n dp d ∧ n ≤ 300000 ∧ dp ≤ 60 ∧ Q (.str d.shown) H) := by
  intro pins s σ H xs us Q I r h
  obtain ⟨v, d, n, dp, rfl, hd, sm, hn, hdp, q⟩ := h
  obtain ⟨u, rfl, ru⟩ := vals1 r
  have fits := sm.fits hn
  have flat := sm.flat
  obtain ⟨as, rd, off⟩ := Dv.reads I mods hd _ ru
  cases hd with
  | non =>
    cases ru
    exact PySem.P.repr_of_none ⟨.str _, H, I.tok _, ⟨_, rfl⟩, q⟩
  | bl b =>
    cases ru
    exact PySem.P.repr_of_bool ⟨.str _, H, I.tok _, ⟨_, rfl⟩, q⟩
  | int i =>
    obtain ⟨t, rfl⟩ := ru
    exact PySem.P.repr_of_int (of_decide_eq_true sm.shows) ⟨.str _, H, I.tok _, ⟨_, rfl⟩, q⟩
  | str x =>
    obtain ⟨t, rfl⟩ := ru
    exact PySem.P.repr_of_str ⟨.str _, H, I.tok _, ⟨_, rfl⟩, q⟩ fits
  | _ =>
    cases ru
    exact repr_of_reads' rd sm.shows (fun _ => off) quiet (by omega) (fun _ _ e => e) (fun h' t tk more => ⟨.str _, H, I.kept more, ⟨_, rfl⟩, q⟩) fits
end
theorem Dp.noDict {K : PySem.W.Frag} {H : Hp} {v : V} {d : PyData} (h : Dp K H v d) : d.hasDict = false := by
  refine Dp.rec (K := K) (H := H) (motive_1 := fun v d _ => d.hasDict = false) (motive_2 := fun vs ds _ => PyData.hasDictAll ds = false) ?_ ?_ ?_ ?_ ?_ ?_ ?_ ?_ h
  all_goals intros
  all_goals simp_all [PyData.hasDict, PyData.hasDictAll]
section
variable {X : Cx}
theorem call_reprD (quiet : Quiet X.A) (units : X.A.units + 64 < cLine) : CallR X (.builtin "repr")
    (fun xs H Q => ∃ v d n dp, xs = [v] ∧ Dp X.K H v d ∧ Sm n dp d ∧ n ≤ 300000 ∧ dp ≤ 60 ∧ Q (.str d.shown) H) := by
  intro pins s σ H xs us Q I r h
  obtain ⟨v, d, n, dp, rfl, hd, sm, hn, hdp, q⟩ := h
  obtain ⟨u, rfl, ru⟩ := vals1 r
  have fits := sm.fits hn
  have flat := sm.flat
  obtain ⟨as, rd⟩ := Dp.reads I d v u hd ru
  cases hd with
  | non =>
    cases ru
    exact PySem.P.repr_of_none ⟨.str _, H, I.tok _, ⟨_, rfl⟩, q⟩
  | bl b =>
    cases ru
    exact PySem.P.repr_of_bool ⟨.str _, H, I.tok _, ⟨_, rfl⟩, q⟩
  | int i =>
    obtain ⟨t, rfl⟩ := ru
    exact PySem.P.repr_of_int (of_decide_eq_true sm.shows) ⟨.str _, H, I.tok _, ⟨_, rfl⟩, q⟩
  | str x =>
    obtain ⟨t, rfl⟩ := ru
    exact PySem.P.repr_of_str ⟨.str _, H, I.tok _, ⟨_, rfl⟩, q⟩ fits
  | lst h1 h2 =>
    cases ru
    exact repr_of_reads' rd sm.shows (PyData.noDict_hsm (Dp.noDict (Dp.lst h1 h2))) quiet (by omega) (fun _ _ e => e) (fun h' t tk more => ⟨.str _, H, I.kept more, ⟨_, rfl⟩, q⟩) fits
  | tup h1 h2 =>
    cases ru
    exact repr_of_reads' rd sm.shows (PyData.noDict_hsm (Dp.noDict (Dp.tup h1 h2))) quiet (by omega) (fun _ _ e => e) (fun h' t tk more => ⟨.str _, H, I.kept more, ⟨_, rfl⟩, q⟩) fits
end
/-! ### the end of a law row whose def is of the quiet kind -/
theorem quiet_law {P : Program} {w : World} {K : PySem.W.Frag} {mg mb : Str → Option Value} {k : Nat} {fa a : Addr} {fd : FuncData} {x : Str} {sp : Sp} {s₁ : Shared} {vs : List Value} {ns : List Int}
    (inK : K.In s₁.heap) (glob : s₁.heap.Ns mainGlobals mg) (blt : s₁.heap.Ns builtinsNs mb) (bltIs : ∀ y : Str, y ≠ "__name__" → mb y = bootBuiltins y) (lim : s₁.heap.NoLimit) (gens : s₁.gens = #[]) (mods : ∃ mm, s₁.heap.Ns sysModules mm)
    (here : s₁.heap.get? a = some { cls := .type "list", data := .seq vs.toArray }) (whole : IntsAre vs ns) (few : ns.length ≤ sizeLine) (room : Room k callerA)
    (F : ∀ base : Heap, K.In base → base.Ns mainGlobals mg → (∃ mm, base.Ns sysModules mm) → FnG P w K mg base k fa fd [x] sp) (bind : ∀ (s : Shared) (u : Value), BindsTo s fd ⟨[u], []⟩ [(x, u)])
    (want : ∀ H : Hp, Only H → SqL K H a (ns.map V.int) → sp [.ref a] H (fun v _ => v = .bl true) E0) :
    codeAny (model P w) callerA (.call (.ref fa) ⟨[.ref a], []⟩) (fun r s' => r = .ok (.ret (.bool true)) ∧ OldK s₁.heap s'.heap ∧ s'.os = s₁.os ∧ AllBare s'.gens) s₁ := by
  have rel := vals_ints whole
  -- H: the script alone, or nothing
  have main : ∀ H : Hp, Only H → SqL K H a (ns.map V.int) → HOk P w H s₁.heap → (∀ b u, H b = some u → b = a ∧ K.lookup b = none) →
      codeAny (model P w) callerA (.call (.ref fa) ⟨[.ref a], []⟩) (fun r s' => r = .ok (.ret (.bool true)) ∧ OldK s₁.heap s'.heap ∧ s'.os = s₁.os ∧ AllBare s'.gens) s₁ := by
    intro H only sq ok apart
    have untold : ∀ {b o}, s₁.heap.get? b = some o → (b = a → False) → H b = none := by
      intro b o e ne
      cases q : H b with
      | none => rfl
      | some u => exact (ne (apart b u q).1).elim
    have ns1 : ∀ {b m}, s₁.heap.Ns b m → (hidT s₁.heap H).Ns b m := by
      rintro b m ⟨o, es, ep, e, d, r⟩
      refine ⟨o, es, ep, hidT_get e (untold e fun z => ?_), d, r⟩
      subst z
      rw [here] at e
      cases e
      cases d
    have kIn : K.In (hidT s₁.heap H) := by
      intro b o e
      apply hidT_get (inK b o e)
      cases q : H b with
      | none => rfl
      | some u =>
        have z := (apart b u q).2
        rw [e] at z
        cases z
    have lim1 : (hidT s₁.heap H).NoLimit := by
      obtain ⟨mc, h1, h2⟩ := lim
      exact ⟨mc, ns1 h1, h2⟩
    have e0 : Env0 P w K mg (hidT s₁.heap H) callerA [] s₁ H := {
      frames := rfl, mod := ⟨kIn, ns1 glob, ⟨mb, ns1 blt, bltIs⟩, lim1⟩, bs := fun _ _ e => of_hidT e, bsz := Nat.le_of_eq (hidT_size _ _), funs := True.intro, frf := (fun _ hb => nomatch hb), hok := ok, bare := .of_eq gens }
    apply codeAny_mono ((F _ kIn (ns1 glob) (mods.elim fun mm h => ⟨mm, ns1 h⟩)).go (us := [.ref a]) (vs := [.ref a]) room rfl e0 (bind s₁ _) (.cons rfl .nil) (want H only sq))
    intro r s' hr
    match r, hr with
    | .error _, hr => exact hr.elim
    | .ok .next, hr => exact False.elim hr
    | .ok .brk, hr => exact False.elim hr
    | .ok .cont, hr => exact False.elim hr
    | .ok (.ret u), hr =>
      obtain ⟨v, H', os, bare, un, ok', rv, q⟩ := hr
      cases (show v = V.bl true from q)
      cases (show u = Value.bool true from rv)
      refine ⟨rfl, OldK.of_keep ?_, os, bare⟩
      intro b o e
      cases only b with
      | inl n => exact un.keep b o e n (fun z => nomatch z) (fun z => nomatch z)
      | inr n =>
        obtain ⟨ob, xs, z⟩ := n
        have e1 := (ok b _ z).1
        have e2 := (ok' b _ (un.frzs b ob _ z)).1
        rw [e] at e1
        cases e1
        exact e2
  have small : (ns.map V.int).length ≤ sizeLine := by rw [List.length_map]; exact few
  cases known : K.lookup a with
  | some o =>
    have e := inK a o known
    rw [here] at e
    cases e
    have sz : vs.length ≤ sizeLine := by rw [← rel.length]; exact small
    exact main (fun _ => none) (fun _ => .inl rfl) (.inr ⟨_, vs.toArray, _, known, rfl, rfl, rfl, by simpa using sz, by simpa using rel⟩) (fun _ _ z => nomatch z) (fun _ _ z => nomatch z)
  | none =>
    have at1 : ∀ {b u}, (if b = a then some (HO.frz { cls := .type "list", data := .seq vs.toArray } (.lst (ns.map V.int))) else none) = some u → b = a := by
      intro b u z
      by_cases hb : b = a
      · exact hb
      · rw [if_neg hb] at z
        cases z
    refine main (fun b => if b = a then some (.frz { cls := .type "list", data := .seq vs.toArray } (.lst (ns.map V.int))) else none) (fun b => ?_) (.inl (.inr ⟨{ cls := .type "list", data := .seq vs.toArray }, if_pos rfl⟩)) (fun b u z => ?_) (fun b u z => ?_)
    · by_cases hb : b = a
      · exact .inr ⟨_, _, if_pos hb⟩
      · exact .inl (if_neg hb)
    · have hb := at1 z
      subst hb
      have z2 := (if_pos rfl).symm.trans z
      cases z2
      exact ⟨here, small, vs, _, rel, here⟩
    · have hb := at1 z
      subst hb
      exact ⟨rfl, known⟩
theorem quiet_walk {l : PySem.W.OpenLaw} {n k : Nat} {q : Program} {loose : List Str} {XP : (Str → Option Value) → Heap → Prop} {YP : World → Heap → Prop} {d : DefRec} {K : Params → PySem.W.Frag} {sp : World → Sp} {x : Str}
    (noImport : importsNone q = true) (most : l.most = some n) (n2 : n ≤ sizeLine) (defaults : d.params.defaults = []) (room : Room k callerA) (hY : ∀ (w : World) (h : Heap), YP w h → (K w.params).In h)
    (F : ∀ (w : World) (mg : Str → Option Value) (fa : Addr) (h : Heap), (K w.params).In h → h.Ns mainGlobals mg → mg d.name = some (.ref fa) →
      ∃ fd : FuncData, (∀ (s : Shared) (u : Value), BindsTo s fd ⟨[u], []⟩ [(x, u)]) ∧ ∀ base : Heap, (K w.params).In base → base.Ns mainGlobals mg → (∃ mm, base.Ns sysModules mm) → FnG l.prog w (K w.params) mg base k fa fd [x] (sp w))
    (want : ∀ (w : World) (H : Hp) (a : Addr) (ns : List Int), ns.length ≤ n → Only H → SqL (K w.params) H a (ns.map V.int) → sp w [.ref a] H (fun v _ => v = .bl true) E0) :
    PySem.W.WalkO q loose XP YP l.row.toRowW d [] (fun f vs => PySem.call f vs) := by
  apply Att.attach_call most defaults
  intro w s₀ s₁ mg mb fa o pm cd doc a vs ns G Y ho hd hcd hmg hobj hints hlen hg
  obtain ⟨fd, hb, hF⟩ := F w mg fa _ (hY w _ Y) G.T.g hmg
  exact quiet_law (hY w _ Y) G.T.g G.T.b G.T.builtins G.T.nolimit hg ((G.T.seer noImport).mods.elim fun mm h => ⟨mm, h.1⟩) hobj hints (Nat.le_trans hlen n2) room hF hb fun H o1 s1 => want w H a ns hlen o1 s1

/-! ### a op1 b op2 c op3 .. : chains of any length -/
section
variable {X : Cx}
structure PCh (X : Cx) (ops : List CmpOp) (es : List Expr) (t : V → TE) : Prop where
  run : ∀ (pos : Pos) (pins : List (Addr × Obj)) (s : Shared) (σ : L2.St) (H : Hp) (Q : VK) (x : V) (v : Value), Inv X pins σ H s → RelV x v → t x σ H Q → wpAny (model X.prog X.w) X.A (compareChain pos v ops (evalEach es X.env)) (EP X pins σ Q) X.xe s
structure PChT (X : Cx) (ops : List CmpOp) (es : List Expr) (t : V → TE) : Prop where
  run : ∀ (pos : Pos) (pins : List (Addr × Obj)) (s : Shared) (σ : L2.St) (H : Hp) (Q : Bool → Hp → Prop) (x : V) (v : Value), Inv X pins σ H s → RelV x v → (t x σ H fun y H' => ∃ k, y = .bl k ∧ Q k H') → wpAny (model X.prog X.w) X.A (testChain pos v ops (evalEach es X.env)) (TP X pins σ Q) X.xe s
def tLast (r : R2) (tb : TE) : V → TE := fun x σ H Q => tb σ H fun y H2 => r x y H2 Q
def tLink (r : R2) (tb : TE) (rest : V → TE) : V → TE := fun x σ H Q => tb σ H fun y H2 => r x y H2 fun z H3 => ∃ k, z = .bl k ∧ (if k = true then rest y σ H3 Q else Q (.bl false) H3)
def tCh (ta : TE) (rest : V → TE) : TE := fun σ H Q => ta σ H fun x H1 => rest x σ H1 Q
theorem pch_last {op : CmpOp} {r : R2} {b : Expr} {tb : TE} (ho : OpR X (compareOp op) r) (hb : PE X b tb) : PCh X [op] [b] (tLast r tb) :=
  ⟨fun pos pins s σ H Q x v I rx h => chain_last (thn (hb.run pins s σ H _ I h) fun u s2 ⟨y, H2, I2, r2, q2⟩ => ho pins s2 σ H2 x y v u Q I2 rx r2 q2)⟩
theorem pch_link {op op' : CmpOp} {ops : List CmpOp} {r : R2} {b b' : Expr} {bs : List Expr} {tb : TE} {rest : V → TE} (ho : OpR X (compareOp op) r) (hb : PE X b tb) (hr : PCh X (op' :: ops) (b' :: bs) rest) : PCh X (op :: op' :: ops) (b :: b' :: bs) (tLink r tb rest) := by
  refine ⟨fun pos pins s σ H Q x v I rx h => ?_⟩
  refine chain_link (thn (hb.run pins s σ H _ I h) fun u s2 ⟨y, H2, I2, r2, q2⟩ => thn (ho pins s2 σ H2 x y v u _ I2 rx r2 q2) fun d s3 ⟨z, H3, I3, r3, k, e, q3⟩ => ?_)
  subst e
  cases r3
  refine wpAny_truthy_bool ?_
  cases k with
  | false => exact ite_ff ⟨.bl false, H3, I3, rfl, q3⟩
  | true => exact ite_tt (hr.run pos pins s3 σ H3 Q y u I3 r2 q3)
theorem pe_chN {op op' : CmpOp} {ops : List CmpOp} {a b b' : Expr} {bs : List Expr} {pos : Pos} {ta : TE} {rest : V → TE} (ha : PE X a ta) (hr : PCh X (op :: op' :: ops) (b :: b' :: bs) rest)
    (hm : lastMarks (op :: op' :: ops) (b :: b' :: bs) = false := by with_unfolding_all rfl) : PE X (.Compare a (op :: op' :: ops) (b :: b' :: bs) pos) (tCh ta rest) :=
  ⟨fun pins s σ H Q I h => Compare_chain (thn (ha.run pins s σ H _ I h) fun v s1 ⟨x, H1, I1, r1, q1⟩ => hr.run pos pins s1 σ H1 Q x v I1 r1 q1) hm⟩
theorem pchT_last {op : CmpOp} {r : R2} {b : Expr} {tb : TE} (ho : OpR X (compareOp op) r) (hb : PE X b tb) : PChT X [op] [b] (tLast r tb) := by
  refine ⟨fun pos pins s σ H Q x v I rx h => ?_⟩
  refine test_last (thn (hb.run pins s σ H _ I h) fun u s2 ⟨y, H2, I2, r2, q2⟩ => thn (ho pins s2 σ H2 x y v u _ I2 rx r2 q2) fun d s3 ⟨z, H3, I3, r3, k, e, q3⟩ => ?_)
  subst e
  cases r3
  exact wpAny_truthy_bool ⟨H3, I3, q3⟩
theorem pchT_link {op op' : CmpOp} {ops : List CmpOp} {r : R2} {b b' : Expr} {bs : List Expr} {tb : TE} {rest : V → TE} (ho : OpR X (compareOp op) r) (hb : PE X b tb) (hr : PChT X (op' :: ops) (b' :: bs) rest) : PChT X (op :: op' :: ops) (b :: b' :: bs) (tLink r tb rest) := by
  refine ⟨fun pos pins s σ H Q x v I rx h => ?_⟩
  refine test_link (thn (hb.run pins s σ H _ I h) fun u s2 ⟨y, H2, I2, r2, q2⟩ => thn (ho pins s2 σ H2 x y v u _ I2 rx r2 q2) fun d s3 ⟨z, H3, I3, r3, k, e, q3⟩ => ?_)
  subst e
  cases r3
  refine wpAny_truthy_bool ?_
  cases k with
  | false =>
    obtain ⟨k', e', q'⟩ := q3
    cases e'
    exact ite_ff ⟨H3, I3, q'⟩
  | true => exact ite_tt (hr.run pos pins s3 σ H3 Q y u I3 r2 q3)
theorem pt_chN {op op' : CmpOp} {ops : List CmpOp} {a b b' : Expr} {bs : List Expr} {pos : Pos} {ta : TE} {rest : V → TE} (ha : PE X a ta) (hr : PChT X (op :: op' :: ops) (b :: b' :: bs) rest)
    (hm : lastMarks (op :: op' :: ops) (b :: b' :: bs) = false := by with_unfolding_all rfl) : PT X (.Compare a (op :: op' :: ops) (b :: b' :: bs) pos) (tTest (tCh ta rest)) :=
  ⟨fun pins s σ H Q I h => isTrue_chain (thn (ha.run pins s σ H _ I h) fun v s1 ⟨x, H1, I1, r1, q1⟩ => hr.run pos pins s1 σ H1 Q x v I1 r1 q1) hm⟩
end

/-! ### t[::-1] of a tuple; xs == [], xs != [] of a list that may hold anything -/
section
open HT
variable {prog : Program} {w : World} {A : Around} {E : Value → Shared → Prop} {s : Shared}
theorem adjust_rev (n : Nat) : Builtin.Slice.sliceAdjust none none (-1) (n : Int) = ((n : Int) - 1, -1) := by
  unfold Builtin.Slice.sliceAdjust
  have h1 : (-1 : Int) < 0 := by decide
  simp only [h1, if_true]
theorem places_rev (n : Nat) : Builtin.Slice.slicePlaces ((n : Int) - 1) (-1) (-1) = n := by
  unfold Builtin.Slice.slicePlaces
  have h1 : ¬ ((-1 : Int) > 0) := by decide
  simp only [h1, if_false]
  have h2 : (-(-1) : Int) = 1 := by decide
  rw [h2, Int.ediv_one]
  split <;> omega
theorem sliceApplied_rev {sl : Addr} {vl vu vs : Value} {n : Nat} {Q : Int × Int × Nat → Shared → Prop} (hs : s.heap.IsSliceOf sl vl vu vs) (pl : IsPart vl none) (pu : IsPart vu none) (pt : IsPart vs (some (-1)))
    (h : Q ((n : Int) - 1, -1, n) s) : wpAny (model prog w) A (Builtin.Slice.sliceApplied (.ref sl) (pure (n : Int))) Q E s := by
  obtain ⟨os, hos, hcs, hds⟩ := id hs
  unfold Builtin.Slice.sliceApplied Builtin.Slice.sliceFields
  refine wpAny_bind (wpAny_bind (wpAny_field hos hds (x := vl) rfl (wpAny_bind (wpAny_field hos hds (x := vu) rfl (wpAny_bind (wpAny_field hos hds (x := vs) rfl (wpAny_pure ?_)))))))
  refine wpAny_bind (slicePart_ pt ?_)
  show wpAny _ _ (if ((-1 : Int) == 0) = true then _ else _) _ _ s
  rw [if_neg (by decide)]
  refine wpAny_bind (slicePart_ pl (wpAny_bind (slicePart_ pu (wpAny_bind (wpAny_pure ?_)))))
  show wpAny _ _ (match Builtin.Slice.sliceAdjust none none (-1) (n : Int) with | (lo, hi) => pure (lo, (-1 : Int), Builtin.Slice.slicePlaces lo hi (-1))) _ _ s
  rw [adjust_rev]
  show wpAny _ _ (pure ((n : Int) - 1, (-1 : Int), Builtin.Slice.slicePlaces ((n : Int) - 1) (-1) (-1))) _ _ s
  rw [places_rev]
  exact wpAny_pure h
theorem pick_rev (xs : Array Value) : ((List.range xs.size).filterMap fun (k : Nat) => xs[((xs.size : Int) - 1 + (k : Int) * (-1)).toNat]?) = xs.toList.reverse := by
  have e : ∀ m : Nat, m ≤ xs.size → ((List.range m).filterMap fun (k : Nat) => xs[((xs.size : Int) - 1 + (k : Int) * (-1)).toNat]?) = xs.toList.reverse.take m := by
    intro m
    induction m with
    | zero => intro _; rfl
    | succ m ih =>
      intro hm
      rw [List.range_succ, List.filterMap_append, ih (by omega), List.take_add_one]
      congr 1
      have e1 : ((xs.size : Int) - 1 + (m : Int) * (-1)).toNat = xs.size - 1 - m := by omega
      have e2 : xs.toList.reverse[m]? = xs[xs.size - 1 - m]? := by
        rw [List.getElem?_reverse (by rw [Array.length_toList]; omega), Array.length_toList, Array.getElem?_toList]
      rw [e2]
      have lt : xs.size - 1 - m < xs.size := by omega
      simp only [List.filterMap_cons, List.filterMap_nil, e1]
      rw [Array.getElem?_eq_getElem lt]
      rfl
  rw [e _ (Nat.le_refl _), List.take_of_length_le (by rw [List.length_reverse, Array.length_toList]; exact Nat.le_refl _)]
theorem getItem_tuple_rev {t sl : Addr} {items : Array Value} {vl vu vs : Value} {Q : Value → Shared → Prop} (ht : IsTup s.heap t items) (hs : s.heap.IsSliceOf sl vl vu vs) (pl : IsPart vl none) (pu : IsPart vu none) (pt : IsPart vs (some (-1)))
    (h : Q (.ref s.heap.objs.size) { s with heap := s.heap.push { cls := .type "tuple", data := .seq items.toList.reverse.toArray } })
    (hsz : items.size ≤ sizeLine) : wpAny (model prog w) A (getItem (.ref t) (.ref sl)) Q E s := by
  have htake : sizeOk (.seq items.toList.reverse.toArray) := by
    show items.toList.reverse.toArray.size ≤ sizeLine
    rw [List.size_toArray, List.length_reverse, Array.length_toList]
    omega
  obtain ⟨os, hos, hcs, hds⟩ := id hs
  have hTs : s.TypeIs (.ref sl) "slice" := ⟨os, hos, hcs⟩
  unfold getItem
  try with_reducible refine wpAny_holding ?_
  first | refine wpAny_bind (wpAny_pure ?_) | skip
  refine wpAny_bind (wpAny_sequenceKey ht.typeIs (by decide) ?_)
  refine wpAny_bind (wpAny_callSpecial?_slot (name := Str.ofString "__getitem__") ht.typeIs PyProof.Rows.slot_tuple_getitem
    (wpAny_call_entry PyProof.Rows.slot_tuple_getitem ht.typeIs entry_tuple_getitem ?_ (args_tuple_getitem _ _)))
  show wpAny _ _ (Builtin.Tuple.tupleItemsOf (.ref t) >>= _) _ _ s
  refine wpAny_bind (tupleItemsOf_ ht ?_)
  refine wpAny_bind (wpAny_typeOf hTs ?_)
  rw [if_pos (by decide)]
  refine wpAny_bind (sliceApplied_rev hs pl pu pt ?_)
  have hno : ¬ ((((items.size : Int) - 1) == 0 && (-1 : Int) == 1 && items.size == items.size) = true) := by
    intro q
    rw [Bool.and_eq_true, Bool.and_eq_true] at q
    exact absurd q.1.2 (by decide)
  show wpAny _ _ (if (((items.size : Int) - 1) == 0 && (-1 : Int) == 1 && items.size == items.size) = true then _ else _) _ _ s
  rw [if_neg hno, pick_rev]
  first
    | exact wpAny_bind (m := Builtin.Tuple.tupleExact _) (wpAny_newObj_type (wpAny_pure ⟨_, rfl, wpAny_pure h⟩) htake)
    | exact wpAny_bind (m := Builtin.Tuple.tupleExact _) (wpAny_newObj_type (wpAny_bind (wpAny_pure (wpAny_pure ⟨_, rfl, wpAny_pure h⟩))) htake)
    | exact wpAny_bind (wpAny_bind (m := Builtin.Tuple.tupleExact _) (wpAny_newObj_type (wpAny_pure (wpAny_pure ⟨_, rfl, wpAny_pure h⟩)) htake))
    | exact wpAny_bind (wpAny_bind (m := Builtin.Tuple.tupleExact _) (wpAny_newObj_type (wpAny_pure ⟨_, rfl, wpAny_pure h⟩) htake))
end
section
variable {X : Cx}
def tRevT (K : PySem.W.Frag) (te : TE) : TE := fun σ H Q => te σ H fun x H1 => ∃ a xs, x = .ref a ∧ SqT K H1 a xs ∧ ∀ p, H1 p = none → Q (.ref p) (upd H1 p (.tup xs.reverse))
theorem pe_revT {e : Expr} {te : TE} {k : Nat} {p1 p2 p3 pos : Pos} (he : PE X e te) : PE X (.Subscript e (.Slice none none (some (.UnaryOp .USub (.Constant (.int 1) k p1) p2)) p3) pos) (tRevT X.K te) := by
  refine ⟨fun pins s σ H Q I h => ?_⟩
  refine Subscript_ (thn (he.run pins s σ H _ I h) fun v s1 ⟨x, H1, I1, r1, q1⟩ => ?_)
  obtain ⟨a, xs, ex, hx, q⟩ := q1
  subst ex
  cases r1
  have hst : PO X (some (.UnaryOp .USub (.Constant (.int 1) k p1) p2)) (tPart (tUn (rU fun i => .int (-i)) (tC (.int 1)))) := po_some (pe_un un_neg pe_int)
  refine wpAny_Slice (thn (po_none.run pins s1 σ H1 (fun o H2 => o = none ∧ H2 = H1) I1 ⟨rfl, rfl⟩) fun vl s2 ⟨l, H2, I2, pl, el, e2⟩ => ?_)
  subst el e2
  refine thn (po_none.run pins s2 σ H2 (fun o H3 => o = none ∧ H3 = H2) I2 ⟨rfl, rfl⟩) fun vu s3 ⟨u, H3, I3, pu, eu, e3⟩ => ?_
  subst eu e3
  refine thn (hst.run pins s3 σ H3 (fun o H4 => o = some (-1) ∧ H4 = H3) I3 ⟨1, rfl, -1, rfl, rfl, rfl⟩) fun vs s4 ⟨o, H4, I4, ps, eo, e4⟩ => ?_
  subst eo e4
  have I5 : Inv X pins σ H4 { s4 with heap := s4.heap.push { cls := .type "slice", data := .fields #[vl, vu, vs] } } := I4.kept (t' := s4.toks) fun b ob q => Heap.get?_push_of_some _ q
  obtain ⟨its, r, ht, hz⟩ := I5.tuple hx
  have hlen := r.length
  show wpAny (model X.prog X.w) X.A (subscriptTail e (.Slice none none (some (.UnaryOp .USub (.Constant (.int 1) k p1) p2)) p3) (.ref a) (.ref s4.heap.objs.size)) (EP X pins σ Q) X.xe { s4 with heap := s4.heap.push { cls := .type "slice", data := .fields #[vl, vu, vs] } }
  refine tail_any (ops := [.ref a, .ref s4.heap.objs.size]) ht.typeIs (PyProof.Rows.slot_tuple_getitem.lookup) ?_ (by with_unfolding_all rfl)
  refine getItem_tuple_rev ht (Heap.IsSliceOf.new _ vl vu vs) pl pu ps ?_ (by rw [List.size_toArray]; omega)
  refine ⟨.ref _, _, I5.laid (t' := s4.toks) (o := .tup xs.reverse) (fun b ob q => Heap.get?_push_of_some _ q) (Nat.le_refl _) ?_, rfl, q _ (I5.hok.fresh (Nat.le_refl _))⟩
  exact ⟨by rw [List.length_reverse]; exact hz, _, r.reverse, IsTup.new _ _⟩
def rEqL (K : PySem.W.Frag) : R2 := fun x y H Q => ∃ (a b : Addr) (xs : List V), x = .ref a ∧ y = .ref b ∧ SqL K H a xs ∧ SqL K H b [] ∧ Q (.bl xs.isEmpty) H
def rNeL (K : PySem.W.Frag) : R2 := fun x y H Q => ∃ (a b : Addr) (xs : List V), x = .ref a ∧ y = .ref b ∧ SqL K H a xs ∧ SqL K H b [] ∧ Q (.bl (!xs.isEmpty)) H
theorem op_eqL (units : X.A.units < cLine) : OpR X (compareOp .Eq) (rEqL X.K) := by
  intro pins s σ H x y v u Q I rx ry h
  obtain ⟨a, b, xs, rfl, rfl, ha, hb, q⟩ := h
  cases rx
  cases ry
  obtain ⟨its, r1, p1, _⟩ := I.list ha
  obtain ⟨its2, r2, p2, _⟩ := I.list hb
  cases r2
  cases r1 with
  | nil =>
    exact SeqAt.eq_listAt (e := fun _ => true) p1.isList p2.isList rfl units (fun j h1 h2 => absurd h2 (Nat.not_lt_zero j)) ⟨.bl true, H, I, rfl, q⟩
  | cons r t =>
    exact SeqAt.eq_list_lengthsAt p1.isList p2.isList (by simp) units ⟨.bl false, H, I, rfl, q⟩
theorem op_neL (units : X.A.units < cLine) : OpR X (compareOp .NotEq) (rNeL X.K) := by
  intro pins s σ H x y v u Q I rx ry h
  obtain ⟨a, b, xs, rfl, rfl, ha, hb, q⟩ := h
  cases rx
  cases ry
  obtain ⟨its, r1, p1, _⟩ := I.list ha
  obtain ⟨its2, r2, p2, _⟩ := I.list hb
  cases r2
  cases r1 with
  | nil =>
    exact SeqAt.RcNeAt.lists (e := fun _ => true) p1.isList p2.isList rfl units (fun j h1 h2 => absurd h2 (Nat.not_lt_zero j)) X.prog X.w X.xe (EP X pins σ Q) ⟨.bl false, H, I, rfl, q⟩
  | cons r t =>
    exact SeqAt.RcNeAt.lists_lengths p1.isList p2.isList (by simp) units X.prog X.w X.xe (EP X pins σ Q) ⟨.bl true, H, I, rfl, q⟩
end

/-! ### enumerate of a tuple -/
section
open Sem (wp)
set_option maxHeartbeats 4000000 in
theorem enum_of_tuple (t : Addr) (items : Array Value) : Meets (Builtin.«enumerate.__new__» ⟨[.type "enumerate", .ref t], []⟩) (fun _ R s => s.heap.IsTuple t items ∧
    R (.ok (.ret (.ref (s.heap.push { cls := .type "tuple_iterator", data := .fields #[.ref t, .int 0 0] }).objs.size)))
      { s with heap := (s.heap.push { cls := .type "tuple_iterator", data := .fields #[.ref t, .int 0 0] }).push { cls := .type "enumerate", data := .fields #[.none, .bool false, .ref s.heap.objs.size, rawInt 0, .none, .none] } }) := by
  refine .of_wp fun prog w A R s h => ?_
  obtain ⟨hp, g, d, tk, os⟩ := s
  obtain ⟨isT, h⟩ := h
  have sub := sub_enumerate
  have start : ∀ {A' : Around} {E : Value → Shared → Prop} {Q : Value → Shared → Prop}, Q (.ref hp.objs.size) ⟨hp.push { cls := .type "tuple_iterator", data := .fields #[.ref t, .int 0 0] }, g, d, tk, os⟩ → wpAny (model prog w) A' (pyIter (.ref t)) Q E ⟨hp, g, d, tk, os⟩ := by
    intro A' E Q q
    exact (begins_tuple t items).iter prog w A' E ⟨hp, g, d, tk, os⟩ Q isT q
  wp_walk using start
  refine wpAny_stack_any fun st => wpAny_pure ?_
  split
  · rename_i cc _ _ _ _ _
    cases (cc == Value.type "enumerate") <;> (wp_walk using start; exact Exists.intro _ ⟨rfl, h⟩)
  · wp_walk using start
    exact Exists.intro _ ⟨rfl, h⟩
end
theorem call_enumT {prog : Program} {w : World} {A : Around} {E : Value → Shared → Prop} {s : Shared} {t : Addr} {items : Array Value} {Q : Value → Shared → Prop} (isT : s.heap.IsTuple t items)
    (h : ∀ h', IsEnum h' (s.heap.objs.size + 1) s.heap.objs.size 0 .none → h'.IsTupleIter s.heap.objs.size t 0 → (∀ b o, s.heap.get? b = some o → h'.get? b = some o) → Q (.ref (s.heap.objs.size + 1)) { s with heap := h' }) :
    wpAny (model prog w) A (call (.type "enumerate") [.ref t]) Q E s := by
  refine callType_new F.called_enumerate (by decide) (F.typeCall_enumerate_1 _) (F.newCall_enumerate_1 _) (fun obj => F.args_object_init_2 obj _) F.entry_enumerate_new (enum_of_tuple t items) (And.intro isT ?_)
  have size : (s.heap.push { cls := .type "tuple_iterator", data := .fields #[.ref t, .int 0 0] }).objs.size = s.heap.objs.size + 1 := Heap.size_push ..
  show _ ∧ _
  rw [size]
  have made := Heap.get?_push_size (s.heap.push { cls := .type "tuple_iterator", data := .fields #[.ref t, .int 0 0] }) (o := { cls := .type "enumerate", data := .fields #[.none, .bool false, .ref s.heap.objs.size, rawInt 0, .none, .none] }) rfl
  rw [size] at made
  refine ⟨⟨_, made, rfl⟩, h _ made ⟨_, Heap.get?_push_of_some _ (Heap.get?_push_size _ rfl), rfl, rfl⟩ ?_⟩
  intro b o e
  exact Heap.get?_push_of_some _ (Heap.get?_push_of_some _ e)
/-- the tuple at a, each item in a new pair with its place -/
def IteT (K : PySem.W.Frag) (a : Addr) (N : Nat) : It where
  go := fun i H => ∃ (xs : List V) (x : V), SqT K H a xs ∧ xs[i]? = some x ∧ xs.length = N
  yld := fun i H v H' => ∃ t x, v = .ref t ∧ H t = none ∧ H' = upd H t (.tup [.int (i : Nat), x]) ∧ ∀ xs, SqT K H a xs → xs[i]? = some x
  stop := fun i H => ∃ xs : List V, SqT K H a xs ∧ xs.length = N ∧ N ≤ i
theorem turn_enumT {P : Program} {w : World} {K : PySem.W.Frag} {elts : List Expr} {kk : Nat} {tpos : Pos} (a e it : Addr) (N : Nat) :
    Turn P w K (.Tuple elts kk tpos) (IteT K a N) [e, it] e (fun i h => (∃ old, IsEnum h e it ((i : Nat) : Int) old) ∧ h.IsTupleIter it a i ∧ e ≠ it ∧ i ≤ N) := by
  have two : ∀ {b : Addr}, b ∈ [e, it] → b = e ∨ b = it := fun hb => by simpa using hb
  constructor
  · simp
  · rintro i h ⟨⟨old, he⟩, ⟨o, ho, hc, hd⟩, _, _⟩ b hb
    rcases two hb with rfl | rfl
    · exact ⟨_, he, fun v q => nomatch q⟩
    · refine ⟨o, ho, fun v q => ?_⟩
      rw [hd] at q
      cases q
  · rintro i h h' ⟨⟨old, he⟩, hi, hne, hN⟩ k
    exact ⟨⟨old, k e (by simp) _ he⟩, hi.at fun o q => k it (by simp) o q, hne, hN⟩
  · intro X hP hw hK hc i pins s σ H E I hf st hg
    subst hP hw hK
    obtain ⟨⟨old, he⟩, hit, hne, hN⟩ := st
    obtain ⟨xs, x, hq, hx, hxN⟩ := hg
    have inside := (List.getElem?_eq_some_iff.mp hx).1
    obtain ⟨its, rv, p, _⟩ := I.tuple hq
    obtain ⟨u, hu, ru⟩ := rv.get hx
    have isT : s.heap.IsTuple a its.toArray := p
    have apart : a ≠ it := by
      rintro rfl
      obtain ⟨o1, q1, c1, _⟩ := hit
      obtain ⟨o2, q2, c2, _⟩ := isT
      rw [q1] at q2
      cases q2
      rw [c1] at c2
      exact absurd (Value.type.inj c2) (by decide)
    have hea : e ≠ a := by
      rintro rfl
      obtain ⟨o2, q2, c2, _⟩ := isT
      rw [he] at q2
      cases q2
      exact absurd (Value.type.inj c2) (by decide)
    have lte : e < s.heap.objs.size := Heap.lt_size he
    have lti : it < s.heap.objs.size := hit.elim fun _ q => Heap.lt_size q.1
    have less : i < its.toArray.size := by
      have z := (List.getElem?_eq_some_iff.mp hu).1
      rw [List.size_toArray]
      exact z
    apply wpAny_pyNext_enum_itemD (Draws.tuple (A := X.A.in1) (I.ok.hd hc) it a apart its.toArray) he ⟨hit, isT⟩ less hne (by simp [hne, hea])
    intro y h' tk hy ho st' hT hsz hk
    have ey : y = u := by
      have z : its[i]? = some y := by simpa using hy
      rw [hu] at z
      exact (Option.some.inj z).symm
    subst ey
    refine ⟨_, rfl, wpAny_letOwnedTupleGo_enum (s := { s with heap := h', toks := tk + 1 }) ho fun h2 he2 sb => ?_⟩
    have kept : ∀ b o, b ∉ [e, it] → s.heap.get? b = some o → h2.get? b = some o := by
      intro b o nb q
      have n1 : b ≠ e := fun z => nb (by simp [z])
      have n2 : b ≠ it := fun z => nb (by simp [z])
      exact (sb.2 b n1).trans (hk b o n1 n2 q)
    have hT2 : h2.get? s.heap.objs.size = some { cls := .type "tuple", data := .seq #[.int i tk, y] } := (sb.2 _ (Nat.ne_of_gt lte)).trans hT
    have I1 : Inv X pins σ (upd H s.heap.objs.size (.tup [.int (i : Nat), x])) { s with heap := h2, toks := tk + 1 } := by
      refine I.turnedNew (ch := [e, it]) kept hf (Nat.le_refl _) ⟨by show 2 ≤ sizeLine; decide, [.int i tk, y], .cons ⟨_, rfl⟩ (.cons ru .nil), ?_⟩
      exact ⟨_, hT2, rfl, _, rfl⟩
    refine ⟨.ref s.heap.objs.size, _, I1, rfl, ⟨_, x, rfl, I.hok.fresh (Nat.le_refl _), rfl, fun ys hys => ?_⟩, ⟨⟨y, ?_⟩, ?_, hne, by omega⟩, fun b hb => ?_⟩
    · rw [I.tuple_inj hys hq]
      exact hx
    · have cast : ((i + 1 : Nat) : Int) = (i : Int) + 1 := by omega
      rw [cast]
      exact he2
    · exact st'.1.at fun o q => (sb.2 it hne.symm).trans q
    · have lt : b < s.heap.objs.size := by
        rcases two hb with rfl | rfl
        · exact lte
        · exact lti
      rw [upd_ne (Nat.ne_of_lt lt)]
      exact (hf b hb).1
  · intro X hP hw hK hc i pins s σ H E I hf st hg
    subst hP hw hK
    obtain ⟨⟨old, he⟩, hit, hne, hN⟩ := st
    obtain ⟨xs, hq, hxN, hx⟩ := hg
    obtain ⟨its, rv, p, _⟩ := I.tuple hq
    have isT : s.heap.IsTuple a its.toArray := p
    have apart : a ≠ it := by
      rintro rfl
      obtain ⟨o1, q1, c1, _⟩ := hit
      obtain ⟨o2, q2, c2, _⟩ := isT
      rw [q1] at q2
      cases q2
      rw [c1] at c2
      exact absurd (Value.type.inj c2) (by decide)
    obtain ⟨f0, f1, f2, f3, f4, f5⟩ := hf it (by simp)
    have len := rv.length
    have at1 : i = its.toArray.size := by
      rw [List.size_toArray]
      omega
    subst at1
    apply wpAny_pyNext_enum_endD (Draws.tuple (A := X.A.in1) (I.ok.hd hc) it a apart its.toArray) he ⟨hit, isT⟩
    intro h' eb
    exact And.intro rfl (I.turned (t' := s.toks) (fun b o hb q => eb b o hb q) f0 f1 f3 f4 f5)
  · rintro A i s Q E ⟨⟨_, he⟩, _⟩ h
    exact wpAny_pyIter_enum he h
def iEnumT (K : PySem.W.Frag) (ta : TA) : TI := fun σ H R => ta σ H fun vs H1 => ∃ a xs, vs = [.ref a] ∧ SqT K H1 a xs ∧ R (IteT K a xs.length) H1
theorem pi_enumT {X : Cx} {e : Expr} {ta : TA} {p pos tpos : Pos} {elts : List Expr} {kk : Nat} (hg : Gl X "enumerate") (hm : X.mg "enumerate" = none) (args : PA X [e] ta) (star : starEach [e] X.env = [(false, eval e X.env)] := by rfl) :
    PI X (.Tuple elts kk tpos) (.Call (.Name "enumerate" p) [e] [] pos) (iEnumT X.K ta) := by
  constructor
  intro pins s σ H R I h
  refine Call_ (ld_blt I hg hm boot_enumerate ?_)
  refine PyProof.Rows.callWith_type1 (thn (args.run pos pins s σ H _ I h) ?_) star rfl
  rintro us s1 ⟨vs, H1, I1, rel, a, xs, rfl, sq, q⟩
  obtain ⟨u, rfl, ru⟩ := vals1 rel
  cases ru
  obtain ⟨its, rv, isT, _⟩ := I1.tuple sq
  refine call_enumT (items := its.toArray) isT fun h' he hit hk => wpAny_pyIter_enum he ?_
  have fresh : ∀ b ∈ [s1.heap.objs.size + 1, s1.heap.objs.size], s1.heap.objs.size ≤ b := by
    intro b hb
    have z : b = s1.heap.objs.size + 1 ∨ b = s1.heap.objs.size := by simpa using hb
    rcases z with rfl | rfl
    · exact Nat.le_add_right _ _
    · exact Nat.le_refl _
  exact ⟨_, _, _, _, H1, rfl, I1.kept hk, turn_enumT a (s1.heap.objs.size + 1) s1.heap.objs.size xs.length, ⟨⟨.none, he⟩, hit, Nat.succ_ne_self _, Nat.zero_le _⟩, fun b hb => I1.fpOk (fresh b hb) (I1.hok.fresh (fresh b hb)), q⟩

def topS (i : Nat) : Stmt := PySem.Challenge.pw_fewspans_k20_whole_pairs_make_joint_piec.main.body.getD i (.Pass ⟨0, 0, 0, 0⟩)
abbrev s_has_position : Stmt := topS 1
abbrev N_has_position : List Str := ["interval", "position"]
theorem sc_has_position : FnScope N_has_position ["interval", "position"] (defScope s_has_position) := ⟨rfl, rfl, rfl, by decide +kernel, rfl, by decide +kernel, by decide +kernel⟩
abbrev s_contains : Stmt := topS 2
abbrev N_contains : List Str := ["outer", "inner"]
theorem sc_contains : FnScope N_contains ["outer", "inner"] (defScope s_contains) := ⟨rfl, rfl, rfl, by decide +kernel, rfl, by decide +kernel, by decide +kernel⟩
abbrev s_serves : Stmt := topS 4
abbrev N_serves : List Str := ["piece", "demand", "position", "target"]
theorem sc_serves : FnScope N_serves ["piece", "demand"] (defScope s_serves) := ⟨rfl, rfl, rfl, by decide +kernel, rfl, by decide +kernel, by decide +kernel⟩
abbrev s_conflict : Stmt := topS 5
abbrev N_conflict : List Str := ["first", "second"]
theorem sc_conflict : FnScope N_conflict ["first", "second"] (defScope s_conflict) := ⟨rfl, rfl, rfl, by decide +kernel, rfl, by decide +kernel, by decide +kernel⟩
abbrev s_joint_piece : Stmt := topS 6
abbrev N_joint_piece : List Str := ["demands", "positions", "position", "target", "piece", "demand"]
theorem sc_joint_piece : FnScope N_joint_piece ["demands"] (defScope s_joint_piece) := ⟨rfl, rfl, rfl, by decide +kernel, rfl, by decide +kernel, by decide +kernel⟩
abbrev s_law_deck : Stmt := topS 8
abbrev N_law_deck : List Str := ["_law_script", "_law_cell"]
theorem sc_law_deck : FnScope N_law_deck ["_law_script"] (defScope s_law_deck) := ⟨rfl, rfl, rfl, by decide +kernel, rfl, by decide +kernel, by decide +kernel⟩
abbrev s_law_draw : Stmt := topS 9
abbrev N_law_draw : List Str := ["_law_deck_here", "_law_bound", "_law_place", "_law_cell", "_law_mixed"]
theorem sc_law_draw : FnScope N_law_draw ["_law_deck_here", "_law_bound"] (defScope s_law_draw) := ⟨rfl, rfl, rfl, by decide +kernel, rfl, by decide +kernel, by decide +kernel⟩
abbrev s_law_line : Stmt := topS 10
abbrev N_law_line : List Str := ["_law_deck_here", "_law_count", "_law_line_here", "_law_k"]
theorem sc_law_line : FnScope N_law_line ["_law_deck_here", "_law_count"] (defScope s_law_line) := ⟨rfl, rfl, rfl, by decide +kernel, rfl, by decide +kernel, by decide +kernel⟩
abbrev s_law_interval : Stmt := topS 11
abbrev N_law_interval : List Str := ["_law_deck_here", "_law_line_here", "_law_first", "_law_second"]
theorem sc_law_interval : FnScope N_law_interval ["_law_deck_here", "_law_line_here"] (defScope s_law_interval) := ⟨rfl, rfl, rfl, by decide +kernel, rfl, by decide +kernel, by decide +kernel⟩
abbrev s_law_demand : Stmt := topS 12
abbrev N_law_demand : List Str := ["_law_deck_here", "_law_line_here", "_law_target", "_law_low", "_law_high", "_law_positions", "_law_position", "_law_options"]
theorem sc_law_demand : FnScope N_law_demand ["_law_deck_here", "_law_line_here"] (defScope s_law_demand) := ⟨rfl, rfl, rfl, by decide +kernel, rfl, by decide +kernel, by decide +kernel⟩
abbrev s_law_every : Stmt := topS 13
abbrev N_law_every : List Str := ["_law_line_here", "_law_items", "_law_start", "_law_end"]
theorem sc_law_every : FnScope N_law_every ["_law_line_here"] (defScope s_law_every) := ⟨rfl, rfl, rfl, by decide +kernel, rfl, by decide +kernel, by decide +kernel⟩
abbrev s_law_all_conflict : Stmt := topS 14
abbrev N_law_all_conflict : List Str := ["_law_demands", "_law_index", "_law_demand_here", "_law_other"]
theorem sc_law_all_conflict : FnScope N_law_all_conflict ["_law_demands"] (defScope s_law_all_conflict) := ⟨rfl, rfl, rfl, by decide +kernel, rfl, by decide +kernel, by decide +kernel⟩
abbrev s_law_around : Stmt := topS 15
abbrev N_law_around : List Str := ["_law_deck_here", "_law_line_here", "_law_piece", "_law_lows", "_law_position", "_law_highs", "_law_low", "_law_high"]
theorem sc_law_around : FnScope N_law_around ["_law_deck_here", "_law_line_here", "_law_piece"] (defScope s_law_around) := ⟨rfl, rfl, rfl, by decide +kernel, rfl, by decide +kernel, by decide +kernel⟩
abbrev s_law_right : Stmt := topS 16
abbrev N_law_right : List Str := ["_law_line_here", "_law_demands", "_law_items", "_law_joint", "_law_serving", "_law_piece", "_law_demand_here"]
theorem sc_law_right : FnScope N_law_right ["_law_line_here", "_law_demands"] (defScope s_law_right) := ⟨rfl, rfl, rfl, by decide +kernel, rfl, by decide +kernel, by decide +kernel⟩
abbrev s_law : Stmt := topS 17
abbrev N_law : List Str := ["_law_script", "_law_deck_here", "_law_turn", "_law_line_here", "_law_piece", "_law_served", "_law_k", "_law_drawn", "_law_demands"]
theorem sc_law : FnScope N_law ["_law_script"] (defScope s_law) := ⟨rfl, rfl, rfl, by decide +kernel, rfl, by decide +kernel, by decide +kernel⟩
/-! ### the deck and its draws -/
structure Dk (H : Hp) (d c : Addr) (n : Int) : Prop where
  top : H d = some (.lst [.ref c, .int n])
  cells : ∃ xs : List Int, H c = some (.lst (xs.map V.int)) ∧ xs.length ≤ 63 ∧ ∀ x ∈ xs, 0 ≤ x
theorem Dk.ne {H : Hp} {d c : Addr} {n : Int} (h : Dk H d c n) : c ≠ d := by
  obtain ⟨xs, e, _⟩ := h.cells
  intro z
  subst z
  have q := e.symm.trans h.top
  cases xs with
  | nil => cases q
  | cons x r => cases q
/-- nothing but the deck has changed -/
def Kp (d c : Addr) (H H' : Hp) : Prop := ∀ b o, b ≠ d → b ≠ c → H b = some o → H' b = some o
theorem Kp.trans {d c : Addr} {H H1 H2 : Hp} (h1 : Kp d c H H1) (h2 : Kp d c H1 H2) : Kp d c H H2 := fun b o n1 n2 e => h2 b o n1 n2 (h1 b o n1 n2 e)
theorem Kp.same {d c : Addr} {H H1 : Hp} (h : Same H H1) : Kp d c H H1 := fun b o _ _ e => h b o e
theorem Kp.none {d c : Addr} {H H' : Hp} (k : Kp d c H H') {n m : Int} (h : Dk H d c n) (h' : Dk H' d c m) {t : Addr} (e : H' t = none) : H t = none := by
  by_cases e1 : t = d
  · rw [e1, h'.top] at e
    cases e
  · by_cases e2 : t = c
    · obtain ⟨xs, z, _⟩ := h'.cells
      rw [e2, z] at e
      cases e
    · cases q : H t with
      | none => rfl
      | some o =>
        rw [k t o e1 e2 q] at e
        cases e
theorem Dk.kept {H H' : Hp} {d c : Addr} {n : Int} (h : Dk H d c n) (s : Same H H') : Dk H' d c n :=
  let ⟨xs, e, a⟩ := h.cells
  ⟨s _ _ h.top, xs, s _ _ e, a⟩
theorem Dk.eq {H : Hp} {d c : Addr} {n m : Int} (h : Dk H d c n) (e : n = m) : Dk H d c m := e ▸ h
def sp_law_deck (K : PySem.W.Frag) : Sp := fun vs H Q _ => ∃ (a : Addr) (ns : List Int), vs = [.ref a] ∧ SqL K H a (ns.map V.int) ∧ ns.length ≤ 63 ∧
  ∀ H' d c, Same H H' → H d = none → H c = none → Dk H' d c 0 → Q (.ref d) H'
def sp_law_draw : Sp := fun vs H Q _ => ∃ (d c : Addr) (n lim : Int), vs = [.ref d, .int lim] ∧ Dk H d c n ∧ 0 ≤ n ∧ n < 1000000 ∧ 0 < lim ∧ lim < 2 ^ 63 ∧
  ∀ H' r, Kp d c H H' → Dk H' d c (n + 1) → 0 ≤ r → r < lim → Q (.int r) H'
theorem same_new {H : Hp} {p : Addr} {o : HO} (h : H p = none) : Same H (upd H p o) := fun b x e => by
  rw [upd_ne (ne_of_none e h)]
  exact e
theorem cutTo (xs : List V) (j : Nat) : cutV xs none (some (j : Int)) = xs.take j := by
  unfold cutV
  rw [HT.sIx_none, show HT.sIx xs.length xs.length (some (j : Int)) = min j xs.length from HT.sIx_nat xs.length xs.length j]
  rw [Nat.sub_zero, List.drop_zero]
  rcases Nat.le_total j xs.length with h | h
  · rw [Nat.min_eq_left h]
  · rw [Nat.min_eq_right h, List.take_length, List.take_of_length_le h]
section
structure Tx (K : PySem.W.Frag) (mg : Str → Option Value) (f_has_position f_contains f_serves f_conflict f_joint_piece f_law_deck f_law_draw f_law_line f_law_interval f_law_demand f_law_every f_law_all_conflict f_law_around f_law_right f_law : Addr) (d_has_position d_contains d_serves d_conflict d_joint_piece d_law_deck d_law_draw d_law_line d_law_interval d_law_demand d_law_every d_law_all_conflict d_law_around d_law_right d_law : FuncData) : Prop where
  F_has_position : Fun K "has_position" "has_position" s_has_position f_has_position d_has_position
  b_has_position : Binds K d_has_position ["interval", "position"] []
  g_has_position : mg "has_position" = some (.ref f_has_position)
  F_contains : Fun K "contains" "contains" s_contains f_contains d_contains
  b_contains : Binds K d_contains ["outer", "inner"] []
  g_contains : mg "contains" = some (.ref f_contains)
  F_serves : Fun K "serves" "serves" s_serves f_serves d_serves
  b_serves : Binds K d_serves ["piece", "demand"] []
  g_serves : mg "serves" = some (.ref f_serves)
  F_conflict : Fun K "conflict" "conflict" s_conflict f_conflict d_conflict
  b_conflict : Binds K d_conflict ["first", "second"] []
  g_conflict : mg "conflict" = some (.ref f_conflict)
  F_joint_piece : Fun K "joint_piece" "joint_piece" s_joint_piece f_joint_piece d_joint_piece
  b_joint_piece : Binds K d_joint_piece ["demands"] []
  g_joint_piece : mg "joint_piece" = some (.ref f_joint_piece)
  F_law_deck : Fun K "_law_deck" "_law_deck" s_law_deck f_law_deck d_law_deck
  b_law_deck : Binds K d_law_deck ["_law_script"] []
  g_law_deck : mg "_law_deck" = some (.ref f_law_deck)
  F_law_draw : Fun K "_law_draw" "_law_draw" s_law_draw f_law_draw d_law_draw
  b_law_draw : Binds K d_law_draw ["_law_deck_here", "_law_bound"] []
  g_law_draw : mg "_law_draw" = some (.ref f_law_draw)
  F_law_line : Fun K "_law_line" "_law_line" s_law_line f_law_line d_law_line
  b_law_line : Binds K d_law_line ["_law_deck_here", "_law_count"] []
  g_law_line : mg "_law_line" = some (.ref f_law_line)
  F_law_interval : Fun K "_law_interval" "_law_interval" s_law_interval f_law_interval d_law_interval
  b_law_interval : Binds K d_law_interval ["_law_deck_here", "_law_line_here"] []
  g_law_interval : mg "_law_interval" = some (.ref f_law_interval)
  F_law_demand : Fun K "_law_demand" "_law_demand" s_law_demand f_law_demand d_law_demand
  b_law_demand : Binds K d_law_demand ["_law_deck_here", "_law_line_here"] []
  g_law_demand : mg "_law_demand" = some (.ref f_law_demand)
  F_law_every : Fun K "_law_every" "_law_every" s_law_every f_law_every d_law_every
  b_law_every : Binds K d_law_every ["_law_line_here"] []
  g_law_every : mg "_law_every" = some (.ref f_law_every)
  F_law_all_conflict : Fun K "_law_all_conflict" "_law_all_conflict" s_law_all_conflict f_law_all_conflict d_law_all_conflict
  b_law_all_conflict : Binds K d_law_all_conflict ["_law_demands"] []
  g_law_all_conflict : mg "_law_all_conflict" = some (.ref f_law_all_conflict)
  F_law_around : Fun K "_law_around" "_law_around" s_law_around f_law_around d_law_around
  b_law_around : Binds K d_law_around ["_law_deck_here", "_law_line_here", "_law_piece"] []
  g_law_around : mg "_law_around" = some (.ref f_law_around)
  F_law_right : Fun K "_law_right" "_law_right" s_law_right f_law_right d_law_right
  b_law_right : Binds K d_law_right ["_law_line_here", "_law_demands"] []
  g_law_right : mg "_law_right" = some (.ref f_law_right)
  F_law : Fun K "law" "law" s_law f_law d_law
  b_law : Binds K d_law ["_law_script"] []
  g_law : mg "law" = some (.ref f_law)
  z_abs : mg "abs" = none
  z_all : mg "all" = none
  z_enumerate : mg "enumerate" = none
  z_len : mg "len" = none
  z_max : mg "max" = none
  z_min : mg "min" = none
  z_range : mg "range" = none
  z_tuple : mg "tuple" = none
variable {P : Program} {w : World} {K : PySem.W.Frag} {mg : Str → Option Value} {base : Heap} {f_has_position f_contains f_serves f_conflict f_joint_piece f_law_deck f_law_draw f_law_line f_law_interval f_law_demand f_law_every f_law_all_conflict f_law_around f_law_right f_law : Addr} {d_has_position d_contains d_serves d_conflict d_joint_piece d_law_deck d_law_draw d_law_line d_law_interval d_law_demand d_law_every d_law_all_conflict d_law_around d_law_right d_law : FuncData}
abbrev TxA (K : PySem.W.Frag) (mg : Str → Option Value) (f_has_position f_contains f_serves f_conflict f_joint_piece f_law_deck f_law_draw f_law_line f_law_interval f_law_demand f_law_every f_law_all_conflict f_law_around f_law_right f_law : Addr) (d_has_position d_contains d_serves d_conflict d_joint_piece d_law_deck d_law_draw d_law_line d_law_interval d_law_demand d_law_every d_law_all_conflict d_law_around d_law_right d_law : FuncData) := Tx K mg f_has_position f_contains f_serves f_conflict f_joint_piece f_law_deck f_law_draw f_law_line f_law_interval f_law_demand f_law_every f_law_all_conflict f_law_around f_law_right f_law d_has_position d_contains d_serves d_conflict d_joint_piece d_law_deck d_law_draw d_law_line d_law_interval d_law_demand d_law_every d_law_all_conflict d_law_around d_law_right d_law 
theorem ok_law_deck (T : Tx K mg f_has_position f_contains f_serves f_conflict f_joint_piece f_law_deck f_law_draw f_law_line f_law_interval f_law_demand f_law_every f_law_all_conflict f_law_around f_law_right f_law d_has_position d_contains d_serves d_conflict d_joint_piece d_law_deck d_law_draw d_law_line d_law_interval d_law_demand d_law_every d_law_all_conflict d_law_around d_law_right d_law) : FnOk P w K mg base CX0 1 f_law_deck d_law_deck ["_law_script"] (sp_law_deck K) := by
  refine T.F_law_deck.ok sc_law_deck (fun vs H Q E h => ?_) (fun cdv A outer s H vs Q E hr h => ?_)
  · obtain ⟨a, ns, rfl, _⟩ := h
    rfl
  · obtain ⟨a, ns0, rfl, hS, hlen, q⟩ := h
    refine ⟨_, (pss_one (ps_ret (pe_lst (pa_cons (pe_lc (own := [("_law_cell", 1)]) (g := (gName 1)) (tt := tYes) (by rfl) sc_law_deck.nd (pi_list (pe_slice sl_list (pv 0) po_none (po_some pe_int))) (blkOk_by (own := [("_law_cell", 1)]) (N := N_law_deck) (sc := defScope s_law_deck) (by decide +kernel)) (fun _ _ _ _ _ => (pg_name (i := 1) sc_law_deck.nd rfl (Or.inl rfl))) (fun _ _ _ _ _ => pts_nil) (fun _ _ _ _ _ => (pe_callB call_abs (by rfl) T.z_abs (by decide +kernel) (pa_cons (pv 1) pa_nil)))) (pa_cons pe_int pa_nil))))), ?_⟩
    refine ⟨.ref a, rfl, 60, rfl, a, ns0.map V.int, rfl, hS, fun p np => ?_⟩
    rw [show cutV (ns0.map V.int) none (some 60) = (ns0.take 60).map V.int by rw [List.map_take]; exact cutTo _ 60]
    have hlen : (ns0.take 60).length ≤ 63 := Nat.le_trans (List.length_take_le' _ _) hlen
    generalize ns0.take 60 = ns at *
    have s1 : Same H (upd H p (.lst (ns.map V.int))) := same_new np
    refine ⟨p, rfl, ⟨_, SqL.of upd_same⟩, fun D nD => ?_⟩
    have nDp : D ≠ p := fun e => by
      rw [e, upd_same] at nD
      cases nD
    have nD0 : H D = none := by
      rw [upd_ne nDp] at nD
      exact nD
    refine lc_list (K := K) (a := p) (xs := ns.map V.int) (fun i H' => Same (upd H p (.lst (ns.map V.int))) H' ∧ H' D = some (.lst (((ns.take i).map fun (x : Int) => if x < 0 then -x else x).map V.int))) ⟨same_new nD, upd_same⟩ (fun i H' _ h => h.1.seq (SqL.of upd_same)) ?_ ?_
    · rintro i x H' hi ⟨sm, eD⟩
      rw [List.getElem?_map] at hi
      obtain ⟨n, en, rfl⟩ := Option.map_eq_some_iff.mp hi
      refine ⟨rfl, .int n, rfl, n, rfl, _, eD, ?_, ?_, ?_⟩
      · have : (List.take i ns).length ≤ ns.length := List.length_take_le' i ns
        simp only [List.length_map]
        exact small1000 (by omega)
      · intro b o e
        have nb : b ≠ D := ne_of_none e nD
        rw [upd_ne nb]
        exact sm b o e
      · rw [upd_same, List.take_add_one, en]
        simp
    · rintro H' ⟨sm, eD⟩
      rw [List.length_map, List.take_length] at eD
      refine ⟨by show 2 ≤ sizeLine; decide, fun d nd => ?_⟩
      have nDd : D ≠ d := ne_of_none eD nd
      have nd0 : H d = none := s1.free (sm.free nd)
      refine q _ d D (s1.trans (sm.trans (same_new nd))) nd0 nD0 ⟨upd_same, _, by rw [upd_ne nDd]; exact eD, by rw [List.length_map]; exact hlen, fun x hx => ?_⟩
      obtain ⟨y, _, rfl⟩ := List.mem_map.mp hx
      split <;> omega
def mxI (i j : Int) : Int := if j > i then j else i
def mnI (i j : Int) : Int := if j < i then j else i
theorem ok_law_draw (T : Tx K mg f_has_position f_contains f_serves f_conflict f_joint_piece f_law_deck f_law_draw f_law_line f_law_interval f_law_demand f_law_every f_law_all_conflict f_law_around f_law_right f_law d_has_position d_contains d_serves d_conflict d_joint_piece d_law_deck d_law_draw d_law_line d_law_interval d_law_demand d_law_every d_law_all_conflict d_law_around d_law_right d_law) : FnOk P w K mg base CX0 1 f_law_draw d_law_draw ["_law_deck_here", "_law_bound"] sp_law_draw := by
  refine T.F_law_draw.ok sc_law_draw (fun vs H Q E h => ?_) (fun cdv A outer s H vs Q E hr h => ?_)
  · obtain ⟨d, c, n, lim, rfl, _⟩ := h
    rfl
  · obtain ⟨d, c, n, lim, rfl, dk, n0, n1, l0, l1, q⟩ := h
    obtain ⟨xs, ec, xl, xp⟩ := dk.cells
    have ncd := dk.ne
    have ed := dk.top
    have l64 : lim.natAbs < 2 ^ 64 := by omega
    have n64 : (n + 1).natAbs < 2 ^ 64 := by omega
    refine ⟨_, (pss_cons (ps_asg (pe_op op_add (pe_ix ix_list (pv 0) pe_int (fun _ _ => rfl)) pe_int) (pg_sub (pv 0) pe_int set_list))
      (pss_cons (ps_set (i := 2) sc_law_draw.nd rfl (Or.inl rfl) (pe_op op_mod (pe_ix ix_list (pv 0) pe_int (fun _ _ => rfl)) (pe_callB (call_max2 rfl) (by rfl) T.z_max (by decide +kernel) (pa_cons pe_int (pa_cons (pe_callB call_len_seq (by rfl) T.z_len PySem.boot_len (pa_cons (pe_ix ix_list (pv 0) pe_int (fun _ _ => rfl)) pa_nil)) pa_nil)))))
      (pss_cons (ps_set (i := 3) sc_law_draw.nd rfl (Or.inl rfl) (pe_ix ix_list (pe_op op_cat (pe_ix ix_list (pv 0) pe_int (fun _ _ => rfl)) (pe_lst (pa_cons pe_int pa_nil))) (pv 2) (fun _ _ => rfl)))
      (pss_cons (ps_if (pt_cmpR op_ge (pv 3) (pe_op op_pow pe_int pe_int) (nomark _))
      (pss_cons (ps_asg (pe_op op_fdivW (pv 3) (pv 1)) (pg_sub (pe_ix ix_list (pv 0) pe_int (fun _ _ => rfl)) (pv 2) set_list))
      (pss_one (ps_ret (pe_op op_mod (pv 3) (pv 1)))))
      pss_nil)
      (pss_cons (ps_set (i := 4) sc_law_draw.nd rfl (Or.inl rfl) (pe_op op_mod (pe_op op_pow (pe_op op_add (pe_op op_add (pe_op op_mod (pv 3) pe_int) (pe_op op_mulW pe_int (pe_ix ix_list (pv 0) pe_int (fun _ _ => rfl)))) pe_int) pe_int) pe_int))
      (pss_one (ps_ret (pe_op op_mod (pe_op op_add (pe_op op_fdivW (pv 4) pe_int) (pe_op op_mulW pe_int (pe_ix ix_list (pv 0) pe_int (fun _ _ => rfl)))) (pv 1))))))))), ?_⟩
    -- deck[1] = deck[1] + 1
    refine ⟨.ref d, rfl, d, _, 1, .int n, rfl, rfl, SqL.of ed, rfl, n, 1, rfl, rfl, .ref d, rfl, d, _, 1, 1, rfl, rfl, ed, rfl, ?_⟩
    generalize eH : upd H d (.lst ([V.ref c, V.int n].set 1 (.int (n + 1)))) = H1
    have ed1 : H1 d = some (.lst [.ref c, .int (n + 1)]) := by
      rw [← eH, upd_same]
      rfl
    have ec1 : H1 c = some (.lst (xs.map V.int)) := by
      rw [← eH, upd_ne ncd]
      exact ec
    have kp1 : Kp d c H H1 := fun b o nb _ e => by
      rw [← eH, upd_ne nb]
      exact e
    -- place
    refine ⟨.ref d, rfl, d, _, 1, .int (n + 1), rfl, rfl, SqL.of ed1, rfl, .ref d, rfl, d, _, 0, .ref c, rfl, rfl, SqL.of ed1, rfl, c, _, rfl, .inl (SqL.of ec1), 1, _, rfl, ?_⟩
    obtain ⟨m, em⟩ : ∃ m : Int, (if ((xs.map V.int).length : Int) > 1 then ((xs.map V.int).length : Int) else 1) = m := ⟨_, rfl⟩
    have hm : (m = xs.length ∧ 0 < xs.length) ∨ (m = 1 ∧ xs.length = 0) := by
      rw [List.length_map] at em
      rw [← em]
      split <;> omega
    rw [em]
    have m0 : 0 < m := by omega
    refine ⟨_, _, rfl, rfl, m0, ?_⟩
    have rem0 : 0 ≤ (n + 1) % m := Int.emod_nonneg _ (by omega)
    have rem1 : (n + 1) % m < m := Int.emod_lt_of_pos _ m0
    obtain ⟨j, ej⟩ : ∃ j : Nat, (n + 1) % m = j := ⟨_, (Int.toNat_of_nonneg rem0).symm⟩
    rw [ej] at rem1
    -- cell
    obtain ⟨cell, gj, c0, cin⟩ : ∃ cell : Int, (xs.map V.int ++ [V.int 0])[j]? = some (.int cell) ∧ 0 ≤ cell ∧ (cell ≠ 0 → ∃ h : j < xs.length, xs[j] = cell) := by
      by_cases hj : j < xs.length
      · refine ⟨xs[j], ?_, xp _ (List.getElem_mem hj), fun _ => ⟨hj, rfl⟩⟩
        rw [List.getElem?_append_left (by rw [List.length_map]; exact hj), List.getElem?_map, List.getElem?_eq_getElem hj]
        rfl
      · refine ⟨0, ?_, by decide, fun h => absurd rfl h⟩
        have : j = xs.length := by omega
        subst this
        rw [List.getElem?_append_right (by rw [List.length_map]; exact Nat.le_refl _), List.length_map, Nat.sub_self]
        rfl
    refine ⟨.ref d, rfl, d, _, 0, .ref c, rfl, rfl, SqL.of ed1, rfl, by show 1 ≤ sizeLine; decide, fun z nz => ?_⟩
    have s2 := same_new (o := .lst [.int 0]) nz
    refine ⟨c, z, _, _, rfl, rfl, s2 _ _ ec1, upd_same, ?_, fun g ng => ?_⟩
    · rw [List.length_map, show sizeLine = 16777216 by decide]
      show xs.length + 1 ≤ _
      omega
    have s3 := same_new (o := .lst (xs.map V.int ++ [.int 0])) ng
    refine ⟨.int _, rfl, g, _, _, .int cell, rfl, rfl, SqL.of upd_same, (by rw [ej]; exact atI_nat gj), ?_⟩
    have s23 := s2.trans s3
    replace ed1 := s23 _ _ ed1
    replace ec1 := s23 _ _ ec1
    replace kp1 := kp1.trans (Kp.same s23)
    generalize upd (upd H1 z (.lst [.int 0])) g (.lst (xs.map V.int ++ [.int 0])) = H2 at *
    have dk1 : Dk H2 d c (n + 1) := ⟨ed1, xs, ec1, xl, xp⟩
    -- if cell >= 10 ** 18
    refine ⟨.int cell, rfl, 10, 18, rfl, rfl, ⟨by decide, by decide, by decide⟩, _, _, rfl, rfl, _, rfl, ite2 (fun e2 => ?_) (fun e2 => ?_)⟩
    · have e3 : (10 : Int) ^ (18 : Int).toNat ≤ cell := of_decide_eq_true e2
      rw [show (10 : Int) ^ (18 : Int).toNat = 1000000000000000000 by decide] at e3
      obtain ⟨hj, ex⟩ := cin (by omega)
      refine ⟨.int cell, rfl, .int lim, rfl, _, _, rfl, rfl, wide_div l0 l64 (by decide) (by decide), .ref d, rfl, d, _, 0, .ref c, rfl, rfl, SqL.of ed1, rfl, .int _, rfl, c, _, _, j, rfl, rfl, ec1, ?_, ?_⟩
      · rw [ej]
        unfold ixN
        rw [if_pos (by omega), if_pos (by rw [List.length_map]; omega)]
        rfl
      · refine ⟨.int cell, rfl, .int lim, rfl, _, _, rfl, rfl, l0, ?_⟩
        refine q _ _ ?_ ⟨?_, xs.set j (cell / lim), ?_, ?_, ?_⟩ (Int.emod_nonneg _ (by omega)) (Int.emod_lt_of_pos _ l0)
        · intro b o nb nc e
          rw [upd_ne nc]
          exact kp1 b o nb nc e
        · rw [upd_ne ncd.symm]
          exact ed1
        · rw [upd_same, List.map_set]
        · rw [List.length_set]
          exact xl
        · intro x hx
          rcases List.mem_or_eq_of_mem_set hx with hm | he
          · exact xp x hm
          · rw [he]
            exact Int.ediv_nonneg c0 (by omega)
    · refine ⟨.int cell, rfl, _, _, rfl, rfl, (by show (0 : Int) < 2147483563; decide), .ref d, rfl, d, _, 1, .int (n + 1), rfl, rfl, SqL.of ed1, rfl, _, _, rfl, rfl, wide_mul (a := 17) (b := 64) (by decide) n64 (by decide) (by decide) (by decide), _, _, rfl, rfl, _, _, rfl, rfl, _, _, rfl, rfl, ⟨by decide, by decide, ?_⟩, _, _, rfl, rfl, (by show (0 : Int) < 2147483629; decide), ?_⟩
      · have a0 := Int.emod_nonneg cell (show (2147483563 : Int) ≠ 0 by decide)
        have a1 := Int.emod_lt_of_pos cell (show (0 : Int) < 2147483563 by decide)
        omega
      · refine ⟨_, rfl, _, _, rfl, rfl, wide_div (b := 4) (by decide) (by decide) (by decide) (by decide), .ref d, rfl, d, _, 1, .int (n + 1), rfl, rfl, SqL.of ed1, rfl, _, _, rfl, rfl, wide_mul (a := 5) (b := 64) (by decide) n64 (by decide) (by decide) (by decide), _, _, rfl, rfl, .int lim, rfl, _, _, rfl, rfl, l0, ?_⟩
        exact q _ _ kp1 dk1 (Int.emod_nonneg _ (by omega)) (Int.emod_lt_of_pos _ l0)

/-! ### a line of positions, and intervals of it -/
theorem Kp.keep {d c : Addr} {H H' : Hp} (k : Kp d c H H') {a : Addr} {o : HO} (n1 : a ≠ d ∧ a ≠ c) (h : H a = some o) : H' a = some o := k a o n1.1 n1.2 h
theorem Kp.tup {d c : Addr} {n : Int} {H H' : Hp} (k : Kp d c H H') (dk : Dk H d c n) {a : Addr} {xs : List V} (h : H a = some (.tup xs)) : H' a = some (.tup xs) := by
  obtain ⟨ys, e, _⟩ := dk.cells
  exact k a _ (ne_of h dk.top (fun z => by cases z)) (ne_of h e (fun z => by cases z)) h
theorem Dk.off {H : Hp} {d c : Addr} {n : Int} (h : Dk H d c n) {p : Addr} (e : H p = none) : p ≠ d ∧ p ≠ c := by
  obtain ⟨ys, z, _⟩ := h.cells
  exact ⟨(ne_of_none h.top e).symm, (ne_of_none z e).symm⟩
theorem Dk.upd {H : Hp} {d c : Addr} {n : Int} (h : Dk H d c n) {p : Addr} {o : HO} (off : p ≠ d ∧ p ≠ c) : Dk (upd H p o) d c n := by
  obtain ⟨ys, z, w⟩ := h.cells
  exact ⟨by rw [upd_ne off.1.symm]; exact h.top, ys, by rw [upd_ne off.2.symm]; exact z, w⟩
/-- a line: strictly ascending positions -/
structure Ln (ns : List Int) : Prop where
  asc : ns.Pairwise (· < ·)
  ok : ∀ x ∈ ns, 0 ≤ x ∧ x ≤ 999999999990
def sp_law_line : Sp := fun vs H Q _ => ∃ (d c : Addr) (n cnt : Int), vs = [.ref d, .int cnt] ∧ Dk H d c n ∧ 0 ≤ n ∧ n < 999000 ∧ 1 ≤ cnt ∧ cnt ≤ 9 ∧
  ∀ H' p ns, Kp d c H H' → Dk H' d c (n + cnt) → H p = none → H' p = some (.lst (ns.map V.int)) → (ns.length : Int) = cnt → Ln ns → Q (.ref p) H'
theorem lim3 {r : Int} (h0 : 0 ≤ r) (h1 : r < 3) : ∃ L : Int, atI [V.int 0, .int 4, .int ((10 : Int) ^ (12 : Int).toNat - 90)] r = some (.int L) ∧ 0 ≤ L ∧ L ≤ 999999999910 := by
  have : r = 0 ∨ r = 1 ∨ r = 2 := by omega
  rcases this with rfl | rfl | rfl
  · exact ⟨0, rfl, by decide, by decide⟩
  · exact ⟨4, rfl, by decide, by decide⟩
  · exact ⟨_, rfl, by decide, by decide⟩
theorem step4 {r : Int} (h0 : 0 ≤ r) (h1 : r < 4) : ∃ L : Int, atI [V.int 1, .int 1, .int 2, .int 9] r = some (.int L) ∧ 1 ≤ L ∧ L ≤ 9 := by
  have : r = 0 ∨ r = 1 ∨ r = 2 ∨ r = 3 := by omega
  rcases this with rfl | rfl | rfl | rfl
  · exact ⟨1, rfl, by decide, by decide⟩
  · exact ⟨1, rfl, by decide, by decide⟩
  · exact ⟨2, rfl, by decide, by decide⟩
  · exact ⟨9, rfl, by decide, by decide⟩
theorem ok_law_line (T : Tx K mg f_has_position f_contains f_serves f_conflict f_joint_piece f_law_deck f_law_draw f_law_line f_law_interval f_law_demand f_law_every f_law_all_conflict f_law_around f_law_right f_law d_has_position d_contains d_serves d_conflict d_joint_piece d_law_deck d_law_draw d_law_line d_law_interval d_law_demand d_law_every d_law_all_conflict d_law_around d_law_right d_law) : FnOk P w K mg base CX0 2 f_law_line d_law_line ["_law_deck_here", "_law_count"] sp_law_line := by
  refine T.F_law_line.ok sc_law_line (fun vs H Q E h => ?_) (fun cdv A outer s H vs Q E hr h => ?_)
  · obtain ⟨d, c, n, cnt, rfl, _⟩ := h
    rfl
  · obtain ⟨d, c, n, cnt, rfl, dk, n0, n1, c0, c1, q⟩ := h
    refine ⟨_, (pss_cons (ps_set (i := 2) sc_law_line.nd rfl (Or.inl rfl) (pe_lst (pa_cons (pe_ix ix_list (pe_lst (pa_cons pe_int (pa_cons pe_int (pa_cons (pe_op op_sub (pe_op op_pow pe_int pe_int) pe_int) pa_nil)))) (pe_call (ok_law_draw T) (hr.mono (by decide)) (by rfl) T.g_law_draw T.F_law_draw.kp T.b_law_draw .nil pass0 (pa_cons (pv 0) (pa_cons pe_int pa_nil))) (fun _ _ => rfl)) pa_nil)))
      (pss_cons (ps_for PassesOwn.never rfl (pi_range1 (by rfl) T.z_range (pa_cons (pe_op op_sub (pv 1) pe_int) pa_nil)) (pg_name (i := 3) sc_law_line.nd rfl (Or.inl rfl))
      (pss_one (ps_expr (pe_bm PySem.F.plainAttrs_list PySem.F.slot_list_append PySem.F.type_list_append mt_append (pv 2) (pa_cons (pe_op op_add (pe_ix ix_list (pv 2) (pe_un un_neg pe_int) (fun _ _ => rfl)) (pe_ix ix_list (pe_lst (pa_cons pe_int (pa_cons pe_int (pa_cons pe_int (pa_cons pe_int pa_nil))))) (pe_call (ok_law_draw T) (hr.mono (by decide)) (by rfl) T.g_law_draw T.F_law_draw.kp T.b_law_draw .nil pass0 (pa_cons (pv 0) (pa_cons pe_int pa_nil))) (fun _ _ => rfl))) pa_nil)))))
      (pss_one (ps_ret (pv 2))))), ?_⟩
    refine ⟨10, 12, rfl, rfl, ⟨by decide, by decide, by decide⟩, _, _, rfl, rfl, by show 3 ≤ sizeLine; decide, fun p np => ?_⟩
    have off := dk.off np
    refine ⟨.ref d, rfl, d, c, n, 3, rfl, dk.kept (same_new np), n0, by omega, by decide, by decide, fun H1 r kp1 dk1 r0 r1 => ?_⟩
    obtain ⟨L, eL, L0, L1⟩ := lim3 r0 r1
    refine ⟨p, _, r, _, rfl, rfl, SqL.of (kp1.keep off upd_same), eL, by show 1 ≤ sizeLine; decide, fun l nl => ?_⟩
    have kpA : Kp d c H H1 := (Kp.same (same_new np)).trans kp1
    have offl := dk1.off nl
    have nl0 : H l = none := kpA.none dk dk1 nl
    obtain ⟨m, rfl⟩ : ∃ m : Nat, cnt = m + 1 := ⟨(cnt - 1).toNat, by omega⟩
    refine ⟨.int _, rfl, _, _, rfl, rfl, (m : Int) + 1 - 1, rfl, by omega, by omega, for_range (n := ((m : Int) + 1 - 1).toNat) (fun i σ H' => (Kp d c H H' ∧ Dk H' d c (n + 1 + i)) ∧ (∃ ns : List Int, H' l = some (.lst (ns.map V.int)) ∧ ns.length = i + 1 ∧ ns.Pairwise (· < ·) ∧ (∀ x ∈ ns, 0 ≤ x ∧ x ≤ 999999999910 + 9 * i) ∧ ∃ (ys : List Int) (z : Int), ns = ys ++ [z] ∧ (∀ y ∈ ys, y < z)) ∧ ∃ y3, σ = [some (.ref d), some (.int ((m : Int) + 1)), some (.ref l), y3])
      ⟨⟨kpA.trans (Kp.same (same_new nl)), (dk1.upd offl).eq (by simp)⟩, ⟨[L], upd_same, rfl, List.pairwise_singleton _ _, fun x hx => ?_, [], L, rfl, fun y hy => nomatch hy⟩, _, rfl⟩ ?_ ?_⟩
    · rw [List.mem_singleton.mp hx]
      omega
    · rintro i σ H2 hi ⟨⟨kp2, dk2⟩, ⟨ns, el, nl1, asc, bd, ys, z, rfl, hz⟩, y3, rfl⟩
      refine ⟨.ref l, rfl, .inl ⟨rfl, _, SqL.of el⟩, .ref l, rfl, 1, rfl, l, _, -1, .int z, rfl, rfl, SqL.of el, (by rw [List.map_append]; exact atI_last _ _), by show 4 ≤ sizeLine; decide, fun p2 np2 => ?_⟩
      have off2 := dk2.off np2
      refine ⟨.ref d, rfl, d, c, _, 4, rfl, dk2.kept (same_new np2), by omega, by omega, by decide, by decide, fun H3 r2 kp3 dk3 r20 r21 => ?_⟩
      obtain ⟨L2, eL2, L20, L21⟩ := step4 r20 r21
      have el3 : H3 l = some (.lst ((ys ++ [z]).map V.int)) := kp3.keep offl (same_new np2 _ _ el)
      refine ⟨p2, _, r2, _, rfl, rfl, SqL.of (kp3.keep off2 upd_same), eL2, _, _, rfl, rfl, l, _, _, rfl, rfl, el3, ?_, ?_⟩
      · rw [List.length_map]
        exact small1000 (by omega)
      refine ⟨⟨?_, ?_⟩, ⟨(ys ++ [z]) ++ [z + L2], ?_, ?_, ?_, ?_, ys ++ [z], z + L2, rfl, ?_⟩, _, rfl⟩
      · intro b o n1 n2 e
        rw [upd_ne (ne_of_none e nl0)]
        exact kp3 b o n1 n2 (same_new np2 _ _ (kp2 b o n1 n2 e))
      · exact (dk3.upd offl).eq (by omega)
      · rw [upd_same, List.map_append (l₁ := ys ++ [z])]
        rfl
      · rw [List.length_append, nl1]
        rfl
      · refine List.pairwise_append.mpr ⟨asc, List.pairwise_singleton _ _, fun a ha b hb => ?_⟩
        rw [List.mem_singleton.mp hb]
        rcases List.mem_append.mp ha with h | h
        · have := hz a h
          omega
        · rw [List.mem_singleton.mp h]
          omega
      · intro x hx
        have bz := bd z (List.mem_append_right _ (List.mem_singleton.mpr rfl))
        rcases List.mem_append.mp hx with h | h
        · have := bd x h
          omega
        · rw [List.mem_singleton.mp h]
          omega
      · intro y hy
        rcases List.mem_append.mp hy with h | h
        · have := hz y h
          omega
        · rw [List.mem_singleton.mp h]
          omega
    · rintro σ H2 ⟨⟨kp2, dk2⟩, ⟨ns, el, nl1, asc, bd, _⟩, y3, rfl⟩
      refine ⟨.ref l, rfl, q H2 l ns kp2 (dk2.eq (by omega)) nl0 el (by omega) ⟨asc, fun x hx => ?_⟩⟩
      have := bd x hx
      omega
def sp_law_interval : Sp := fun vs H Q _ => ∃ (d c l : Addr) (n : Int) (ns : List Int), vs = [.ref d, .ref l] ∧ Dk H d c n ∧ 0 ≤ n ∧ n < 999990 ∧ (l ≠ d ∧ l ≠ c) ∧ H l = some (.lst (ns.map V.int)) ∧ 0 < ns.length ∧ ns.length ≤ 100 ∧
  ∀ H' lo hi t, Kp d c H H' → Dk H' d c (n + 2) → lo ∈ ns → hi ∈ ns → lo ≤ hi → H t = none → H' t = some (.tup [.int lo, .int hi]) → Q (.ref t) H'
theorem nth_of {ns : List Int} {r : Int} (h0 : 0 ≤ r) (h1 : r < ((ns.map V.int).length : Nat)) : ∃ x, x ∈ ns ∧ atI (ns.map V.int) r = some (.int x) := by
  obtain ⟨j, rfl⟩ : ∃ j : Nat, r = j := ⟨r.toNat, by omega⟩
  have hj : j < ns.length := by
    rw [List.length_map] at h1
    omega
  refine ⟨ns[j], List.getElem_mem hj, atI_nat ?_⟩
  rw [List.getElem?_map, List.getElem?_eq_getElem hj]
  rfl
theorem ok_law_interval (T : Tx K mg f_has_position f_contains f_serves f_conflict f_joint_piece f_law_deck f_law_draw f_law_line f_law_interval f_law_demand f_law_every f_law_all_conflict f_law_around f_law_right f_law d_has_position d_contains d_serves d_conflict d_joint_piece d_law_deck d_law_draw d_law_line d_law_interval d_law_demand d_law_every d_law_all_conflict d_law_around d_law_right d_law) : FnOk P w K mg base CX0 2 f_law_interval d_law_interval ["_law_deck_here", "_law_line_here"] sp_law_interval := by
  refine T.F_law_interval.ok sc_law_interval (fun vs H Q E h => ?_) (fun cdv A outer s H vs Q E hr h => ?_)
  · obtain ⟨d, c, l, n, ns, rfl, _⟩ := h
    rfl
  · obtain ⟨d, c, l, n, ns, rfl, dk, n0, n1, off, el, ln0, ln1, q⟩ := h
    have lp : (0 : Int) < ((ns.map V.int).length : Nat) := by rw [List.length_map]; omega
    have lp2 : (((ns.map V.int).length : Nat) : Int) < 2 ^ 63 := by rw [List.length_map]; omega
    refine ⟨_, (pss_cons (ps_par (by rfl) sc_law_interval.nd (i := 2) (j := 3) rfl rfl (by decide) rfl rfl (pa_cons (pe_ix ix_list (pv 1) (pe_call (ok_law_draw T) (hr.mono (by decide)) (by rfl) T.g_law_draw T.F_law_draw.kp T.b_law_draw .nil pass0 (pa_cons (pv 0) (pa_cons (pe_callB call_len_seq (by rfl) T.z_len PySem.boot_len (pa_cons (pv 1) pa_nil)) pa_nil))) (fun _ _ => rfl)) (pa_cons (pe_ix ix_list (pv 1) (pe_call (ok_law_draw T) (hr.mono (by decide)) (by rfl) T.g_law_draw T.F_law_draw.kp T.b_law_draw .nil pass0 (pa_cons (pv 0) (pa_cons (pe_callB call_len_seq (by rfl) T.z_len PySem.boot_len (pa_cons (pv 1) pa_nil)) pa_nil))) (fun _ _ => rfl)) pa_nil)) (by rfl))
      (pss_one (ps_ret (pe_tup (pa_cons (pe_callB (call_min2 rfl) (by rfl) T.z_min (by decide +kernel) (pa_cons (pv 2) (pa_cons (pv 3) pa_nil))) (pa_cons (pe_callB (call_max2 rfl) (by rfl) T.z_max (by decide +kernel) (pa_cons (pv 2) (pa_cons (pv 3) pa_nil))) pa_nil)))))), ?_⟩
    refine ⟨.ref l, rfl, .ref d, rfl, .ref l, rfl, l, _, rfl, .inl (SqL.of el), d, c, n, _, rfl, dk, n0, by omega, lp, lp2, fun H1 r kp1 dk1 r0 r1 => ?_⟩
    have el1 := kp1.keep off el
    obtain ⟨x, mx, ex⟩ := nth_of r0 r1
    refine ⟨l, _, r, _, rfl, rfl, SqL.of el1, ex, .ref l, rfl, .ref d, rfl, .ref l, rfl, l, _, rfl, .inl (SqL.of el1), d, c, n + 1, _, rfl, dk1, by omega, by omega, lp, lp2, fun H2 r2 kp2 dk2 r20 r21 => ?_⟩
    have el2 := kp2.keep off el1
    obtain ⟨y, my, ey⟩ := nth_of r20 r21
    refine ⟨l, _, r2, _, rfl, rfl, SqL.of el2, ey, _, _, rfl, ?_⟩
    refine ⟨_, rfl, _, rfl, _, _, rfl, _, rfl, _, rfl, _, _, rfl, by show 2 ≤ sizeLine; decide, fun t nt => ?_⟩
    have s := same_new (o := .tup [.int (mnI x y), .int (mxI x y)]) nt
    have kp := kp1.trans kp2
    refine q _ (mnI x y) (mxI x y) t (kp.trans (Kp.same s)) ((dk2.kept s).eq (by omega)) ?_ ?_ ?_ (kp.none dk dk2 nt) upd_same
    · unfold mnI
      split <;> assumption
    · unfold mxI
      split <;> assumption
    · unfold mnI mxI
      split <;> split <;> omega

/-! ### a demand of a line -/
def sp_law_demand : Sp := fun vs H Q _ => ∃ (d c l : Addr) (n : Int) (ns : List Int), vs = [.ref d, .ref l] ∧ Dk H d c n ∧ 0 ≤ n ∧ n < 999980 ∧ (l ≠ d ∧ l ≠ c) ∧ H l = some (.lst (ns.map V.int)) ∧ 0 < ns.length ∧ ns.length ≤ 100 ∧ Ln ns ∧
  ∀ H' pos lo hi t u, Kp d c H H' → Dk H' d c (n + 5) → lo ∈ ns → hi ∈ ns → lo ≤ pos → pos ≤ hi → H u = none → H' t = some (.tup [.int lo, .int hi]) → H' u = some (.tup [.int pos, .ref t]) → Q (.ref u) H'
theorem take_filter_snoc {ns : List Int} {i : Nat} {n : Int} {p : Int → Bool} (h : ns[i]? = some n) : (ns.take (i + 1)).filter p = (ns.take i).filter p ++ (if p n = true then [n] else []) := by
  rw [List.take_add_one, h, List.filter_append]
  congr 1
  show List.filter p [n] = _
  rw [List.filter_cons]
  split <;> rfl
theorem ok_law_demand (T : Tx K mg f_has_position f_contains f_serves f_conflict f_joint_piece f_law_deck f_law_draw f_law_line f_law_interval f_law_demand f_law_every f_law_all_conflict f_law_around f_law_right f_law d_has_position d_contains d_serves d_conflict d_joint_piece d_law_deck d_law_draw d_law_line d_law_interval d_law_demand d_law_every d_law_all_conflict d_law_around d_law_right d_law) : FnOk P w K mg base CX0 3 f_law_demand d_law_demand ["_law_deck_here", "_law_line_here"] sp_law_demand := by
  refine T.F_law_demand.ok sc_law_demand (fun vs H Q E h => ?_) (fun cdv A outer s H vs Q E hr h => ?_)
  · obtain ⟨d, c, l, n, ns, rfl, _⟩ := h
    rfl
  · obtain ⟨d, c, l, n, ns, rfl, dk, n0, n1, off, el, ln0, ln1, ln, q⟩ := h
    refine ⟨_, (pss_cons (ps_set (i := 2) sc_law_demand.nd rfl (Or.inl rfl) (pe_call (ok_law_interval T) (hr.mono (by decide)) (by rfl) T.g_law_interval T.F_law_interval.kp T.b_law_interval .nil pass0 (pa_cons (pv 0) (pa_cons (pv 1) pa_nil))))
      (pss_cons (ps_asg (pv 2) (pg_tup rfl (pgs_cons (pg_name (i := 3) sc_law_demand.nd rfl (Or.inr rfl)) (pgs_cons (pg_name (i := 4) sc_law_demand.nd rfl (Or.inr rfl)) pgs_nil))))
      (pss_cons (ps_setLc (i := 5) (own := [("_law_position", 6)]) (g := (gName 6)) (by rfl) sc_law_demand.nd rfl rfl (sw_true rfl rfl rfl (by decide +kernel)) (pi_list (pv 1)) (blkOk_by (own := [("_law_position", 6)]) (N := N_law_demand) (sc := defScope s_law_demand) (by decide +kernel)) (fun _ _ _ _ _ => (pg_name (i := 6) sc_law_demand.nd rfl (Or.inl rfl))) (fun _ _ _ _ _ => pts_one (pt_chain op_le op_le (pv 3) (pv 6) (pv 4))) (fun _ _ _ _ _ => (pv 6)))
      (pss_cons (ps_set (i := 7) sc_law_demand.nd rfl (Or.inl rfl) (pe_lst (pa_cons (pv 3) (pa_cons (pv 4) (pa_cons (pe_ix ix_list (pv 5) (pe_call (ok_law_draw T) (hr.mono (by decide)) (by rfl) T.g_law_draw T.F_law_draw.kp T.b_law_draw .nil pass0 (pa_cons (pv 0) (pa_cons (pe_callB call_len_seq (by rfl) T.z_len PySem.boot_len (pa_cons (pv 5) pa_nil)) pa_nil))) (fun _ _ => rfl)) (pa_cons (pe_op op_add (pv 3) (pe_call (ok_law_draw T) (hr.mono (by decide)) (by rfl) T.g_law_draw T.F_law_draw.kp T.b_law_draw .nil pass0 (pa_cons (pv 0) (pa_cons (pe_op op_add (pe_op op_sub (pv 4) (pv 3)) pe_int) pa_nil)))) pa_nil))))))
      (pss_one (ps_ret (pe_tup (pa_cons (pe_ix ix_list (pv 7) (pe_call (ok_law_draw T) (hr.mono (by decide)) (by rfl) T.g_law_draw T.F_law_draw.kp T.b_law_draw .nil pass0 (pa_cons (pv 0) (pa_cons pe_int pa_nil))) (fun _ _ => rfl)) (pa_cons (pv 2) pa_nil))))))))), ?_⟩
    refine ⟨.ref d, rfl, .ref l, rfl, d, c, l, n, ns, rfl, dk, n0, by omega, off, el, ln0, ln1, fun H1 lo hi t kp1 dk1 mlo mhi lh nt et => ?_⟩
    have el1 := kp1.keep off el
    have blo := ln.ok lo mlo
    have bhi := ln.ok hi mhi
    refine ⟨.ref t, rfl, t, _, rfl, SqT.of et, rfl, .int lo, [.int hi], rfl, .int hi, [], rfl, rfl, ?_⟩
    refine ⟨.ref l, rfl, l, rfl, ⟨_, SqL.of el1⟩, fun D nD => ?_⟩
    have offD := dk1.off nD
    let p : Int → Bool := fun x => decide (lo ≤ x ∧ x ≤ hi)
    refine lc_list (K := K) (a := l) (xs := ns.map V.int) (fun i H' => Same H1 H' ∧ H' D = some (.lst (((ns.take i).filter p).map V.int))) ⟨same_new nD, upd_same⟩ (fun i H' _ h => SqL.of (h.1 _ _ el1)) ?_ ?_
    · rintro i x H' hi2 ⟨sm, eD⟩
      rw [List.getElem?_map] at hi2
      obtain ⟨x, ex, rfl⟩ := Option.map_eq_some_iff.mp hi2
      have no : ¬ p x = true → Same H1 H' ∧ H' D = some (.lst (((ns.take (i + 1)).filter p).map V.int)) := fun e => ⟨sm, by rw [eD, take_filter_snoc ex, if_neg e, List.append_nil]⟩
      refine ⟨rfl, .int lo, rfl, .int x, rfl, _, _, rfl, rfl, _, rfl, ite2 (fun c1 => ?_) (fun c1 => ?_)⟩
      · refine ⟨.int hi, rfl, _, _, rfl, rfl, _, rfl, ite2 (fun c2 => ?_) (fun c2 => ?_)⟩
        · have e : p x = true := decide_eq_true ⟨of_decide_eq_true c1, of_decide_eq_true c2⟩
          refine ⟨.int x, rfl, _, eD, ?_, ?_, ?_⟩
          · rw [List.length_map]
            exact small1000 (Nat.le_trans (List.length_filter_le _ _) (Nat.le_trans (List.length_take_le' _ _) (by omega)))
          · intro b o eb
            rw [upd_ne (ne_of_none eb nD)]
            exact sm b o eb
          · rw [upd_same, take_filter_snoc ex, if_pos e, List.map_append]
            rfl
        · exact no fun e => c2 (decide_eq_true (of_decide_eq_true e).2)
      · exact ⟨_, rfl, iteF (no fun e => c1 (decide_eq_true (of_decide_eq_true e).1))⟩
    · rintro H2 ⟨sm2, eD⟩
      rw [List.length_map, List.take_length] at eD
      have dk2 := dk1.kept sm2
      have et2 := sm2 _ _ et
      have mem : ∀ x ∈ ns.filter p, lo ≤ x ∧ x ≤ hi := fun x hx => of_decide_eq_true (List.mem_filter.mp hx).2
      have fl : 0 < (ns.filter p).length := List.length_pos_of_mem (List.mem_filter.mpr ⟨mlo, decide_eq_true ⟨Int.le_refl _, lh⟩⟩)
      have fl2 := List.length_filter_le p ns
      generalize ns.filter p = fs at *
      have lp : (0 : Int) < ((fs.map V.int).length : Nat) := by rw [List.length_map]; omega
      have lp2 : (((fs.map V.int).length : Nat) : Int) < 2 ^ 63 := by rw [List.length_map]; omega
      refine ⟨.int lo, rfl, .int hi, rfl, .ref D, rfl, .ref d, rfl, .ref D, rfl, D, _, rfl, .inl (SqL.of eD), d, c, _, _, rfl, dk2, by omega, by omega, lp, lp2, fun H3 r kp3 dk3 r0 r1 => ?_⟩
      obtain ⟨x, mx, ex⟩ := nth_of r0 r1
      have bx := mem x mx
      refine ⟨D, _, r, _, rfl, rfl, SqL.of (kp3.keep offD eD), ex, .int lo, rfl, .ref d, rfl, .int hi, rfl, .int lo, rfl, _, _, rfl, rfl, _, _, rfl, rfl, d, c, _, _, rfl, dk3, by omega, by omega, by omega, by omega, fun H4 r2 kp4 dk4 r20 r21 => ?_⟩
      refine ⟨_, _, rfl, rfl, by show 4 ≤ sizeLine; decide, fun po npo => ?_⟩
      have offp := dk4.off npo
      refine ⟨.ref po, rfl, .ref d, rfl, d, c, _, 4, rfl, dk4.kept (same_new npo), by omega, by omega, by decide, by decide, fun H5 r3 kp5 dk5 r30 r31 => ?_⟩
      obtain ⟨pos, epos, bp⟩ : ∃ pos : Int, atI [V.int lo, .int hi, .int x, .int (lo + r2)] r3 = some (.int pos) ∧ lo ≤ pos ∧ pos ≤ hi := by
        have : r3 = 0 ∨ r3 = 1 ∨ r3 = 2 ∨ r3 = 3 := by omega
        rcases this with rfl | rfl | rfl | rfl
        · exact ⟨lo, rfl, by omega, by omega⟩
        · exact ⟨hi, rfl, by omega, by omega⟩
        · exact ⟨x, rfl, by omega, by omega⟩
        · exact ⟨lo + r2, rfl, by omega, by omega⟩
      refine ⟨po, _, r3, _, rfl, rfl, SqL.of (kp5.keep offp upd_same), epos, .ref t, rfl, by show 2 ≤ sizeLine; decide, fun u nu => ?_⟩
      have s6 := same_new (o := .tup [.int pos, .ref t]) nu
      have kp : Kp d c H1 H5 := (Kp.same sm2).trans (kp3.trans (kp4.trans ((Kp.same (same_new npo)).trans kp5)))
      have kpA := kp1.trans kp
      refine q _ pos lo hi t u (kpA.trans (Kp.same s6)) ((dk5.kept s6).eq (by omega)) mlo mhi bp.1 bp.2 (kpA.none dk dk5 nu) (s6 _ _ (kp.tup dk1 et)) upd_same

/-! ### what stays when the heap grows, or the deck is drawn from -/
theorem rd_same {H H' : Hp} (s : Same H H') {a : Addr} {u : HO} (h : Rd H a u) : Rd H' a u := by
  rcases h with h | ⟨o, h⟩
  · exact .inl (s _ _ h)
  · exact .inr ⟨o, s _ _ h⟩
theorem sqT_same {K : PySem.W.Frag} {H H' : Hp} (s : Same H H') {a : Addr} {xs : List V} (h : SqT K H a xs) : SqT K H' a xs := by
  rcases h with h | h
  · exact .inl (rd_same s h)
  · exact .inr h
theorem dp_same {K : PySem.W.Frag} {H H' : Hp} (s : Same H H') {v : V} {d : PyData} (h : Dp K H v d) : Dp K H' v d := by
  refine Dp.rec (K := K) (H := H) (motive_1 := fun v d _ => Dp K H' v d) (motive_2 := fun vs ds _ => DpAll K H' vs ds) .non (fun b => .bl b) (fun i => .int i) (fun x => .str x) (fun hs _ q => .lst (s.seq hs) q) (fun hs _ q => .tup (sqT_same s hs) q) .nil (fun _ _ a b => .cons a b) h
theorem dp2 {K : PySem.W.Frag} {H : Hp} {t : Addr} {x y : Int} (h : H t = some (.tup [.int x, .int y])) : Dp K H (.ref t) (.tuple [.int x, .int y]) := .tup (SqT.of h) (.cons (.int x) (.cons (.int y) .nil))
theorem sm2 {x y : Int} (h1 : x.natAbs < 10 ^ 30) (h2 : y.natAbs < 10 ^ 30) : Sm 202 1 (.tuple [.int x, .int y]) := by
  have h := Sm.tup (n := 100) (dp := 0) (ds := [.int x, .int y]) (fun d hd => by
    rcases List.mem_cons.mp hd with rfl | hd
    · exact Sm.int h1
    · rcases List.mem_cons.mp hd with rfl | hd
      · exact Sm.int h2
      · cases hd)
  exact h
/-- an interval, or None -/
def optD : Option (Int × Int) → PyData
  | none => .none
  | some (x, y) => .tuple [.int x, .int y]
def OV (H : Hp) (v : V) : Option (Int × Int) → Prop
  | none => v = .non
  | some (x, y) => ∃ t, v = .ref t ∧ H t = some (.tup [.int x, .int y])
theorem OV.same {H H' : Hp} (s : Same H H') {v : V} {o : Option (Int × Int)} (h : OV H v o) : OV H' v o := by
  match o, h with
  | none, h => exact h
  | some (x, y), h =>
    obtain ⟨t, e, z⟩ := h
    exact ⟨t, e, s _ _ z⟩
theorem OV.kp {d c : Addr} {n : Int} {H H' : Hp} (k : Kp d c H H') (dk : Dk H d c n) {v : V} {o : Option (Int × Int)} (h : OV H v o) : OV H' v o := by
  match o, h with
  | none, h => exact h
  | some (x, y), h =>
    obtain ⟨t, e, z⟩ := h
    exact ⟨t, e, k.tup dk z⟩
theorem OV.dp {K : PySem.W.Frag} {H : Hp} {v : V} {o : Option (Int × Int)} (h : OV H v o) : Dp K H v (optD o) := by
  match o, h with
  | none, h =>
    cases h
    exact .non
  | some (x, y), h =>
    obtain ⟨t, e, z⟩ := h
    subst e
    exact dp2 z

/-! ### rows of intervals -/
inductive Ivs (H : Hp) : List V → List (Int × Int) → Prop
  | nil : Ivs H [] []
  | cons {a : Addr} {x y : Int} {vs : List V} {ps : List (Int × Int)} : H a = some (.tup [.int x, .int y]) → Ivs H vs ps → Ivs H (.ref a :: vs) ((x, y) :: ps)
theorem Ivs.length {H : Hp} {vs : List V} {ps : List (Int × Int)} (h : Ivs H vs ps) : vs.length = ps.length := by
  induction h with
  | nil => rfl
  | cons _ _ ih => rw [List.length_cons, List.length_cons, ih]
theorem Ivs.same {H H' : Hp} (s : Same H H') {vs : List V} {ps : List (Int × Int)} (h : Ivs H vs ps) : Ivs H' vs ps := by
  induction h with
  | nil => exact .nil
  | cons e _ ih => exact .cons (s _ _ e) ih
theorem Ivs.kp {d c : Addr} {n : Int} {H H' : Hp} (k : Kp d c H H') (dk : Dk H d c n) {vs : List V} {ps : List (Int × Int)} (h : Ivs H vs ps) : Ivs H' vs ps := by
  induction h with
  | nil => exact .nil
  | cons e _ ih => exact .cons (k.tup dk e) ih
theorem Ivs.get {H : Hp} {vs : List V} {ps : List (Int × Int)} (h : Ivs H vs ps) : ∀ {i : Nat} {v : V}, vs[i]? = some v → ∃ a x y, v = .ref a ∧ ps[i]? = some (x, y) ∧ H a = some (.tup [.int x, .int y]) := by
  induction h with
  | nil =>
    intro i v e
    simp at e
  | cons e _ ih =>
    intro i v q
    cases i with
    | zero =>
      cases q
      exact ⟨_, _, _, rfl, rfl, e⟩
    | succ i => exact ih q
theorem Ivs.snoc {H : Hp} {vs : List V} {ps : List (Int × Int)} {a : Addr} {x y : Int} (h : Ivs H vs ps) (e : H a = some (.tup [.int x, .int y])) : Ivs H (vs ++ [.ref a]) (ps ++ [(x, y)]) := by
  induction h with
  | nil => exact .cons e .nil
  | cons z _ ih => exact .cons z ih
def pairD (p : Int × Int) : PyData := .tuple [.int p.1, .int p.2]
theorem Ivs.dp {K : PySem.W.Frag} {H : Hp} {vs : List V} {ps : List (Int × Int)} (h : Ivs H vs ps) : DpAll K H vs (ps.map pairD) := by
  induction h with
  | nil => exact .nil
  | cons e _ ih => exact .cons (dp2 e) ih

/-! ### comprehensions that change nothing but make new objects -/
/-- the tuples stay -/
def Tps (H H' : Hp) : Prop := ∀ b xs, H b = some (.tup xs) → H' b = some (.tup xs)
theorem Tps.refl (H : Hp) : Tps H H := fun _ _ e => e
theorem Tps.trans {H H1 H2 : Hp} (h : Tps H H1) (h2 : Tps H1 H2) : Tps H H2 := fun b xs e => h2 b xs (h b xs e)
theorem Tps.same {H H1 : Hp} (h : Same H H1) : Tps H H1 := fun b xs e => h b _ e
theorem Kp.tps {d c : Addr} {n : Int} {H H' : Hp} (k : Kp d c H H') (dk : Dk H d c n) : Tps H H' := fun _ _ e => k.tup dk e
theorem Tps.lst {H : Hp} {D : Addr} {ws vs : List V} (e : H D = some (.lst ws)) : Tps H (upd H D (.lst vs)) := fun b xs h => by
  rw [upd_ne (ne_of h e (fun z => by cases z))]
  exact h
theorem same_off {H0 H : Hp} {D : Addr} {o : HO} (n : H0 D = none) (s : Same H0 H) : Same H0 (upd H D o) := fun b u e => by
  rw [upd_ne (ne_of_none e n)]
  exact s b u e
theorem few_line {n : Nat} (h : n < 1000) : n < sizeLine := by
  rw [show sizeLine = 16777216 by decide]
  omega
theorem lcL {K : PySem.W.Frag} {a : Addr} {xs : List V} {g : TG} {tt : TT} {te : TE} {vs : List Nat} {σ : L2.St} {H1 : Hp} {D : Addr} {Qd : Hp → Prop} (R : Nat → Hp → List V → Prop) (nD : H1 D = none) (hl : ∀ H', Same H1 H' → SqL K H' a xs) (few : xs.length < 1000)
    (mono : ∀ i H' H'' ws, Tps H' H'' → R i H' ws → R i H'' ws) (len : ∀ i H' ws, R i H' ws → ws.length ≤ i) (r0 : ∀ H', R 0 H' [])
    (hs : ∀ i x H' (N : Hp → Prop) acc, xs[i]? = some x → Same H1 H' → H' D = some (.lst acc) → acc.length < sizeLine → R i H' acc → (∀ H'', Same H' H'' → R (i + 1) H'' acc → N H'') → (∀ H'' y, Same H' H'' → R (i + 1) H'' (acc ++ [y]) → ∃ acc', H'' D = some (.lst acc') ∧ acc'.length < sizeLine ∧ N (upd H'' D (.lst (acc' ++ [y])))) →
      g x (wipe σ vs) H' fun σ2 H2 => wipe σ2 vs = wipe σ vs ∧ tt σ2 H2 fun b H3 => if b = true then te σ2 H3 fun y H4 => ∃ acc, H4 D = some (.lst acc) ∧ acc.length < sizeLine ∧ N (upd H4 D (.lst (acc ++ [y]))) else N H3)
    (hd : ∀ H' ws, Same H1 H' → H' D = some (.lst ws) → R xs.length H' ws → Qd H') :
    ∃ W : Nat → Nat → Hp → Prop, (∃ m, W 0 m (upd H1 D (.lst []))) ∧ ∀ i m H, W i m H →
      ((Itl K a).stop i H ∧ Qd H) ∨ ((Itl K a).go i H ∧ ∃ Nx : Hp → Prop, (∀ H', Nx H' → ∃ m', m' < m ∧ W (i + 1) m' H') ∧ ∀ x H', (Itl K a).yld i H x H' → g x (wipe σ vs) H' fun σ2 H2 => wipe σ2 vs = wipe σ vs ∧ tt σ2 H2 fun b H3 =>
        if b = true then te σ2 H3 fun y H4 => ∃ acc, H4 D = some (.lst acc) ∧ acc.length < sizeLine ∧ Nx (upd H4 D (.lst (acc ++ [y]))) else Nx H3) := by
  refine lc_list (K := K) (a := a) (xs := xs) (fun i H' => Same H1 H' ∧ ∃ ws, H' D = some (.lst ws) ∧ R i H' ws) ⟨same_new nD, [], upd_same, r0 _⟩ (fun i H' _ h => hl H' h.1) ?_ ?_
  · rintro i x H' hi ⟨sm, ws, eD, r⟩
    have lt := (List.getElem?_eq_some_iff.mp hi).1
    have lw := len i H' ws r
    have sz : ws.length < sizeLine := few_line (by omega)
    refine hs i x H' _ ws hi sm eD sz r (fun H'' s r2 => ⟨sm.trans s, ws, s _ _ eD, r2⟩) (fun H'' y s r2 => ?_)
    exact ⟨ws, s _ _ eD, sz, same_off nD (sm.trans s), _, upd_same, mono _ _ _ _ (Tps.lst (s _ _ eD)) r2⟩
  · rintro H' ⟨sm, ws, eD, r⟩
    exact hd H' ws sm eD r
theorem lcT {K : PySem.W.Frag} {a : Addr} {xs : List V} {g : TG} {tt : TT} {te : TE} {vs : List Nat} {σ : L2.St} {H1 : Hp} {D : Addr} {Qd : Hp → Prop} (R : Nat → Hp → List V → Prop) (nD : H1 D = none) (hl : ∀ H', Same H1 H' → SqT K H' a xs) (few : xs.length < 1000)
    (mono : ∀ i H' H'' ws, Tps H' H'' → R i H' ws → R i H'' ws) (len : ∀ i H' ws, R i H' ws → ws.length ≤ i) (r0 : ∀ H', R 0 H' [])
    (hs : ∀ i x H' (N : Hp → Prop) acc, xs[i]? = some x → Same H1 H' → H' D = some (.lst acc) → acc.length < sizeLine → R i H' acc → (∀ H'', Same H' H'' → R (i + 1) H'' acc → N H'') → (∀ H'' y, Same H' H'' → R (i + 1) H'' (acc ++ [y]) → ∃ acc', H'' D = some (.lst acc') ∧ acc'.length < sizeLine ∧ N (upd H'' D (.lst (acc' ++ [y])))) →
      g x (wipe σ vs) H' fun σ2 H2 => wipe σ2 vs = wipe σ vs ∧ tt σ2 H2 fun b H3 => if b = true then te σ2 H3 fun y H4 => ∃ acc, H4 D = some (.lst acc) ∧ acc.length < sizeLine ∧ N (upd H4 D (.lst (acc ++ [y]))) else N H3)
    (hd : ∀ H' ws, Same H1 H' → H' D = some (.lst ws) → R xs.length H' ws → Qd H') :
    ∃ W : Nat → Nat → Hp → Prop, (∃ m, W 0 m (upd H1 D (.lst []))) ∧ ∀ i m H, W i m H →
      ((Itt K a).stop i H ∧ Qd H) ∨ ((Itt K a).go i H ∧ ∃ Nx : Hp → Prop, (∀ H', Nx H' → ∃ m', m' < m ∧ W (i + 1) m' H') ∧ ∀ x H', (Itt K a).yld i H x H' → g x (wipe σ vs) H' fun σ2 H2 => wipe σ2 vs = wipe σ vs ∧ tt σ2 H2 fun b H3 =>
        if b = true then te σ2 H3 fun y H4 => ∃ acc, H4 D = some (.lst acc) ∧ acc.length < sizeLine ∧ Nx (upd H4 D (.lst (acc ++ [y]))) else Nx H3) := by
  refine lc_tup (K := K) (a := a) (xs := xs) (fun i H' => Same H1 H' ∧ ∃ ws, H' D = some (.lst ws) ∧ R i H' ws) ⟨same_new nD, [], upd_same, r0 _⟩ (fun i H' _ h => hl H' h.1) ?_ ?_
  · rintro i x H' hi ⟨sm, ws, eD, r⟩
    have lt := (List.getElem?_eq_some_iff.mp hi).1
    have lw := len i H' ws r
    have sz : ws.length < sizeLine := few_line (by omega)
    refine hs i x H' _ ws hi sm eD sz r (fun H'' s r2 => ⟨sm.trans s, ws, s _ _ eD, r2⟩) (fun H'' y s r2 => ?_)
    exact ⟨ws, s _ _ eD, sz, same_off nD (sm.trans s), _, upd_same, mono _ _ _ _ (Tps.lst (s _ _ eD)) r2⟩
  · rintro H' ⟨sm, ws, eD, r⟩
    exact hd H' ws sm eD r
theorem map_filter_len {α : Type} {ns : List α} {p : α → Bool} {f : α → V} (i : Nat) : (((ns.take i).filter p).map f).length ≤ i := by
  rw [List.length_map]
  exact Nat.le_trans (List.length_filter_le _ _) (List.length_take_le _ _)
theorem take_filter {α : Type} {ns : List α} {i : Nat} {n : α} {p : α → Bool} (h : ns[i]? = some n) : (ns.take (i + 1)).filter p = (ns.take i).filter p ++ (if p n = true then [n] else []) := by
  rw [List.take_add_one, h, List.filter_append]
  congr 1
  show List.filter p [n] = _
  rw [List.filter_cons]
  split <;> rfl
theorem nodup_le {α : Type} [DecidableEq α] : ∀ {l m : List α}, l.Nodup → (∀ x ∈ l, x ∈ m) → l.length ≤ m.length
  | [], _, _, _ => Nat.zero_le _
  | a :: l, m, h, hs => by
    have hm := hs a List.mem_cons_self
    have h' := List.nodup_cons.mp h
    have ih := nodup_le (l := l) (m := m.erase a) h'.2 (fun x hx => (List.mem_erase_of_ne (fun e => h'.1 (by rw [← e]; exact hx))).mpr (hs x (List.mem_cons_of_mem _ hx)))
    rw [List.length_erase_of_mem hm] at ih
    have := List.length_pos_of_mem hm
    rw [List.length_cons]
    omega

/-! ### demands, and rows of them -/
structure Dm (H : Hp) (v : V) (p lo hi : Int) : Prop where
  ex : ∃ u t, v = .ref u ∧ H u = some (.tup [.int p, .ref t]) ∧ H t = some (.tup [.int lo, .int hi])
  low : lo ≤ p
  high : p ≤ hi
theorem Dm.tps {H H' : Hp} (s : Tps H H') {v : V} {p lo hi : Int} (h : Dm H v p lo hi) : Dm H' v p lo hi := by
  obtain ⟨u, t, rfl, e1, e2⟩ := h.ex
  exact ⟨⟨u, t, rfl, s _ _ e1, s _ _ e2⟩, h.low, h.high⟩
theorem Dm.same {H H' : Hp} (s : Same H H') {v : V} {p lo hi : Int} (h : Dm H v p lo hi) : Dm H' v p lo hi := h.tps (Tps.same s)
inductive Dms (H : Hp) : List V → List (Int × Int × Int) → Prop
  | nil : Dms H [] []
  | cons {v : V} {p lo hi : Int} {vs : List V} {ds : List (Int × Int × Int)} : Dm H v p lo hi → Dms H vs ds → Dms H (v :: vs) ((p, lo, hi) :: ds)
theorem Dms.length {H : Hp} {vs : List V} {ds : List (Int × Int × Int)} (h : Dms H vs ds) : vs.length = ds.length := by
  induction h with
  | nil => rfl
  | cons _ _ ih => rw [List.length_cons, List.length_cons, ih]
theorem Dms.tps {H H' : Hp} (s : Tps H H') {vs : List V} {ds : List (Int × Int × Int)} (h : Dms H vs ds) : Dms H' vs ds := by
  induction h with
  | nil => exact .nil
  | cons e _ ih => exact .cons (e.tps s) ih
theorem Dms.same {H H' : Hp} (s : Same H H') {vs : List V} {ds : List (Int × Int × Int)} (h : Dms H vs ds) : Dms H' vs ds := h.tps (Tps.same s)
theorem Dms.get {H : Hp} {vs : List V} {ds : List (Int × Int × Int)} (h : Dms H vs ds) : ∀ {i : Nat} {v : V}, vs[i]? = some v → ∃ p lo hi, ds[i]? = some (p, lo, hi) ∧ Dm H v p lo hi := by
  induction h with
  | nil =>
    intro i v e
    simp at e
  | cons e _ ih =>
    intro i v q
    cases i with
    | zero =>
      cases q
      exact ⟨_, _, _, rfl, e⟩
    | succ i => exact ih q
theorem Dms.append {H : Hp} {vs us : List V} {ds es : List (Int × Int × Int)} (h : Dms H vs ds) (h2 : Dms H us es) : Dms H (vs ++ us) (ds ++ es) := by
  induction h with
  | nil => exact h2
  | cons e _ ih => exact .cons e ih
theorem Dms.snoc {H : Hp} {vs : List V} {ds : List (Int × Int × Int)} {v : V} {p lo hi : Int} (h : Dms H vs ds) (e : Dm H v p lo hi) : Dms H (vs ++ [v]) (ds ++ [(p, lo, hi)]) := h.append (.cons e .nil)
theorem Dms.take {H : Hp} {vs : List V} {ds : List (Int × Int × Int)} (h : Dms H vs ds) : ∀ n : Nat, Dms H (vs.take n) (ds.take n) := by
  induction h with
  | nil =>
    intro n
    rw [List.take_nil, List.take_nil]
    exact .nil
  | cons e _ ih =>
    intro n
    cases n with
    | zero => exact .nil
    | succ n => exact .cons e (ih n)
theorem Dms.reverse {H : Hp} {vs : List V} {ds : List (Int × Int × Int)} (h : Dms H vs ds) : Dms H vs.reverse ds.reverse := by
  induction h with
  | nil => exact .nil
  | cons e _ ih =>
    rw [List.reverse_cons, List.reverse_cons]
    exact ih.snoc e
theorem Dms.isEmpty {H : Hp} {vs : List V} {ds : List (Int × Int × Int)} (h : Dms H vs ds) : vs.isEmpty = ds.isEmpty := by
  cases h <;> rfl
theorem Dms.ok {H : Hp} {vs : List V} {ds : List (Int × Int × Int)} (h : Dms H vs ds) : ∀ q ∈ ds, q.2.1 ≤ q.1 ∧ q.1 ≤ q.2.2 := by
  induction h with
  | nil =>
    intro q hq
    cases hq
  | cons e _ ih =>
    intro q hq
    rcases List.mem_cons.mp hq with rfl | hq
    · exact ⟨e.low, e.high⟩
    · exact ih q hq
/-! ### comprehensions over a range that draw -/
theorem lcK {d c : Addr} {n0 per : Int} {lo : Int} {n : Nat} {g : TG} {tt : TT} {te : TE} {vs : List Nat} {σ : L2.St} {H1 : Hp} {D : Addr} {Qd : Hp → Prop} (R : Nat → Hp → List V → Prop) (nD : H1 D = none) (dk : Dk H1 d c n0) (few : n < 1000)
    (mono : ∀ i H' H'' ws, Tps H' H'' → R i H' ws → R i H'' ws) (len : ∀ i H' ws, R i H' ws → ws.length ≤ i) (r0 : ∀ H', R 0 H' [])
    (hs : ∀ i H' (N : Hp → Prop) acc, i < n → Kp d c H1 H' → Dk H' d c (n0 + per * i) → H' D = some (.lst acc) → R i H' acc → (∀ H'' y, Kp d c H' H'' → Dk H'' d c (n0 + per * i + per) → R (i + 1) H'' (acc ++ [y]) → ∃ acc', H'' D = some (.lst acc') ∧ acc'.length < sizeLine ∧ N (upd H'' D (.lst (acc' ++ [y])))) →
      g (.int (lo + i)) (wipe σ vs) H' fun σ2 H2 => wipe σ2 vs = wipe σ vs ∧ tt σ2 H2 fun b H3 => if b = true then te σ2 H3 fun y H4 => ∃ acc, H4 D = some (.lst acc) ∧ acc.length < sizeLine ∧ N (upd H4 D (.lst (acc ++ [y]))) else N H3)
    (hd : ∀ H' ws, Kp d c H1 H' → Dk H' d c (n0 + per * n) → H' D = some (.lst ws) → R n H' ws → Qd H') :
    ∃ W : Nat → Nat → Hp → Prop, (∃ m, W 0 m (upd H1 D (.lst []))) ∧ ∀ i m H, W i m H →
      ((Itr lo n).stop i H ∧ Qd H) ∨ ((Itr lo n).go i H ∧ ∃ Nx : Hp → Prop, (∀ H', Nx H' → ∃ m', m' < m ∧ W (i + 1) m' H') ∧ ∀ x H', (Itr lo n).yld i H x H' → g x (wipe σ vs) H' fun σ2 H2 => wipe σ2 vs = wipe σ vs ∧ tt σ2 H2 fun b H3 =>
        if b = true then te σ2 H3 fun y H4 => ∃ acc, H4 D = some (.lst acc) ∧ acc.length < sizeLine ∧ Nx (upd H4 D (.lst (acc ++ [y]))) else Nx H3) := by
  have off := dk.off nD
  refine lc_range (lo := lo) (n := n) (fun i H' => Kp d c H1 H' ∧ Dk H' d c (n0 + per * i) ∧ ∃ ws, H' D = some (.lst ws) ∧ R i H' ws) ⟨Kp.same (same_new nD), (dk.upd off).eq (by simp), [], upd_same, r0 _⟩ ?_ ?_
  · rintro i H' hi ⟨kp, dk', ws, eD, r⟩
    have lw := len i H' ws r
    have sz : ws.length < sizeLine := few_line (by omega)
    refine hs i H' _ ws hi kp dk' eD r (fun H'' y kp2 dk2 r2 => ?_)
    have eD2 := kp2.keep off eD
    refine ⟨ws, eD2, sz, fun b o n1 n2 e => ?_, (dk2.upd off).eq ?_, _, upd_same, mono _ _ _ _ (Tps.lst eD2) r2⟩
    · rw [upd_ne (ne_of_none e nD)]
      exact kp2 b o n1 n2 (kp b o n1 n2 e)
    · rw [Int.natCast_succ, Int.mul_add, Int.mul_one]
      omega
  · rintro H' ⟨kp, dk', ws, eD, r⟩
    exact hd H' ws kp dk' eD r

/-! ### the program: contains, has_position, serves -/
def inI (x y u v : Int) : Bool := decide (x ≤ u) && decide (v ≤ y)
def atP (x y p : Int) : Bool := decide (x ≤ p) && decide (p ≤ y)
def sp_contains : Sp := fun vs H Q _ => ∃ (a b : Addr) (x y u v : Int), vs = [.ref a, .ref b] ∧ H a = some (.tup [.int x, .int y]) ∧ H b = some (.tup [.int u, .int v]) ∧ Q (.bl (inI x y u v)) H
theorem ok_contains (T : Tx K mg f_has_position f_contains f_serves f_conflict f_joint_piece f_law_deck f_law_draw f_law_line f_law_interval f_law_demand f_law_every f_law_all_conflict f_law_around f_law_right f_law d_has_position d_contains d_serves d_conflict d_joint_piece d_law_deck d_law_draw d_law_line d_law_interval d_law_demand d_law_every d_law_all_conflict d_law_around d_law_right d_law) : FnOk P w K mg base CX0 1 f_contains d_contains ["outer", "inner"] sp_contains := by
  refine T.F_contains.ok sc_contains (fun vs H Q E h => ?_) (fun cdv A outer s H vs Q E hr h => ?_)
  · obtain ⟨a, b, x, y, u, v, rfl, _⟩ := h
    rfl
  · obtain ⟨a, b, x, y, u, v, rfl, ha, hb, q⟩ := h
    refine ⟨_, (pss_one (ps_ret (pe_and (pe_cmpR op_le (pe_ix ix_tup (pv 0) pe_int (fun _ _ => rfl)) (pe_ix ix_tup (pv 1) pe_int (fun _ _ => rfl)) (nomark _)) (pe_one (pe_cmpR op_le (pe_ix ix_tup (pv 1) pe_int (fun _ _ => rfl)) (pe_ix ix_tup (pv 0) pe_int (fun _ _ => rfl)) (nomark _)))))), ?_⟩
    unfold inI at q
    refine ⟨.ref a, rfl, a, _, 0, .int x, rfl, rfl, SqT.of ha, rfl, .ref b, rfl, b, _, 0, .int u, rfl, rfl, SqT.of hb, rfl, _, _, rfl, rfl, _, rfl, ite2 (fun e => ?_) (fun e => ?_)⟩
    · refine ⟨.ref b, rfl, b, _, 1, .int v, rfl, rfl, SqT.of hb, rfl, .ref a, rfl, a, _, 1, .int y, rfl, rfl, SqT.of ha, rfl, _, _, rfl, rfl, ?_⟩
      rw [e] at q
      exact q
    · rw [Bool.not_eq_true] at e
      rw [e] at q
      exact q
def sp_has_position : Sp := fun vs H Q _ => ∃ (a : Addr) (x y p : Int), vs = [.ref a, .int p] ∧ H a = some (.tup [.int x, .int y]) ∧ Q (.bl (atP x y p)) H
theorem ok_has_position (T : Tx K mg f_has_position f_contains f_serves f_conflict f_joint_piece f_law_deck f_law_draw f_law_line f_law_interval f_law_demand f_law_every f_law_all_conflict f_law_around f_law_right f_law d_has_position d_contains d_serves d_conflict d_joint_piece d_law_deck d_law_draw d_law_line d_law_interval d_law_demand d_law_every d_law_all_conflict d_law_around d_law_right d_law) : FnOk P w K mg base CX0 1 f_has_position d_has_position ["interval", "position"] sp_has_position := by
  refine T.F_has_position.ok sc_has_position (fun vs H Q E h => ?_) (fun cdv A outer s H vs Q E hr h => ?_)
  · obtain ⟨a, x, y, p, rfl, _⟩ := h
    rfl
  · obtain ⟨a, x, y, p, rfl, ha, q⟩ := h
    refine ⟨_, (pss_one (ps_ret (pe_chain op_le op_le (pe_ix ix_tup (pv 0) pe_int (fun _ _ => rfl)) (pv 1) (pe_ix ix_tup (pv 0) pe_int (fun _ _ => rfl))))), ?_⟩
    unfold atP at q
    refine ⟨.ref a, rfl, a, _, 0, .int x, rfl, rfl, SqT.of ha, rfl, .int p, rfl, _, _, rfl, rfl, _, rfl, ite2 (fun e => ?_) (fun e => ?_)⟩
    · refine ⟨.ref a, rfl, a, _, 1, .int y, rfl, rfl, SqT.of ha, rfl, _, _, rfl, rfl, ?_⟩
      rw [e] at q
      exact q
    · rw [Bool.not_eq_true] at e
      rw [e] at q
      exact q
def svI (x y p lo hi : Int) : Bool := inI lo hi x y && atP x y p
def sp_serves : Sp := fun vs H Q _ => ∃ (a u t : Addr) (x y p lo hi : Int), vs = [.ref a, .ref u] ∧ H a = some (.tup [.int x, .int y]) ∧ H u = some (.tup [.int p, .ref t]) ∧ H t = some (.tup [.int lo, .int hi]) ∧ Q (.bl (svI x y p lo hi)) H
theorem ok_serves (T : Tx K mg f_has_position f_contains f_serves f_conflict f_joint_piece f_law_deck f_law_draw f_law_line f_law_interval f_law_demand f_law_every f_law_all_conflict f_law_around f_law_right f_law d_has_position d_contains d_serves d_conflict d_joint_piece d_law_deck d_law_draw d_law_line d_law_interval d_law_demand d_law_every d_law_all_conflict d_law_around d_law_right d_law) : FnOk P w K mg base CX0 2 f_serves d_serves ["piece", "demand"] sp_serves := by
  refine T.F_serves.ok sc_serves (fun vs H Q E h => ?_) (fun cdv A outer s H vs Q E hr h => ?_)
  · obtain ⟨a, u, t, x, y, p, lo, hi, rfl, _⟩ := h
    rfl
  · obtain ⟨a, u, t, x, y, p, lo, hi, rfl, ha, hu, ht, q⟩ := h
    refine ⟨_, (pss_cons (ps_asg (pv 1) (pg_tup rfl (pgs_cons (pg_name (i := 2) sc_serves.nd rfl (Or.inl rfl)) (pgs_cons (pg_name (i := 3) sc_serves.nd rfl (Or.inl rfl)) pgs_nil))))
      (pss_one (ps_ret (pe_and (pe_call (ok_contains T) (hr.mono (by decide)) (by rfl) T.g_contains T.F_contains.kp T.b_contains .nil pass0 (pa_cons (pv 3) (pa_cons (pv 0) pa_nil))) (pe_one (pe_call (ok_has_position T) (hr.mono (by decide)) (by rfl) T.g_has_position T.F_has_position.kp T.b_has_position .nil pass0 (pa_cons (pv 0) (pa_cons (pv 2) pa_nil)))))))), ?_⟩
    unfold svI at q
    refine ⟨.ref u, rfl, u, _, rfl, SqT.of hu, rfl, .int p, [.ref t], rfl, .ref t, [], rfl, rfl, ?_⟩
    refine ⟨.ref t, rfl, .ref a, rfl, t, a, lo, hi, x, y, rfl, ht, ha, _, rfl, ite2 (fun e => ?_) (fun e => ?_)⟩
    · refine ⟨.ref a, rfl, .int p, rfl, a, x, y, p, rfl, ha, ?_⟩
      rw [e] at q
      exact q
    · rw [Bool.not_eq_true] at e
      rw [e] at q
      exact q

/-! ### joint_piece -/
def allSv (m M : Int) (ds : List (Int × Int × Int)) : Bool := ds.all fun q => svI m M q.1 q.2.1 q.2.2
def posL (ds : List (Int × Int × Int)) : List Int := ds.map (·.1)
structure Ends2 (ds : List (Int × Int × Int)) (m M : Int) : Prop where
  m1 : m ∈ posL ds
  m2 : ∀ y ∈ posL ds, m ≤ y
  M1 : M ∈ posL ds
  M2 : ∀ y ∈ posL ds, y ≤ M
def sp_joint_piece : Sp := fun vs H Q _ => ∃ (a : Addr) (us : List V) (ds : List (Int × Int × Int)), vs = [.ref a] ∧ H a = some (.tup us) ∧ Dms H us ds ∧ 0 < ds.length ∧ ds.length ≤ 60 ∧
  ∀ H' r m M, Ends2 ds m M → Same H H' → OV H' r (if allSv m M ds = true then some (m, M) else none) → Q r H'
theorem posL_snoc (ds : List (Int × Int × Int)) (q : Int × Int × Int) : posL (ds ++ [q]) = posL ds ++ [q.1] := by
  unfold posL
  rw [List.map_append]
  rfl
theorem ok_joint_piece (T : Tx K mg f_has_position f_contains f_serves f_conflict f_joint_piece f_law_deck f_law_draw f_law_line f_law_interval f_law_demand f_law_every f_law_all_conflict f_law_around f_law_right f_law d_has_position d_contains d_serves d_conflict d_joint_piece d_law_deck d_law_draw d_law_line d_law_interval d_law_demand d_law_every d_law_all_conflict d_law_around d_law_right d_law) : FnOk P w K mg base CX0 3 f_joint_piece d_joint_piece ["demands"] sp_joint_piece := by
  refine T.F_joint_piece.ok sc_joint_piece (fun vs H Q E h => ?_) (fun cdv A outer s H vs Q E hr h => ?_)
  · obtain ⟨a, us, ds, rfl, _⟩ := h
    rfl
  · obtain ⟨a, us, ds, rfl, ha, dm, l0, l1, q⟩ := h
    have lu := dm.length
    refine ⟨_, (pss_cons (ps_setLc (i := 1) (own := [("position", 2), ("target", 3)]) (g := (gTup K 2 (gCons (gName 2) (gCons (gName 3) gNil)))) (tt := tYes) (by rfl) sc_joint_piece.nd rfl rfl (sw_true rfl rfl rfl (by decide +kernel)) (pi_tup (pv 0)) (blkOk_by (own := [("position", 2), ("target", 3)]) (N := N_joint_piece) (sc := defScope s_joint_piece) (by decide +kernel)) (fun _ _ _ _ _ => (pg_tup rfl (pgs_cons (pg_name (i := 2) sc_joint_piece.nd rfl (Or.inl rfl)) (pgs_cons (pg_name (i := 3) sc_joint_piece.nd rfl (Or.inl rfl)) pgs_nil)))) (fun _ _ _ _ _ => pts_nil) (fun _ _ _ _ _ => (pv 2)))
      (pss_cons (ps_set (i := 4) sc_joint_piece.nd rfl (Or.inr rfl) (pe_tup (pa_cons (pe_callB (cr_min rfl) (by rfl) T.z_min (by decide +kernel) (pa_cons (pv 1) pa_nil)) (pa_cons (pe_callB (cr_max rfl) (by rfl) T.z_max (by decide +kernel) (pa_cons (pv 1) pa_nil)) pa_nil))))
      (pss_one (ps_ret (pe_ifExp (pt_val (pe_callB (cr_all rfl) (by rfl) T.z_all (by decide +kernel) (pa_cons (pe_lc (own := [("demand", 5)]) (g := (gName 5)) (tt := tYes) (by rfl) sc_joint_piece.nd (pi_tup (pv 0)) (blkOk_by (own := [("demand", 5)]) (N := N_joint_piece) (sc := defScope s_joint_piece) (by decide +kernel)) (fun _ _ _ _ _ => (pg_name (i := 5) sc_joint_piece.nd rfl (Or.inl rfl))) (fun _ _ _ _ _ => pts_nil) (fun _ _ _ _ _ => (pe_call (ok_serves T) (hr.mono (by decide)) (by rfl) T.g_serves T.F_serves.kp T.b_serves .nil pass0 (pa_cons (pv 4) (pa_cons (pv 5) pa_nil))))) pa_nil))) (pv 4) pe_non))))), ?_⟩
    refine ⟨.ref a, rfl, a, rfl, ⟨_, SqT.of ha⟩, fun D nD => ?_⟩
    refine lcT (K := K) (a := a) (xs := us) (fun i H' ws => ws = (posL (ds.take i)).map V.int) nD (fun H' s => SqT.of (s _ _ ha)) (by omega) (fun _ _ _ _ _ r => r) (fun i H' ws r => ?_) (fun _ => rfl) ?_ ?_
    · rw [r, List.length_map]
      unfold posL
      rw [List.length_map]
      exact List.length_take_le _ _
    · rintro i x H' N acc hi sm eD sz r no yes
      obtain ⟨p, lo, hi2, ed, dmx⟩ := dm.get hi
      obtain ⟨u, t, rfl, e1, e2⟩ := (dmx.same sm).ex
      refine ⟨u, _, rfl, SqT.of e1, rfl, .int p, [.ref t], rfl, .ref t, [], rfl, rfl, rfl, .int p, rfl, yes H' _ (Same.refl _) ?_⟩
      rw [r, List.take_add_one, ed]
      show _ = (posL (ds.take i ++ [(p, lo, hi2)])).map V.int
      rw [posL_snoc, List.map_append]
      rfl
    · intro H1 ws s1 eD r
      rw [lu, List.take_length] at r
      subst r
      have pl : (posL ds).length = ds.length := by
        unfold posL
        rw [List.length_map]
      refine ⟨.ref D, rfl, D, posL ds, rfl, SqL.of eD, by omega, fun m m1 m2 => ?_⟩
      refine ⟨.ref D, rfl, D, posL ds, rfl, SqL.of eD, by omega, fun M M1 M2 => ?_⟩
      refine ⟨by show 2 ≤ sizeLine; decide, fun pc npc => ?_⟩
      have s2 := same_new (o := .tup [.int m, .int M]) npc
      have ep := upd_same (H := H1) (a := pc) (o := .tup [.int m, .int M])
      generalize upd H1 pc (.tup [.int m, .int M]) = H2 at *
      have s12 := s1.trans s2
      refine ⟨.ref a, rfl, a, rfl, ⟨_, SqT.of (s12 _ _ ha)⟩, fun D2 nD2 => ?_⟩
      refine lcT (K := K) (a := a) (xs := us) (fun i H' ws => ws = ((ds.take i).map fun q => svI m M q.1 q.2.1 q.2.2).map V.bl) nD2 (fun H' s => SqT.of (s _ _ (s12 _ _ ha))) (by omega) (fun _ _ _ _ _ r => r) (fun i H' ws r => ?_) (fun _ => rfl) ?_ ?_
      · rw [r, List.length_map, List.length_map]
        exact List.length_take_le _ _
      · rintro i x H' N acc hi sm eD sz r no yes
        obtain ⟨p, lo, hi2, ed, dmx⟩ := dm.get hi
        obtain ⟨u, t, rfl, e1, e2⟩ := (dmx.same (s12.trans sm)).ex
        refine ⟨rfl, .ref pc, rfl, .ref u, rfl, pc, u, t, m, M, p, lo, hi2, rfl, sm _ _ ep, e1, e2, yes H' _ (Same.refl _) ?_⟩
        rw [r, List.take_add_one, ed, List.map_append, List.map_append]
        rfl
      · intro H3 ws s3 eD2 r
        rw [lu, List.take_length] at r
        subst r
        refine ⟨D2, _, rfl, SqL.of eD2, ?_⟩
        have ea : ((ds.map fun q => svI m M q.1 q.2.1 q.2.2).all id) = allSv m M ds := by
          unfold allSv
          rw [List.all_map]
          rfl
        rw [ea]
        have q := fun r => q H3 r m M ⟨m1, m2, M1, M2⟩ (s12.trans s3)
        refine ⟨_, rfl, ite2 (fun e => ?_) (fun e => ?_)⟩
        · refine ⟨.ref pc, rfl, q _ ?_⟩
          rw [if_pos e]
          exact ⟨pc, rfl, s3 _ _ ep⟩
        · refine q _ ?_
          rw [if_neg e]
          rfl

theorem Ivs.tps {H H' : Hp} (s : Tps H H') {vs : List V} {ps : List (Int × Int)} (h : Ivs H vs ps) : Ivs H' vs ps := by
  induction h with
  | nil => exact .nil
  | cons e _ ih => exact .cons (s _ _ e) ih
theorem Ivs.append {H : Hp} {vs us : List V} {ps qs : List (Int × Int)} (h : Ivs H vs ps) (h2 : Ivs H us qs) : Ivs H (vs ++ us) (ps ++ qs) := by
  induction h with
  | nil => exact h2
  | cons e _ ih => exact .cons e ih
theorem Ivs.isEmpty {H : Hp} {vs : List V} {ps : List (Int × Int)} (h : Ivs H vs ps) : vs.isEmpty = ps.isEmpty := by
  cases h <;> rfl

def evR (ns : List Int) (a : Int) : List (Int × Int) := (ns.filter fun b => decide (a ≤ b)).map fun b => (a, b)
def evI (ns ms : List Int) : List (Int × Int) := ms.flatMap (evR ns)
theorem evI_snoc (ns ms : List Int) (a : Int) : evI ns (ms ++ [a]) = evI ns ms ++ evR ns a := by
  unfold evI
  rw [List.flatMap_append, List.flatMap_singleton]
theorem mem_evI {ns ms : List Int} {q : Int × Int} : q ∈ evI ns ms ↔ q.1 ∈ ms ∧ q.2 ∈ ns ∧ q.1 ≤ q.2 := by
  unfold evI evR
  rw [List.mem_flatMap]
  constructor
  · rintro ⟨a, ha, h⟩
    obtain ⟨b, hb, rfl⟩ := List.mem_map.mp h
    have z := List.mem_filter.mp hb
    exact ⟨ha, z.1, of_decide_eq_true z.2⟩
  · rintro ⟨h1, h2, h3⟩
    exact ⟨q.1, h1, List.mem_map.mpr ⟨q.2, List.mem_filter.mpr ⟨h2, decide_eq_true h3⟩, rfl⟩⟩
theorem evR_len (ns : List Int) (a : Int) : (evR ns a).length ≤ ns.length := by
  unfold evR
  rw [List.length_map]
  exact List.length_filter_le _ _
theorem evI_len (ns : List Int) : ∀ ms : List Int, (evI ns ms).length ≤ ms.length * ns.length
  | [] => by simp [evI]
  | a :: ms => by
    have h1 := evI_len ns ms
    have h2 := evR_len ns a
    show (evR ns a ++ evI ns ms).length ≤ _
    rw [List.length_append, List.length_cons, Nat.add_mul]
    omega
def sp_law_every : Sp := fun vs H Q _ => ∃ (l : Addr) (ns : List Int), vs = [.ref l] ∧ H l = some (.lst (ns.map V.int)) ∧ ns.length ≤ 20 ∧
  ∀ H' p ws, Same H H' → H p = none → H' p = some (.lst ws) → Ivs H' ws (evI ns ns) → Q (.ref p) H'
theorem ok_law_every (T : Tx K mg f_has_position f_contains f_serves f_conflict f_joint_piece f_law_deck f_law_draw f_law_line f_law_interval f_law_demand f_law_every f_law_all_conflict f_law_around f_law_right f_law d_has_position d_contains d_serves d_conflict d_joint_piece d_law_deck d_law_draw d_law_line d_law_interval d_law_demand d_law_every d_law_all_conflict d_law_around d_law_right d_law) : FnOk P w K mg base CX0 1 f_law_every d_law_every ["_law_line_here"] sp_law_every := by
  refine T.F_law_every.ok sc_law_every (fun vs H Q E h => ?_) (fun cdv A outer s H vs Q E hr h => ?_)
  · obtain ⟨l, ns, rfl, _⟩ := h
    rfl
  · obtain ⟨l, ns, rfl, el, few, q⟩ := h
    refine ⟨_, (pss_cons (ps_set (i := 1) sc_law_every.nd rfl (Or.inl rfl) (pe_lst pa_nil))
      (pss_cons (ps_for PassesOwn.never rfl (pi_list (pv 0)) (pg_name (i := 2) sc_law_every.nd rfl (Or.inr rfl))
      (pss_one (ps_set (i := 1) sc_law_every.nd rfl (Or.inl rfl) (pe_op op_cat (pv 1) (pe_lc (own := [("_law_end", 3)]) (g := (gName 3)) (by rfl) sc_law_every.nd (pi_list (pv 0)) (blkOk_by (own := [("_law_end", 3)]) (N := N_law_every) (sc := defScope s_law_every) (by decide +kernel)) (fun _ _ _ _ _ => (pg_name (i := 3) sc_law_every.nd rfl (Or.inl rfl))) (fun _ _ _ _ _ => pts_one (pt_cmpR op_ge (pv 3) (pv 2) (nomark _))) (fun _ _ _ _ _ => (pe_tup (pa_cons (pv 2) (pa_cons (pv 3) pa_nil)))))))))
      (pss_one (ps_ret (pv 1))))), ?_⟩
    refine ⟨by show 0 ≤ sizeLine; decide, fun p0 np0 => ?_⟩
    have s0 := same_new (o := .lst []) np0
    refine ⟨.ref l, rfl, l, rfl, ⟨_, SqL.of (s0 _ _ el)⟩, for_list (K := K) (a := l) (xs := ns.map V.int) (fun i σ H' => Same H H' ∧ ∃ p ws y2 y3, H p = none ∧ H' p = some (.lst ws) ∧ Ivs H' ws (evI ns (ns.take i)) ∧ σ = [some (.ref l), some (.ref p), y2, y3])
      ⟨s0, p0, [], _, _, np0, upd_same, .nil, rfl⟩ (fun i σ H' _ h => SqL.of (h.1 _ _ el)) ?_ ?_⟩
    · rintro i x σ H1 hi ⟨sm, p, ws, y2, y3, np, ep, iv, rfl⟩
      rw [List.getElem?_map] at hi
      obtain ⟨a, ea, rfl⟩ := Option.map_eq_some_iff.mp hi
      have il := (List.getElem?_eq_some_iff.mp ea).1
      have lw := iv.length
      have lw2 := evI_len ns (ns.take i)
      have lw3 := List.length_take_le i ns
      have lw4 : (ns.take i).length * ns.length ≤ 20 * 20 := Nat.mul_le_mul (by omega) few
      refine ⟨.ref p, rfl, .ref l, rfl, l, rfl, ⟨_, SqL.of (sm _ _ el)⟩, fun D nD => ?_⟩
      refine lcL (K := K) (a := l) (xs := ns.map V.int) (fun j H' us => Ivs H' us (((ns.take j).filter fun b => decide (a ≤ b)).map fun b => (a, b))) nD (fun H' s => SqL.of (s _ _ (sm _ _ el))) (by rw [List.length_map]; omega) (fun _ _ _ _ t r => r.tps t) (fun j H' us r => ?_) (fun _ => .nil) ?_ ?_
      · rw [r.length, List.length_map]
        exact Nat.le_trans (List.length_filter_le _ _) (List.length_take_le _ _)
      · rintro j z H' N acc hj sj eD sz r no yes
        rw [List.getElem?_map] at hj
        obtain ⟨b, eb, rfl⟩ := Option.map_eq_some_iff.mp hj
        refine ⟨rfl, .int b, rfl, .int a, rfl, _, _, rfl, rfl, _, rfl, ite2 (fun e => ?_) (fun e => ?_)⟩
        · refine ⟨.int a, rfl, .int b, rfl, by show 2 ≤ sizeLine; decide, fun t nt => yes _ _ (same_new nt) ?_⟩
          rw [take_filter eb, if_pos e, List.map_append]
          exact (r.same (same_new nt)).snoc upd_same
        · refine no H' (Same.refl _) ?_
          rw [take_filter eb, if_neg e, List.append_nil]
          exact r
      · intro H2 us s2 eD r
        rw [List.length_map, List.take_length] at r
        have lu := r.length
        have lu2 := evR_len ns a
        have er : ((ns.filter fun b => decide (a ≤ b)).map fun b => (a, b)) = evR ns a := rfl
        rw [er] at r lu
        refine ⟨p, D, ws, us, rfl, rfl, s2 _ _ ep, eD, by rw [show sizeLine = 16777216 by decide]; omega, fun g ng => ?_⟩
        have s3 := same_new (o := .lst (ws ++ us)) ng
        refine ⟨sm.trans (s2.trans s3), g, ws ++ us, _, _, (sm.trans s2).free ng, upd_same, ?_, rfl⟩
        rw [List.take_add_one, ea]
        show Ivs _ _ (evI ns (ns.take i ++ [a]))
        rw [evI_snoc]
        exact ((iv.same s2).append r).same s3
    · rintro σ H1 ⟨sm, p, ws, y2, y3, np, ep, iv, rfl⟩
      rw [List.length_map, List.take_length] at iv
      exact ⟨.ref p, rfl, q H1 p ws sm np ep iv⟩

theorem slA_any {K : PySem.W.Frag} {H : Hp} {a : Addr} {xs : List V} {lo hi : Option Int} {Q : VK} (h1 : H a = some (.tup xs)) (k : ∀ H' p, Same H H' → H' p = some (.tup (cutV xs lo hi)) → Q (.ref p) H') : rSlA K (.ref a) lo hi H Q := by
  refine ⟨a, xs, rfl, SqT.of h1, fun e => k H a (Same.refl _) ?_, fun _ p np => k _ p (same_new np) upd_same⟩
  have e2 : cutV xs lo hi = xs := by
    unfold cutV
    rw [e.1, e.2]
    simp
  rw [e2]
  exact h1

def cfI (p1 lo1 hi1 p2 lo2 hi2 : Int) : Bool := atP lo2 hi2 p1 && atP lo1 hi1 p2
def sp_conflict : Sp := fun vs H Q _ => ∃ (v1 v2 : V) (p1 lo1 hi1 p2 lo2 hi2 : Int), vs = [v1, v2] ∧ Dm H v1 p1 lo1 hi1 ∧ Dm H v2 p2 lo2 hi2 ∧ Q (.bl (cfI p1 lo1 hi1 p2 lo2 hi2)) H
theorem ok_conflict (T : Tx K mg f_has_position f_contains f_serves f_conflict f_joint_piece f_law_deck f_law_draw f_law_line f_law_interval f_law_demand f_law_every f_law_all_conflict f_law_around f_law_right f_law d_has_position d_contains d_serves d_conflict d_joint_piece d_law_deck d_law_draw d_law_line d_law_interval d_law_demand d_law_every d_law_all_conflict d_law_around d_law_right d_law) : FnOk P w K mg base CX0 2 f_conflict d_conflict ["first", "second"] sp_conflict := by
  refine T.F_conflict.ok sc_conflict (fun vs H Q E h => ?_) (fun cdv A outer s H vs Q E hr h => ?_)
  · obtain ⟨v1, v2, p1, lo1, hi1, p2, lo2, hi2, rfl, _⟩ := h
    rfl
  · obtain ⟨v1, v2, p1, lo1, hi1, p2, lo2, hi2, rfl, h1, h2, q⟩ := h
    obtain ⟨u1, t1, rfl, e1, f1⟩ := h1.ex
    obtain ⟨u2, t2, rfl, e2, f2⟩ := h2.ex
    refine ⟨_, (pss_one (ps_ret (pe_and (pe_call (ok_has_position T) (hr.mono (by decide)) (by rfl) T.g_has_position T.F_has_position.kp T.b_has_position .nil pass0 (pa_cons (pe_ix ix_tup (pv 1) pe_int (fun _ _ => rfl)) (pa_cons (pe_ix ix_tup (pv 0) pe_int (fun _ _ => rfl)) pa_nil))) (pe_one (pe_call (ok_has_position T) (hr.mono (by decide)) (by rfl) T.g_has_position T.F_has_position.kp T.b_has_position .nil pass0 (pa_cons (pe_ix ix_tup (pv 0) pe_int (fun _ _ => rfl)) (pa_cons (pe_ix ix_tup (pv 1) pe_int (fun _ _ => rfl)) pa_nil))))))), ?_⟩
    unfold cfI at q
    refine ⟨.ref u2, rfl, u2, _, 1, .ref t2, rfl, rfl, SqT.of e2, rfl, .ref u1, rfl, u1, _, 0, .int p1, rfl, rfl, SqT.of e1, rfl, t2, lo2, hi2, p1, rfl, f2, _, rfl, ite2 (fun e => ?_) (fun e => ?_)⟩
    · refine ⟨.ref u1, rfl, u1, _, 1, .ref t1, rfl, rfl, SqT.of e1, rfl, .ref u2, rfl, u2, _, 0, .int p2, rfl, rfl, SqT.of e2, rfl, t1, lo1, hi1, p2, rfl, f1, ?_⟩
      rw [e] at q
      exact q
    · rw [Bool.not_eq_true] at e
      rw [e] at q
      exact q
abbrev Dq := Int × Int × Int
def cfQ (a b : Dq) : Bool := cfI a.1 a.2.1 a.2.2 b.1 b.2.1 b.2.2
def PwC (ds : List Dq) : Prop := ds.Pairwise fun a b => cfQ a b = true
theorem cfQ_comm (a b : Dq) : cfQ a b = cfQ b a := by
  unfold cfQ cfI
  rw [Bool.and_comm]
theorem PwC.any {ds : List Dq} (h : PwC ds) (ok : ∀ q ∈ ds, q.2.1 ≤ q.1 ∧ q.1 ≤ q.2.2) : ∀ a ∈ ds, ∀ b ∈ ds, cfQ a b = true := by
  induction ds with
  | nil =>
    intro a ha
    cases ha
  | cons x r ih =>
    have p := List.pairwise_cons.mp h
    have ih' := ih p.2 (fun q hq => ok q (List.mem_cons_of_mem _ hq))
    intro a ha b hb
    rcases List.mem_cons.mp ha with rfl | ha'
    · rcases List.mem_cons.mp hb with rfl | hb'
      · have z := ok b List.mem_cons_self
        unfold cfQ cfI atP
        rw [decide_eq_true z.1, decide_eq_true z.2]
        rfl
      · exact p.1 b hb'
    · rcases List.mem_cons.mp hb with rfl | hb'
      · rw [cfQ_comm]
        exact p.1 a ha'
      · exact ih' a ha' b hb'
theorem sv_of {m M : Int} {ds : List Dq} : allSv m M ds = true ↔ ∀ q ∈ ds, (q.2.1 ≤ m ∧ M ≤ q.2.2) ∧ m ≤ q.1 ∧ q.1 ≤ M := by
  unfold allSv svI inI atP
  rw [List.all_eq_true]
  simp only [Bool.and_eq_true, decide_eq_true_eq]
theorem cf_of {a b : Dq} : cfQ a b = true ↔ (b.2.1 ≤ a.1 ∧ a.1 ≤ b.2.2) ∧ a.2.1 ≤ b.1 ∧ b.1 ≤ a.2.2 := by
  unfold cfQ cfI atP
  simp only [Bool.and_eq_true, decide_eq_true_eq]
theorem pw_iff {ds : List Dq} {m M : Int} (e : Ends2 ds m M) (ok : ∀ q ∈ ds, q.2.1 ≤ q.1 ∧ q.1 ≤ q.2.2) : allSv m M ds = true ↔ PwC ds := by
  constructor
  · intro h0
    have h := sv_of.mp h0
    have all : ∀ a ∈ ds, ∀ b ∈ ds, cfQ a b = true := fun a ha b hb => by
      have z1 := h a ha
      have z2 := h b hb
      rw [cf_of]
      omega
    clear e ok h h0
    unfold PwC
    induction ds with
    | nil => exact .nil
    | cons x r ih => exact List.pairwise_cons.mpr ⟨fun b hb => all x List.mem_cons_self b (List.mem_cons_of_mem _ hb), ih (fun a ha b hb => all a (List.mem_cons_of_mem _ ha) b (List.mem_cons_of_mem _ hb))⟩
  · intro h
    have all := h.any ok
    obtain ⟨d1, hd1, e1⟩ := List.mem_map.mp e.m1
    obtain ⟨d2, hd2, e2⟩ := List.mem_map.mp e.M1
    refine sv_of.mpr fun q hq => ?_
    have z1 := cf_of.mp (all q hq d1 hd1)
    have z2 := cf_of.mp (all q hq d2 hd2)
    have y1 := e.m2 q.1 (List.mem_map.mpr ⟨q, hq, rfl⟩)
    have y2 := e.M2 q.1 (List.mem_map.mpr ⟨q, hq, rfl⟩)
    omega
theorem sv_joint {ds : List Dq} {m M : Int} (e : Ends2 ds m M) {q : Int × Int} (h : allSv q.1 q.2 ds = true) : (q.1 ≤ m ∧ M ≤ q.2) ∧ allSv m M ds = true := by
  have h := sv_of.mp h
  obtain ⟨d1, hd1, e1⟩ := List.mem_map.mp e.m1
  obtain ⟨d2, hd2, e2⟩ := List.mem_map.mp e.M1
  have z1 := h d1 hd1
  have z2 := h d2 hd2
  refine ⟨by omega, sv_of.mpr fun d hd => ?_⟩
  have z := h d hd
  have y1 := e.m2 d.1 (List.mem_map.mpr ⟨d, hd, rfl⟩)
  have y2 := e.M2 d.1 (List.mem_map.mpr ⟨d, hd, rfl⟩)
  omega
theorem empty_all {ds : List Dq} {x y : Int} : (ds.filter fun q => !svI x y q.1 q.2.1 q.2.2).isEmpty = allSv x y ds := by
  rw [Bool.eq_iff_iff, List.isEmpty_iff, List.filter_eq_nil_iff]
  unfold allSv
  rw [List.all_eq_true]
  constructor
  · intro h q hq
    have z := h q hq
    rw [Bool.not_eq_true', Bool.not_eq_false] at z
    exact z
  · intro h q hq
    rw [h q hq]
    decide
def sp_law_all_conflict : Sp := fun vs H Q _ => ∃ (a : Addr) (us : List V) (ds : List Dq), vs = [.ref a] ∧ H a = some (.tup us) ∧ Dms H us ds ∧ ds.length ≤ 60 ∧
  ∀ H' b, Same H H' → (b = true ↔ PwC ds) → Q (.bl b) H'
theorem ok_law_all_conflict (T : Tx K mg f_has_position f_contains f_serves f_conflict f_joint_piece f_law_deck f_law_draw f_law_line f_law_interval f_law_demand f_law_every f_law_all_conflict f_law_around f_law_right f_law d_has_position d_contains d_serves d_conflict d_joint_piece d_law_deck d_law_draw d_law_line d_law_interval d_law_demand d_law_every d_law_all_conflict d_law_around d_law_right d_law) : FnOk P w K mg base CX0 3 f_law_all_conflict d_law_all_conflict ["_law_demands"] sp_law_all_conflict := by
  refine T.F_law_all_conflict.ok sc_law_all_conflict (fun vs H Q E h => ?_) (fun cdv A outer s H vs Q E hr h => ?_)
  · obtain ⟨a, us, ds, rfl, _⟩ := h
    rfl
  · obtain ⟨a, us, ds, rfl, ha, dm, few, q⟩ := h
    have lu := dm.length
    refine ⟨_, (pss_cons (ps_for PassesOwn.never rfl (pi_enumT (by rfl) T.z_enumerate (pa_cons (pv 0) pa_nil)) (pg_tup rfl (pgs_cons (pg_name (i := 1) sc_law_all_conflict.nd rfl (Or.inl rfl)) (pgs_cons (pg_name (i := 2) sc_law_all_conflict.nd rfl (Or.inr rfl)) pgs_nil)))
      (pss_one (ps_if (pt_cmpR (op_neL hr.units0) (pe_lc (own := [("_law_other", 3)]) (g := (gName 3)) (by rfl) sc_law_all_conflict.nd (pi_tup (pe_slice sl_tupA (pv 0) po_none (po_some (pv 1)))) (blkOk_by (own := [("_law_other", 3)]) (N := N_law_all_conflict) (sc := defScope s_law_all_conflict) (by decide +kernel)) (fun _ _ _ _ _ => (pg_name (i := 3) sc_law_all_conflict.nd rfl (Or.inl rfl))) (fun _ _ _ _ _ => pts_one (pt_not (pt_val (pe_call (ok_conflict T) (hr.mono (by decide)) (by rfl) T.g_conflict T.F_conflict.kp T.b_conflict .nil pass0 (pa_cons (pv 3) (pa_cons (pv 2) pa_nil)))))) (fun _ _ _ _ _ => (pv 3))) (pe_lst pa_nil) (nomark _))
      (pss_one (ps_ret pe_bl))
      pss_nil)))
      (pss_one (ps_ret pe_bl))), ?_⟩
    refine ⟨.ref a, rfl, a, us, rfl, SqT.of ha, ?_⟩
    refine ⟨fun i m σ H' => i + m = us.length ∧ Same H H' ∧ PwC (ds.take i) ∧ ∃ y1 y2 y3, σ = [some (.ref a), y1, y2, y3], ⟨us.length, by omega, Same.refl _, .nil, _, _, _, rfl⟩, fun i m σ H2 hW => ?_⟩
    obtain ⟨em, sm, pw, y1, y2, y3, rfl⟩ := hW
    have ep2 := sm _ _ ha
    by_cases hi : i < us.length
    · have hx : us[i]? = some us[i] := List.getElem?_eq_getElem hi
      refine .inr ⟨⟨_, _, SqT.of ep2, hx, rfl⟩, fun σ' H' => Same H H' ∧ PwC (ds.take (i + 1)) ∧ ∃ y1 y2 y3, σ' = [some (.ref a), y1, y2, y3], fun σ' H' hN => ?_, fun z H' hy => ?_⟩
      · obtain ⟨n1, n2, n3⟩ := hN
        exact ⟨m - 1, by omega, by omega, n1, n2, n3⟩
      · obtain ⟨t, x, rfl, nt, rfl, fx⟩ := hy
        obtain ⟨p, lo, hi2, ei, dmx⟩ := dm.get hx
        have ex : x = us[i] := Option.some.inj ((fx _ (SqT.of ep2)).symm.trans hx)
        subst ex
        have st := same_new (o := .tup [.int (i : Nat), us[i]]) nt
        have et := upd_same (H := H2) (a := t) (o := .tup [.int (i : Nat), us[i]])
        generalize upd H2 t (.tup [.int (i : Nat), us[i]]) = H3 at *
        have s3 := sm.trans st
        refine ⟨t, _, rfl, SqT.of et, rfl, .int (i : Nat), [us[i]], rfl, us[i], [], rfl, rfl, ?_⟩
        refine ⟨.ref a, rfl, .int (i : Nat), rfl, (i : Int), rfl, slA_any (s3 _ _ ha) (fun H4 p4 s4 e4 => ⟨p4, rfl, ⟨_, SqT.of e4⟩, fun D nD => ?_⟩)⟩
        rw [cutTo] at e4
        have s34 := s3.trans s4
        have dmi := dmx.same s34
        have lt4 : (us.take i).length = i := by
          rw [List.length_take]
          omega
        refine lcT (K := K) (a := p4) (xs := us.take i) (fun j H' vs => Dms H' vs (((ds.take i).take j).filter fun q => !cfQ q (p, lo, hi2))) nD (fun H' s => SqT.of (s _ _ e4)) (by omega) (fun _ _ _ _ t r => r.tps t) (fun j H' ws r => ?_) (fun _ => .nil) ?_ ?_
        · rw [r.length]
          exact Nat.le_trans (List.length_filter_le _ _) (List.length_take_le _ _)
        · rintro j z H' N acc hj sj eA sz r no yes
          obtain ⟨p', lo', hi', ed, dmz⟩ := (dm.take i).get hj
          have dmz := (dmz.same s34).same sj
          refine ⟨rfl, _, rfl, _, rfl, _, _, p', lo', hi', p, lo, hi2, rfl, dmz, dmi.same sj, _, rfl, ite2 (fun e => ?_) (fun e => ?_)⟩
          · refine ⟨_, rfl, yes H' _ (Same.refl _) ?_⟩
            rw [take_filter ed, if_pos (show (!cfQ (p', lo', hi') (p, lo, hi2)) = true from e)]
            exact r.snoc dmz
          · refine no H' (Same.refl _) ?_
            rw [take_filter ed, if_neg (show ¬ (!cfQ (p', lo', hi') (p, lo, hi2)) = true from e), List.append_nil]
            exact r
        · intro H5 ws s5 eD r
          have ldi : (ds.take i).length = i := by
            rw [List.length_take]
            omega
          rw [lt4, List.take_of_length_le (by omega)] at r
          refine ⟨by show 0 ≤ sizeLine; decide, fun z nz => ?_⟩
          have s6 := same_new (o := .lst []) nz
          have s06 := s34.trans (s5.trans s6)
          refine ⟨D, z, ws, rfl, rfl, SqL.of (s6 _ _ eD), SqL.of upd_same, _, rfl, ?_⟩
          rw [r.isEmpty]
          have tk : ds.take (i + 1) = ds.take i ++ [(p, lo, hi2)] := by
            rw [List.take_add_one, ei]
            rfl
          refine ite2 (fun e => ?_) (fun e => ?_)
          · refine q _ false s06 ⟨fun z => (by cases z), fun h => ?_⟩
            exfalso
            have h1 : PwC (ds.take i ++ [(p, lo, hi2)]) := by
              rw [← tk]
              exact List.Pairwise.sublist (List.take_sublist _ _) h
            have h2 := (List.pairwise_append.mp h1).2.2
            rw [Bool.not_eq_true', ← Bool.not_eq_true, List.isEmpty_iff] at e
            apply e
            refine List.filter_eq_nil_iff.mpr fun x hx => ?_
            rw [h2 x hx _ (List.mem_singleton.mpr rfl)]
            decide
          · refine ⟨s06, ?_, _, _, _, rfl⟩
            rw [Bool.not_eq_true, Bool.not_eq_false', List.isEmpty_iff, List.filter_eq_nil_iff] at e
            rw [tk]
            refine List.pairwise_append.mpr ⟨pw, List.pairwise_singleton _ _, fun x hx y hy => ?_⟩
            rw [List.mem_singleton.mp hy]
            have z := e x hx
            rw [Bool.not_eq_true', Bool.not_eq_false] at z
            exact z
    · refine .inl ⟨⟨_, SqT.of ep2, rfl, by omega⟩, ?_⟩
      rw [List.take_of_length_le (by omega)] at pw
      exact q _ true sm ⟨fun _ => pw, fun _ => rfl⟩
def sp_law_around : Sp := fun vs H Q _ => ∃ (d c l b : Addr) (n x y : Int) (ls : List Int), vs = [.ref d, .ref l, .ref b] ∧ Dk H d c n ∧ 0 ≤ n ∧ n < 900000 ∧ (l ≠ d ∧ l ≠ c) ∧ H l = some (.lst (ls.map V.int)) ∧ ls.length ≤ 100 ∧ Ln ls ∧ H b = some (.tup [.int x, .int y]) ∧ x ∈ ls ∧ y ∈ ls ∧ x ≤ y ∧
  ∀ H' v p lo hi, Kp d c H H' → Dk H' d c (n + 3) → Dm H' v p lo hi → (lo ≤ x ∧ x ≤ p) → (p ≤ y ∧ y ≤ hi) → lo ∈ ls → hi ∈ ls → Q v H'
theorem ok_law_around (T : Tx K mg f_has_position f_contains f_serves f_conflict f_joint_piece f_law_deck f_law_draw f_law_line f_law_interval f_law_demand f_law_every f_law_all_conflict f_law_around f_law_right f_law d_has_position d_contains d_serves d_conflict d_joint_piece d_law_deck d_law_draw d_law_line d_law_interval d_law_demand d_law_every d_law_all_conflict d_law_around d_law_right d_law) : FnOk P w K mg base CX0 2 f_law_around d_law_around ["_law_deck_here", "_law_line_here", "_law_piece"] sp_law_around := by
  refine T.F_law_around.ok sc_law_around (fun vs H Q E h => ?_) (fun cdv A outer s H vs Q E hr h => ?_)
  · obtain ⟨d, c, l, b, n, x, y, ls, rfl, _⟩ := h
    rfl
  · obtain ⟨d, c, l, b, n, x, y, ls, rfl, dk, n0, n1, off, el, lsl, ln, hb, mx, my, xy, q⟩ := h
    have bx := ln.ok x mx
    have bY := ln.ok y my
    refine ⟨_, (pss_cons (ps_setLc (i := 3) (own := [("_law_position", 4)]) (g := (gName 4)) (by rfl) sc_law_around.nd rfl rfl (sw_true rfl rfl rfl (by decide +kernel)) (pi_list (pv 1)) (blkOk_by (own := [("_law_position", 4)]) (N := N_law_around) (sc := defScope s_law_around) (by decide +kernel)) (fun _ _ _ _ _ => (pg_name (i := 4) sc_law_around.nd rfl (Or.inl rfl))) (fun _ _ _ _ _ => pts_one (pt_cmpR op_le (pv 4) (pe_ix (show IxR _ (rIxT K) from ix_tup) (pv 2) pe_int (fun _ _ => rfl)) (nomark _))) (fun _ _ _ _ _ => (pv 4)))
      (pss_cons (ps_setLc (i := 5) (own := [("_law_position", 4)]) (g := (gName 4)) (by rfl) sc_law_around.nd rfl rfl (sw_true rfl rfl rfl (by decide +kernel)) (pi_list (pv 1)) (blkOk_by (own := [("_law_position", 4)]) (N := N_law_around) (sc := defScope s_law_around) (by decide +kernel)) (fun _ _ _ _ _ => (pg_name (i := 4) sc_law_around.nd rfl (Or.inl rfl))) (fun _ _ _ _ _ => pts_one (pt_cmpR op_ge (pv 4) (pe_ix (show IxR _ (rIxT K) from ix_tup) (pv 2) pe_int (fun _ _ => rfl)) (nomark _))) (fun _ _ _ _ _ => (pv 4)))
      (pss_cons (ps_par (by rfl) sc_law_around.nd (i := 6) (j := 7) rfl rfl (by decide) rfl rfl (pa_cons (pe_ix ix_list (pv 3) (pe_call (ok_law_draw T) (hr.mono (by decide)) (by rfl) T.g_law_draw T.F_law_draw.kp T.b_law_draw .nil pass0 (pa_cons (pv 0) (pa_cons (pe_callB call_len_seq (by rfl) T.z_len PySem.boot_len (pa_cons (pv 3) pa_nil)) pa_nil))) (fun _ _ => rfl)) (pa_cons (pe_ix ix_list (pv 5) (pe_call (ok_law_draw T) (hr.mono (by decide)) (by rfl) T.g_law_draw T.F_law_draw.kp T.b_law_draw .nil pass0 (pa_cons (pv 0) (pa_cons (pe_callB call_len_seq (by rfl) T.z_len PySem.boot_len (pa_cons (pv 5) pa_nil)) pa_nil))) (fun _ _ => rfl)) pa_nil)) (by rfl))
      (pss_one (ps_ret (pe_tup (pa_cons (pe_op op_add (pe_ix ix_tup (pv 2) pe_int (fun _ _ => rfl)) (pe_call (ok_law_draw T) (hr.mono (by decide)) (by rfl) T.g_law_draw T.F_law_draw.kp T.b_law_draw .nil pass0 (pa_cons (pv 0) (pa_cons (pe_op op_add (pe_op op_sub (pe_ix ix_tup (pv 2) pe_int (fun _ _ => rfl)) (pe_ix ix_tup (pv 2) pe_int (fun _ _ => rfl))) pe_int) pa_nil)))) (pa_cons (pe_tup (pa_cons (pv 6) (pa_cons (pv 7) pa_nil))) pa_nil)))))))), ?_⟩
    -- lows
    refine ⟨.ref l, rfl, l, rfl, ⟨_, SqL.of el⟩, fun D nD => ?_⟩
    refine lcL (K := K) (a := l) (xs := ls.map V.int) (fun j H' ws => ws = ((ls.take j).filter fun z => decide (z ≤ x)).map V.int) nD (fun H' s => SqL.of (s _ _ el)) (by rw [List.length_map]; omega) (fun _ _ _ _ _ r => r) (fun j H' ws r => by rw [r]; exact map_filter_len j) (fun _ => rfl) ?_ ?_
    · rintro j v H' N acc hj sj eA sz r no yes
      rw [List.getElem?_map] at hj
      obtain ⟨z, ez, rfl⟩ := Option.map_eq_some_iff.mp hj
      refine ⟨rfl, .int z, rfl, .ref b, rfl, b, _, 0, .int x, rfl, rfl, SqT.of (sj _ _ hb), rfl, _, _, rfl, rfl, _, rfl, ite2 (fun e => ?_) (fun e => ?_)⟩
      · refine ⟨.int z, rfl, yes H' _ (Same.refl _) ?_⟩
        rw [r, take_filter ez, if_pos e, List.map_append]
        rfl
      · refine no H' (Same.refl _) ?_
        rw [r, take_filter ez, if_neg e, List.append_nil]
    · intro H1 ws s1 eD r
      rw [List.length_map, List.take_length] at r
      subst r
      have m1 : ∀ z ∈ ls.filter (fun z => decide (z ≤ x)), z ∈ ls ∧ z ≤ x := fun z hz => ⟨(List.mem_filter.mp hz).1, of_decide_eq_true (List.mem_filter.mp hz).2⟩
      have f1 : 0 < (ls.filter fun z => decide (z ≤ x)).length := List.length_pos_of_mem (List.mem_filter.mpr ⟨mx, decide_eq_true (Int.le_refl _)⟩)
      have f2 := List.length_filter_le (fun z => decide (z ≤ x)) ls
      generalize (ls.filter fun z => decide (z ≤ x)) = los at *
      -- highs
      refine ⟨.ref l, rfl, l, rfl, ⟨_, SqL.of (s1 _ _ el)⟩, fun D2 nD2 => ?_⟩
      refine lcL (K := K) (a := l) (xs := ls.map V.int) (fun j H' ws => ws = ((ls.take j).filter fun z => decide (y ≤ z)).map V.int) nD2 (fun H' s => SqL.of (s _ _ (s1 _ _ el))) (by rw [List.length_map]; omega) (fun _ _ _ _ _ r => r) (fun j H' ws r => by rw [r]; exact map_filter_len j) (fun _ => rfl) ?_ ?_
      · rintro j v H' N acc hj sj eA sz r no yes
        rw [List.getElem?_map] at hj
        obtain ⟨z, ez, rfl⟩ := Option.map_eq_some_iff.mp hj
        refine ⟨rfl, .int z, rfl, .ref b, rfl, b, _, 1, .int y, rfl, rfl, SqT.of (sj _ _ (s1 _ _ hb)), rfl, _, _, rfl, rfl, _, rfl, ite2 (fun e => ?_) (fun e => ?_)⟩
        · refine ⟨.int z, rfl, yes H' _ (Same.refl _) ?_⟩
          rw [r, take_filter ez, if_pos e, List.map_append]
          rfl
        · refine no H' (Same.refl _) ?_
          rw [r, take_filter ez, if_neg e, List.append_nil]
      · intro H2 ws s2 eD2 r
        rw [List.length_map, List.take_length] at r
        subst r
        have m2 : ∀ z ∈ ls.filter (fun z => decide (y ≤ z)), z ∈ ls ∧ y ≤ z := fun z hz => ⟨(List.mem_filter.mp hz).1, of_decide_eq_true (List.mem_filter.mp hz).2⟩
        have g1 : 0 < (ls.filter fun z => decide (y ≤ z)).length := List.length_pos_of_mem (List.mem_filter.mpr ⟨my, decide_eq_true (Int.le_refl _)⟩)
        have g2 := List.length_filter_le (fun z => decide (y ≤ z)) ls
        generalize (ls.filter fun z => decide (y ≤ z)) = his at *
        have s12 := s1.trans s2
        have dk2 := dk.kept s12
        have offD := dk.off nD
        have offD2 := (dk.kept s1).off nD2
        have eDD := s2 _ _ eD
        have lp1 : (0 : Int) < ((los.map V.int).length : Nat) := by rw [List.length_map]; omega
        have lp2 : (((los.map V.int).length : Nat) : Int) < 2 ^ 63 := by rw [List.length_map]; omega
        have lq1 : (0 : Int) < ((his.map V.int).length : Nat) := by rw [List.length_map]; omega
        have lq2 : (((his.map V.int).length : Nat) : Int) < 2 ^ 63 := by rw [List.length_map]; omega
        refine ⟨.ref D, rfl, .ref d, rfl, .ref D, rfl, D, _, rfl, .inl (SqL.of eDD), d, c, n, _, rfl, dk2, n0, by omega, lp1, lp2, fun H3 r3 kp3 dk3 r30 r31 => ?_⟩
        obtain ⟨low, ml, el3⟩ := nth_of r30 r31
        have eD23 := kp3.keep offD2 eD2
        refine ⟨D, _, r3, _, rfl, rfl, SqL.of (kp3.keep offD eDD), el3, .ref D2, rfl, .ref d, rfl, .ref D2, rfl, D2, _, rfl, .inl (SqL.of eD23), d, c, _, _, rfl, dk3, by omega, by omega, lq1, lq2, fun H4 r4 kp4 dk4 r40 r41 => ?_⟩
        obtain ⟨high, mh, eh4⟩ := nth_of r40 r41
        refine ⟨D2, _, r4, _, rfl, rfl, SqL.of (kp4.keep offD2 eD23), eh4, _, _, rfl, ?_⟩
        have kp24 := kp3.trans kp4
        have hb4 := kp24.tup dk2 (s12 _ _ hb)
        have zl := m1 low ml
        have zh := m2 high mh
        refine ⟨.ref b, rfl, b, _, 0, .int x, rfl, rfl, SqT.of hb4, rfl, .ref d, rfl, .ref b, rfl, b, _, 1, .int y, rfl, rfl, SqT.of hb4, rfl, .ref b, rfl, b, _, 0, .int x, rfl, rfl, SqT.of hb4, rfl, _, _, rfl, rfl, _, _, rfl, rfl, d, c, _, _, rfl, dk4, by omega, by omega, by omega, by omega, fun H5 r5 kp5 dk5 r50 r51 => ?_⟩
        refine ⟨_, _, rfl, rfl, _, rfl, _, rfl, by show 2 ≤ sizeLine; decide, fun t nt => ?_⟩
        have s6 := same_new (o := .tup [.int low, .int high]) nt
        have e6 := upd_same (H := H5) (a := t) (o := .tup [.int low, .int high])
        generalize upd H5 t (.tup [.int low, .int high]) = H6 at *
        refine ⟨by show 2 ≤ sizeLine; decide, fun u nu => ?_⟩
        have s7 := same_new (o := .tup [.int (x + r5), .ref t]) nu
        refine q _ _ (x + r5) low high ((Kp.same s12).trans (kp24.trans (kp5.trans (Kp.same (s6.trans s7))))) ((dk5.kept (s6.trans s7)).eq (by omega)) ⟨⟨u, t, rfl, upd_same, s7 _ _ e6⟩, by omega, by omega⟩ (by omega) (by omega) zl.1 zh.1

def sp_law_right : Sp := fun vs H Q _ => ∃ (l g : Addr) (ls : List Int) (gu : List V) (ds : List Dq), vs = [.ref l, .ref g] ∧ H l = some (.lst (ls.map V.int)) ∧ ls.length ≤ 20 ∧ H g = some (.lst gu) ∧ Dms H gu ds ∧ 0 < ds.length ∧ ds.length ≤ 30 ∧
  ∀ H', Same H H' → Q (.bl true) H'
theorem ok_law_right (T : Tx K mg f_has_position f_contains f_serves f_conflict f_joint_piece f_law_deck f_law_draw f_law_line f_law_interval f_law_demand f_law_every f_law_all_conflict f_law_around f_law_right f_law d_has_position d_contains d_serves d_conflict d_joint_piece d_law_deck d_law_draw d_law_line d_law_interval d_law_demand d_law_every d_law_all_conflict d_law_around d_law_right d_law) : FnOk P w K mg base CX0 4 f_law_right d_law_right ["_law_line_here", "_law_demands"] sp_law_right := by
  refine T.F_law_right.ok sc_law_right (fun vs H Q E h => ?_) (fun cdv A outer s H vs Q E hr h => ?_)
  · obtain ⟨l, g, ls, gu, ds, rfl, _⟩ := h
    rfl
  · obtain ⟨l, g, ls, gu, ds, rfl, el, lsl, eg, dm, d0, d1, q⟩ := h
    have lu := dm.length
    have ok := dm.ok
    refine ⟨_, (pss_cons (ps_set (i := 2) sc_law_right.nd rfl (Or.inl rfl) (pe_callTy call_tuple_of (by rfl) T.z_tuple (by decide +kernel) (pa_cons (pv 1) pa_nil)))
      (pss_cons (ps_set (i := 3) sc_law_right.nd rfl (Or.inr rfl) (pe_call (ok_joint_piece T) (hr.mono (by decide)) (by rfl) T.g_joint_piece T.F_joint_piece.kp T.b_joint_piece .nil pass0 (pa_cons (pv 2) pa_nil)))
      (pss_cons (ps_if (pt_cmpR op_ne (pe_cmpR op_notN (pv 3) pe_non (nomark _)) (pe_call (ok_law_all_conflict T) (hr.mono (by decide)) (by rfl) T.g_law_all_conflict T.F_law_all_conflict.kp T.b_law_all_conflict .nil pass0 (pa_cons (pv 2) pa_nil)) (nomark _))
      (pss_one (ps_ret pe_bl))
      pss_nil)
      (pss_cons (ps_set (i := 4) sc_law_right.nd rfl (Or.inl rfl) (pe_lst pa_nil))
      (pss_cons (ps_for PassesOwn.never rfl (pi_list (pe_call (ok_law_every T) (hr.mono (by decide)) (by rfl) T.g_law_every T.F_law_every.kp T.b_law_every .nil pass0 (pa_cons (pv 0) pa_nil))) (pg_name (i := 5) sc_law_right.nd rfl (Or.inr rfl))
      (pss_one (ps_if (pt_cmpR (op_eqL hr.units0) (pe_lc (own := [("_law_demand_here", 6)]) (g := (gName 6)) (by rfl) sc_law_right.nd (pi_tup (pv 2)) (blkOk_by (own := [("_law_demand_here", 6)]) (N := N_law_right) (sc := defScope s_law_right) (by decide +kernel)) (fun _ _ _ _ _ => (pg_name (i := 6) sc_law_right.nd rfl (Or.inl rfl))) (fun _ _ _ _ _ => pts_one (pt_not (pt_val (pe_call (ok_serves T) (hr.mono (by decide)) (by rfl) T.g_serves T.F_serves.kp T.b_serves .nil pass0 (pa_cons (pv 5) (pa_cons (pv 6) pa_nil)))))) (fun _ _ _ _ _ => (pv 6))) (pe_lst pa_nil) (nomark _))
      (pss_one (ps_expr (pe_bm PySem.F.plainAttrs_list PySem.F.slot_list_append PySem.F.type_list_append mt_append (pv 4) (pa_cons (pv 5) pa_nil))))
      pss_nil)))
      (pss_cons (ps_if (pt_cmpR op_isN (pv 3) pe_non (nomark _))
      (pss_one (ps_ret (pe_cmpR (op_eqL hr.units0) (pv 4) (pe_lst pa_nil) (nomark _))))
      pss_nil)
      (pss_cons (ps_if (pt_cmpR (op_neL hr.units0) (pe_lc (own := [("_law_demand_here", 6)]) (g := (gName 6)) (by rfl) sc_law_right.nd (pi_tup (pv 2)) (blkOk_by (own := [("_law_demand_here", 6)]) (N := N_law_right) (sc := defScope s_law_right) (by decide +kernel)) (fun _ _ _ _ _ => (pg_name (i := 6) sc_law_right.nd rfl (Or.inl rfl))) (fun _ _ _ _ _ => pts_one (pt_not (pt_val (pe_call (ok_serves T) (hr.mono (by decide)) (by rfl) T.g_serves T.F_serves.kp T.b_serves .nil pass0 (pa_cons (pv 3) (pa_cons (pv 6) pa_nil)))))) (fun _ _ _ _ _ => (pv 6))) (pe_lst pa_nil) (nomark _))
      (pss_one (ps_ret pe_bl))
      pss_nil)
      (pss_one (ps_ret (pe_cmpR (op_eqL hr.units0) (pe_lc (own := [("_law_piece", 5)]) (g := (gName 5)) (by rfl) sc_law_right.nd (pi_list (pv 4)) (blkOk_by (own := [("_law_piece", 5)]) (N := N_law_right) (sc := defScope s_law_right) (by decide +kernel)) (fun _ _ _ _ _ => (pg_name (i := 5) sc_law_right.nd rfl (Or.inl rfl))) (fun _ _ _ _ _ => pts_one (pt_not (pt_val (pe_call (ok_contains T) (hr.mono (by decide)) (by rfl) T.g_contains T.F_contains.kp T.b_contains .nil pass0 (pa_cons (pv 5) (pa_cons (pv 3) pa_nil)))))) (fun _ _ _ _ _ => (pv 5))) (pe_lst pa_nil) (nomark _))))))))))), ?_⟩
    refine ⟨.ref g, rfl, g, gu, rfl, .inl ⟨SqL.of eg, fun pt npt => ?_⟩⟩
    have s1 := same_new (o := .tup gu) npt
    have e1 := upd_same (H := H) (a := pt) (o := .tup gu)
    have dm1 := dm.same s1
    generalize upd H pt (.tup gu) = H1 at *
    refine ⟨.ref pt, rfl, pt, gu, ds, rfl, e1, dm1, d0, by omega, fun H2 vj m M ends s2 ov => ?_⟩
    have s12 := s1.trans s2
    have pw := pw_iff ends ok
    obtain ⟨o, eo⟩ : ∃ o, o = if allSv m M ds = true then some (m, M) else none := ⟨_, rfl⟩
    rw [← eo] at ov
    -- joint is not None
    refine ⟨vj, rfl, rfl, .ref pt, rfl, pt, gu, ds, rfl, s2 _ _ e1, dm1.same s2, by omega, fun H3 bb s3 hb => ?_⟩
    have s13 := s12.trans s3
    have s23 := s2.trans s3
    have ov3 := ov.same s3
    have eb : (!decide (vj = V.non)) = bb := by
      by_cases c : allSv m M ds = true
      · rw [if_pos c] at eo
        rw [eo] at ov
        obtain ⟨t, rfl, _⟩ := ov
        rw [hb.mpr (pw.mp c)]
        rfl
      · rw [if_neg c] at eo
        rw [eo] at ov
        cases ov
        have : bb = false := by
          rw [← Bool.not_eq_true]
          exact fun z => c (pw.mpr (hb.mp z))
        rw [this]
        rfl
    rw [eb]
    refine ⟨rfl, _, rfl, ?_⟩
    refine iteNS rfl ?_
    -- serving
    refine ⟨by show 0 ≤ sizeLine; decide, fun p0 np0 => ?_⟩
    have s4 := same_new (o := .lst []) np0
    have e4 := upd_same (H := H3) (a := p0) (o := .lst [])
    have np0' : H p0 = none := s13.free np0
    generalize upd H3 p0 (.lst []) = H4 at *
    have s14 := s13.trans s4
    refine ⟨.ref l, rfl, l, ls, rfl, s14 _ _ el, lsl, fun H5 pe we s5 npe ee ive => ⟨pe, rfl, ⟨_, SqL.of ee⟩, ?_⟩⟩
    have s15 := s14.trans s5
    have lwe : we.length < 1000 := by
      rw [ive.length]
      have z1 := evI_len ls ls
      have z2 : ls.length * ls.length ≤ 20 * 20 := Nat.mul_le_mul lsl lsl
      omega
    have nepe : pe ≠ p0 := (ne_of_none e4 npe).symm
    have e05 := s5 _ _ e4
    have ept5 := s5 _ _ (s4 _ _ (s23 _ _ e1))
    have s25 : Same H2 H5 := s3.trans (s4.trans s5)
    have dm5 := dm.same s15
    have ov5 := (ov3.same s4).same s5
    refine for_list (K := K) (a := pe) (xs := we) (D := ⟨_, _, fun _ _ => True, fun _ _ => True⟩) (fun i σ H' => (∀ b o, b ≠ p0 → H5 b = some o → H' b = some o) ∧ (∃ ws, H' p0 = some (.lst ws) ∧ Ivs H' ws (((evI ls ls).take i).filter fun q => allSv q.1 q.2 ds)) ∧ ∃ z5 z6, σ = [some (.ref l), some (.ref g), some (.ref pt), some vj, some (.ref p0), z5, z6])
      ⟨fun _ _ _ e => e, ⟨[], e05, .nil⟩, _, _, rfl⟩ (fun i σ H' _ h => SqL.of (h.1 _ _ nepe ee)) ?_ ?_
    · rintro i v σ H6 hi ⟨ko, ⟨ws, e06, ivw⟩, z5, z6, rfl⟩
      obtain ⟨b, x, y, rfl, exy, hb2⟩ := ive.get hi
      have tp : Tps H5 H6 := fun b xs e => ko b _ (ne_of e e05 (fun z => by cases z)) e
      have hb6 := tp _ _ hb2
      have ept6 := tp _ _ ept5
      have dm6 := dm5.tps tp
      have lw : ws.length < 1000 := by
        rw [ivw.length]
        have z1 := List.length_filter_le (fun q : Int × Int => allSv q.1 q.2 ds) ((evI ls ls).take i)
        have z2 := List.length_take_le' i (evI ls ls)
        have z3 := ive.length
        omega
      refine ⟨.ref pt, rfl, pt, rfl, ⟨_, SqT.of ept6⟩, fun D nD => ?_⟩
      refine lcT (K := K) (a := pt) (xs := gu) (fun j H' ws => Dms H' ws ((ds.take j).filter fun q => !svI x y q.1 q.2.1 q.2.2)) nD (fun H' s => SqT.of (s _ _ ept6)) (by omega) (fun _ _ _ _ t r => r.tps t) (fun j H' ws r => ?_) (fun _ => .nil) ?_ ?_
      · rw [r.length]
        exact Nat.le_trans (List.length_filter_le _ _) (List.length_take_le _ _)
      · rintro j z H' N acc hj sm eA sz r no yes
        obtain ⟨p, lo, hi2, ed, dmx⟩ := dm6.get hj
        have dmy := dmx.same sm
        obtain ⟨u, t, rfl, f1, f2⟩ := dmy.ex
        refine ⟨rfl, .ref b, rfl, .ref u, rfl, b, u, t, x, y, p, lo, hi2, rfl, sm _ _ hb6, f1, f2, _, rfl, ite2 (fun e => ?_) (fun e => ?_)⟩
        · refine ⟨.ref u, rfl, yes H' _ (Same.refl _) ?_⟩
          rw [take_filter ed, if_pos e]
          exact r.snoc dmy
        · refine no H' (Same.refl _) ?_
          rw [take_filter ed, if_neg e, List.append_nil]
          exact r
      · intro H7 us7 s7 eD r
        rw [lu, List.take_length] at r
        refine ⟨by show 0 ≤ sizeLine; decide, fun z nz => ?_⟩
        have s8 := same_new (o := .lst []) nz
        refine ⟨D, z, us7, rfl, rfl, SqL.of (s8 _ _ eD), SqL.of upd_same, ?_⟩
        rw [r.isEmpty, empty_all]
        have s68 := s7.trans s8
        have e08 := s68 _ _ e06
        generalize upd H7 z (.lst []) = H8 at *
        refine ⟨_, rfl, ite2 (fun c => ?_) (fun c => ?_)⟩
        · refine ⟨.ref p0, rfl, .inl ⟨rfl, _, SqL.of e08⟩, .ref b, rfl, p0, ws, _, rfl, rfl, e08, few_line lw, fun b' o nb e => ?_, ⟨_, upd_same, ?_⟩, _, _, rfl⟩
          · rw [upd_ne nb]
            exact s68 _ _ (ko b' o nb e)
          · rw [take_filter exy, if_pos c]
            exact ((ivw.same s68).snoc (s68 _ _ hb6)).tps (Tps.lst e08)
        · refine ⟨fun b' o nb e => s68 _ _ (ko b' o nb e), ⟨ws, e08, ?_⟩, _, _, rfl⟩
          rw [take_filter exy, if_neg c, List.append_nil]
          exact ivw.same s68
    · rintro σ H6 ⟨ko, ⟨ws, e06, ivw⟩, z5, z6, rfl⟩
      rw [ive.length, List.take_length] at ivw
      have tp : Tps H5 H6 := fun b xs e => ko b _ (ne_of e e05 (fun z => by cases z)) e
      have s06 : Same H H6 := fun b o e => ko b o (ne_of_none e np0') (s15 _ _ e)
      have ept6 := tp _ _ ept5
      have dm6 := dm5.tps tp
      have lwe2 := ive.length
      have lw : ws.length < 1000 := by
        rw [ivw.length]
        have z1 := List.length_filter_le (fun q : Int × Int => allSv q.1 q.2 ds) (evI ls ls)
        omega
      by_cases c : allSv m M ds = true
      · rw [if_pos c] at eo
        rw [eo] at ov5
        obtain ⟨tj, rfl, etj⟩ := ov5
        replace etj := tp _ _ etj
        refine ⟨_, rfl, rfl, _, rfl, ?_⟩
        rw [show decide (V.ref tj = V.non) = false from decide_eq_false (fun z => by cases z)]
        refine iteF ?_
        -- the joint piece serves all
        refine ⟨.ref pt, rfl, pt, rfl, ⟨_, SqT.of ept6⟩, fun D nD => ?_⟩
        refine lcT (K := K) (a := pt) (xs := gu) (fun j H' ws => ws = []) nD (fun H' s => SqT.of (s _ _ ept6)) (by omega) (fun _ _ _ _ t r => r) (fun j H' ws r => by rw [r]; exact Nat.zero_le _) (fun _ => rfl) ?_ ?_
        · rintro j z H' N acc hj sm eA sz r no yes
          obtain ⟨p, lo, hi2, ed, dmx⟩ := dm6.get hj
          obtain ⟨u, t, rfl, f1, f2⟩ := (dmx.same sm).ex
          have sv : svI m M p lo hi2 = true := List.all_eq_true.mp c (p, lo, hi2) (List.mem_of_getElem? ed)
          refine ⟨rfl, _, rfl, .ref u, rfl, tj, u, t, m, M, p, lo, hi2, rfl, sm _ _ etj, f1, f2, _, rfl, ?_⟩
          rw [sv]
          exact iteF (no H' (Same.refl _) r)
        · intro H7 us7 s7 eD r
          subst r
          refine ⟨by show 0 ≤ sizeLine; decide, fun z nz => ?_⟩
          have s8 := same_new (o := .lst []) nz
          refine ⟨D, z, [], rfl, rfl, SqL.of (s8 _ _ eD), SqL.of upd_same, _, rfl, iteF ?_⟩
          have s68 := s7.trans s8
          generalize upd H7 z (.lst []) = H8 at *
          have e08 := s68 _ _ e06
          have iv8 := ivw.same s68
          refine ⟨.ref p0, rfl, p0, rfl, ⟨_, SqL.of e08⟩, fun D2 nD2 => ?_⟩
          refine lcL (K := K) (a := p0) (xs := ws) (fun j H' ws => ws = []) nD2 (fun H' s => SqL.of (s _ _ e08)) lw (fun _ _ _ _ t r => r) (fun j H' ws r => by rw [r]; exact Nat.zero_le _) (fun _ => rfl) ?_ ?_
          · rintro j z H' N acc hj sm eA sz r no yes
            obtain ⟨b, x, y, rfl, exy, hb2⟩ := iv8.get hj
            have mm := List.mem_filter.mp (List.mem_of_getElem? exy)
            have zz := (sv_joint ends (q := (x, y)) mm.2).1
            have ein : inI x y m M = true := by
              unfold inI
              rw [decide_eq_true zz.1, decide_eq_true zz.2]
              rfl
            refine ⟨rfl, .ref b, rfl, _, rfl, b, tj, x, y, m, M, rfl, sm _ _ hb2, sm _ _ (s68 _ _ etj), _, rfl, ?_⟩
            rw [ein]
            exact iteF (no H' (Same.refl _) r)
          · intro H9 us9 s9 eD2 r
            subst r
            refine ⟨by show 0 ≤ sizeLine; decide, fun z nz => ?_⟩
            have sA := same_new (o := .lst []) nz
            refine ⟨D2, z, [], rfl, rfl, SqL.of (sA _ _ eD2), SqL.of upd_same, ?_⟩
            exact q _ (s06.trans (s68.trans (s9.trans sA)))
      · rw [if_neg c] at eo
        rw [eo] at ov5
        cases ov5
        refine ⟨_, rfl, rfl, _, rfl, iteT ?_⟩
        refine ⟨.ref p0, rfl, by show 0 ≤ sizeLine; decide, fun z nz => ?_⟩
        have sA := same_new (o := .lst []) nz
        refine ⟨p0, z, ws, rfl, rfl, SqL.of (sA _ _ e06), SqL.of upd_same, ?_⟩
        have emp : ((evI ls ls).filter fun q => allSv q.1 q.2 ds) = [] := List.filter_eq_nil_iff.mpr fun q hq z => c (sv_joint ends z).2
        rw [ivw.isEmpty, emp]
        exact q _ (s06.trans sA)

def GdL (H : Hp) (v : V) : Prop := ∃ (g : Addr) (gu : List V) (ds : List Dq), v = .ref g ∧ H g = some (.lst gu) ∧ Dms H gu ds ∧ 0 < ds.length ∧ ds.length ≤ 30
theorem GdL.same {H H' : Hp} (s : Same H H') {v : V} (h : GdL H v) : GdL H' v := by
  obtain ⟨g, gu, ds, e, e1, d, r⟩ := h
  exact ⟨g, gu, ds, e, s _ _ e1, d.same s, r⟩
def sp_law (K : PySem.W.Frag) : Sp := fun vs H Q _ => ∃ (a : Addr) (ns : List Int), vs = [.ref a] ∧ SqL K H a (ns.map V.int) ∧ ns.length ≤ 63 ∧ ∀ H', Q (.bl true) H'
theorem ok_law (T : Tx K mg f_has_position f_contains f_serves f_conflict f_joint_piece f_law_deck f_law_draw f_law_line f_law_interval f_law_demand f_law_every f_law_all_conflict f_law_around f_law_right f_law d_has_position d_contains d_serves d_conflict d_joint_piece d_law_deck d_law_draw d_law_line d_law_interval d_law_demand d_law_every d_law_all_conflict d_law_around d_law_right d_law) : FnOk P w K mg base CX0 5 f_law d_law ["_law_script"] (sp_law K) := by
  refine T.F_law.ok sc_law (fun vs H Q E h => ?_) (fun cdv A outer s H vs Q E hr h => ?_)
  · obtain ⟨a, ns, rfl, _⟩ := h
    rfl
  · obtain ⟨a, ns, rfl, hS, hlen, q⟩ := h
    refine ⟨_, (pss_cons (ps_set (i := 1) sc_law.nd rfl (Or.inr rfl) (pe_call (ok_law_deck T) (hr.mono (by decide)) (by rfl) T.g_law_deck T.F_law_deck.kp T.b_law_deck .nil pass0 (pa_cons (pv 0) pa_nil)))
      (pss_cons (ps_for PassesOwn.never rfl (pi_range1 (by rfl) T.z_range (pa_cons pe_int pa_nil)) (pg_name (i := 2) sc_law.nd rfl (Or.inl rfl))
      (pss_cons (ps_set (i := 3) sc_law.nd rfl (Or.inr rfl) (pe_call (ok_law_line T) (hr.mono (by decide)) (by rfl) T.g_law_line T.F_law_line.kp T.b_law_line .nil pass0 (pa_cons (pv 1) (pa_cons (pe_op op_add pe_int (pe_call (ok_law_draw T) (hr.mono (by decide)) (by rfl) T.g_law_draw T.F_law_draw.kp T.b_law_draw .nil pass0 (pa_cons (pv 1) (pa_cons pe_int pa_nil)))) pa_nil))))
      (pss_cons (ps_set (i := 4) sc_law.nd rfl (Or.inr rfl) (pe_call (ok_law_interval T) (hr.mono (by decide)) (by rfl) T.g_law_interval T.F_law_interval.kp T.b_law_interval .nil pass0 (pa_cons (pv 1) (pa_cons (pv 3) pa_nil))))
      (pss_cons (ps_setLc (i := 5) (own := [("_law_k", 6)]) (g := (gName 6)) (tt := tYes) (by rfl) sc_law.nd rfl rfl (sw_true rfl rfl rfl (by decide +kernel)) (pi_range1 (by rfl) T.z_range (pa_cons (pe_op op_add pe_int (pe_call (ok_law_draw T) (hr.mono (by decide)) (by rfl) T.g_law_draw T.F_law_draw.kp T.b_law_draw .nil pass0 (pa_cons (pv 1) (pa_cons pe_int pa_nil)))) pa_nil)) (blkOk_by (own := [("_law_k", 6)]) (N := N_law) (sc := defScope s_law) (by decide +kernel)) (fun _ _ _ _ _ => (pg_name (i := 6) sc_law.nd rfl (Or.inl rfl))) (fun _ _ _ _ _ => pts_nil) (fun _ _ _ _ _ => (pe_call (ok_law_around T) (hr.mono (by decide)) (by rfl) T.g_law_around T.F_law_around.kp T.b_law_around .nil pass0 (pa_cons (pv 1) (pa_cons (pv 3) (pa_cons (pv 4) pa_nil))))))
      (pss_cons (ps_if (pt_cmpR op_isN (pe_call (ok_joint_piece T) (hr.mono (by decide)) (by rfl) T.g_joint_piece T.F_joint_piece.kp T.b_joint_piece .nil pass0 (pa_cons (pe_callTy call_tuple_of (by rfl) T.z_tuple (by decide +kernel) (pa_cons (pv 5) pa_nil)) pa_nil)) pe_non (nomark _))
      (pss_one (ps_ret pe_bl))
      pss_nil)
      (pss_cons (ps_setLc (i := 7) (own := [("_law_k", 6)]) (g := (gName 6)) (tt := tYes) (by rfl) sc_law.nd rfl rfl (sw_true rfl rfl rfl (by decide +kernel)) (pi_range1 (by rfl) T.z_range (pa_cons (pe_op op_add pe_int (pe_call (ok_law_draw T) (hr.mono (by decide)) (by rfl) T.g_law_draw T.F_law_draw.kp T.b_law_draw .nil pass0 (pa_cons (pv 1) (pa_cons pe_int pa_nil)))) pa_nil)) (blkOk_by (own := [("_law_k", 6)]) (N := N_law) (sc := defScope s_law) (by decide +kernel)) (fun _ _ _ _ _ => (pg_name (i := 6) sc_law.nd rfl (Or.inl rfl))) (fun _ _ _ _ _ => pts_nil) (fun _ _ _ _ _ => (pe_call (ok_law_demand T) (hr.mono (by decide)) (by rfl) T.g_law_demand T.F_law_demand.kp T.b_law_demand .nil pass0 (pa_cons (pv 1) (pa_cons (pv 3) pa_nil)))))
      (pss_one (ps_for PassesOwn.never rfl (pi_list (pe_lst (pa_cons (pv 5) (pa_cons (pv 7) (pa_cons (pe_op op_cat (pv 5) (pe_slice sl_list (pv 7) po_none (po_some pe_int))) (pa_cons (pe_op op_cat (pe_slice sl_list (pv 5) po_none (po_some pe_int)) (pe_slice sl_list (pv 7) po_none (po_some pe_int))) pa_nil)))))) (pg_name (i := 8) sc_law.nd rfl (Or.inl rfl))
      (pss_one (ps_if (pt_not (pt_val (pe_call (ok_law_right T) (hr.mono (by decide)) (by rfl) T.g_law_right T.F_law_right.kp T.b_law_right .nil pass0 (pa_cons (pv 3) (pa_cons (pv 8) pa_nil)))))
      (pss_one (ps_ret pe_bl))
      pss_nil))))))))))
      (pss_one (ps_ret pe_bl)))), ?_⟩
    refine ⟨.ref a, rfl, a, ns, rfl, hS, hlen, fun H1 d c s1 nd nc dk0 => ?_⟩
    refine ⟨12, rfl, by decide, by decide, for_range (n := 12) (fun i σ H' => (∃ n : Int, Dk H' d c n ∧ 0 ≤ n ∧ n ≤ 200 * i) ∧ ∃ y2 y3 y4 y5 y6 y7 y8, σ = [some (.ref a), some (.ref d), y2, y3, y4, y5, y6, y7, y8])
      ⟨⟨0, dk0, by decide, by decide⟩, _, _, _, _, _, _, _, rfl⟩ ?_ (fun σ H' _ => q H')⟩
    rintro i σ H2 hi ⟨⟨n, dk2, n0, n1⟩, y2, y3, y4, y5, y6, y7, y8, rfl⟩
    refine ⟨.ref d, rfl, .ref d, rfl, d, c, n, 8, rfl, dk2, n0, by omega, by decide, by decide, fun H3 r kp3 dk3 r0 r1 => ?_⟩
    refine ⟨_, _, rfl, rfl, d, c, n + 1, 1 + r, rfl, dk3, by omega, by omega, by omega, by omega, fun H4 l ls kp4 dk4 nl el ll ln => ?_⟩
    have offl := dk3.off nl
    -- piece
    refine ⟨.ref d, rfl, .ref l, rfl, d, c, l, _, ls, rfl, dk4, by omega, by omega, offl, el, by omega, by omega, fun H5 x y b kp5 dk5 mx my xy nb eb => ?_⟩
    have el5 := kp5.keep offl el
    have bx := ln.ok x mx
    have bY := ln.ok y my
    -- served
    refine ⟨.ref d, rfl, d, c, _, 4, rfl, dk5, by omega, by omega, by decide, by decide, fun H6 m kp6 dk6 m0 m1 => ?_⟩
    have el6 := kp6.keep offl el5
    have eb6 := kp6.tup dk5 eb
    refine ⟨_, _, rfl, rfl, 2 + m, rfl, by omega, by omega, fun D nD => ?_⟩
    have offD := dk6.off nD
    refine lcK (d := d) (c := c) (per := 3) (n0 := n + 1 + (1 + r) + 2 + 1) (lo := 0) (n := (2 + m).toNat) (fun j H' ws => ∃ ds : List Dq, Dms H' ws ds ∧ ds.length = j ∧ ∀ q ∈ ds, (q.2.1 ≤ x ∧ x ≤ q.1) ∧ q.1 ≤ y ∧ y ≤ q.2.2) nD dk6 (by omega) (fun _ _ _ _ t ⟨ds, h1, h2⟩ => ⟨ds, h1.tps t, h2⟩) (fun j H' ws ⟨ds, h1, h2, _⟩ => by rw [h1.length, h2]; exact Nat.le_refl _) (fun _ => ⟨[], .nil, rfl, fun q hq => nomatch hq⟩) ?_ ?_
    · rintro j H' N acc hj kp' dk' eD ⟨ds, dms, dl, din⟩ yes
      refine ⟨rfl, .ref d, rfl, .ref l, rfl, .ref b, rfl, d, c, l, b, _, x, y, ls, rfl, dk', by omega, by omega, offl, kp'.keep offl el6, by omega, ln, kp'.tup dk6 eb6, mx, my, xy, fun H7 v p lo hi2 kp7 dk7 dm w1 w2 ml mh => ?_⟩
      refine yes H7 _ kp7 dk7 ⟨ds ++ [(p, lo, hi2)], (dms.tps (kp7.tps dk')).snoc dm, by rw [List.length_append, dl]; rfl, fun q hq => ?_⟩
      rcases List.mem_append.mp hq with hq | hq
      · exact din q hq
      · rw [List.mem_singleton.mp hq]
        exact ⟨w1, w2⟩
    · rintro H7 ws kp7 dk7 eD ⟨ds, dms, dl, din⟩
      have el7 := kp7.keep offl el6
      have lw := dms.length
      -- joint_piece(tuple(served)) is None
      refine ⟨.ref D, rfl, D, ws, rfl, .inl ⟨SqL.of eD, fun pt npt => ?_⟩⟩
      have s8 := same_new (o := .tup ws) npt
      have e8 := upd_same (H := H7) (a := pt) (o := .tup ws)
      generalize upd H7 pt (.tup ws) = H8 at *
      refine ⟨pt, ws, ds, rfl, e8, dms.same s8, by omega, by omega, fun H9 vj jm jM ends s9 ov => ?_⟩
      have sv : allSv jm jM ds = true := sv_of.mpr fun q hq => by
        obtain ⟨q1, h1, e1⟩ := List.mem_map.mp ends.m1
        obtain ⟨q2, h2, e2⟩ := List.mem_map.mp ends.M1
        have z := din q hq
        have z1 := din q1 h1
        have z2 := din q2 h2
        have y1 := ends.m2 q.1 (List.mem_map.mpr ⟨q, hq, rfl⟩)
        have y2 := ends.M2 q.1 (List.mem_map.mpr ⟨q, hq, rfl⟩)
        omega
      rw [if_pos sv] at ov
      obtain ⟨tj, rfl, etj⟩ := ov
      refine ⟨rfl, _, rfl, ?_⟩
      rw [show decide (V.ref tj = V.non) = false from decide_eq_false (fun z => by cases z)]
      refine iteF ?_
      have s79 := s8.trans s9
      have dk9 := dk7.kept s79
      have el9 := s79 _ _ el7
      have eD9 := s79 _ _ eD
      have dms9 := dms.same s79
      -- drawn
      refine ⟨.ref d, rfl, d, c, _, 3, rfl, dk9, by omega, by omega, by decide, by decide, fun Ha m2 kpa dka m20 m21 => ?_⟩
      have ela := kpa.keep offl el9
      refine ⟨_, _, rfl, rfl, 2 + m2, rfl, by omega, by omega, fun E2 nE2 => ?_⟩
      refine lcK (d := d) (c := c) (per := 5) (n0 := n + 1 + (1 + r) + 2 + 1 + 3 * ((2 + m).toNat : Int) + 1) (lo := 0) (n := (2 + m2).toNat) (fun j H' ws => ∃ ds : List Dq, Dms H' ws ds ∧ ds.length = j) nE2 dka (by omega) (fun _ _ _ _ t ⟨ds, h1, h2⟩ => ⟨ds, h1.tps t, h2⟩) (fun j H' ws ⟨ds, h1, h2⟩ => by rw [h1.length, h2]; exact Nat.le_refl _) (fun _ => ⟨[], .nil, rfl⟩) ?_ ?_
      · rintro j H' N acc hj kp' dk' eE ⟨ds', dms', dl'⟩ yes
        refine ⟨rfl, .ref d, rfl, .ref l, rfl, d, c, l, _, ls, rfl, dk', by omega, by omega, offl, kp'.keep offl ela, by omega, by omega, ln, fun Hb p lo hi2 t u kpb dkb mlo mhi lp ph nu et eu => ?_⟩
        exact yes Hb _ kpb dkb ⟨ds' ++ [(p, lo, hi2)], (dms'.tps (kpb.tps dk')).snoc ⟨⟨u, t, rfl, eu, et⟩, lp, ph⟩, by rw [List.length_append, dl']; rfl⟩
      · rintro Hb vs kpb dkb eE ⟨es, dmE, dlE⟩
        have lv := dmE.length
        have elb := kpb.keep offl ela
        have eDb := kpb.keep offD (kpa.keep offD eD9)
        have dmD := (dms9.tps (kpa.tps dk9)).tps (kpb.tps dka)
        -- the four groups
        refine ⟨.ref D, rfl, .ref E2, rfl, .ref D, rfl, .ref E2, rfl, 1, rfl, E2, vs, rfl, SqL.of eE, fun p1 np1 => ?_⟩
        rw [show cutV vs none (some 1) = vs.take 1 from cutTo vs 1]
        have a1 := same_new (o := .lst (vs.take 1)) np1
        have b1 := upd_same (H := Hb) (a := p1) (o := .lst (vs.take 1))
        generalize upd Hb p1 (.lst (vs.take 1)) = G1 at *
        have t1 := List.length_take_le 1 vs
        refine ⟨D, p1, ws, vs.take 1, rfl, rfl, a1 _ _ eDb, b1, by rw [show sizeLine = 16777216 by decide]; omega, fun g1 ng1 => ?_⟩
        have a2 := same_new (o := .lst (ws ++ vs.take 1)) ng1
        have b2 := upd_same (H := G1) (a := g1) (o := .lst (ws ++ vs.take 1))
        generalize upd G1 g1 (.lst (ws ++ vs.take 1)) = G2 at *
        have a12 := a1.trans a2
        refine ⟨.ref D, rfl, 2, rfl, D, ws, rfl, SqL.of (a12 _ _ eDb), fun p2 np2 => ?_⟩
        rw [show cutV ws none (some 2) = ws.take 2 from cutTo ws 2]
        have a3 := same_new (o := .lst (ws.take 2)) np2
        have b3 := upd_same (H := G2) (a := p2) (o := .lst (ws.take 2))
        generalize upd G2 p2 (.lst (ws.take 2)) = G3 at *
        have a13 := a12.trans a3
        refine ⟨.ref E2, rfl, 2, rfl, E2, vs, rfl, SqL.of (a13 _ _ eE), fun p3 np3 => ?_⟩
        rw [show cutV vs none (some 2) = vs.take 2 from cutTo vs 2]
        have a4 := same_new (o := .lst (vs.take 2)) np3
        have b4 := upd_same (H := G3) (a := p3) (o := .lst (vs.take 2))
        generalize upd G3 p3 (.lst (vs.take 2)) = G4 at *
        have t2 := List.length_take_le 2 ws
        have t3 := List.length_take_le 2 vs
        refine ⟨p2, p3, ws.take 2, vs.take 2, rfl, rfl, a4 _ _ b3, b4, by rw [show sizeLine = 16777216 by decide]; omega, fun g2 ng2 => ?_⟩
        have a5 := same_new (o := .lst (ws.take 2 ++ vs.take 2)) ng2
        have b5 := upd_same (H := G4) (a := g2) (o := .lst (ws.take 2 ++ vs.take 2))
        generalize upd G4 g2 (.lst (ws.take 2 ++ vs.take 2)) = G5 at *
        have a15 := a13.trans (a4.trans a5)
        refine ⟨by show 4 ≤ sizeLine; decide, fun lg nlg => ?_⟩
        have a6 := same_new (o := .lst [.ref D, .ref E2, .ref g1, .ref g2]) nlg
        have b6 := upd_same (H := G5) (a := lg) (o := .lst [.ref D, .ref E2, .ref g1, .ref g2])
        generalize upd G5 lg (.lst [.ref D, .ref E2, .ref g1, .ref g2]) = G6 at *
        have a16 := a15.trans a6
        have u1 := List.length_take_le 1 es
        have u2 := List.length_take_le 2 ds
        have u3 := List.length_take_le 2 es
        have v2 : (ds.take 2).length = 2 := by
          rw [List.length_take]
          omega
        have dD6 := dmD.same a16
        have dE6 := dmE.same a16
        have all : ∀ v ∈ [V.ref D, .ref E2, .ref g1, .ref g2], GdL G6 v := fun v hv => by
          rcases List.mem_cons.mp hv with rfl | hv
          · exact ⟨D, ws, ds, rfl, a16 _ _ eDb, dD6, by omega, by omega⟩
          rcases List.mem_cons.mp hv with rfl | hv
          · exact ⟨E2, vs, es, rfl, a16 _ _ eE, dE6, by omega, by omega⟩
          rcases List.mem_cons.mp hv with rfl | hv
          · exact ⟨g1, _, ds ++ es.take 1, rfl, a6 _ _ (a5 _ _ (a4 _ _ (a3 _ _ b2))), dD6.append (dE6.take 1), by rw [List.length_append]; omega, by rw [List.length_append]; omega⟩
          rw [List.mem_singleton.mp hv]
          exact ⟨g2, _, ds.take 2 ++ es.take 2, rfl, a6 _ _ b5, (dD6.take 2).append (dE6.take 2), by rw [List.length_append]; omega, by rw [List.length_append]; omega⟩
        have el6' := a16 _ _ elb
        have dk6' := dkb.kept a16
        generalize [V.ref D, .ref E2, .ref g1, .ref g2] = gs at *
        refine ⟨lg, rfl, ⟨_, SqL.of b6⟩, ?_⟩
        refine for_list (K := K) (a := lg) (xs := gs) (D := ⟨_, _, fun _ _ => True, fun _ _ => True⟩) (fun j σ H' => Same G6 H' ∧ ∃ z4 z5 z6 z7 z8, σ = [some (.ref a), some (.ref d), some (.int (0 + (i : Nat))), some (.ref l), z4, z5, z6, z7, z8])
          ⟨Same.refl _, _, _, _, _, _, rfl⟩ (fun j σ H' _ h => SqL.of (h.1 _ _ b6)) ?_ ?_
        · rintro j v σ G7 hj ⟨sg, z4, z5, z6, z7, z8, rfl⟩
          obtain ⟨gg, gu, gd, rfl, eg, gdm, g0, g30⟩ := (all v (List.mem_of_getElem? hj)).same sg
          refine ⟨.ref l, rfl, .ref gg, rfl, l, gg, ls, gu, gd, rfl, sg _ _ el6', by omega, eg, gdm, g0, g30, fun G8 sh => ?_⟩
          exact ⟨_, rfl, iteF ⟨sg.trans sh, _, _, _, _, _, rfl⟩⟩
        · rintro σ G7 ⟨sg, z4, z5, z6, z7, z8, rfl⟩
          exact ⟨⟨_, dk6'.kept sg, by omega, by omega⟩, _, _, _, _, _, _, _, rfl⟩

end
theorem all_mk {l : PySem.W.OpenLaw} {w : World} {K : PySem.W.Frag} {h : Heap} {mg : Str → Option Value} {fa f1 f2 f3 f4 f5 f6 f7 f8 f9 f10 f11 f12 f13 f14 f15 : Addr} (X : K.In h) (G : h.Ns mainGlobals mg) (hfa : mg "law" = some (.ref fa))
    {od1 an1 od2 an2 od3 an3 od4 an4 od5 an5 od6 an6 od7 an7 od8 an8 od9 an9 od10 an10 od11 an11 od12 an12 od13 an13 od14 an14 od15 an15 : Option Addr} {sl1 sl2 sl3 sl4 sl5 sl6 sl7 sl8 sl9 sl10 sl11 sl12 sl13 sl14 sl15 : Array (Option Value)} {oc1 kV1 dc1 pm1 cd1 ct1 oc2 kV2 dc2 pm2 cd2 ct2 oc3 kV3 dc3 pm3 cd3 ct3 oc4 kV4 dc4 pm4 cd4 ct4 oc5 kV5 dc5 pm5 cd5 ct5 oc6 kV6 dc6 pm6 cd6 ct6 oc7 kV7 dc7 pm7 cd7 ct7 oc8 kV8 dc8 pm8 cd8 ct8 oc9 kV9 dc9 pm9 cd9 ct9 oc10 kV10 dc10 pm10 cd10 ct10 oc11 kV11 dc11 pm11 cd11 ct11 oc12 kV12 dc12 pm12 cd12 ct12 oc13 kV13 dc13 pm13 cd13 ct13 oc14 kV14 dc14 pm14 cd14 ct14 oc15 kV15 dc15 pm15 cd15 ct15 : Value}
    (a1 : PySem.W.nsIn K mainGlobals "has_position" = some (some (.ref f1))) (l1 : K.lookup f1 = some ⟨oc1, od1, .func (PySem.W.fnOf "has_position" "has_position" (defArgs s_has_position) (defBody s_has_position) (defScope s_has_position) .none kV1 dc1 pm1 an1 cd1 ct1), sl1⟩) (c1 : PySem.W.codeIn K cd1 "has_position" = true) (k1 : PySem.W.keepIn K (.ref f1) = true)
    (a2 : PySem.W.nsIn K mainGlobals "contains" = some (some (.ref f2))) (l2 : K.lookup f2 = some ⟨oc2, od2, .func (PySem.W.fnOf "contains" "contains" (defArgs s_contains) (defBody s_contains) (defScope s_contains) .none kV2 dc2 pm2 an2 cd2 ct2), sl2⟩) (c2 : PySem.W.codeIn K cd2 "contains" = true) (k2 : PySem.W.keepIn K (.ref f2) = true)
    (a3 : PySem.W.nsIn K mainGlobals "serves" = some (some (.ref f3))) (l3 : K.lookup f3 = some ⟨oc3, od3, .func (PySem.W.fnOf "serves" "serves" (defArgs s_serves) (defBody s_serves) (defScope s_serves) .none kV3 dc3 pm3 an3 cd3 ct3), sl3⟩) (c3 : PySem.W.codeIn K cd3 "serves" = true) (k3 : PySem.W.keepIn K (.ref f3) = true)
    (a4 : PySem.W.nsIn K mainGlobals "conflict" = some (some (.ref f4))) (l4 : K.lookup f4 = some ⟨oc4, od4, .func (PySem.W.fnOf "conflict" "conflict" (defArgs s_conflict) (defBody s_conflict) (defScope s_conflict) .none kV4 dc4 pm4 an4 cd4 ct4), sl4⟩) (c4 : PySem.W.codeIn K cd4 "conflict" = true) (k4 : PySem.W.keepIn K (.ref f4) = true)
    (a5 : PySem.W.nsIn K mainGlobals "joint_piece" = some (some (.ref f5))) (l5 : K.lookup f5 = some ⟨oc5, od5, .func (PySem.W.fnOf "joint_piece" "joint_piece" (defArgs s_joint_piece) (defBody s_joint_piece) (defScope s_joint_piece) .none kV5 dc5 pm5 an5 cd5 ct5), sl5⟩) (c5 : PySem.W.codeIn K cd5 "joint_piece" = true) (k5 : PySem.W.keepIn K (.ref f5) = true)
    (a6 : PySem.W.nsIn K mainGlobals "_law_deck" = some (some (.ref f6))) (l6 : K.lookup f6 = some ⟨oc6, od6, .func (PySem.W.fnOf "_law_deck" "_law_deck" (defArgs s_law_deck) (defBody s_law_deck) (defScope s_law_deck) .none kV6 dc6 pm6 an6 cd6 ct6), sl6⟩) (c6 : PySem.W.codeIn K cd6 "_law_deck" = true) (k6 : PySem.W.keepIn K (.ref f6) = true)
    (a7 : PySem.W.nsIn K mainGlobals "_law_draw" = some (some (.ref f7))) (l7 : K.lookup f7 = some ⟨oc7, od7, .func (PySem.W.fnOf "_law_draw" "_law_draw" (defArgs s_law_draw) (defBody s_law_draw) (defScope s_law_draw) .none kV7 dc7 pm7 an7 cd7 ct7), sl7⟩) (c7 : PySem.W.codeIn K cd7 "_law_draw" = true) (k7 : PySem.W.keepIn K (.ref f7) = true)
    (a8 : PySem.W.nsIn K mainGlobals "_law_line" = some (some (.ref f8))) (l8 : K.lookup f8 = some ⟨oc8, od8, .func (PySem.W.fnOf "_law_line" "_law_line" (defArgs s_law_line) (defBody s_law_line) (defScope s_law_line) .none kV8 dc8 pm8 an8 cd8 ct8), sl8⟩) (c8 : PySem.W.codeIn K cd8 "_law_line" = true) (k8 : PySem.W.keepIn K (.ref f8) = true)
    (a9 : PySem.W.nsIn K mainGlobals "_law_interval" = some (some (.ref f9))) (l9 : K.lookup f9 = some ⟨oc9, od9, .func (PySem.W.fnOf "_law_interval" "_law_interval" (defArgs s_law_interval) (defBody s_law_interval) (defScope s_law_interval) .none kV9 dc9 pm9 an9 cd9 ct9), sl9⟩) (c9 : PySem.W.codeIn K cd9 "_law_interval" = true) (k9 : PySem.W.keepIn K (.ref f9) = true)
    (a10 : PySem.W.nsIn K mainGlobals "_law_demand" = some (some (.ref f10))) (l10 : K.lookup f10 = some ⟨oc10, od10, .func (PySem.W.fnOf "_law_demand" "_law_demand" (defArgs s_law_demand) (defBody s_law_demand) (defScope s_law_demand) .none kV10 dc10 pm10 an10 cd10 ct10), sl10⟩) (c10 : PySem.W.codeIn K cd10 "_law_demand" = true) (k10 : PySem.W.keepIn K (.ref f10) = true)
    (a11 : PySem.W.nsIn K mainGlobals "_law_every" = some (some (.ref f11))) (l11 : K.lookup f11 = some ⟨oc11, od11, .func (PySem.W.fnOf "_law_every" "_law_every" (defArgs s_law_every) (defBody s_law_every) (defScope s_law_every) .none kV11 dc11 pm11 an11 cd11 ct11), sl11⟩) (c11 : PySem.W.codeIn K cd11 "_law_every" = true) (k11 : PySem.W.keepIn K (.ref f11) = true)
    (a12 : PySem.W.nsIn K mainGlobals "_law_all_conflict" = some (some (.ref f12))) (l12 : K.lookup f12 = some ⟨oc12, od12, .func (PySem.W.fnOf "_law_all_conflict" "_law_all_conflict" (defArgs s_law_all_conflict) (defBody s_law_all_conflict) (defScope s_law_all_conflict) .none kV12 dc12 pm12 an12 cd12 ct12), sl12⟩) (c12 : PySem.W.codeIn K cd12 "_law_all_conflict" = true) (k12 : PySem.W.keepIn K (.ref f12) = true)
    (a13 : PySem.W.nsIn K mainGlobals "_law_around" = some (some (.ref f13))) (l13 : K.lookup f13 = some ⟨oc13, od13, .func (PySem.W.fnOf "_law_around" "_law_around" (defArgs s_law_around) (defBody s_law_around) (defScope s_law_around) .none kV13 dc13 pm13 an13 cd13 ct13), sl13⟩) (c13 : PySem.W.codeIn K cd13 "_law_around" = true) (k13 : PySem.W.keepIn K (.ref f13) = true)
    (a14 : PySem.W.nsIn K mainGlobals "_law_right" = some (some (.ref f14))) (l14 : K.lookup f14 = some ⟨oc14, od14, .func (PySem.W.fnOf "_law_right" "_law_right" (defArgs s_law_right) (defBody s_law_right) (defScope s_law_right) .none kV14 dc14 pm14 an14 cd14 ct14), sl14⟩) (c14 : PySem.W.codeIn K cd14 "_law_right" = true) (k14 : PySem.W.keepIn K (.ref f14) = true)
    (a15 : PySem.W.nsIn K mainGlobals "law" = some (some (.ref f15))) (l15 : K.lookup f15 = some ⟨oc15, od15, .func (PySem.W.fnOf "law" "law" (defArgs s_law) (defBody s_law) (defScope s_law) .none kV15 dc15 pm15 an15 cd15 ct15), sl15⟩) (c15 : PySem.W.codeIn K cd15 "law" = true) (k15 : PySem.W.keepIn K (.ref f15) = true)
    (z0 : PySem.W.nsIn K mainGlobals "abs" = some none) (z1 : PySem.W.nsIn K mainGlobals "all" = some none) (z2 : PySem.W.nsIn K mainGlobals "enumerate" = some none) (z3 : PySem.W.nsIn K mainGlobals "len" = some none) (z4 : PySem.W.nsIn K mainGlobals "max" = some none) (z5 : PySem.W.nsIn K mainGlobals "min" = some none) (z6 : PySem.W.nsIn K mainGlobals "range" = some none) (z7 : PySem.W.nsIn K mainGlobals "tuple" = some none) :
    ∃ fd : FuncData, (∀ (s : Shared) (v : Value), BindsTo s fd ⟨[v], []⟩ [("_law_script", v)]) ∧ ∀ base : Heap, K.In base → base.Ns mainGlobals mg → FnOk l.prog w K mg base CX0 5 fa fd ["_law_script"] (sp_law K) := by
  have e := hfa.symm.trans (PySem.W.mg_of X G a15)
  cases e
  have F1 := fun_mk (st := s_has_position) l1 c1 k1
  have b1 := F1.binds (ps := ["interval", "position"]) fun _ _ _ _ _ _ us hl => match us, hl with | [_, _], _ => rfl
  have F2 := fun_mk (st := s_contains) l2 c2 k2
  have b2 := F2.binds (ps := ["outer", "inner"]) fun _ _ _ _ _ _ us hl => match us, hl with | [_, _], _ => rfl
  have F3 := fun_mk (st := s_serves) l3 c3 k3
  have b3 := F3.binds (ps := ["piece", "demand"]) fun _ _ _ _ _ _ us hl => match us, hl with | [_, _], _ => rfl
  have F4 := fun_mk (st := s_conflict) l4 c4 k4
  have b4 := F4.binds (ps := ["first", "second"]) fun _ _ _ _ _ _ us hl => match us, hl with | [_, _], _ => rfl
  have F5 := fun_mk (st := s_joint_piece) l5 c5 k5
  have b5 := F5.binds (ps := ["demands"]) fun _ _ _ _ _ _ us hl => match us, hl with | [_], _ => rfl
  have F6 := fun_mk (st := s_law_deck) l6 c6 k6
  have b6 := F6.binds (ps := ["_law_script"]) fun _ _ _ _ _ _ us hl => match us, hl with | [_], _ => rfl
  have F7 := fun_mk (st := s_law_draw) l7 c7 k7
  have b7 := F7.binds (ps := ["_law_deck_here", "_law_bound"]) fun _ _ _ _ _ _ us hl => match us, hl with | [_, _], _ => rfl
  have F8 := fun_mk (st := s_law_line) l8 c8 k8
  have b8 := F8.binds (ps := ["_law_deck_here", "_law_count"]) fun _ _ _ _ _ _ us hl => match us, hl with | [_, _], _ => rfl
  have F9 := fun_mk (st := s_law_interval) l9 c9 k9
  have b9 := F9.binds (ps := ["_law_deck_here", "_law_line_here"]) fun _ _ _ _ _ _ us hl => match us, hl with | [_, _], _ => rfl
  have F10 := fun_mk (st := s_law_demand) l10 c10 k10
  have b10 := F10.binds (ps := ["_law_deck_here", "_law_line_here"]) fun _ _ _ _ _ _ us hl => match us, hl with | [_, _], _ => rfl
  have F11 := fun_mk (st := s_law_every) l11 c11 k11
  have b11 := F11.binds (ps := ["_law_line_here"]) fun _ _ _ _ _ _ us hl => match us, hl with | [_], _ => rfl
  have F12 := fun_mk (st := s_law_all_conflict) l12 c12 k12
  have b12 := F12.binds (ps := ["_law_demands"]) fun _ _ _ _ _ _ us hl => match us, hl with | [_], _ => rfl
  have F13 := fun_mk (st := s_law_around) l13 c13 k13
  have b13 := F13.binds (ps := ["_law_deck_here", "_law_line_here", "_law_piece"]) fun _ _ _ _ _ _ us hl => match us, hl with | [_, _, _], _ => rfl
  have F14 := fun_mk (st := s_law_right) l14 c14 k14
  have b14 := F14.binds (ps := ["_law_line_here", "_law_demands"]) fun _ _ _ _ _ _ us hl => match us, hl with | [_, _], _ => rfl
  have F15 := fun_mk (st := s_law) l15 c15 k15
  have b15 := F15.binds (ps := ["_law_script"]) fun _ _ _ _ _ _ us hl => match us, hl with | [_], _ => rfl
  have T : Tx K mg _ _ _ _ _ _ _ _ _ _ _ _ _ _ _ _ _ _ _ _ _ _ _ _ _ _ _ _ _ _ := ⟨F1, b1, PySem.W.mg_of X G a1, F2, b2, PySem.W.mg_of X G a2, F3, b3, PySem.W.mg_of X G a3, F4, b4, PySem.W.mg_of X G a4, F5, b5, PySem.W.mg_of X G a5, F6, b6, PySem.W.mg_of X G a6, F7, b7, PySem.W.mg_of X G a7, F8, b8, PySem.W.mg_of X G a8, F9, b9, PySem.W.mg_of X G a9, F10, b10, PySem.W.mg_of X G a10, F11, b11, PySem.W.mg_of X G a11, F12, b12, PySem.W.mg_of X G a12, F13, b13, PySem.W.mg_of X G a13, F14, b14, PySem.W.mg_of X G a14, F15, b15, PySem.W.mg_of X G a15, PySem.W.mg_none_of X G z0, PySem.W.mg_none_of X G z1, PySem.W.mg_none_of X G z2, PySem.W.mg_none_of X G z3, PySem.W.mg_none_of X G z4, PySem.W.mg_none_of X G z5, PySem.W.mg_none_of X G z6, PySem.W.mg_none_of X G z7⟩
  exact ⟨_, fun s v => .of_eq rfl, fun base _ _ => ok_law T⟩
end L9
open PySem PySem.W PyProof.Rows
set_option maxHeartbeats 0 in
theorem PySem.Challenge.cw_fewspans_k20_whole_pairs_make_joint_piec_holds : PySem.Challenge.rw_fewspans_k20_whole_pairs_make_joint_piec.Holds := by
  w_on; o_law; k_head; (case hw => w_witness2)
  k_fill
  refine L2.walk_of (l := PySem.Challenge.rw_fewspans_k20_whole_pairs_make_joint_piec) (n := 63) (k := 5) (x := "_law_script") (CX := fun _ => L2.CX0) (sp := fun w => L9.sp_law _) rfl (by decide) rfl ⟨rfl, by decide, by decide⟩ (fun w h Y => PySem.W.kIn_of Y) ?F (fun _ _ a ns hl _ hS => ⟨a, ns, rfl, hS, hl, fun _ => rfl⟩) (fun _ _ _ _ _ h => h)
  case F =>
    intro w mg fa h KX G hmg
    refine' L9.all_mk KX G hmg ?a1 ?l1 ?c1 ?k1 ?a2 ?l2 ?c2 ?k2 ?a3 ?l3 ?c3 ?k3 ?a4 ?l4 ?c4 ?k4 ?a5 ?l5 ?c5 ?k5 ?a6 ?l6 ?c6 ?k6 ?a7 ?l7 ?c7 ?k7 ?a8 ?l8 ?c8 ?k8 ?a9 ?l9 ?c9 ?k9 ?a10 ?l10 ?c10 ?k10 ?a11 ?l11 ?c11 ?k11 ?a12 ?l12 ?c12 ?k12 ?a13 ?l13 ?c13 ?k13 ?a14 ?l14 ?c14 ?k14 ?a15 ?l15 ?c15 ?k15 ?z0 ?z1 ?z2 ?z3 ?z4 ?z5 ?z6 ?z7
    (case a1 => k_is)
    (case l1 => k_is)
    (case c1 => k_is)
    (case k1 => k_is)
    (case a2 => k_is)
    (case l2 => k_is)
    (case c2 => k_is)
    (case k2 => k_is)
    (case a3 => k_is)
    (case l3 => k_is)
    (case c3 => k_is)
    (case k3 => k_is)
    (case a4 => k_is)
    (case l4 => k_is)
    (case c4 => k_is)
    (case k4 => k_is)
    (case a5 => k_is)
    (case l5 => k_is)
    (case c5 => k_is)
    (case k5 => k_is)
    (case a6 => k_is)
    (case l6 => k_is)
    (case c6 => k_is)
    (case k6 => k_is)
    (case a7 => k_is)
    (case l7 => k_is)
    (case c7 => k_is)
    (case k7 => k_is)
    (case a8 => k_is)
    (case l8 => k_is)
    (case c8 => k_is)
    (case k8 => k_is)
    (case a9 => k_is)
    (case l9 => k_is)
    (case c9 => k_is)
    (case k9 => k_is)
    (case a10 => k_is)
    (case l10 => k_is)
    (case c10 => k_is)
    (case k10 => k_is)
    (case a11 => k_is)
    (case l11 => k_is)
    (case c11 => k_is)
    (case k11 => k_is)
    (case a12 => k_is)
    (case l12 => k_is)
    (case c12 => k_is)
    (case k12 => k_is)
    (case a13 => k_is)
    (case l13 => k_is)
    (case c13 => k_is)
    (case k13 => k_is)
    (case a14 => k_is)
    (case l14 => k_is)
    (case c14 => k_is)
    (case k14 => k_is)
    (case a15 => k_is)
    (case l15 => k_is)
    (case c15 => k_is)
    (case k15 => k_is)
    (case z0 => k_is)
    (case z1 => k_is)
    (case z2 => k_is)
    (case z3 => k_is)
    (case z4 => k_is)
    (case z5 => k_is)
    (case z6 => k_is)
    (case z7 => k_is)
