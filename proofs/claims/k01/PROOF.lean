import PyProof.Rows.All
import Wide.All
import OpenK.AllK
import Wide.FinOn
import PySem.Challenge.RW_fewspans_k01_targets_and_pieces_judged
import HandS.ForMost
import HandS.Wide
import HandS.IsInst
import HandS.Conv
import HandS.TupLe
import HandS.TupSets
import HandS.TupAny
import HandS.Style
import PyProof.NeKinds
import KE.GoesEnum
import KE.GoesMore
set_option Elab.async false
set_option linter.all false
set_option maxRecDepth 100000
set_option maxHeartbeats 4000000
namespace L9
open PySem PySem.Spec PyProof.Rows L2
/-! ### defs that are run where no text-making of the machine is under way (repr, str of nested data ask for it) -/
abbrev Quiet (A : Around) : Prop := A.guards = some []
structure FnG (P : Program) (w : World) (K : PySem.W.Frag) (mg : Str → Option Value) (base : Heap) (k : Nat) (f : Addr) (fd : FuncData) (ps : List Str) (sp : Sp) : Prop where
  size : ∀ {vs H Q}, sp vs H Q E0 → vs.length = ps.length
  go : ∀ {A outer s H us vs Q}, Room k A → Quiet A → Env0 P w K mg base A outer s H → BindsTo s fd ⟨us, []⟩ (ps.zip us) → Vals vs us → sp vs H Q E0 →
    codeAny (model P w) A (.call (.ref f) ⟨us, []⟩) (CR CX0 outer P w H s Q E0) s
section
variable {P : Program} {w : World} {K : PySem.W.Frag} {mg : Str → Option Value} {base : Heap}
theorem FnG.of {x qual : Str} {st : Stmt} {f : Addr} {fd : FuncData} {N ps : List Str} {k : Nat} {sp : Sp} (F : Fun K x qual st f fd) (S : FnScope N ps (defScope st))
    (size : ∀ {vs H Q}, sp vs H Q E0 → vs.length = ps.length)
    (body : ∀ cdv A outer s H vs Q, Room k (A.deeper (envOfC qual (defScope st) s.heap.objs.size f cdv)) → Quiet (A.deeper (envOfC qual (defScope st) s.heap.objs.size f cdv)) → sp vs H Q E0 →
      ∃ t, PSs (cxOf CX0 P w K mg base N qual (defScope st) f cdv A outer s H E0).nox (defBody st) t ∧ t { nx := fun _ H' => Q .non H', rt := Q } (start N vs) H) :
    FnG P w K mg base (k + 1) f fd ps sp := by
  obtain ⟨oc, od, kV, doc, pm, an, cdv, ct, osl, rfl, look, code⟩ := F.ex
  constructor
  · exact size
  intro A outer s H us vs Q room quiet e0 bind rel want
  have inH : K.In s.heap := e0.mod.kin.keeps fun b o q => (e0.bs b o q).1
  have lim := e0.mod.nolimit.keeps (fun b o q => (e0.bs b o q).1)
  have kinds : ∀ y ∈ ps.zip us, (defScope st).names.lookup y.1 = some .local ∨ ((defScope st).names.lookup y.1 = some .cell ∧ ((cellsFrom (s.heap.objs.size + 1) (defScope st).names []).lookup y.1).isSome = true) := by
    rintro ⟨n, v⟩ hy
    have hn := (List.of_mem_zip hy).1
    cases S.par n hn with
    | inl q => exact Or.inl q
    | inr q => exact Or.inr ⟨q, PySem.W.cellsFrom_some _ _ _ (Or.inl q)⟩
  apply codeAny_call_function room.depth (inH _ _ look) rfl S.co S.gen rfl (PySem.W.codeRec_of inH code)
  apply bind
  apply wpAny_newFunctionEnv_cells S.kind kinds
  intro env he s1 x
  subst he
  refine And.intro (lim.keeps x.toInCall.keep) (codeAny_func ?_)
  obtain ⟨t, ht, hq⟩ := body cdv A outer s H vs Q (room.deeper _) quiet want
  have I := inv_start (CX := CX0) (E := E0) S room.hd e0 (size want) rel x
  apply wpAny_mono (ht.nox.run [] s1 (start N vs) H _ I hq)
  · intro fl s' hs
    cases fl with
    | ret u =>
      obtain ⟨v, σ', H', J, rv, q⟩ := hs
      exact Exists.intro v ⟨H', J.os, J.bare, J.base, J.hok, rv, q⟩
    | next =>
      obtain ⟨σ', H', J, q⟩ := hs
      exact Exists.intro V.non ⟨H', J.os, J.bare, J.base, J.hok, rfl, q⟩
    | brk => exact hs.elim fun _ h => h.elim fun _ h => h.2.elim
    | cont => exact hs.elim fun _ h => h.elim fun _ h => h.2.elim
  · intro e s' hs
    exact hs
end
section
variable {X : Cx} {k : Nat} {f : Addr} {fd : FuncData} {ps : List Str} {sp : Sp} {x : Str} {p pos : Pos} {e : Expr} {es : List Expr} {t : TA}
theorem pe_callG (F : FnG X.prog X.w X.K X.mg X.base k f fd ps sp) (room : Room k X.A) (quiet : Quiet X.A) (hg : Gl X x) (hm : X.mg x = some (.ref f)) (keep : PySem.W.keepIn X.K (.ref f) = true) (bind : Binds X.K fd ps [])
    (args : PA X (e :: es) t) (hdb : (x == ("__debug__" : Str)) = false := by decide) (star : starEach (e :: es) X.env = (false, eval e X.env) :: starEach es X.env := by rfl) (plain : (backTo pos (starEach es X.env)).any (·.1) = false := by rfl) :
    PE X (.Call (.Name x p) (e :: es) [] pos) (tCall sp [] E0 t) := by
  constructor
  intro pins s σ H Q I h
  apply wpAny_Call_Name_kw
  apply ld_glob I hg hm _ hdb
  apply PySem.W.callWith_K (h₀ := X.base) I.ok.mod.kin keep _ star plain
  apply thn (args.run pos pins s σ H _ I h)
  rintro us s1 ⟨vs, H1, I1, rel, q⟩
  refine And.intro I1.kIn ?_
  have q' : sp vs H1 Q E0 := by
    have z := q
    rw [List.append_nil] at z
    exact z
  have same : us.length = ps.length := rel.length.symm.trans (F.size q')
  have b := bind s1 us I1.kIn (by rw [List.append_nil]; exact same)
  rw [List.append_nil] at b
  apply wpAny_call
  apply codeAny_mono (F.go room quiet I1.env0 b rel q')
  intro r s' hr
  match r, hr with
  | .error _, hr => exact hr.elim
  | .ok (.ret u), hr => exact I1.after hr
  | .ok .next, hr => exact False.elim hr
  | .ok .brk, hr => exact False.elim hr
  | .ok .cont, hr => exact False.elim hr
end
/-! ### repr of data at any depth -/
structure Sm (n dp : Nat) (d : PyData) : Prop where
  shows : d.showable = true
  short : d.leavesShort 40 = true
  small : d.weight ≤ n
  flat : d.depth ≤ dp
theorem Sm.mono {n m dp dq : Nat} {d : PyData} (h : Sm n dp d) (h1 : n ≤ m) (h2 : dp ≤ dq) : Sm m dq d := ⟨h.shows, h.short, Nat.le_trans h.small h1, Nat.le_trans h.flat h2⟩
theorem Sm.none : Sm 0 0 .none := ⟨rfl, rfl, Nat.le_refl _, Nat.le_refl _⟩
theorem Sm.bool (b : Bool) : Sm 0 0 (.bool b) := ⟨rfl, rfl, Nat.le_refl _, Nat.le_refl _⟩
theorem log2_small {i : Int} (h : i.natAbs < 10 ^ 30) : i.natAbs.log2 < 100 := PySem.Flt.log2_lt_of (by decide) (Nat.lt_trans h (by decide))
theorem Sm.int {i : Int} (h : i.natAbs < 10 ^ 30) : Sm 100 0 (.int i) := by
  have l := log2_small h
  refine ⟨decide_eq_true (Nat.lt_trans l (by decide)), decide_eq_true ?_, ?_, Nat.le_refl _⟩
  · have q := int_text_length_le10 (a := i) (k := 30) (by decide) h
    show (Str.ofString (toString i)).length ≤ 40
    rw [PySem.ofString_length]
    exact Nat.le_trans q (by decide)
  · show (if i == 0 then 0 else i.natAbs.log2 + 1) ≤ 100
    split <;> omega
theorem smAll {n dp : Nat} : ∀ {ds : List PyData}, (∀ d ∈ ds, Sm n dp d) → PyData.showableAll ds = true ∧ PyData.leavesShortAll 40 ds = true ∧ PyData.weightAll ds ≤ ds.length * (n + 1) ∧ PyData.depthAll ds ≤ dp
  | [], _ => ⟨rfl, rfl, Nat.zero_le _, Nat.zero_le _⟩
  | d :: ds, h => by
    obtain ⟨a, b, c, e⟩ := smAll (ds := ds) fun x hx => h x (List.mem_cons_of_mem _ hx)
    have z := h d List.mem_cons_self
    refine ⟨?_, ?_, ?_, ?_⟩
    · show (d.showable && PyData.showableAll ds) = true
      rw [z.shows, a]
      rfl
    · show (d.leavesShort 40 && PyData.leavesShortAll 40 ds) = true
      rw [z.short, b]
      rfl
    · show d.weight + 1 + PyData.weightAll ds ≤ (ds.length + 1) * (n + 1)
      have := z.small
      rw [Nat.add_mul]
      omega
    · show max d.depth (PyData.depthAll ds) ≤ dp
      exact Nat.max_le.mpr ⟨z.flat, e⟩
theorem Sm.tup {n dp : Nat} {ds : List PyData} (h : ∀ d ∈ ds, Sm n dp d) : Sm (ds.length * (n + 1)) (dp + 1) (.tuple ds) :=
  let ⟨a, b, c, e⟩ := smAll h
  ⟨a, b, c, Nat.succ_le_succ e⟩
theorem Sm.lst {n dp : Nat} {ds : List PyData} (h : ∀ d ∈ ds, Sm n dp d) : Sm (ds.length * (n + 1)) (dp + 1) (.list ds) :=
  let ⟨a, b, c, e⟩ := smAll h
  ⟨a, b, c, Nat.succ_le_succ e⟩
theorem Sm.fits {n dp : Nat} {d : PyData} (h : Sm n dp d) (hn : n ≤ 300000) : d.shown.length ≤ sizeLine := by
  have q := PyData.shown_le 40 (by decide) d h.short
  have := h.small
  have e : sizeLine = 16777216 := by decide
  rw [e]
  omega
/-- data with dicts in it; its lists stand in the heap by themselves -/
def keyD : Key → PyData
  | .inl i => .int i
  | .inr x => .str x
mutual
inductive Dv (K : PySem.W.Frag) (H : Hp) : V → PyData → Prop
  | non : Dv K H .non .none
  | bl (b : Bool) : Dv K H (.bl b) (.bool b)
  | int (i : Int) : Dv K H (.int i) (.int i)
  | str (x : Str) : Dv K H (.str x) (.str x)
  | lst {a : Addr} {xs : List V} {ds : List PyData} : H a = some (.lst xs) → DvAll K H xs ds → Dv K H (.ref a) (.list ds)
  | tup {a : Addr} {xs : List V} {ds : List PyData} : H a = some (.tup xs) → DvAll K H xs ds → Dv K H (.ref a) (.tuple ds)
  | dic {a : Addr} {kvs : List (Key × V)} {ds : List PyData} : H a = some (.dK kvs) → DvAll K H (kvs.map (·.2)) ds → Dv K H (.ref a) (.dict ((kvs.map fun p => keyD p.1).zip ds))
inductive DvAll (K : PySem.W.Frag) (H : Hp) : List V → List PyData → Prop
  | nil : DvAll K H [] []
  | cons {v : V} {vs : List V} {d : PyData} {ds : List PyData} : Dv K H v d → DvAll K H vs ds → DvAll K H (v :: vs) (d :: ds)
end
theorem DvAll.length {K : PySem.W.Frag} {H : Hp} : ∀ {vs : List V} {ds : List PyData}, DvAll K H vs ds → vs.length = ds.length
  | _, _, .nil => rfl
  | _, _, .cons _ h => by rw [List.length_cons, List.length_cons, h.length]
theorem keys_read {P : Program} {w : World} {h : Heap} : ∀ {es : List DictEntry} {vs : List (Key × Value)}, Pairs (mixKind P w) es vs → ReadsAll h (es.map (·.key)) (vs.map fun p => keyD p.1) []
  | _, _, .nil => .nil
  | _, _, .cons (e := e) (kv := kv) hk _ r => by
    have one : Reads h e.key (keyD kv.1) [] := by
      rcases keyIs_shape hk with ⟨i, t, e1, e2⟩ | ⟨x, t, e1, e2⟩
      · rw [e1, e2]
        exact .int i t
      · rw [e1, e2]
        exact .str x t
    exact ReadsAll.cons one (keys_read r)
theorem vals_read {P : Program} {w : World} : ∀ {es : List DictEntry} {vs : List (Key × Value)}, Pairs (mixKind P w) es vs → es.map (·.val) = vs.map (·.2)
  | _, _, .nil => rfl
  | _, _, .cons _ hv r => by rw [List.map_cons, List.map_cons, hv, vals_read r]
theorem kv_vals : ∀ {kvs : List (Key × V)} {vs : List (Key × Value)}, KV kvs vs → Vals (kvs.map (·.2)) (vs.map (·.2)) ∧ (vs.map fun p => keyD p.1) = kvs.map fun p => keyD p.1
  | _, _, .nil => ⟨.nil, rfl⟩
  | _, _, .cons h r => by
    obtain ⟨a, b⟩ := kv_vals r
    refine ⟨.cons h.2 a, ?_⟩
    rw [List.map_cons, List.map_cons, b, h.1]
section
variable {X : Cx} {pins : List (Addr × Obj)} {σ : L2.St} {H : Hp} {s : Shared}
theorem Dv.reads (I : Inv X pins σ H s) (mods : ∃ mm, X.base.Ns sysModules mm) {v : V} {d : PyData} (h : Dv X.K H v d) : ∀ u : Value, RelV v u → ∃ as, Reads s.heap u d as ∧ sysModules ∉ as := by
  have free : H sysModules = none := by
    obtain ⟨mm, o, es, ep, e, _⟩ := mods
    exact (I.bs _ o e).2
  refine Dv.rec (K := X.K) (H := H) (motive_1 := fun v d _ => ∀ u : Value, RelV v u → ∃ as, Reads s.heap u d as ∧ sysModules ∉ as) (motive_2 := fun vs ds _ => ∀ us : List Value, Vals vs us → ∃ as, ReadsAll s.heap us ds as ∧ sysModules ∉ as) ?_ ?_ ?_ ?_ ?_ ?_ ?_ ?_ ?_ h
  · intro u r
    cases r
    exact ⟨_, .none, fun z => nomatch z⟩
  · intro b u r
    cases r
    exact ⟨_, .bool b, fun z => nomatch z⟩
  · intro i u r
    obtain ⟨t, rfl⟩ := r
    exact ⟨_, .int i t, fun z => nomatch z⟩
  · intro x u r
    obtain ⟨t, rfl⟩ := r
    exact ⟨_, .str x t, fun z => nomatch z⟩
  · intro a xs ds e _ ih u r
    cases r
    obtain ⟨_, its, n, rv, q⟩ := I.hok a _ e
    obtain ⟨as, ra, na⟩ := ih _ rv
    refine ⟨a :: as, .list q rfl rfl (by simpa using ra), fun z => ?_⟩
    rcases List.mem_cons.mp z with z | z
    · rw [← z, free] at e
      cases e
    · exact na z
  · intro a xs ds e _ ih u r
    cases r
    obtain ⟨_, its, rv, o, ho, hc, n, hd⟩ := I.hok a _ e
    obtain ⟨as, ra, na⟩ := ih _ rv
    exact ⟨as, .tuple ho hc hd (by simpa using ra), na⟩
  · intro a kvs ds e hall ih u r
    cases r
    obtain ⟨_, hne, vs, kv, o, es, ep, ho, ex, hd, _, prs, _⟩ := I.hok a _ e
    obtain ⟨rv, ek⟩ := kv_vals kv
    obtain ⟨as, ra, na⟩ := ih _ rv
    have len : (kvs.map fun p => keyD p.1).length = ds.length := by
      have z := hall.length
      rw [List.length_map] at z
      rw [List.length_map, z]
    refine ⟨_, .dict ho ex.1 hd (as := []) (bs := as) ?_ ?_, fun z => ?_⟩
    · rw [List.map_fst_zip (by omega), ← ek]
      exact keys_read prs
    · rw [List.map_snd_zip (by omega), vals_read prs]
      exact ra
    · rcases List.mem_cons.mp z with z | z
      · rw [← z] at hne
        exact absurd hne (by decide)
      · exact na z
  · intro us r
    cases r
    exact ⟨_, .nil, fun z => nomatch z⟩
  · intro v vs d ds _ _ ih1 ih2 us r
    cases r with
    | cons r1 r2 =>
      obtain ⟨as, ra, na⟩ := ih1 _ r1
      obtain ⟨bs, rb, nb⟩ := ih2 _ r2
      refine ⟨_, .cons ra rb, fun z => ?_⟩
      rcases List.mem_append.mp z with z | z
      · exact na z
      · exact nb z
theorem call_reprV (mods : ∃ mm, X.base.Ns sysModules mm) (quiet : Quiet X.A) (units : X.A.units + 64 < cLine) : CallR X (.builtin "repr")
    (fun xs H Q => ∃ v d n dp, xs = [v] ∧ Dv X.K H v d ∧ Sm n dp d ∧ n ≤ 300000 ∧ dp ≤ 60 ∧ Q (.str d.shown) H) := by
  intro pins s σ H xs us Q I r h
  obtain ⟨v, d, n, dp, rfl, hd, sm, hn, hdp, q⟩ := h
  obtain ⟨u, rfl, ru⟩ := vals1 r
  have fits := sm.fits hn
  have flat := sm.flat
  obtain ⟨as, rd, off⟩ := Dv.reads I mods hd _ ru
  cases hd with
  | non =>
    cases ru
    exact PySem.P.repr_of_none ⟨.str _, H, I.tok _, ⟨_, rfl⟩, q⟩
  | bl b =>
    cases ru
    exact PySem.P.repr_of_bool ⟨.str _, H, I.tok _, ⟨_, rfl⟩, q⟩
  | int i =>
    obtain ⟨t, rfl⟩ := ru
    exact PySem.P.repr_of_int (of_decide_eq_true sm.shows) ⟨.str _, H, I.tok _, ⟨_, rfl⟩, q⟩
  | str x =>
    obtain ⟨t, rfl⟩ := ru
    exact PySem.P.repr_of_str ⟨.str _, H, I.tok _, ⟨_, rfl⟩, q⟩ fits
  | _ =>
    cases ru
    exact repr_of_reads' rd sm.shows (fun _ => off) quiet (by omega) (fun _ _ e => e) (fun h' t tk more => ⟨.str _, H, I.kept more, ⟨_, rfl⟩, q⟩) fits
end
theorem Dp.noDict {K : PySem.W.Frag} {H : Hp} {v : V} {d : PyData} (h : Dp K H v d) : d.hasDict = false := by
  refine Dp.rec (K := K) (H := H) (motive_1 := fun v d _ => d.hasDict = false) (motive_2 := fun vs ds _ => PyData.hasDictAll ds = false) ?_ ?_ ?_ ?_ ?_ ?_ ?_ ?_ h
  all_goals intros
  all_goals simp_all [PyData.hasDict, PyData.hasDictAll]
section
variable {X : Cx}
theorem call_reprD (quiet : Quiet X.A) (units : X.A.units + 64 < cLine) : CallR X (.builtin "repr")
    (fun xs H Q => ∃ v d n dp, xs = [v] ∧ Dp X.K H v d ∧ Sm n dp d ∧ n ≤ 300000 ∧ dp ≤ 60 ∧ Q (.str d.shown) H) := by
  intro pins s σ H xs us Q I r h
  obtain ⟨v, d, n, dp, rfl, hd, sm, hn, hdp, q⟩ := h
  obtain ⟨u, rfl, ru⟩ := vals1 r
  have fits := sm.fits hn
  have flat := sm.flat
  obtain ⟨as, rd⟩ := Dp.reads I d v u hd ru
  cases hd with
  | non =>
    cases ru
    exact PySem.P.repr_of_none ⟨.str _, H, I.tok _, ⟨_, rfl⟩, q⟩
  | bl b =>
    cases ru
    exact PySem.P.repr_of_bool ⟨.str _, H, I.tok _, ⟨_, rfl⟩, q⟩
  | int i =>
    obtain ⟨t, rfl⟩ := ru
    exact PySem.P.repr_of_int (of_decide_eq_true sm.shows) ⟨.str _, H, I.tok _, ⟨_, rfl⟩, q⟩
  | str x =>
    obtain ⟨t, rfl⟩ := ru
    exact PySem.P.repr_of_str ⟨.str _, H, I.tok _, ⟨_, rfl⟩, q⟩ fits
  | lst h1 h2 =>
    cases ru
    exact repr_of_reads' rd sm.shows (PyData.noDict_hsm (Dp.noDict (Dp.lst h1 h2))) quiet (by omega) (fun _ _ e => e) (fun h' t tk more => ⟨.str _, H, I.kept more, ⟨_, rfl⟩, q⟩) fits
  | tup h1 h2 =>
    cases ru
    exact repr_of_reads' rd sm.shows (PyData.noDict_hsm (Dp.noDict (Dp.tup h1 h2))) quiet (by omega) (fun _ _ e => e) (fun h' t tk more => ⟨.str _, H, I.kept more, ⟨_, rfl⟩, q⟩) fits
end
/-! ### the end of a law row whose def is of the quiet kind -/
theorem quiet_law {P : Program} {w : World} {K : PySem.W.Frag} {mg mb : Str → Option Value} {k : Nat} {fa a : Addr} {fd : FuncData} {x : Str} {sp : Sp} {s₁ : Shared} {vs : List Value} {ns : List Int}
    (inK : K.In s₁.heap) (glob : s₁.heap.Ns mainGlobals mg) (blt : s₁.heap.Ns builtinsNs mb) (bltIs : ∀ y : Str, y ≠ "__name__" → mb y = bootBuiltins y) (lim : s₁.heap.NoLimit) (gens : s₁.gens = #[]) (mods : ∃ mm, s₁.heap.Ns sysModules mm)
    (here : s₁.heap.get? a = some { cls := .type "list", data := .seq vs.toArray }) (whole : IntsAre vs ns) (few : ns.length ≤ sizeLine) (room : Room k callerA)
    (F : ∀ base : Heap, K.In base → base.Ns mainGlobals mg → (∃ mm, base.Ns sysModules mm) → FnG P w K mg base k fa fd [x] sp) (bind : ∀ (s : Shared) (u : Value), BindsTo s fd ⟨[u], []⟩ [(x, u)])
    (want : ∀ H : Hp, Only H → SqL K H a (ns.map V.int) → sp [.ref a] H (fun v _ => v = .bl true) E0) :
    codeAny (model P w) callerA (.call (.ref fa) ⟨[.ref a], []⟩) (fun r s' => r = .ok (.ret (.bool true)) ∧ OldK s₁.heap s'.heap ∧ s'.os = s₁.os ∧ AllBare s'.gens) s₁ := by
  have rel := vals_ints whole
  -- H: the script alone, or nothing
  have main : ∀ H : Hp, Only H → SqL K H a (ns.map V.int) → HOk P w H s₁.heap → (∀ b u, H b = some u → b = a ∧ K.lookup b = none) →
      codeAny (model P w) callerA (.call (.ref fa) ⟨[.ref a], []⟩) (fun r s' => r = .ok (.ret (.bool true)) ∧ OldK s₁.heap s'.heap ∧ s'.os = s₁.os ∧ AllBare s'.gens) s₁ := by
    intro H only sq ok apart
    have untold : ∀ {b o}, s₁.heap.get? b = some o → (b = a → False) → H b = none := by
      intro b o e ne
      cases q : H b with
      | none => rfl
      | some u => exact (ne (apart b u q).1).elim
    have ns1 : ∀ {b m}, s₁.heap.Ns b m → (hidT s₁.heap H).Ns b m := by
      rintro b m ⟨o, es, ep, e, d, r⟩
      refine ⟨o, es, ep, hidT_get e (untold e fun z => ?_), d, r⟩
      subst z
      rw [here] at e
      cases e
      cases d
    have kIn : K.In (hidT s₁.heap H) := by
      intro b o e
      apply hidT_get (inK b o e)
      cases q : H b with
      | none => rfl
      | some u =>
        have z := (apart b u q).2
        rw [e] at z
        cases z
    have lim1 : (hidT s₁.heap H).NoLimit := by
      obtain ⟨mc, h1, h2⟩ := lim
      exact ⟨mc, ns1 h1, h2⟩
    have e0 : Env0 P w K mg (hidT s₁.heap H) callerA [] s₁ H := {
      frames := rfl, mod := ⟨kIn, ns1 glob, ⟨mb, ns1 blt, bltIs⟩, lim1⟩, bs := fun _ _ e => of_hidT e, bsz := Nat.le_of_eq (hidT_size _ _), funs := True.intro, frf := (fun _ hb => nomatch hb), hok := ok, bare := .of_eq gens }
    apply codeAny_mono ((F _ kIn (ns1 glob) (mods.elim fun mm h => ⟨mm, ns1 h⟩)).go (us := [.ref a]) (vs := [.ref a]) room rfl e0 (bind s₁ _) (.cons rfl .nil) (want H only sq))
    intro r s' hr
    match r, hr with
    | .error _, hr => exact hr.elim
    | .ok .next, hr => exact False.elim hr
    | .ok .brk, hr => exact False.elim hr
    | .ok .cont, hr => exact False.elim hr
    | .ok (.ret u), hr =>
      obtain ⟨v, H', os, bare, un, ok', rv, q⟩ := hr
      cases (show v = V.bl true from q)
      cases (show u = Value.bool true from rv)
      refine ⟨rfl, OldK.of_keep ?_, os, bare⟩
      intro b o e
      cases only b with
      | inl n => exact un.keep b o e n (fun z => nomatch z) (fun z => nomatch z)
      | inr n =>
        obtain ⟨ob, xs, z⟩ := n
        have e1 := (ok b _ z).1
        have e2 := (ok' b _ (un.frzs b ob _ z)).1
        rw [e] at e1
        cases e1
        exact e2
  have small : (ns.map V.int).length ≤ sizeLine := by rw [List.length_map]; exact few
  cases known : K.lookup a with
  | some o =>
    have e := inK a o known
    rw [here] at e
    cases e
    have sz : vs.length ≤ sizeLine := by rw [← rel.length]; exact small
    exact main (fun _ => none) (fun _ => .inl rfl) (.inr ⟨_, vs.toArray, _, known, rfl, rfl, rfl, by simpa using sz, by simpa using rel⟩) (fun _ _ z => nomatch z) (fun _ _ z => nomatch z)
  | none =>
    have at1 : ∀ {b u}, (if b = a then some (HO.frz { cls := .type "list", data := .seq vs.toArray } (.lst (ns.map V.int))) else none) = some u → b = a := by
      intro b u z
      by_cases hb : b = a
      · exact hb
      · rw [if_neg hb] at z
        cases z
    refine main (fun b => if b = a then some (.frz { cls := .type "list", data := .seq vs.toArray } (.lst (ns.map V.int))) else none) (fun b => ?_) (.inl (.inr ⟨{ cls := .type "list", data := .seq vs.toArray }, if_pos rfl⟩)) (fun b u z => ?_) (fun b u z => ?_)
    · by_cases hb : b = a
      · exact .inr ⟨_, _, if_pos hb⟩
      · exact .inl (if_neg hb)
    · have hb := at1 z
      subst hb
      have z2 := (if_pos rfl).symm.trans z
      cases z2
      exact ⟨here, small, vs, _, rel, here⟩
    · have hb := at1 z
      subst hb
      exact ⟨rfl, known⟩
theorem quiet_walk {l : PySem.W.OpenLaw} {n k : Nat} {q : Program} {loose : List Str} {XP : (Str → Option Value) → Heap → Prop} {YP : World → Heap → Prop} {d : DefRec} {K : Params → PySem.W.Frag} {sp : World → Sp} {x : Str}
    (noImport : importsNone q = true) (most : l.most = some n) (n2 : n ≤ sizeLine) (defaults : d.params.defaults = []) (room : Room k callerA) (hY : ∀ (w : World) (h : Heap), YP w h → (K w.params).In h)
    (F : ∀ (w : World) (mg : Str → Option Value) (fa : Addr) (h : Heap), (K w.params).In h → h.Ns mainGlobals mg → mg d.name = some (.ref fa) →
      ∃ fd : FuncData, (∀ (s : Shared) (u : Value), BindsTo s fd ⟨[u], []⟩ [(x, u)]) ∧ ∀ base : Heap, (K w.params).In base → base.Ns mainGlobals mg → (∃ mm, base.Ns sysModules mm) → FnG l.prog w (K w.params) mg base k fa fd [x] (sp w))
    (want : ∀ (w : World) (H : Hp) (a : Addr) (ns : List Int), ns.length ≤ n → Only H → SqL (K w.params) H a (ns.map V.int) → sp w [.ref a] H (fun v _ => v = .bl true) E0) :
    PySem.W.WalkO q loose XP YP l.row.toRowW d [] (fun f vs => PySem.call f vs) := by
  apply Att.attach_call most defaults
  intro w s₀ s₁ mg mb fa o pm cd doc a vs ns G Y ho hd hcd hmg hobj hints hlen hg
  obtain ⟨fd, hb, hF⟩ := F w mg fa _ (hY w _ Y) G.T.g hmg
  exact quiet_law (hY w _ Y) G.T.g G.T.b G.T.builtins G.T.nolimit hg ((G.T.seer noImport).mods.elim fun mm h => ⟨mm, h.1⟩) hobj hints (Nat.le_trans hlen n2) room hF hb fun H o1 s1 => want w H a ns hlen o1 s1

/-! ### enumerate of a tuple -/
section
open Sem (wp)
set_option maxHeartbeats 4000000 in
theorem enum_of_tuple (t : Addr) (items : Array Value) : Meets (Builtin.«enumerate.__new__» ⟨[.type "enumerate", .ref t], []⟩) (fun _ R s => s.heap.IsTuple t items ∧
    R (.ok (.ret (.ref (s.heap.push { cls := .type "tuple_iterator", data := .fields #[.ref t, .int 0 0] }).objs.size)))
      { s with heap := (s.heap.push { cls := .type "tuple_iterator", data := .fields #[.ref t, .int 0 0] }).push { cls := .type "enumerate", data := .fields #[.none, .bool false, .ref s.heap.objs.size, rawInt 0, .none, .none] } }) := by
  refine .of_wp fun prog w A R s h => ?_
  obtain ⟨hp, g, d, tk, os⟩ := s
  obtain ⟨isT, h⟩ := h
  have sub := sub_enumerate
  have start : ∀ {A' : Around} {E : Value → Shared → Prop} {Q : Value → Shared → Prop}, Q (.ref hp.objs.size) ⟨hp.push { cls := .type "tuple_iterator", data := .fields #[.ref t, .int 0 0] }, g, d, tk, os⟩ → wpAny (model prog w) A' (pyIter (.ref t)) Q E ⟨hp, g, d, tk, os⟩ := by
    intro A' E Q q
    exact (begins_tuple t items).iter prog w A' E ⟨hp, g, d, tk, os⟩ Q isT q
  wp_walk using start
  refine wpAny_stack_any fun st => wpAny_pure ?_
  split
  · rename_i cc _ _ _ _ _
    cases (cc == Value.type "enumerate") <;> (wp_walk using start; exact Exists.intro _ ⟨rfl, h⟩)
  · wp_walk using start
    exact Exists.intro _ ⟨rfl, h⟩
end
theorem call_enumT {prog : Program} {w : World} {A : Around} {E : Value → Shared → Prop} {s : Shared} {t : Addr} {items : Array Value} {Q : Value → Shared → Prop} (isT : s.heap.IsTuple t items)
    (h : ∀ h', IsEnum h' (s.heap.objs.size + 1) s.heap.objs.size 0 .none → h'.IsTupleIter s.heap.objs.size t 0 → (∀ b o, s.heap.get? b = some o → h'.get? b = some o) → Q (.ref (s.heap.objs.size + 1)) { s with heap := h' }) :
    wpAny (model prog w) A (call (.type "enumerate") [.ref t]) Q E s := by
  refine callType_new F.called_enumerate (by decide) (F.typeCall_enumerate_1 _) (F.newCall_enumerate_1 _) (fun obj => F.args_object_init_2 obj _) F.entry_enumerate_new (enum_of_tuple t items) (And.intro isT ?_)
  have size : (s.heap.push { cls := .type "tuple_iterator", data := .fields #[.ref t, .int 0 0] }).objs.size = s.heap.objs.size + 1 := Heap.size_push ..
  show _ ∧ _
  rw [size]
  have made := Heap.get?_push_size (s.heap.push { cls := .type "tuple_iterator", data := .fields #[.ref t, .int 0 0] }) (o := { cls := .type "enumerate", data := .fields #[.none, .bool false, .ref s.heap.objs.size, rawInt 0, .none, .none] }) rfl
  rw [size] at made
  refine ⟨⟨_, made, rfl⟩, h _ made ⟨_, Heap.get?_push_of_some _ (Heap.get?_push_size _ rfl), rfl, rfl⟩ ?_⟩
  intro b o e
  exact Heap.get?_push_of_some _ (Heap.get?_push_of_some _ e)
/-- the tuple at a, each item in a new pair with its place -/
def IteT (K : PySem.W.Frag) (a : Addr) (N : Nat) : It where
  go := fun i H => ∃ (xs : List V) (x : V), SqT K H a xs ∧ xs[i]? = some x ∧ xs.length = N
  yld := fun i H v H' => ∃ t x, v = .ref t ∧ H t = none ∧ H' = upd H t (.tup [.int (i : Nat), x]) ∧ ∀ xs, SqT K H a xs → xs[i]? = some x
  stop := fun i H => ∃ xs : List V, SqT K H a xs ∧ xs.length = N ∧ N ≤ i
theorem turn_enumT {P : Program} {w : World} {K : PySem.W.Frag} {elts : List Expr} {kk : Nat} {tpos : Pos} (a e it : Addr) (N : Nat) :
    Turn P w K (.Tuple elts kk tpos) (IteT K a N) [e, it] e (fun i h => (∃ old, IsEnum h e it ((i : Nat) : Int) old) ∧ h.IsTupleIter it a i ∧ e ≠ it ∧ i ≤ N) := by
  have two : ∀ {b : Addr}, b ∈ [e, it] → b = e ∨ b = it := fun hb => by simpa using hb
  constructor
  · simp
  · rintro i h ⟨⟨old, he⟩, ⟨o, ho, hc, hd⟩, _, _⟩ b hb
    rcases two hb with rfl | rfl
    · exact ⟨_, he, fun v q => nomatch q⟩
    · refine ⟨o, ho, fun v q => ?_⟩
      rw [hd] at q
      cases q
  · rintro i h h' ⟨⟨old, he⟩, hi, hne, hN⟩ k
    exact ⟨⟨old, k e (by simp) _ he⟩, hi.at fun o q => k it (by simp) o q, hne, hN⟩
  · intro X hP hw hK hc i pins s σ H E I hf st hg
    subst hP hw hK
    obtain ⟨⟨old, he⟩, hit, hne, hN⟩ := st
    obtain ⟨xs, x, hq, hx, hxN⟩ := hg
    have inside := (List.getElem?_eq_some_iff.mp hx).1
    obtain ⟨its, rv, p, _⟩ := I.tuple hq
    obtain ⟨u, hu, ru⟩ := rv.get hx
    have isT : s.heap.IsTuple a its.toArray := p
    have apart : a ≠ it := by
      rintro rfl
      obtain ⟨o1, q1, c1, _⟩ := hit
      obtain ⟨o2, q2, c2, _⟩ := isT
      rw [q1] at q2
      cases q2
      rw [c1] at c2
      exact absurd (Value.type.inj c2) (by decide)
    have hea : e ≠ a := by
      rintro rfl
      obtain ⟨o2, q2, c2, _⟩ := isT
      rw [he] at q2
      cases q2
      exact absurd (Value.type.inj c2) (by decide)
    have lte : e < s.heap.objs.size := Heap.lt_size he
    have lti : it < s.heap.objs.size := hit.elim fun _ q => Heap.lt_size q.1
    have less : i < its.toArray.size := by
      have z := (List.getElem?_eq_some_iff.mp hu).1
      rw [List.size_toArray]
      exact z
    apply wpAny_pyNext_enum_itemD (Draws.tuple (A := X.A.in1) (I.ok.hd hc) it a apart its.toArray) he ⟨hit, isT⟩ less hne (by simp [hne, hea])
    intro y h' tk hy ho st' hT hsz hk
    have ey : y = u := by
      have z : its[i]? = some y := by simpa using hy
      rw [hu] at z
      exact (Option.some.inj z).symm
    subst ey
    refine ⟨_, rfl, wpAny_letOwnedTupleGo_enum (s := { s with heap := h', toks := tk + 1 }) ho fun h2 he2 sb => ?_⟩
    have kept : ∀ b o, b ∉ [e, it] → s.heap.get? b = some o → h2.get? b = some o := by
      intro b o nb q
      have n1 : b ≠ e := fun z => nb (by simp [z])
      have n2 : b ≠ it := fun z => nb (by simp [z])
      exact (sb.2 b n1).trans (hk b o n1 n2 q)
    have hT2 : h2.get? s.heap.objs.size = some { cls := .type "tuple", data := .seq #[.int i tk, y] } := (sb.2 _ (Nat.ne_of_gt lte)).trans hT
    have I1 : Inv X pins σ (upd H s.heap.objs.size (.tup [.int (i : Nat), x])) { s with heap := h2, toks := tk + 1 } := by
      refine I.turnedNew (ch := [e, it]) kept hf (Nat.le_refl _) ⟨by show 2 ≤ sizeLine; decide, [.int i tk, y], .cons ⟨_, rfl⟩ (.cons ru .nil), ?_⟩
      exact ⟨_, hT2, rfl, _, rfl⟩
    refine ⟨.ref s.heap.objs.size, _, I1, rfl, ⟨_, x, rfl, I.hok.fresh (Nat.le_refl _), rfl, fun ys hys => ?_⟩, ⟨⟨y, ?_⟩, ?_, hne, by omega⟩, fun b hb => ?_⟩
    · rw [I.tuple_inj hys hq]
      exact hx
    · have cast : ((i + 1 : Nat) : Int) = (i : Int) + 1 := by omega
      rw [cast]
      exact he2
    · exact st'.1.at fun o q => (sb.2 it hne.symm).trans q
    · have lt : b < s.heap.objs.size := by
        rcases two hb with rfl | rfl
        · exact lte
        · exact lti
      rw [upd_ne (Nat.ne_of_lt lt)]
      exact (hf b hb).1
  · intro X hP hw hK hc i pins s σ H E I hf st hg
    subst hP hw hK
    obtain ⟨⟨old, he⟩, hit, hne, hN⟩ := st
    obtain ⟨xs, hq, hxN, hx⟩ := hg
    obtain ⟨its, rv, p, _⟩ := I.tuple hq
    have isT : s.heap.IsTuple a its.toArray := p
    have apart : a ≠ it := by
      rintro rfl
      obtain ⟨o1, q1, c1, _⟩ := hit
      obtain ⟨o2, q2, c2, _⟩ := isT
      rw [q1] at q2
      cases q2
      rw [c1] at c2
      exact absurd (Value.type.inj c2) (by decide)
    obtain ⟨f0, f1, f2, f3, f4, f5⟩ := hf it (by simp)
    have len := rv.length
    have at1 : i = its.toArray.size := by
      rw [List.size_toArray]
      omega
    subst at1
    apply wpAny_pyNext_enum_endD (Draws.tuple (A := X.A.in1) (I.ok.hd hc) it a apart its.toArray) he ⟨hit, isT⟩
    intro h' eb
    exact And.intro rfl (I.turned (t' := s.toks) (fun b o hb q => eb b o hb q) f0 f1 f3 f4 f5)
  · rintro A i s Q E ⟨⟨_, he⟩, _⟩ h
    exact wpAny_pyIter_enum he h
def iEnumT (K : PySem.W.Frag) (ta : TA) : TI := fun σ H R => ta σ H fun vs H1 => ∃ a xs, vs = [.ref a] ∧ SqT K H1 a xs ∧ R (IteT K a xs.length) H1
theorem pi_enumT {X : Cx} {e : Expr} {ta : TA} {p pos tpos : Pos} {elts : List Expr} {kk : Nat} (hg : Gl X "enumerate") (hm : X.mg "enumerate" = none) (args : PA X [e] ta) (star : starEach [e] X.env = [(false, eval e X.env)] := by rfl) :
    PI X (.Tuple elts kk tpos) (.Call (.Name "enumerate" p) [e] [] pos) (iEnumT X.K ta) := by
  constructor
  intro pins s σ H R I h
  refine Call_ (ld_blt I hg hm boot_enumerate ?_)
  refine PyProof.Rows.callWith_type1 (thn (args.run pos pins s σ H _ I h) ?_) star rfl
  rintro us s1 ⟨vs, H1, I1, rel, a, xs, rfl, sq, q⟩
  obtain ⟨u, rfl, ru⟩ := vals1 rel
  cases ru
  obtain ⟨its, rv, isT, _⟩ := I1.tuple sq
  refine call_enumT (items := its.toArray) isT fun h' he hit hk => wpAny_pyIter_enum he ?_
  have fresh : ∀ b ∈ [s1.heap.objs.size + 1, s1.heap.objs.size], s1.heap.objs.size ≤ b := by
    intro b hb
    have z : b = s1.heap.objs.size + 1 ∨ b = s1.heap.objs.size := by simpa using hb
    rcases z with rfl | rfl
    · exact Nat.le_add_right _ _
    · exact Nat.le_refl _
  exact ⟨_, _, _, _, H1, rfl, I1.kept hk, turn_enumT a (s1.heap.objs.size + 1) s1.heap.objs.size xs.length, ⟨⟨.none, he⟩, hit, Nat.succ_ne_self _, Nat.zero_le _⟩, fun b hb => I1.fpOk (fresh b hb) (I1.hok.fresh (fresh b hb)), q⟩

/-! ### more of tuples: t == (), t >= u -/
section
variable {X : Cx}
def rEqE (K : PySem.W.Frag) : R2 := fun x y H Q => ∃ (a b : Addr) (xs : List V), x = .ref a ∧ y = .ref b ∧ SqT K H a xs ∧ SqT K H b [] ∧ Q (.bl xs.isEmpty) H
theorem op_eqE (units : X.A.units < cLine) : OpR X (compareOp .Eq) (rEqE X.K) := by
  intro pins s σ H x y v u Q I rx ry h
  obtain ⟨a, b, xs, rfl, rfl, ha, hb, q⟩ := h
  cases rx
  cases ry
  obtain ⟨its, r1, p1, _⟩ := I.tuple ha
  obtain ⟨its2, r2, p2, _⟩ := I.tuple hb
  cases r2
  apply SeqAt.eq_tupleAt (e := fun _ => true) (show s.heap.IsTuple a its.toArray from p1) (show s.heap.IsTuple b ([] : List Value).toArray from p2) units
  · intro j h1 h2
    exact absurd h2 (Nat.not_lt_zero j)
  · refine ⟨.bl xs.isEmpty, H, I, ?_, q⟩
    cases r1 with
    | nil => rfl
    | cons r t => rfl
def rGeT (K : PySem.W.Frag) : R2 := fun x y H Q => ∃ (a b : Addr) (ns ms : List Int), x = .ref a ∧ y = .ref b ∧ SqT K H a (ns.map V.int) ∧ SqT K H b (ms.map V.int) ∧
  Q (.bl (Ob.lexAt (fun j => decide (ns.getD j 0 = ms.getD j 0)) (fun j => decide (ms.getD j 0 ≤ ns.getD j 0)) (decide (ns.length ≥ ms.length)) 0 (min ns.length ms.length))) H
theorem op_geT (units : X.A.units < cLine) : OpR X (compareOp .GtE) (rGeT X.K) := by
  intro pins s σ H x y v u Q I rx ry h
  obtain ⟨a, b, ns, ms, rfl, rfl, ha, hb, q⟩ := h
  cases rx
  cases ry
  obtain ⟨us, r1, p1, _⟩ := I.tuple ha
  obtain ⟨ws, r2, p2, _⟩ := I.tuple hb
  have w1 : IntsAre us ns := Vals.ints r1
  have w2 : IntsAre ws ms := Vals.ints r2
  have l1 : us.toArray.size = ns.length := List.size_toArray.trans w1.length
  have l2 : ws.toArray.size = ms.length := List.size_toArray.trans w2.length
  have g1 : ∀ j (hj : j < us.toArray.size), ∃ t, us.toArray[j] = .int (ns.getD j 0) t := by
    intro j hj
    apply PyProof.Rows.IntsAre.int_at w1
    simp at hj
    simp [hj]
  have g2 : ∀ j (hj : j < ws.toArray.size), ∃ t, ws.toArray[j] = .int (ms.getD j 0) t := by
    intro j hj
    apply PyProof.Rows.IntsAre.int_at w2
    simp at hj
    simp [hj]
  have eqs : ∀ (i j : Int) (t u : Tok), SeqAt.EqAt X.A.in1 s (.int i t) (.int j u) (decide (i = j)) := by
    intro i j t u
    have z : (i == j) = decide (i = j) := by
      by_cases e : i = j
      · rw [decide_eq_true e]
        exact beq_iff_eq.mpr e
      · rw [decide_eq_false e]
        exact beq_eq_false_iff_ne.mpr e
    rw [← z]
    exact SeqAt.EqAt.int_int _ _ _ _
  have R := Ob.RcOp.tuples_ge (A := X.A) (s := s) (e := fun j => decide (ns.getD j 0 = ms.getD j 0)) (r := fun j => decide (ms.getD j 0 ≤ ns.getD j 0)) p1 p2 units
    (by
      intro j h1 h2
      obtain ⟨t, et⟩ := g1 j h1
      obtain ⟨t', et'⟩ := g2 j h2
      rw [et, et']
      exact eqs _ _ _ _)
    (by
      intro j h1 h2 _
      obtain ⟨t, et⟩ := g1 j h1
      obtain ⟨t', et'⟩ := g2 j h2
      rw [et, et']
      exact Ob.RcOp.ge_int _ _ _ _)
  rw [l1, l2] at R
  exact R X.prog X.w X.xe (EP X pins σ Q) ⟨.bl _, H, I, rfl, q⟩
end

/-! ### t[::-1] of a tuple; xs == [], xs != [] of a list that may hold anything -/
section
open HT
variable {prog : Program} {w : World} {A : Around} {E : Value → Shared → Prop} {s : Shared}
theorem adjust_rev (n : Nat) : Builtin.Slice.sliceAdjust none none (-1) (n : Int) = ((n : Int) - 1, -1) := by
  unfold Builtin.Slice.sliceAdjust
  have h1 : (-1 : Int) < 0 := by decide
  simp only [h1, if_true]
theorem places_rev (n : Nat) : Builtin.Slice.slicePlaces ((n : Int) - 1) (-1) (-1) = n := by
  unfold Builtin.Slice.slicePlaces
  have h1 : ¬ ((-1 : Int) > 0) := by decide
  simp only [h1, if_false]
  have h2 : (-(-1) : Int) = 1 := by decide
  rw [h2, Int.ediv_one]
  split <;> omega
theorem sliceApplied_rev {sl : Addr} {vl vu vs : Value} {n : Nat} {Q : Int × Int × Nat → Shared → Prop} (hs : s.heap.IsSliceOf sl vl vu vs) (pl : IsPart vl none) (pu : IsPart vu none) (pt : IsPart vs (some (-1)))
    (h : Q ((n : Int) - 1, -1, n) s) : wpAny (model prog w) A (Builtin.Slice.sliceApplied (.ref sl) (pure (n : Int))) Q E s := by
  obtain ⟨os, hos, hcs, hds⟩ := id hs
  unfold Builtin.Slice.sliceApplied Builtin.Slice.sliceFields
  refine wpAny_bind (wpAny_bind (wpAny_field hos hds (x := vl) rfl (wpAny_bind (wpAny_field hos hds (x := vu) rfl (wpAny_bind (wpAny_field hos hds (x := vs) rfl (wpAny_pure ?_)))))))
  refine wpAny_bind (slicePart_ pt ?_)
  show wpAny _ _ (if ((-1 : Int) == 0) = true then _ else _) _ _ s
  rw [if_neg (by decide)]
  refine wpAny_bind (slicePart_ pl (wpAny_bind (slicePart_ pu (wpAny_bind (wpAny_pure ?_)))))
  show wpAny _ _ (match Builtin.Slice.sliceAdjust none none (-1) (n : Int) with | (lo, hi) => pure (lo, (-1 : Int), Builtin.Slice.slicePlaces lo hi (-1))) _ _ s
  rw [adjust_rev]
  show wpAny _ _ (pure ((n : Int) - 1, (-1 : Int), Builtin.Slice.slicePlaces ((n : Int) - 1) (-1) (-1))) _ _ s
  rw [places_rev]
  exact wpAny_pure h
theorem pick_rev (xs : Array Value) : ((List.range xs.size).filterMap fun (k : Nat) => xs[((xs.size : Int) - 1 + (k : Int) * (-1)).toNat]?) = xs.toList.reverse := by
  have e : ∀ m : Nat, m ≤ xs.size → ((List.range m).filterMap fun (k : Nat) => xs[((xs.size : Int) - 1 + (k : Int) * (-1)).toNat]?) = xs.toList.reverse.take m := by
    intro m
    induction m with
    | zero => intro _; rfl
    | succ m ih =>
      intro hm
      rw [List.range_succ, List.filterMap_append, ih (by omega), List.take_add_one]
      congr 1
      have e1 : ((xs.size : Int) - 1 + (m : Int) * (-1)).toNat = xs.size - 1 - m := by omega
      have e2 : xs.toList.reverse[m]? = xs[xs.size - 1 - m]? := by
        rw [List.getElem?_reverse (by rw [Array.length_toList]; omega), Array.length_toList, Array.getElem?_toList]
      rw [e2]
      have lt : xs.size - 1 - m < xs.size := by omega
      simp only [List.filterMap_cons, List.filterMap_nil, e1]
      rw [Array.getElem?_eq_getElem lt]
      rfl
  rw [e _ (Nat.le_refl _), List.take_of_length_le (by rw [List.length_reverse, Array.length_toList]; exact Nat.le_refl _)]
theorem getItem_tuple_rev {t sl : Addr} {items : Array Value} {vl vu vs : Value} {Q : Value → Shared → Prop} (ht : IsTup s.heap t items) (hs : s.heap.IsSliceOf sl vl vu vs) (pl : IsPart vl none) (pu : IsPart vu none) (pt : IsPart vs (some (-1)))
    (h : Q (.ref s.heap.objs.size) { s with heap := s.heap.push { cls := .type "tuple", data := .seq items.toList.reverse.toArray } })
    (hsz : items.size ≤ sizeLine) : wpAny (model prog w) A (getItem (.ref t) (.ref sl)) Q E s := by
  have htake : sizeOk (.seq items.toList.reverse.toArray) := by
    show items.toList.reverse.toArray.size ≤ sizeLine
    rw [List.size_toArray, List.length_reverse, Array.length_toList]
    omega
  obtain ⟨os, hos, hcs, hds⟩ := id hs
  have hTs : s.TypeIs (.ref sl) "slice" := ⟨os, hos, hcs⟩
  unfold getItem
  try with_reducible refine wpAny_holding ?_
  first | refine wpAny_bind (wpAny_pure ?_) | skip
  refine wpAny_bind (wpAny_sequenceKey ht.typeIs (by decide) ?_)
  refine wpAny_bind (wpAny_callSpecial?_slot (name := Str.ofString "__getitem__") ht.typeIs PyProof.Rows.slot_tuple_getitem
    (wpAny_call_entry PyProof.Rows.slot_tuple_getitem ht.typeIs entry_tuple_getitem ?_ (args_tuple_getitem _ _)))
  show wpAny _ _ (Builtin.Tuple.tupleItemsOf (.ref t) >>= _) _ _ s
  refine wpAny_bind (tupleItemsOf_ ht ?_)
  refine wpAny_bind (wpAny_typeOf hTs ?_)
  rw [if_pos (by decide)]
  refine wpAny_bind (sliceApplied_rev hs pl pu pt ?_)
  have hno : ¬ ((((items.size : Int) - 1) == 0 && (-1 : Int) == 1 && items.size == items.size) = true) := by
    intro q
    rw [Bool.and_eq_true, Bool.and_eq_true] at q
    exact absurd q.1.2 (by decide)
  show wpAny _ _ (if (((items.size : Int) - 1) == 0 && (-1 : Int) == 1 && items.size == items.size) = true then _ else _) _ _ s
  rw [if_neg hno, pick_rev]
  first
    | exact wpAny_bind (m := Builtin.Tuple.tupleExact _) (wpAny_newObj_type (wpAny_pure ⟨_, rfl, wpAny_pure h⟩) htake)
    | exact wpAny_bind (m := Builtin.Tuple.tupleExact _) (wpAny_newObj_type (wpAny_bind (wpAny_pure (wpAny_pure ⟨_, rfl, wpAny_pure h⟩))) htake)
    | exact wpAny_bind (wpAny_bind (m := Builtin.Tuple.tupleExact _) (wpAny_newObj_type (wpAny_pure (wpAny_pure ⟨_, rfl, wpAny_pure h⟩)) htake))
    | exact wpAny_bind (wpAny_bind (m := Builtin.Tuple.tupleExact _) (wpAny_newObj_type (wpAny_pure ⟨_, rfl, wpAny_pure h⟩) htake))
end
section
variable {X : Cx}
def tRevT (K : PySem.W.Frag) (te : TE) : TE := fun σ H Q => te σ H fun x H1 => ∃ a xs, x = .ref a ∧ SqT K H1 a xs ∧ ∀ p, H1 p = none → Q (.ref p) (upd H1 p (.tup xs.reverse))
theorem pe_revT {e : Expr} {te : TE} {k : Nat} {p1 p2 p3 pos : Pos} (he : PE X e te) : PE X (.Subscript e (.Slice none none (some (.UnaryOp .USub (.Constant (.int 1) k p1) p2)) p3) pos) (tRevT X.K te) := by
  refine ⟨fun pins s σ H Q I h => ?_⟩
  refine Subscript_ (thn (he.run pins s σ H _ I h) fun v s1 ⟨x, H1, I1, r1, q1⟩ => ?_)
  obtain ⟨a, xs, ex, hx, q⟩ := q1
  subst ex
  cases r1
  have hst : PO X (some (.UnaryOp .USub (.Constant (.int 1) k p1) p2)) (tPart (tUn (rU fun i => .int (-i)) (tC (.int 1)))) := po_some (pe_un un_neg pe_int)
  refine wpAny_Slice (thn (po_none.run pins s1 σ H1 (fun o H2 => o = none ∧ H2 = H1) I1 ⟨rfl, rfl⟩) fun vl s2 ⟨l, H2, I2, pl, el, e2⟩ => ?_)
  subst el e2
  refine thn (po_none.run pins s2 σ H2 (fun o H3 => o = none ∧ H3 = H2) I2 ⟨rfl, rfl⟩) fun vu s3 ⟨u, H3, I3, pu, eu, e3⟩ => ?_
  subst eu e3
  refine thn (hst.run pins s3 σ H3 (fun o H4 => o = some (-1) ∧ H4 = H3) I3 ⟨1, rfl, -1, rfl, rfl, rfl⟩) fun vs s4 ⟨o, H4, I4, ps, eo, e4⟩ => ?_
  subst eo e4
  have I5 : Inv X pins σ H4 { s4 with heap := s4.heap.push { cls := .type "slice", data := .fields #[vl, vu, vs] } } := I4.kept (t' := s4.toks) fun b ob q => Heap.get?_push_of_some _ q
  obtain ⟨its, r, ht, hz⟩ := I5.tuple hx
  have hlen := r.length
  show wpAny (model X.prog X.w) X.A (subscriptTail e (.Slice none none (some (.UnaryOp .USub (.Constant (.int 1) k p1) p2)) p3) (.ref a) (.ref s4.heap.objs.size)) (EP X pins σ Q) X.xe { s4 with heap := s4.heap.push { cls := .type "slice", data := .fields #[vl, vu, vs] } }
  refine tail_any (ops := [.ref a, .ref s4.heap.objs.size]) ht.typeIs (PyProof.Rows.slot_tuple_getitem.lookup) ?_ (by with_unfolding_all rfl)
  refine getItem_tuple_rev ht (Heap.IsSliceOf.new _ vl vu vs) pl pu ps ?_ (by rw [List.size_toArray]; omega)
  refine ⟨.ref _, _, I5.laid (t' := s4.toks) (o := .tup xs.reverse) (fun b ob q => Heap.get?_push_of_some _ q) (Nat.le_refl _) ?_, rfl, q _ (I5.hok.fresh (Nat.le_refl _))⟩
  exact ⟨by rw [List.length_reverse]; exact hz, _, r.reverse, IsTup.new _ _⟩
def rEqL (K : PySem.W.Frag) : R2 := fun x y H Q => ∃ (a b : Addr) (xs : List V), x = .ref a ∧ y = .ref b ∧ SqL K H a xs ∧ SqL K H b [] ∧ Q (.bl xs.isEmpty) H
def rNeL (K : PySem.W.Frag) : R2 := fun x y H Q => ∃ (a b : Addr) (xs : List V), x = .ref a ∧ y = .ref b ∧ SqL K H a xs ∧ SqL K H b [] ∧ Q (.bl (!xs.isEmpty)) H
theorem op_eqL (units : X.A.units < cLine) : OpR X (compareOp .Eq) (rEqL X.K) := by
  intro pins s σ H x y v u Q I rx ry h
  obtain ⟨a, b, xs, rfl, rfl, ha, hb, q⟩ := h
  cases rx
  cases ry
  obtain ⟨its, r1, p1, _⟩ := I.list ha
  obtain ⟨its2, r2, p2, _⟩ := I.list hb
  cases r2
  cases r1 with
  | nil =>
    exact SeqAt.eq_listAt (e := fun _ => true) p1.isList p2.isList rfl units (fun j h1 h2 => absurd h2 (Nat.not_lt_zero j)) ⟨.bl true, H, I, rfl, q⟩
  | cons r t =>
    exact SeqAt.eq_list_lengthsAt p1.isList p2.isList (by simp) units ⟨.bl false, H, I, rfl, q⟩
theorem op_neL (units : X.A.units < cLine) : OpR X (compareOp .NotEq) (rNeL X.K) := by
  intro pins s σ H x y v u Q I rx ry h
  obtain ⟨a, b, xs, rfl, rfl, ha, hb, q⟩ := h
  cases rx
  cases ry
  obtain ⟨its, r1, p1, _⟩ := I.list ha
  obtain ⟨its2, r2, p2, _⟩ := I.list hb
  cases r2
  cases r1 with
  | nil =>
    exact SeqAt.RcNeAt.lists (e := fun _ => true) p1.isList p2.isList rfl units (fun j h1 h2 => absurd h2 (Nat.not_lt_zero j)) X.prog X.w X.xe (EP X pins σ Q) ⟨.bl false, H, I, rfl, q⟩
  | cons r t =>
    exact SeqAt.RcNeAt.lists_lengths p1.isList p2.isList (by simp) units X.prog X.w X.xe (EP X pins σ Q) ⟨.bl true, H, I, rfl, q⟩
end

def topS (i : Nat) : Stmt := PySem.Challenge.pw_fewspans_k01_targets_and_pieces_judged.main.body.getD i (.Pass ⟨0, 0, 0, 0⟩)
abbrev s_is_number : Stmt := topS 4
abbrev N_is_number : List Str := ["value"]
theorem sc_is_number : FnScope N_is_number ["value"] (defScope s_is_number) := ⟨rfl, rfl, rfl, by decide +kernel, rfl, by decide +kernel, by decide +kernel⟩
abbrev s_is_position : Stmt := topS 5
abbrev N_is_position : List Str := ["value"]
theorem sc_is_position : FnScope N_is_position ["value"] (defScope s_is_position) := ⟨rfl, rfl, rfl, by decide +kernel, rfl, by decide +kernel, by decide +kernel⟩
abbrev s_is_tuple_of : Stmt := topS 6
abbrev N_is_tuple_of : List Str := ["value", "length"]
theorem sc_is_tuple_of : FnScope N_is_tuple_of ["value", "length"] (defScope s_is_tuple_of) := ⟨rfl, rfl, rfl, by decide +kernel, rfl, by decide +kernel, by decide +kernel⟩
abbrev s_is_interval : Stmt := topS 7
abbrev N_is_interval : List Str := ["value", "low", "high"]
theorem sc_is_interval : FnScope N_is_interval ["value"] (defScope s_is_interval) := ⟨rfl, rfl, rfl, by decide +kernel, rfl, by decide +kernel, by decide +kernel⟩
abbrev s_ascending_error : Stmt := topS 8
abbrev N_ascending_error : List Str := ["value", "most", "index", "item"]
theorem sc_ascending_error : FnScope N_ascending_error ["value", "most"] (defScope s_ascending_error) := ⟨rfl, rfl, rfl, by decide +kernel, rfl, by decide +kernel, by decide +kernel⟩
abbrev s_targets_error : Stmt := topS 9
abbrev N_targets_error : List Str := ["value"]
theorem sc_targets_error : FnScope N_targets_error ["value"] (defScope s_targets_error) := ⟨rfl, rfl, rfl, by decide +kernel, rfl, by decide +kernel, by decide +kernel⟩
abbrev s_is_targets : Stmt := topS 10
abbrev N_is_targets : List Str := ["value"]
theorem sc_is_targets : FnScope N_is_targets ["value"] (defScope s_is_targets) := ⟨rfl, rfl, rfl, by decide +kernel, rfl, by decide +kernel, by decide +kernel⟩
abbrev s_is_pieces : Stmt := topS 11
abbrev N_is_pieces : List Str := ["value"]
theorem sc_is_pieces : FnScope N_is_pieces ["value"] (defScope s_is_pieces) := ⟨rfl, rfl, rfl, by decide +kernel, rfl, by decide +kernel, by decide +kernel⟩
abbrev s_law_deck : Stmt := topS 13
abbrev N_law_deck : List Str := ["_law_script", "_law_cell"]
theorem sc_law_deck : FnScope N_law_deck ["_law_script"] (defScope s_law_deck) := ⟨rfl, rfl, rfl, by decide +kernel, rfl, by decide +kernel, by decide +kernel⟩
abbrev s_law_draw : Stmt := topS 14
abbrev N_law_draw : List Str := ["_law_deck_here", "_law_limit", "_law_cell", "_law_index"]
theorem sc_law_draw : FnScope N_law_draw ["_law_deck_here", "_law_limit"] (defScope s_law_draw) := ⟨rfl, rfl, rfl, by decide +kernel, rfl, by decide +kernel, by decide +kernel⟩
abbrev s_law_interval : Stmt := topS 15
abbrev N_law_interval : List Str := ["_law_deck_here", "_law_limit", "_law_low"]
theorem sc_law_interval : FnScope N_law_interval ["_law_deck_here", "_law_limit"] (defScope s_law_interval) := ⟨rfl, rfl, rfl, by decide +kernel, rfl, by decide +kernel, by decide +kernel⟩
abbrev s_law_row : Stmt := topS 16
abbrev N_law_row : List Str := ["_law_deck_here", "_law_limit", "_law_most", "_law_drawn", "_law_k"]
theorem sc_law_row : FnScope N_law_row ["_law_deck_here", "_law_limit", "_law_most"] (defScope s_law_row) := ⟨rfl, rfl, rfl, by decide +kernel, rfl, by decide +kernel, by decide +kernel⟩
abbrev s_law_is_number : Stmt := topS 17
abbrev N_law_is_number : List Str := ["_law_value", "_law_low", "_law_high"]
theorem sc_law_is_number : FnScope N_law_is_number ["_law_value", "_law_low", "_law_high"] (defScope s_law_is_number) := ⟨rfl, rfl, rfl, by decide +kernel, rfl, by decide +kernel, by decide +kernel⟩
abbrev s_law_is_interval : Stmt := topS 18
abbrev N_law_is_interval : List Str := ["_law_value", "_law_end"]
theorem sc_law_is_interval : FnScope N_law_is_interval ["_law_value"] (defScope s_law_is_interval) := ⟨rfl, rfl, rfl, by decide +kernel, rfl, by decide +kernel, by decide +kernel⟩
abbrev s_law_odd : Stmt := topS 19
abbrev N_law_odd : List Str := ["_law_deck_here", "_law_some"]
theorem sc_law_odd : FnScope N_law_odd ["_law_deck_here"] (defScope s_law_odd) := ⟨rfl, rfl, rfl, by decide +kernel, rfl, by decide +kernel, by decide +kernel⟩
abbrev s_law_due : Stmt := topS 20
abbrev N_law_due : List Str := ["_law_value", "_law_most", "_law_item", "_law_k"]
theorem sc_law_due : FnScope N_law_due ["_law_value", "_law_most"] (defScope s_law_due) := ⟨rfl, rfl, rfl, by decide +kernel, rfl, by decide +kernel, by decide +kernel⟩
abbrev s_law_changed : Stmt := topS 21
abbrev N_law_changed : List Str := ["_law_deck_here", "_law_row_here", "_law_at", "_law_to", "_law_rest", "_law_some"]
theorem sc_law_changed : FnScope N_law_changed ["_law_deck_here", "_law_row_here"] (defScope s_law_changed) := ⟨rfl, rfl, rfl, by decide +kernel, rfl, by decide +kernel, by decide +kernel⟩
abbrev s_law : Stmt := topS 22
abbrev N_law : List Str := ["_law_script", "_law_deck_here", "_law_turn", "_law_row_here", "_law_long", "_law_k", "_law_value", "_law_before", "_law_found", "_law_other"]
theorem sc_law : FnScope N_law ["_law_script"] (defScope s_law) := ⟨rfl, rfl, rfl, by decide +kernel, rfl, by decide +kernel, by decide +kernel⟩
/-! ### the deck and its draws -/
structure Dk (H : Hp) (d c : Addr) (n : Int) : Prop where
  top : H d = some (.lst [.ref c, .int n])
  cells : ∃ xs : List Int, H c = some (.lst (xs.map V.int)) ∧ xs.length ≤ 63 ∧ ∀ x ∈ xs, 0 ≤ x
theorem Dk.ne {H : Hp} {d c : Addr} {n : Int} (h : Dk H d c n) : c ≠ d := by
  obtain ⟨xs, e, _⟩ := h.cells
  intro z
  subst z
  have q := e.symm.trans h.top
  cases xs with
  | nil => cases q
  | cons x r => cases q
/-- nothing but the deck has changed -/
def Kp (d c : Addr) (H H' : Hp) : Prop := ∀ b o, b ≠ d → b ≠ c → H b = some o → H' b = some o
theorem Kp.trans {d c : Addr} {H H1 H2 : Hp} (h1 : Kp d c H H1) (h2 : Kp d c H1 H2) : Kp d c H H2 := fun b o n1 n2 e => h2 b o n1 n2 (h1 b o n1 n2 e)
theorem Kp.same {d c : Addr} {H H1 : Hp} (h : Same H H1) : Kp d c H H1 := fun b o _ _ e => h b o e
def sp_law_deck (K : PySem.W.Frag) : Sp := fun vs H Q _ => ∃ (a : Addr) (ns : List Int), vs = [.ref a] ∧ SqL K H a (ns.map V.int) ∧ ns.length ≤ 63 ∧
  ∀ H' d c, Same H H' → H d = none → H c = none → Dk H' d c 0 → Q (.ref d) H'
def sp_law_draw : Sp := fun vs H Q _ => ∃ (d c : Addr) (n lim : Int), vs = [.ref d, .int lim] ∧ Dk H d c n ∧ 0 ≤ n ∧ n < 1000000 ∧ 0 < lim ∧ lim < 2 ^ 63 ∧
  ∀ H' r, Kp d c H H' → Dk H' d c (n + 1) → 0 ≤ r → r < lim → Q (.int r) H'
theorem cut63 {xs : List V} (h : xs.length ≤ 63) : cutV xs none (some 63) = xs := by
  unfold cutV
  rw [HT.sIx_none, show HT.sIx xs.length xs.length (some 63) = min 63 xs.length from HT.sIx_nat xs.length xs.length 63]
  rw [Nat.min_eq_right h]
  simp
theorem same_new {H : Hp} {p : Addr} {o : HO} (h : H p = none) : Same H (upd H p o) := fun b x e => by
  rw [upd_ne (ne_of_none e h)]
  exact e
section
structure Tx (K : PySem.W.Frag) (mg : Str → Option Value) (f_is_number f_is_position f_is_tuple_of f_is_interval f_ascending_error f_targets_error f_is_targets f_is_pieces f_law_deck f_law_draw f_law_interval f_law_row f_law_is_number f_law_is_interval f_law_odd f_law_due f_law_changed f_law : Addr) (d_is_number d_is_position d_is_tuple_of d_is_interval d_ascending_error d_targets_error d_is_targets d_is_pieces d_law_deck d_law_draw d_law_interval d_law_row d_law_is_number d_law_is_interval d_law_odd d_law_due d_law_changed d_law : FuncData) (t_LAST_POSITION t_MAX_TARGETS t_MAX_PIECES : Tok) : Prop where
  F_is_number : Fun K "is_number" "is_number" s_is_number f_is_number d_is_number
  b_is_number : Binds K d_is_number ["value"] []
  g_is_number : mg "is_number" = some (.ref f_is_number)
  F_is_position : Fun K "is_position" "is_position" s_is_position f_is_position d_is_position
  b_is_position : Binds K d_is_position ["value"] []
  g_is_position : mg "is_position" = some (.ref f_is_position)
  F_is_tuple_of : Fun K "is_tuple_of" "is_tuple_of" s_is_tuple_of f_is_tuple_of d_is_tuple_of
  b_is_tuple_of : Binds K d_is_tuple_of ["value", "length"] []
  g_is_tuple_of : mg "is_tuple_of" = some (.ref f_is_tuple_of)
  F_is_interval : Fun K "is_interval" "is_interval" s_is_interval f_is_interval d_is_interval
  b_is_interval : Binds K d_is_interval ["value"] []
  g_is_interval : mg "is_interval" = some (.ref f_is_interval)
  F_ascending_error : Fun K "ascending_error" "ascending_error" s_ascending_error f_ascending_error d_ascending_error
  b_ascending_error : Binds K d_ascending_error ["value", "most"] []
  g_ascending_error : mg "ascending_error" = some (.ref f_ascending_error)
  F_targets_error : Fun K "targets_error" "targets_error" s_targets_error f_targets_error d_targets_error
  b_targets_error : Binds K d_targets_error ["value"] []
  g_targets_error : mg "targets_error" = some (.ref f_targets_error)
  F_is_targets : Fun K "is_targets" "is_targets" s_is_targets f_is_targets d_is_targets
  b_is_targets : Binds K d_is_targets ["value"] []
  g_is_targets : mg "is_targets" = some (.ref f_is_targets)
  F_is_pieces : Fun K "is_pieces" "is_pieces" s_is_pieces f_is_pieces d_is_pieces
  b_is_pieces : Binds K d_is_pieces ["value"] []
  g_is_pieces : mg "is_pieces" = some (.ref f_is_pieces)
  F_law_deck : Fun K "_law_deck" "_law_deck" s_law_deck f_law_deck d_law_deck
  b_law_deck : Binds K d_law_deck ["_law_script"] []
  g_law_deck : mg "_law_deck" = some (.ref f_law_deck)
  F_law_draw : Fun K "_law_draw" "_law_draw" s_law_draw f_law_draw d_law_draw
  b_law_draw : Binds K d_law_draw ["_law_deck_here", "_law_limit"] []
  g_law_draw : mg "_law_draw" = some (.ref f_law_draw)
  F_law_interval : Fun K "_law_interval" "_law_interval" s_law_interval f_law_interval d_law_interval
  b_law_interval : Binds K d_law_interval ["_law_deck_here", "_law_limit"] []
  g_law_interval : mg "_law_interval" = some (.ref f_law_interval)
  F_law_row : Fun K "_law_row" "_law_row" s_law_row f_law_row d_law_row
  b_law_row : Binds K d_law_row ["_law_deck_here", "_law_limit", "_law_most"] []
  g_law_row : mg "_law_row" = some (.ref f_law_row)
  F_law_is_number : Fun K "_law_is_number" "_law_is_number" s_law_is_number f_law_is_number d_law_is_number
  b_law_is_number : Binds K d_law_is_number ["_law_value", "_law_low", "_law_high"] []
  g_law_is_number : mg "_law_is_number" = some (.ref f_law_is_number)
  F_law_is_interval : Fun K "_law_is_interval" "_law_is_interval" s_law_is_interval f_law_is_interval d_law_is_interval
  b_law_is_interval : Binds K d_law_is_interval ["_law_value"] []
  g_law_is_interval : mg "_law_is_interval" = some (.ref f_law_is_interval)
  F_law_odd : Fun K "_law_odd" "_law_odd" s_law_odd f_law_odd d_law_odd
  b_law_odd : Binds K d_law_odd ["_law_deck_here"] []
  g_law_odd : mg "_law_odd" = some (.ref f_law_odd)
  F_law_due : Fun K "_law_due" "_law_due" s_law_due f_law_due d_law_due
  b_law_due : Binds K d_law_due ["_law_value", "_law_most"] []
  g_law_due : mg "_law_due" = some (.ref f_law_due)
  F_law_changed : Fun K "_law_changed" "_law_changed" s_law_changed f_law_changed d_law_changed
  b_law_changed : Binds K d_law_changed ["_law_deck_here", "_law_row_here"] []
  g_law_changed : mg "_law_changed" = some (.ref f_law_changed)
  F_law : Fun K "law" "law" s_law f_law d_law
  b_law : Binds K d_law ["_law_script"] []
  g_law : mg "law" = some (.ref f_law)
  c_LAST_POSITION : mg "LAST_POSITION" = some (.int 1000000000000 t_LAST_POSITION)
  c_MAX_TARGETS : mg "MAX_TARGETS" = some (.int 24 t_MAX_TARGETS)
  c_MAX_PIECES : mg "MAX_PIECES" = some (.int 30 t_MAX_PIECES)
  z_abs : mg "abs" = none
  z_bool : mg "bool" = none
  z_enumerate : mg "enumerate" = none
  z_int : mg "int" = none
  z_isinstance : mg "isinstance" = none
  z_len : mg "len" = none
  z_list : mg "list" = none
  z_range : mg "range" = none
  z_repr : mg "repr" = none
  z_set : mg "set" = none
  z_sorted : mg "sorted" = none
  z_tuple : mg "tuple" = none
variable {P : Program} {w : World} {K : PySem.W.Frag} {mg : Str → Option Value} {base : Heap} {f_is_number f_is_position f_is_tuple_of f_is_interval f_ascending_error f_targets_error f_is_targets f_is_pieces f_law_deck f_law_draw f_law_interval f_law_row f_law_is_number f_law_is_interval f_law_odd f_law_due f_law_changed f_law : Addr} {d_is_number d_is_position d_is_tuple_of d_is_interval d_ascending_error d_targets_error d_is_targets d_is_pieces d_law_deck d_law_draw d_law_interval d_law_row d_law_is_number d_law_is_interval d_law_odd d_law_due d_law_changed d_law : FuncData} {t_LAST_POSITION t_MAX_TARGETS t_MAX_PIECES : Tok}
abbrev TxA (K : PySem.W.Frag) (mg : Str → Option Value) (f_is_number f_is_position f_is_tuple_of f_is_interval f_ascending_error f_targets_error f_is_targets f_is_pieces f_law_deck f_law_draw f_law_interval f_law_row f_law_is_number f_law_is_interval f_law_odd f_law_due f_law_changed f_law : Addr) (d_is_number d_is_position d_is_tuple_of d_is_interval d_ascending_error d_targets_error d_is_targets d_is_pieces d_law_deck d_law_draw d_law_interval d_law_row d_law_is_number d_law_is_interval d_law_odd d_law_due d_law_changed d_law : FuncData) (t_LAST_POSITION t_MAX_TARGETS t_MAX_PIECES : Tok) := Tx K mg f_is_number f_is_position f_is_tuple_of f_is_interval f_ascending_error f_targets_error f_is_targets f_is_pieces f_law_deck f_law_draw f_law_interval f_law_row f_law_is_number f_law_is_interval f_law_odd f_law_due f_law_changed f_law d_is_number d_is_position d_is_tuple_of d_is_interval d_ascending_error d_targets_error d_is_targets d_is_pieces d_law_deck d_law_draw d_law_interval d_law_row d_law_is_number d_law_is_interval d_law_odd d_law_due d_law_changed d_law t_LAST_POSITION t_MAX_TARGETS t_MAX_PIECES
theorem ok_law_deck (T : Tx K mg f_is_number f_is_position f_is_tuple_of f_is_interval f_ascending_error f_targets_error f_is_targets f_is_pieces f_law_deck f_law_draw f_law_interval f_law_row f_law_is_number f_law_is_interval f_law_odd f_law_due f_law_changed f_law d_is_number d_is_position d_is_tuple_of d_is_interval d_ascending_error d_targets_error d_is_targets d_is_pieces d_law_deck d_law_draw d_law_interval d_law_row d_law_is_number d_law_is_interval d_law_odd d_law_due d_law_changed d_law t_LAST_POSITION t_MAX_TARGETS t_MAX_PIECES) : FnOk P w K mg base CX0 1 f_law_deck d_law_deck ["_law_script"] (sp_law_deck K) := by
  refine T.F_law_deck.ok sc_law_deck (fun vs H Q E h => ?_) (fun cdv A outer s H vs Q E hr h => ?_)
  · obtain ⟨a, ns, rfl, _⟩ := h
    rfl
  · obtain ⟨a, ns, rfl, hS, hlen, q⟩ := h
    refine ⟨_, (pss_one (ps_ret (pe_lst (pa_cons (pe_lc (own := [("_law_cell", 1)]) (g := (gName 1)) (tt := tYes) (by rfl) sc_law_deck.nd (pi_list (pe_slice sl_list (pv 0) po_none (po_some pe_int))) (blkOk_by (own := [("_law_cell", 1)]) (N := N_law_deck) (sc := defScope s_law_deck) (by decide +kernel)) (fun _ _ _ _ _ => (pg_name (i := 1) sc_law_deck.nd rfl (Or.inl rfl))) (fun _ _ _ _ _ => pts_nil) (fun _ _ _ _ _ => (pe_callB call_abs (by rfl) T.z_abs (by decide +kernel) (pa_cons (pv 1) pa_nil)))) (pa_cons pe_int pa_nil))))), ?_⟩
    refine ⟨.ref a, rfl, 63, rfl, a, ns.map V.int, rfl, hS, fun p np => ?_⟩
    rw [cut63 (by rw [List.length_map]; exact hlen)]
    have s1 : Same H (upd H p (.lst (ns.map V.int))) := same_new np
    refine ⟨p, rfl, ⟨_, SqL.of upd_same⟩, fun D nD => ?_⟩
    have nDp : D ≠ p := fun e => by
      rw [e, upd_same] at nD
      cases nD
    have nD0 : H D = none := by
      rw [upd_ne nDp] at nD
      exact nD
    refine lc_list (K := K) (a := p) (xs := ns.map V.int) (fun i H' => Same (upd H p (.lst (ns.map V.int))) H' ∧ H' D = some (.lst (((ns.take i).map fun (x : Int) => if x < 0 then -x else x).map V.int))) ⟨same_new nD, upd_same⟩ (fun i H' _ h => h.1.seq (SqL.of upd_same)) ?_ ?_
    · rintro i x H' hi ⟨sm, eD⟩
      rw [List.getElem?_map] at hi
      obtain ⟨n, en, rfl⟩ := Option.map_eq_some_iff.mp hi
      refine ⟨rfl, .int n, rfl, n, rfl, _, eD, ?_, ?_, ?_⟩
      · have : (List.take i ns).length ≤ ns.length := List.length_take_le' i ns
        simp only [List.length_map]
        exact small1000 (by omega)
      · intro b o e
        have nb : b ≠ D := ne_of_none e nD
        rw [upd_ne nb]
        exact sm b o e
      · rw [upd_same, List.take_add_one, en]
        simp
    · rintro H' ⟨sm, eD⟩
      rw [List.length_map, List.take_length] at eD
      refine ⟨by show 2 ≤ sizeLine; decide, fun d nd => ?_⟩
      have nDd : D ≠ d := ne_of_none eD nd
      have nd0 : H d = none := s1.free (sm.free nd)
      refine q _ d D (s1.trans (sm.trans (same_new nd))) nd0 nD0 ⟨upd_same, _, by rw [upd_ne nDd]; exact eD, by rw [List.length_map]; exact hlen, fun x hx => ?_⟩
      obtain ⟨y, _, rfl⟩ := List.mem_map.mp hx
      split <;> omega
theorem pow5 {x : Int} (h0 : 0 ≤ x) (h1 : x < 2 ^ 63) : x.natAbs < 2 ^ 64 := by omega
theorem ok_law_draw (T : Tx K mg f_is_number f_is_position f_is_tuple_of f_is_interval f_ascending_error f_targets_error f_is_targets f_is_pieces f_law_deck f_law_draw f_law_interval f_law_row f_law_is_number f_law_is_interval f_law_odd f_law_due f_law_changed f_law d_is_number d_is_position d_is_tuple_of d_is_interval d_ascending_error d_targets_error d_is_targets d_is_pieces d_law_deck d_law_draw d_law_interval d_law_row d_law_is_number d_law_is_interval d_law_odd d_law_due d_law_changed d_law t_LAST_POSITION t_MAX_TARGETS t_MAX_PIECES) : FnOk P w K mg base CX0 1 f_law_draw d_law_draw ["_law_deck_here", "_law_limit"] sp_law_draw := by
  refine T.F_law_draw.ok sc_law_draw (fun vs H Q E h => ?_) (fun cdv A outer s H vs Q E hr h => ?_)
  · obtain ⟨d, c, n, lim, rfl, _⟩ := h
    rfl
  · obtain ⟨d, c, n, lim, rfl, dk, n0, n1, l0, l1, q⟩ := h
    obtain ⟨xs, ec, xl, xp⟩ := dk.cells
    have ncd := dk.ne
    have ed := dk.top
    have l64 : lim.natAbs < 2 ^ 64 := by omega
    have n64 : (n + 1).natAbs < 2 ^ 64 := by omega
    refine ⟨_, (pss_cons (ps_asg (pe_op op_add (pe_ix ix_list (pv 0) pe_int (fun _ _ => rfl)) pe_int) (pg_sub (pv 0) pe_int set_list))
      (pss_cons (ps_asg (pe_tup (pa_cons pe_int (pa_cons (pe_un un_neg pe_int) pa_nil))) (pg_tup rfl (pgs_cons (pg_name (i := 2) sc_law_draw.nd rfl (Or.inl rfl)) (pgs_cons (pg_name (i := 3) sc_law_draw.nd rfl (Or.inl rfl)) pgs_nil))))
      (pss_cons (ps_if (pt_cmpR op_gt (pe_callB call_len_seq (by rfl) T.z_len PySem.boot_len (pa_cons (pe_ix ix_list (pv 0) pe_int (fun _ _ => rfl)) pa_nil)) pe_int (nomark _))
      (pss_cons (ps_set (i := 3) sc_law_draw.nd rfl (Or.inl rfl) (pe_op op_mod (pe_ix ix_list (pv 0) pe_int (fun _ _ => rfl)) (pe_callB call_len_seq (by rfl) T.z_len PySem.boot_len (pa_cons (pe_ix ix_list (pv 0) pe_int (fun _ _ => rfl)) pa_nil))))
      (pss_one (ps_set (i := 2) sc_law_draw.nd rfl (Or.inl rfl) (pe_ix ix_list (pe_ix ix_list (pv 0) pe_int (fun _ _ => rfl)) (pv 3) (fun _ _ => rfl)))))
      pss_nil)
      (pss_cons (ps_if (pt_cmpR op_ge (pv 2) (pe_op op_pow pe_int pe_int) (nomark _))
      (pss_cons (ps_asg (pe_op op_fdivW (pv 2) (pv 1)) (pg_sub (pe_ix ix_list (pv 0) pe_int (fun _ _ => rfl)) (pv 3) set_list))
      (pss_one (ps_ret (pe_op op_mod (pv 2) (pv 1)))))
      pss_nil)
      (pss_one (ps_ret (pe_op op_mod (pe_op op_fdivW (pe_op op_mod (pe_op op_pow (pe_op op_add (pe_op op_add (pe_op op_mod (pv 2) pe_int) (pe_op op_mulW pe_int (pe_ix ix_list (pv 0) pe_int (fun _ _ => rfl)))) pe_int) pe_int) pe_int) pe_int) (pv 1)))))))), ?_⟩
    -- deck[1] = deck[1] + 1
    refine ⟨.ref d, rfl, d, _, 1, .int n, rfl, rfl, SqL.of ed, rfl, n, 1, rfl, rfl, .ref d, rfl, d, _, 1, 1, rfl, rfl, ed, rfl, ?_⟩
    -- cell, index = (0, -1)
    refine ⟨1, rfl, by show 2 ≤ sizeLine; decide, fun t nt => ?_⟩
    generalize eH : upd (upd H d (.lst ([V.ref c, V.int n].set 1 (.int (n + 1))))) t (.tup [.int 0, .int (-1)]) = H1
    have nt' : t ≠ d := fun e => by
      rw [e, upd_same] at nt
      cases nt
    have nt0 : H t = none := by
      rw [upd_ne nt'] at nt
      exact nt
    have ntc : c ≠ t := ne_of_none ec nt0
    have ed1 : H1 d = some (.lst [.ref c, .int (n + 1)]) := by
      rw [← eH, upd_ne nt'.symm, upd_same]
      rfl
    have ec1 : H1 c = some (.lst (xs.map V.int)) := by
      rw [← eH, upd_ne ntc, upd_ne ncd]
      exact ec
    have kp1 : Kp d c H H1 := fun b o nb _ e => by
      rw [← eH, upd_ne (ne_of_none e nt0), upd_ne nb]
      exact e
    have et1 : H1 t = some (.tup [.int 0, .int (-1)]) := by
      rw [← eH, upd_same]
    have dk1 : Dk H1 d c (n + 1) := ⟨ed1, xs, ec1, xl, xp⟩
    refine ⟨t, _, rfl, SqT.of et1, rfl, .int 0, [.int (-1)], rfl, .int (-1), [], rfl, rfl, ?_⟩
    -- if len(deck[0]) > 0
    refine ⟨.ref d, rfl, d, _, 0, .ref c, rfl, rfl, SqL.of ed1, rfl, c, _, rfl, .inl (SqL.of ec1), _, _, rfl, rfl, _, rfl, ite2 (fun e => ?_) (fun e => ?_)⟩
    · have e1 := of_decide_eq_true e
      rw [List.length_map] at e1
      have lp : (0 : Int) < (xs.map V.int).length := by rw [List.length_map]; exact e1
      have rem0 : 0 ≤ (n + 1) % ((xs.map V.int).length : Int) := Int.emod_nonneg _ (by omega)
      have rem1 : (n + 1) % ((xs.map V.int).length : Int) < (xs.map V.int).length := Int.emod_lt_of_pos _ lp
      obtain ⟨j, ej⟩ : ∃ j : Nat, (n + 1) % ((xs.map V.int).length : Int) = j := ⟨_, (Int.toNat_of_nonneg rem0).symm⟩
      have hj : j < xs.length := by
        rw [ej, List.length_map] at rem1
        omega
      have gj : (xs.map V.int)[j]? = some (.int xs[j]) := by
        rw [List.getElem?_map, List.getElem?_eq_getElem hj]
        rfl
      have x0 : 0 ≤ xs[j] := xp _ (List.getElem_mem hj)
      -- index = deck[1] % len(deck[0]); cell = deck[0][index]
      refine ⟨.ref d, rfl, d, _, 1, .int (n + 1), rfl, rfl, SqL.of ed1, rfl, .ref d, rfl, d, _, 0, .ref c, rfl, rfl, SqL.of ed1, rfl, c, _, rfl, .inl (SqL.of ec1), _, _, rfl, rfl, lp, ?_⟩
      refine ⟨.ref d, rfl, d, _, 0, .ref c, rfl, rfl, SqL.of ed1, rfl, .int _, rfl, c, _, _, .int xs[j], rfl, rfl, SqL.of ec1, (by rw [ej]; exact atI_nat gj), ?_⟩
      -- if cell >= 10 ** 18
      refine ⟨.int xs[j], rfl, 10, 18, rfl, rfl, ⟨by decide, by decide, by decide⟩, _, _, rfl, rfl, _, rfl, ite2 (fun e2 => ?_) (fun e2 => ?_)⟩
      · -- deck[0][index] = cell // limit; return cell % limit
        refine ⟨.int xs[j], rfl, .int lim, rfl, _, _, rfl, rfl, wide_div l0 l64 (by decide) (by decide), .ref d, rfl, d, _, 0, .ref c, rfl, rfl, SqL.of ed1, rfl, .int _, rfl, c, _, _, j, rfl, rfl, ec1, ?_, ?_⟩
        · rw [ej]
          unfold ixN
          rw [if_pos (by omega), if_pos (by rw [List.length_map]; omega)]
          rfl
        · refine ⟨.int xs[j], rfl, .int lim, rfl, _, _, rfl, rfl, l0, ?_⟩
          refine q _ _ ?_ ⟨?_, xs.set j (xs[j] / lim), ?_, ?_, ?_⟩ (Int.emod_nonneg _ (by omega)) (Int.emod_lt_of_pos _ l0)
          · intro b o nb nc e
            rw [upd_ne nc]
            exact kp1 b o nb nc e
          · rw [upd_ne ncd.symm]
            exact ed1
          · rw [upd_same, List.map_set]
          · rw [List.length_set]
            exact xl
          · intro x hx
            rcases List.mem_or_eq_of_mem_set hx with hm | he
            · exact xp x hm
            · rw [he]
              exact Int.ediv_nonneg x0 (by omega)
      · refine ⟨.int xs[j], rfl, _, _, rfl, rfl, (by show (0 : Int) < 2147483587; decide), .ref d, rfl, d, _, 1, .int (n + 1), rfl, rfl, SqL.of ed1, rfl, _, _, rfl, rfl, wide_mul (a := 13) (b := 64) (by decide) n64 (by decide) (by decide) (by decide), _, _, rfl, rfl, _, _, rfl, rfl, _, _, rfl, rfl, ⟨by decide, by decide, ?_⟩, _, _, rfl, rfl, (by show (0 : Int) < 2147483647; decide), _, _, rfl, rfl, wide_div (b := 3) (by decide) (by decide) (by decide) (by decide), .int lim, rfl, _, _, rfl, rfl, l0, ?_⟩
        · have a0 := Int.emod_nonneg xs[j] (show (2147483587 : Int) ≠ 0 by decide)
          have a1 := Int.emod_lt_of_pos xs[j] (show (0 : Int) < 2147483587 by decide)
          omega
        · exact q _ _ kp1 dk1 (Int.emod_nonneg _ (by omega)) (Int.emod_lt_of_pos _ l0)
    · -- the cell is 0
      refine ⟨.int 0, rfl, 10, 18, rfl, rfl, ⟨by decide, by decide, by decide⟩, _, _, rfl, rfl, _, rfl, ite2 (fun e2 => ?_) (fun e2 => ?_)⟩
      · exact absurd e2 (by decide)
      · refine ⟨.int 0, rfl, _, _, rfl, rfl, (by show (0 : Int) < 2147483587; decide), .ref d, rfl, d, _, 1, .int (n + 1), rfl, rfl, SqL.of ed1, rfl, _, _, rfl, rfl, wide_mul (a := 13) (b := 64) (by decide) n64 (by decide) (by decide) (by decide), _, _, rfl, rfl, _, _, rfl, rfl, _, _, rfl, rfl, ⟨by decide, by decide, ?_⟩, _, _, rfl, rfl, (by show (0 : Int) < 2147483647; decide), _, _, rfl, rfl, wide_div (b := 3) (by decide) (by decide) (by decide) (by decide), .int lim, rfl, _, _, rfl, rfl, l0, ?_⟩
        · have a0 := Int.emod_nonneg 0 (show (2147483587 : Int) ≠ 0 by decide)
          have a1 := Int.emod_lt_of_pos 0 (show (0 : Int) < 2147483587 by decide)
          omega
        · exact q _ _ kp1 dk1 (Int.emod_nonneg _ (by omega)) (Int.emod_lt_of_pos _ l0)
def sp_law_interval : Sp := fun vs H Q _ => ∃ (d c : Addr) (n lim : Int), vs = [.ref d, .int lim] ∧ Dk H d c n ∧ 0 ≤ n ∧ n < 999990 ∧ 0 < lim ∧ lim < 2 ^ 62 ∧
  ∀ H' lo hi t, Kp d c H H' → Dk H' d c (n + 2) → 0 ≤ lo → lo ≤ hi → hi < lim → H t = none → H' t = some (.tup [.int lo, .int hi]) → Q (.ref t) H'
theorem Kp.none {d c : Addr} {H H' : Hp} (k : Kp d c H H') {n m : Int} (h : Dk H d c n) (h' : Dk H' d c m) {t : Addr} (e : H' t = none) : H t = none := by
  by_cases e1 : t = d
  · rw [e1, h'.top] at e
    cases e
  · by_cases e2 : t = c
    · obtain ⟨xs, z, _⟩ := h'.cells
      rw [e2, z] at e
      cases e
    · cases q : H t with
      | none => rfl
      | some o =>
        rw [k t o e1 e2 q] at e
        cases e
theorem Dk.kept {H H' : Hp} {d c : Addr} {n : Int} (h : Dk H d c n) (s : Same H H') : Dk H' d c n :=
  let ⟨xs, e, a⟩ := h.cells
  ⟨s _ _ h.top, xs, s _ _ e, a⟩
theorem ok_law_interval (T : Tx K mg f_is_number f_is_position f_is_tuple_of f_is_interval f_ascending_error f_targets_error f_is_targets f_is_pieces f_law_deck f_law_draw f_law_interval f_law_row f_law_is_number f_law_is_interval f_law_odd f_law_due f_law_changed f_law d_is_number d_is_position d_is_tuple_of d_is_interval d_ascending_error d_targets_error d_is_targets d_is_pieces d_law_deck d_law_draw d_law_interval d_law_row d_law_is_number d_law_is_interval d_law_odd d_law_due d_law_changed d_law t_LAST_POSITION t_MAX_TARGETS t_MAX_PIECES) : FnOk P w K mg base CX0 2 f_law_interval d_law_interval ["_law_deck_here", "_law_limit"] sp_law_interval := by
  refine T.F_law_interval.ok sc_law_interval (fun vs H Q E h => ?_) (fun cdv A outer s H vs Q E hr h => ?_)
  · obtain ⟨d, c, n, lim, rfl, _⟩ := h
    rfl
  · obtain ⟨d, c, n, lim, rfl, dk, n0, n1, l0, l1, q⟩ := h
    refine ⟨_, (pss_cons (ps_set (i := 2) sc_law_interval.nd rfl (Or.inl rfl) (pe_call (ok_law_draw T) (hr.mono (by decide)) (by rfl) T.g_law_draw T.F_law_draw.kp T.b_law_draw .nil pass0 (pa_cons (pv 0) (pa_cons (pv 1) pa_nil))))
      (pss_one (ps_ret (pe_tup (pa_cons (pv 2) (pa_cons (pe_op op_add (pv 2) (pe_call (ok_law_draw T) (hr.mono (by decide)) (by rfl) T.g_law_draw T.F_law_draw.kp T.b_law_draw .nil pass0 (pa_cons (pv 0) (pa_cons (pe_op op_sub (pv 1) (pv 2)) pa_nil)))) pa_nil)))))), ?_⟩
    refine ⟨.ref d, rfl, .int lim, rfl, d, c, n, lim, rfl, dk, n0, by omega, l0, by omega, fun H1 lo kp1 dk1 lo0 lo1 => ?_⟩
    refine ⟨.int lo, rfl, .int lo, rfl, .ref d, rfl, .int lim, rfl, .int lo, rfl, _, _, rfl, rfl, d, c, n + 1, lim - lo, rfl, dk1, by omega, by omega, by omega, by omega, fun H2 r kp2 dk2 r0 r1 => ?_⟩
    refine ⟨_, _, rfl, rfl, by show 2 ≤ sizeLine; decide, fun t nt => ?_⟩
    have s := same_new (o := .tup [.int lo, .int (lo + r)]) nt
    have kp : Kp d c H H2 := kp1.trans kp2
    refine q _ lo (lo + r) t (kp.trans (Kp.same s)) ?_ lo0 (by omega) (by omega) (kp.none dk dk2 nt) upd_same
    have e : n + 1 + 1 = n + 2 := by omega
    rw [e] at dk2
    exact dk2.kept s

/-! ### what stays when the heap grows, or the deck is drawn from -/
theorem rd_same {H H' : Hp} (s : Same H H') {a : Addr} {u : HO} (h : Rd H a u) : Rd H' a u := by
  rcases h with h | ⟨o, h⟩
  · exact .inl (s _ _ h)
  · exact .inr ⟨o, s _ _ h⟩
theorem sqT_same {K : PySem.W.Frag} {H H' : Hp} (s : Same H H') {a : Addr} {xs : List V} (h : SqT K H a xs) : SqT K H' a xs := by
  rcases h with h | h
  · exact .inl (rd_same s h)
  · exact .inr h
theorem dp_same {K : PySem.W.Frag} {H H' : Hp} (s : Same H H') {v : V} {d : PyData} (h : Dp K H v d) : Dp K H' v d := by
  refine Dp.rec (K := K) (H := H) (motive_1 := fun v d _ => Dp K H' v d) (motive_2 := fun vs ds _ => DpAll K H' vs ds) .non (fun b => .bl b) (fun i => .int i) (fun x => .str x) (fun hs _ q => .lst (s.seq hs) q) (fun hs _ q => .tup (sqT_same s hs) q) .nil (fun _ _ a b => .cons a b) h
theorem Kp.keep {d c : Addr} {H H' : Hp} (k : Kp d c H H') {a : Addr} {o : HO} (n1 : a ≠ d) (n2 : a ≠ c) (h : H a = some o) : H' a = some o := k a o n1 n2 h
theorem Kp.tup {d c : Addr} {n : Int} {H H' : Hp} (k : Kp d c H H') (dk : Dk H d c n) {a : Addr} {xs : List V} (h : H a = some (.tup xs)) : H' a = some (.tup xs) := by
  obtain ⟨ys, e, _⟩ := dk.cells
  exact k a _ (ne_of h dk.top (fun z => by cases z)) (ne_of h e (fun z => by cases z)) h
theorem Dk.off {H : Hp} {d c : Addr} {n : Int} (h : Dk H d c n) {p : Addr} (e : H p = none) : p ≠ d ∧ p ≠ c := by
  obtain ⟨ys, z, _⟩ := h.cells
  exact ⟨(ne_of_none h.top e).symm, (ne_of_none z e).symm⟩
theorem dp2 {K : PySem.W.Frag} {H : Hp} {t : Addr} {x y : Int} (h : H t = some (.tup [.int x, .int y])) : Dp K H (.ref t) (.tuple [.int x, .int y]) := .tup (SqT.of h) (.cons (.int x) (.cons (.int y) .nil))
theorem sm2 {x y : Int} (h1 : x.natAbs < 10 ^ 30) (h2 : y.natAbs < 10 ^ 30) : Sm 202 1 (.tuple [.int x, .int y]) := by
  have h := Sm.tup (n := 100) (dp := 0) (ds := [.int x, .int y]) (fun d hd => by
    rcases List.mem_cons.mp hd with rfl | hd
    · exact Sm.int h1
    · rcases List.mem_cons.mp hd with rfl | hd
      · exact Sm.int h2
      · cases hd)
  exact h
/-- an interval, or None -/
def optD : Option (Int × Int) → PyData
  | none => .none
  | some (x, y) => .tuple [.int x, .int y]
def OV (H : Hp) (v : V) : Option (Int × Int) → Prop
  | none => v = .non
  | some (x, y) => ∃ t, v = .ref t ∧ H t = some (.tup [.int x, .int y])
theorem OV.same {H H' : Hp} (s : Same H H') {v : V} {o : Option (Int × Int)} (h : OV H v o) : OV H' v o := by
  match o, h with
  | none, h => exact h
  | some (x, y), h =>
    obtain ⟨t, e, z⟩ := h
    exact ⟨t, e, s _ _ z⟩
theorem OV.kp {d c : Addr} {n : Int} {H H' : Hp} (k : Kp d c H H') (dk : Dk H d c n) {v : V} {o : Option (Int × Int)} (h : OV H v o) : OV H' v o := by
  match o, h with
  | none, h => exact h
  | some (x, y), h =>
    obtain ⟨t, e, z⟩ := h
    exact ⟨t, e, k.tup dk z⟩
theorem OV.dp {K : PySem.W.Frag} {H : Hp} {v : V} {o : Option (Int × Int)} (h : OV H v o) : Dp K H v (optD o) := by
  match o, h with
  | none, h =>
    cases h
    exact .non
  | some (x, y), h =>
    obtain ⟨t, e, z⟩ := h
    subst e
    exact dp2 z

/-! ### what a value is -/
def tyD : PyData → String
  | .none => "NoneType"
  | .bool _ => "bool"
  | .int _ => "int"
  | .str _ => "str"
  | .list _ => "list"
  | .tuple _ => "tuple"
  | .dict _ => "dict"
theorem Dv.ty {K : PySem.W.Frag} {H : Hp} {v : V} {d : PyData} (h : Dv K H v d) : TyX K H v (.type (tyD d)) := by
  cases h with
  | non => exact .base .non
  | bl b => exact .base (.bl b)
  | int i => exact .base (.int i)
  | str x => exact .base (.str x)
  | lst e _ => exact .base (.lst e)
  | tup e _ => exact .base (.tup e)
  | dic e _ => exact .base (.dK e)
def intB : PyData → Bool
  | .bool _ => true
  | .int _ => true
  | _ => false
def boolB : PyData → Bool
  | .bool _ => true
  | _ => false
def tupB : PyData → Bool
  | .tuple _ => true
  | _ => false
theorem kit_int {K : PySem.W.Frag} (d : PyData) : PySem.W.kitOne K (.type (tyD d)) (.type "int") = some (intB d) := by
  cases d with
  | none => exact kit_ty (a := "NoneType") (b := "int") (r := false) (by decide +kernel)
  | bool _ => exact kit_ty (a := "bool") (b := "int") (r := true) (by decide +kernel)
  | int _ => exact kit_ty (a := "int") (b := "int") (r := true) (by decide +kernel)
  | str _ => exact kit_ty (a := "str") (b := "int") (r := false) (by decide +kernel)
  | list _ => exact kit_ty (a := "list") (b := "int") (r := false) (by decide +kernel)
  | tuple _ => exact kit_ty (a := "tuple") (b := "int") (r := false) (by decide +kernel)
  | dict _ => exact kit_ty (a := "dict") (b := "int") (r := false) (by decide +kernel)
theorem kit_bool {K : PySem.W.Frag} (d : PyData) : PySem.W.kitOne K (.type (tyD d)) (.type "bool") = some (boolB d) := by
  cases d with
  | none => exact kit_ty (a := "NoneType") (b := "bool") (r := false) (by decide +kernel)
  | bool _ => exact kit_ty (a := "bool") (b := "bool") (r := true) (by decide +kernel)
  | int _ => exact kit_ty (a := "int") (b := "bool") (r := false) (by decide +kernel)
  | str _ => exact kit_ty (a := "str") (b := "bool") (r := false) (by decide +kernel)
  | list _ => exact kit_ty (a := "list") (b := "bool") (r := false) (by decide +kernel)
  | tuple _ => exact kit_ty (a := "tuple") (b := "bool") (r := false) (by decide +kernel)
  | dict _ => exact kit_ty (a := "dict") (b := "bool") (r := false) (by decide +kernel)
theorem kit_tup {K : PySem.W.Frag} (d : PyData) : PySem.W.kitOne K (.type (tyD d)) (.type "tuple") = some (tupB d) := by
  cases d with
  | none => exact kit_ty (a := "NoneType") (b := "tuple") (r := false) (by decide +kernel)
  | bool _ => exact kit_ty (a := "bool") (b := "tuple") (r := false) (by decide +kernel)
  | int _ => exact kit_ty (a := "int") (b := "tuple") (r := false) (by decide +kernel)
  | str _ => exact kit_ty (a := "str") (b := "tuple") (r := false) (by decide +kernel)
  | list _ => exact kit_ty (a := "list") (b := "tuple") (r := false) (by decide +kernel)
  | tuple _ => exact kit_ty (a := "tuple") (b := "tuple") (r := true) (by decide +kernel)
  | dict _ => exact kit_ty (a := "dict") (b := "tuple") (r := false) (by decide +kernel)
def inB (lo hi : Int) : PyData → Bool
  | .int i => decide (lo ≤ i) && decide (i ≤ hi)
  | _ => false
def leB : PyData → PyData → Bool
  | .int x, .int y => decide (x ≤ y)
  | _, _ => false
def ivB : PyData → Bool
  | .tuple [a, b] => inB 0 1000000000000 a && (inB 0 1000000000000 b && leB a b)
  | _ => false
theorem Dv.asInt {K : PySem.W.Frag} {H : Hp} {v : V} {i : Int} (h : Dv K H v (.int i)) : v = .int i := by
  cases h
  rfl
theorem dv_same {K : PySem.W.Frag} {H H' : Hp} (s : Same H H') {v : V} {d : PyData} (h : Dv K H v d) : Dv K H' v d :=
  Dv.rec (K := K) (H := H) (motive_1 := fun v d _ => Dv K H' v d) (motive_2 := fun vs ds _ => DvAll K H' vs ds) .non (fun b => .bl b) (fun i => .int i) (fun x => .str x) (fun e _ q => .lst (s _ _ e) q) (fun e _ q => .tup (s _ _ e) q) (fun e _ q => .dic (s _ _ e) q) .nil (fun _ _ a b => .cons a b) h
theorem dvAll_same {K : PySem.W.Frag} {H H' : Hp} (s : Same H H') : ∀ {vs : List V} {ds : List PyData}, DvAll K H vs ds → DvAll K H' vs ds
  | _, _, .nil => .nil
  | _, _, .cons a b => .cons (dv_same s a) (dvAll_same s b)
theorem DvAll.get {K : PySem.W.Frag} {H : Hp} : ∀ {vs : List V} {ds : List PyData}, DvAll K H vs ds → ∀ {i : Nat} {v : V}, vs[i]? = some v → ∃ d, ds[i]? = some d ∧ Dv K H v d
  | _, _, .nil, _, _, e => by simp at e
  | _, _, .cons a b, 0, _, e => by
    cases e
    exact ⟨_, rfl, a⟩
  | _, _, .cons a b, i + 1, _, e => b.get (i := i) e
theorem DvAll.append {K : PySem.W.Frag} {H : Hp} : ∀ {vs us : List V} {ds es : List PyData}, DvAll K H vs ds → DvAll K H us es → DvAll K H (vs ++ us) (ds ++ es)
  | _, _, _, _, .nil, h => h
  | _, _, _, _, .cons a b, h => .cons a (b.append h)
theorem Dv.dp {K : PySem.W.Frag} {H : Hp} {v : V} {d : PyData} (h : Dv K H v d) : d.canLay0 = true → Dp K H v d := by
  refine Dv.rec (K := K) (H := H) (motive_1 := fun v d _ => d.canLay0 = true → Dp K H v d) (motive_2 := fun vs ds _ => PyData.canLayAll0 ds = true → DpAll K H vs ds) (fun _ => .non) (fun b _ => .bl b) (fun i _ => .int i) (fun x _ => .str x) (fun e _ q z => .lst (SqL.of e) (q z)) (fun e _ q z => .tup (SqT.of e) (q z)) (fun _ _ _ z => ?_) (fun _ => .nil) (fun _ _ a b z => ?_) h
  · cases z
  · have z' := Bool.and_eq_true_iff.mp z
    exact .cons (a z'.1) (b z'.2)
/-- a value that may be asked whether it is an interval: what stands in it, if it is a tuple, has no dicts -/
def PlainT (d : PyData) : Prop := ∀ ds, d = .tuple ds → PyData.canLayAll0 ds = true ∧ PyData.depthAll ds ≤ 60

/-! ### the program's own -/
def sp_is_number (K : PySem.W.Frag) : Sp := fun vs H Q _ => ∃ (v : V) (d : PyData), vs = [v] ∧ Dv K H v d ∧ Q (.bl (intB d && !boolB d)) H
theorem ok_is_number (T : Tx K mg f_is_number f_is_position f_is_tuple_of f_is_interval f_ascending_error f_targets_error f_is_targets f_is_pieces f_law_deck f_law_draw f_law_interval f_law_row f_law_is_number f_law_is_interval f_law_odd f_law_due f_law_changed f_law d_is_number d_is_position d_is_tuple_of d_is_interval d_ascending_error d_targets_error d_is_targets d_is_pieces d_law_deck d_law_draw d_law_interval d_law_row d_law_is_number d_law_is_interval d_law_odd d_law_due d_law_changed d_law t_LAST_POSITION t_MAX_TARGETS t_MAX_PIECES) : FnOk P w K mg base CX0 1 f_is_number d_is_number ["value"] (sp_is_number K) := by
  refine T.F_is_number.ok sc_is_number (fun vs H Q E h => ?_) (fun cdv A outer s H vs Q E hr h => ?_)
  · obtain ⟨v, d, rfl, _⟩ := h
    rfl
  · obtain ⟨v, d, rfl, hd, q⟩ := h
    refine ⟨_, (pss_one (ps_ret (pe_and (pe_callB call_isi (by rfl) T.z_isinstance (by decide +kernel) (pa_cons (pv 0) (pa_cons (pe_bltn (v := .ty "int") (u := .type "int") (by rfl) T.z_int (by decide +kernel) rfl) pa_nil))) (pe_one (pe_not (pe_callB call_isi (by rfl) T.z_isinstance (by decide +kernel) (pa_cons (pv 0) (pa_cons (pe_bltn (v := .ty "bool") (u := .type "bool") (by rfl) T.z_bool (by decide +kernel) rfl) pa_nil)))))))), ?_⟩
    refine ⟨v, rfl, v, .ty "int", _, _, _, rfl, .ty "int", hd.ty, kit_int d, _, rfl, ite2 (fun e => ?_) (fun e => ?_)⟩
    · refine ⟨v, rfl, v, .ty "bool", _, _, _, rfl, .ty "bool", hd.ty, kit_bool d, _, rfl, ?_⟩
      rw [e] at q
      exact q
    · rw [Bool.not_eq_true] at e
      rw [e] at q
      exact q
theorem num_int {d : PyData} (h : (intB d && !boolB d) = true) : ∃ i, d = .int i := by
  cases d with
  | int i => exact ⟨i, rfl⟩
  | _ => exact (Bool.false_ne_true h).elim
theorem num_no {d : PyData} {lo hi : Int} (h : (intB d && !boolB d) = false) : inB lo hi d = false := by
  cases d with
  | int i => exact Bool.noConfusion (show true = false from h)
  | _ => rfl
def sp_is_position (K : PySem.W.Frag) : Sp := fun vs H Q _ => ∃ (v : V) (d : PyData), vs = [v] ∧ Dv K H v d ∧ Q (.bl (inB 0 1000000000000 d)) H
theorem ok_is_position (T : Tx K mg f_is_number f_is_position f_is_tuple_of f_is_interval f_ascending_error f_targets_error f_is_targets f_is_pieces f_law_deck f_law_draw f_law_interval f_law_row f_law_is_number f_law_is_interval f_law_odd f_law_due f_law_changed f_law d_is_number d_is_position d_is_tuple_of d_is_interval d_ascending_error d_targets_error d_is_targets d_is_pieces d_law_deck d_law_draw d_law_interval d_law_row d_law_is_number d_law_is_interval d_law_odd d_law_due d_law_changed d_law t_LAST_POSITION t_MAX_TARGETS t_MAX_PIECES) : FnOk P w K mg base CX0 2 f_is_position d_is_position ["value"] (sp_is_position K) := by
  refine T.F_is_position.ok sc_is_position (fun vs H Q E h => ?_) (fun cdv A outer s H vs Q E hr h => ?_)
  · obtain ⟨v, d, rfl, _⟩ := h
    rfl
  · obtain ⟨v, d, rfl, hd, q⟩ := h
    refine ⟨_, (pss_one (ps_ret (pe_and (pe_call (ok_is_number T) (hr.mono (by decide)) (by rfl) T.g_is_number T.F_is_number.kp T.b_is_number .nil pass0 (pa_cons (pv 0) pa_nil)) (pe_one (pe_chain op_le op_le pe_int (pv 0) (pe_glob (v := .int 1000000000000) (by rfl) T.c_LAST_POSITION ⟨_, rfl⟩)))))), ?_⟩
    refine ⟨v, rfl, v, d, rfl, hd, _, rfl, ite2 (fun e => ?_) (fun e => ?_)⟩
    · obtain ⟨i, rfl⟩ := num_int e
      have ev := hd.asInt
      subst ev
      refine ⟨.int i, rfl, _, _, rfl, rfl, _, rfl, ite2 (fun e2 => ?_) (fun e2 => ?_)⟩
      · refine ⟨_, _, rfl, rfl, ?_⟩
        have q' : Q (.bl (decide (0 ≤ i) && decide (i ≤ 1000000000000))) H := q
        rw [e2] at q'
        exact q'
      · have q' : Q (.bl (decide (0 ≤ i) && decide (i ≤ 1000000000000))) H := q
        rw [Bool.not_eq_true] at e2
        rw [e2] at q'
        exact q'
    · rw [Bool.not_eq_true] at e
      rw [num_no e] at q
      exact q
def sp_is_interval (K : PySem.W.Frag) : Sp := fun vs H Q _ => ∃ (v : V) (d : PyData), vs = [v] ∧ Dv K H v d ∧ Q (.bl (ivB d)) H
theorem iv_not {d : PyData} (h : tupB d = false) : ivB d = false := by
  cases d with
  | tuple ds => cases h
  | _ => rfl
def tlB (n : Int) : PyData → Bool
  | .tuple ds => decide ((ds.length : Int) = n)
  | _ => false
def sp_is_tuple_of (K : PySem.W.Frag) : Sp := fun vs H Q _ => ∃ (v : V) (d : PyData) (n : Int), vs = [v, .int n] ∧ Dv K H v d ∧ Q (.bl (tlB n d)) H
theorem tl_not {n : Int} {d : PyData} (h : tupB d = false) : tlB n d = false := by
  cases d with
  | tuple ds => cases h
  | _ => rfl
theorem ok_is_tuple_of (T : Tx K mg f_is_number f_is_position f_is_tuple_of f_is_interval f_ascending_error f_targets_error f_is_targets f_is_pieces f_law_deck f_law_draw f_law_interval f_law_row f_law_is_number f_law_is_interval f_law_odd f_law_due f_law_changed f_law d_is_number d_is_position d_is_tuple_of d_is_interval d_ascending_error d_targets_error d_is_targets d_is_pieces d_law_deck d_law_draw d_law_interval d_law_row d_law_is_number d_law_is_interval d_law_odd d_law_due d_law_changed d_law t_LAST_POSITION t_MAX_TARGETS t_MAX_PIECES) : FnOk P w K mg base CX0 1 f_is_tuple_of d_is_tuple_of ["value", "length"] (sp_is_tuple_of K) := by
  refine T.F_is_tuple_of.ok sc_is_tuple_of (fun vs H Q E h => ?_) (fun cdv A outer s H vs Q E hr h => ?_)
  · obtain ⟨v, d, n, rfl, _⟩ := h
    rfl
  · obtain ⟨v, d, n, rfl, hd, q⟩ := h
    refine ⟨_, (pss_one (ps_ret (pe_and (pe_callB call_isi (by rfl) T.z_isinstance (by decide +kernel) (pa_cons (pv 0) (pa_cons (pe_bltn (v := .ty "tuple") (u := .type "tuple") (by rfl) T.z_tuple (by decide +kernel) rfl) pa_nil))) (pe_one (pe_cmpR op_eq (pe_callB call_len_seq (by rfl) T.z_len PySem.boot_len (pa_cons (pv 0) pa_nil)) (pv 1) (nomark _)))))), ?_⟩
    refine ⟨v, rfl, v, .ty "tuple", _, _, _, rfl, .ty "tuple", hd.ty, kit_tup d, _, rfl, ?_⟩
    cases tb : tupB d with
    | false =>
      refine iteF ?_
      rw [tl_not tb] at q
      exact q
    | true =>
      refine iteT ?_
      cases hd with
      | @tup a xs ds e all =>
        have len := all.length
        refine ⟨.ref a, rfl, a, xs, rfl, .inr (SqT.of e), .int n, rfl, rfl, ?_⟩
        have z : tlB n (.tuple ds) = decide (V.int (xs.length : Nat) = V.int n) := by
          show decide ((ds.length : Int) = n) = _
          rw [← len]
          by_cases y : ((xs.length : Nat) : Int) = n
          · rw [decide_eq_true y, decide_eq_true (by rw [y])]
          · rw [decide_eq_false y, decide_eq_false (fun z => y (V.int.inj z))]
        rw [z] at q
        exact q
      | _ => exact (Bool.false_ne_true tb).elim
theorem tl_two {d : PyData} (h : tlB 2 d = true) : ∃ a b, d = .tuple [a, b] := by
  match d, h with
  | .tuple [a, b], _ => exact ⟨a, b, rfl⟩
  | .tuple (x :: y :: z :: l), h =>
    have h' : ((x :: y :: z :: l).length : Int) = 2 := of_decide_eq_true (show decide (((x :: y :: z :: l).length : Int) = 2) = true from h)
    rw [List.length_cons, List.length_cons, List.length_cons] at h'
    omega
theorem iv_two {d : PyData} (h : ¬ tlB 2 d = true) : ivB d = false := by
  match d, h with
  | .tuple [a, b], h => exact absurd rfl h
  | .tuple [], _ => rfl
  | .tuple [_], _ => rfl
  | .tuple (_ :: _ :: _ :: l), _ => rfl
  | .none, _ => rfl
  | .bool _, _ => rfl
  | .int _, _ => rfl
  | .str _, _ => rfl
  | .list _, _ => rfl
  | .dict _, _ => rfl
theorem ok_is_interval (T : Tx K mg f_is_number f_is_position f_is_tuple_of f_is_interval f_ascending_error f_targets_error f_is_targets f_is_pieces f_law_deck f_law_draw f_law_interval f_law_row f_law_is_number f_law_is_interval f_law_odd f_law_due f_law_changed f_law d_is_number d_is_position d_is_tuple_of d_is_interval d_ascending_error d_targets_error d_is_targets d_is_pieces d_law_deck d_law_draw d_law_interval d_law_row d_law_is_number d_law_is_interval d_law_odd d_law_due d_law_changed d_law t_LAST_POSITION t_MAX_TARGETS t_MAX_PIECES) : FnOk P w K mg base CX0 3 f_is_interval d_is_interval ["value"] (sp_is_interval K) := by
  refine T.F_is_interval.ok sc_is_interval (fun vs H Q E h => ?_) (fun cdv A outer s H vs Q E hr h => ?_)
  · obtain ⟨v, d, rfl, _⟩ := h
    rfl
  · obtain ⟨v, d, rfl, hd, q⟩ := h
    refine ⟨_, (pss_cons (ps_if (pt_not (pt_val (pe_call (ok_is_tuple_of T) (hr.mono (by decide)) (by rfl) T.g_is_tuple_of T.F_is_tuple_of.kp T.b_is_tuple_of .nil pass0 (pa_cons (pv 0) (pa_cons pe_int pa_nil)))))
      (pss_one (ps_ret pe_bl))
      pss_nil)
      (pss_cons (ps_asg (pv 0) (pg_tup rfl (pgs_cons (pg_name (i := 1) sc_is_interval.nd rfl (Or.inl rfl)) (pgs_cons (pg_name (i := 2) sc_is_interval.nd rfl (Or.inl rfl)) pgs_nil))))
      (pss_one (ps_ret (pe_and (pe_call (ok_is_position T) (hr.mono (by decide)) (by rfl) T.g_is_position T.F_is_position.kp T.b_is_position .nil pass0 (pa_cons (pv 1) pa_nil)) (pe_and (pe_call (ok_is_position T) (hr.mono (by decide)) (by rfl) T.g_is_position T.F_is_position.kp T.b_is_position .nil pass0 (pa_cons (pv 2) pa_nil)) (pe_one (pe_cmpR op_le (pv 1) (pv 2) (nomark _))))))))), ?_⟩
    refine ⟨v, rfl, v, d, 2, rfl, hd, _, rfl, ?_⟩
    by_cases tb : tlB 2 d = true
    · rw [tb]
      refine iteF ?_
      obtain ⟨d1, d2, rfl⟩ := tl_two tb
      cases hd with
      | @tup a xs ds e all =>
        match xs, all, e, q with
          | [v1, v2], .cons h1 (.cons h2 .nil), e, q =>
            refine ⟨.ref a, rfl, a, _, rfl, SqT.of e, rfl, v1, [v2], rfl, v2, [], rfl, rfl, ?_⟩
            refine ⟨v1, rfl, v1, d1, rfl, h1, _, rfl, ite2 (fun e1 => ?_) (fun e1 => ?_)⟩
            · refine ⟨v2, rfl, v2, d2, rfl, h2, _, rfl, ite2 (fun e2 => ?_) (fun e2 => ?_)⟩
              · cases d1 with
                | int i =>
                  cases d2 with
                  | int j =>
                    have x1 := h1.asInt
                    have x2 := h2.asInt
                    subst x1 x2
                    refine ⟨.int i, rfl, .int j, rfl, _, _, rfl, rfl, ?_⟩
                    have q' : Q (.bl (inB 0 1000000000000 (.int i) && (inB 0 1000000000000 (.int j) && decide (i ≤ j)))) H := q
                    rw [e1, e2] at q'
                    exact q'
                  | _ => exact absurd e2 (by simp [inB])
                | _ => exact absurd e1 (by simp [inB])
              · have q' : Q (.bl (inB 0 1000000000000 d1 && (inB 0 1000000000000 d2 && leB d1 d2))) H := q
                rw [Bool.not_eq_true] at e2
                rw [e1, e2] at q'
                exact q'
            · have q' : Q (.bl (inB 0 1000000000000 d1 && (inB 0 1000000000000 d2 && leB d1 d2))) H := q
              rw [Bool.not_eq_true] at e1
              rw [e1] at q'
              exact q'
    · rw [iv_two tb] at q
      rw [Bool.not_eq_true] at tb
      rw [tb]
      exact iteT q
/-! ### the law's own -/
def sp_law_is_number (K : PySem.W.Frag) : Sp := fun vs H Q _ => ∃ (v : V) (d : PyData) (lo hi : Int), vs = [v, .int lo, .int hi] ∧ Dv K H v d ∧ Q (.bl (inB lo hi d)) H
theorem ok_law_is_number (T : Tx K mg f_is_number f_is_position f_is_tuple_of f_is_interval f_ascending_error f_targets_error f_is_targets f_is_pieces f_law_deck f_law_draw f_law_interval f_law_row f_law_is_number f_law_is_interval f_law_odd f_law_due f_law_changed f_law d_is_number d_is_position d_is_tuple_of d_is_interval d_ascending_error d_targets_error d_is_targets d_is_pieces d_law_deck d_law_draw d_law_interval d_law_row d_law_is_number d_law_is_interval d_law_odd d_law_due d_law_changed d_law t_LAST_POSITION t_MAX_TARGETS t_MAX_PIECES) : FnOk P w K mg base CX0 1 f_law_is_number d_law_is_number ["_law_value", "_law_low", "_law_high"] (sp_law_is_number K) := by
  refine T.F_law_is_number.ok sc_law_is_number (fun vs H Q E h => ?_) (fun cdv A outer s H vs Q E hr h => ?_)
  · obtain ⟨v, d, lo, hi, rfl, _⟩ := h
    rfl
  · obtain ⟨v, d, lo, hi, rfl, hd, q⟩ := h
    refine ⟨_, (pss_one (ps_ret (pe_and (pe_callB call_isi (by rfl) T.z_isinstance (by decide +kernel) (pa_cons (pv 0) (pa_cons (pe_bltn (v := .ty "int") (u := .type "int") (by rfl) T.z_int (by decide +kernel) rfl) pa_nil))) (pe_and (pe_not (pe_callB call_isi (by rfl) T.z_isinstance (by decide +kernel) (pa_cons (pv 0) (pa_cons (pe_bltn (v := .ty "bool") (u := .type "bool") (by rfl) T.z_bool (by decide +kernel) rfl) pa_nil)))) (pe_one (pe_chain op_le op_le (pv 1) (pv 0) (pv 2))))))), ?_⟩
    refine ⟨v, rfl, v, .ty "int", _, _, _, rfl, .ty "int", hd.ty, kit_int d, _, rfl, ite2 (fun e => ?_) (fun e => ?_)⟩
    · refine ⟨v, rfl, v, .ty "bool", _, _, _, rfl, .ty "bool", hd.ty, kit_bool d, _, rfl, _, rfl, ite2 (fun e2 => ?_) (fun e2 => ?_)⟩
      · obtain ⟨i, rfl⟩ := num_int (d := d) (by rw [e, e2]; rfl)
        have ev := hd.asInt
        subst ev
        refine ⟨.int lo, rfl, .int i, rfl, _, _, rfl, rfl, _, rfl, ite2 (fun e3 => ?_) (fun e3 => ?_)⟩
        · refine ⟨.int hi, rfl, _, _, rfl, rfl, ?_⟩
          have q' : Q (.bl (decide (lo ≤ i) && decide (i ≤ hi))) H := q
          rw [e3] at q'
          exact q'
        · have q' : Q (.bl (decide (lo ≤ i) && decide (i ≤ hi))) H := q
          rw [Bool.not_eq_true] at e3
          rw [e3] at q'
          exact q'
      · rw [Bool.not_eq_true] at e2
        rw [num_no (by rw [e, e2]; rfl)] at q
        exact q
    · rw [Bool.not_eq_true] at e
      rw [num_no (by rw [e]; rfl)] at q
      exact q
def sp_law_is_interval (K : PySem.W.Frag) : Sp := fun vs H Q _ => ∃ (v : V) (d : PyData), vs = [v] ∧ Dv K H v d ∧ PlainT d ∧ ∀ H', Same H H' → Q (.bl (ivB d)) H'
theorem filter_lay {p : PyData → Bool} : ∀ {ds : List PyData}, PyData.canLayAll0 ds = true → PyData.canLayAll0 (ds.filter p) = true
  | [], _ => rfl
  | d :: ds, h => by
    have h' := Bool.and_eq_true_iff.mp h
    rw [List.filter_cons]
    split
    · exact Bool.and_eq_true_iff.mpr ⟨h'.1, filter_lay h'.2⟩
    · exact filter_lay h'.2
theorem filter_depth {p : PyData → Bool} {n : Nat} : ∀ {ds : List PyData}, PyData.depthAll ds ≤ n → PyData.depthAll (ds.filter p) ≤ n
  | [], _ => Nat.zero_le _
  | d :: ds, h => by
    have h' := Nat.max_le.mp h
    rw [List.filter_cons]
    split
    · exact Nat.max_le.mpr ⟨h'.1, filter_depth h'.2⟩
    · exact filter_depth h'.2
theorem eqv_empty (ds : List PyData) : PyData.eqv (.list ds) (.list []) = ds.isEmpty := by
  cases ds <;> rfl
theorem dp_one {K : PySem.W.Frag} {H : Hp} : ∀ {vs : List V} {ds : List PyData} {v : V} {d : PyData}, DpAll K H vs ds → Dp K H v d → DpAll K H (vs ++ [v]) (ds ++ [d])
  | _, _, _, _, .nil, h => .cons h .nil
  | _, _, _, _, .cons a b, h => .cons a (dp_one b h)
theorem dpAll_same {K : PySem.W.Frag} {H H' : Hp} (s : Same H H') : ∀ {vs : List V} {ds : List PyData}, DpAll K H vs ds → DpAll K H' vs ds
  | _, _, .nil => .nil
  | _, _, .cons a b => .cons (dp_same s a) (dpAll_same s b)
theorem lay_get : ∀ {ds : List PyData}, PyData.canLayAll0 ds = true → ∀ {i : Nat} {d : PyData}, ds[i]? = some d → d.canLay0 = true
  | [], _, _, _, e => by simp at e
  | d :: ds, h, 0, _, e => by
    cases e
    exact (Bool.and_eq_true_iff.mp h).1
  | d :: ds, h, i + 1, _, e => lay_get (Bool.and_eq_true_iff.mp h).2 (i := i) e
theorem dpAll_len {K : PySem.W.Frag} {H : Hp} : ∀ {vs : List V} {ds : List PyData}, DpAll K H vs ds → vs.length = ds.length
  | _, _, .nil => rfl
  | _, _, .cons _ h => by rw [List.length_cons, List.length_cons, dpAll_len h]
theorem ok_law_is_interval (T : Tx K mg f_is_number f_is_position f_is_tuple_of f_is_interval f_ascending_error f_targets_error f_is_targets f_is_pieces f_law_deck f_law_draw f_law_interval f_law_row f_law_is_number f_law_is_interval f_law_odd f_law_due f_law_changed f_law d_is_number d_is_position d_is_tuple_of d_is_interval d_ascending_error d_targets_error d_is_targets d_is_pieces d_law_deck d_law_draw d_law_interval d_law_row d_law_is_number d_law_is_interval d_law_odd d_law_due d_law_changed d_law t_LAST_POSITION t_MAX_TARGETS t_MAX_PIECES) : FnOk P w K mg base CX0 2 f_law_is_interval d_law_is_interval ["_law_value"] (sp_law_is_interval K) := by
  refine T.F_law_is_interval.ok sc_law_is_interval (fun vs H Q E h => ?_) (fun cdv A outer s H vs Q E hr h => ?_)
  · obtain ⟨v, d, rfl, _⟩ := h
    rfl
  · obtain ⟨v, d, rfl, hd, pl, q⟩ := h
    refine ⟨_, (pss_cons (ps_if (PW.pt (pw_or (pt_not (pt_val (pe_callB call_isi (by rfl) T.z_isinstance (by decide +kernel) (pa_cons (pv 0) (pa_cons (pe_bltn (v := .ty "tuple") (u := .type "tuple") (by rfl) T.z_tuple (by decide +kernel) rfl) pa_nil))))) (pw_or1 (pt_cmpR op_ne (pe_callB call_len_seq (by rfl) T.z_len PySem.boot_len (pa_cons (pv 0) pa_nil)) pe_int (nomark _)))))
      (pss_one (ps_ret pe_bl))
      pss_nil)
      (pss_cons (ps_if (pt_cmpR (op_neD hr.units) (pe_lc (own := [("_law_end", 1)]) (g := (gName 1)) (by rfl) sc_law_is_interval.nd (pi_tup (pv 0)) (blkOk_by (own := [("_law_end", 1)]) (N := N_law_is_interval) (sc := defScope s_law_is_interval) (by decide +kernel)) (fun _ _ _ _ _ => (pg_name (i := 1) sc_law_is_interval.nd rfl (Or.inl rfl))) (fun _ _ _ _ _ => pts_one (pt_not (pt_val (pe_call (ok_law_is_number T) (hr.mono (by decide)) (by rfl) T.g_law_is_number T.F_law_is_number.kp T.b_law_is_number .nil pass0 (pa_cons (pv 1) (pa_cons pe_int (pa_cons (pe_op op_pow pe_int pe_int) pa_nil))))))) (fun _ _ _ _ _ => (pv 1))) (pe_lst pa_nil) (nomark _))
      (pss_one (ps_ret pe_bl))
      pss_nil)
      (pss_one (ps_ret (pe_cmpR op_le (pe_ix ix_tup (pv 0) pe_int (fun _ _ => rfl)) (pe_ix ix_tup (pv 0) pe_int (fun _ _ => rfl)) (nomark _)))))), ?_⟩
    refine ⟨v, rfl, v, .ty "tuple", _, _, _, rfl, .ty "tuple", hd.ty, kit_tup d, _, rfl, ?_⟩
    cases tb : tupB d with
    | false =>
      refine iteT ?_
      refine iteT ?_
      rw [iv_not tb] at q
      exact q H (Same.refl _)
    | true =>
      refine iteF ?_
      cases hd with
      | @tup a xs ds e all =>
        have len := all.length
        obtain ⟨lay, dep⟩ := pl ds rfl
        refine ⟨.ref a, rfl, a, xs, rfl, .inr (SqT.of e), rfl, _, rfl, ?_⟩
        by_cases two : xs.length = 2
        · have yes : V.int (xs.length : Nat) = V.int 2 := by rw [two]; rfl
          rw [decide_eq_true yes]
          refine iteF ?_
          refine ⟨.ref a, rfl, a, rfl, ⟨_, SqT.of e⟩, fun D nD => ?_⟩
          refine lc_tup (K := K) (a := a) (xs := xs) (fun i H' => Same H H' ∧ ∃ ys, H' D = some (.lst ys) ∧ DpAll K H ys ((ds.take i).filter fun d => !inB 0 1000000000000 d)) ⟨same_new nD, [], upd_same, .nil⟩ (fun i H' _ h => SqT.of (h.1 _ _ e)) ?_ ?_
          · rintro i x H' hi ⟨sm, ys, eD, all2⟩
            obtain ⟨d1, e1, hd1⟩ := all.get hi
            have l1 := lay_get lay e1
            refine ⟨rfl, x, rfl, 10, 12, rfl, rfl, ⟨by decide, by decide, by decide⟩, x, d1, 0, _, rfl, dv_same sm hd1, _, rfl, ?_⟩
            have ten : (10 : Int) ^ (12 : Int).toNat = 1000000000000 := by decide
            rw [ten]
            cases eb : inB 0 1000000000000 d1 with
            | true =>
              refine iteF ?_
              refine ⟨sm, ys, eD, ?_⟩
              rw [List.take_add_one, e1, List.filter_append]
              show DpAll K H ys (_ ++ List.filter _ [d1])
              rw [List.filter_cons, if_neg (by rw [eb]; decide), List.filter_nil, List.append_nil]
              exact all2
            | false =>
              refine iteT ?_
              have bound := dpAll_len all2
              have bound2 := List.length_filter_le (fun d => !inB 0 1000000000000 d) (ds.take i)
              have bound3 := List.length_take_le' i ds
              refine ⟨x, rfl, ys, eD, small1000 (by omega), ?_, _, upd_same, ?_⟩
              · intro b o eb
                rw [upd_ne (ne_of_none eb nD)]
                exact sm b o eb
              · rw [List.take_add_one, e1, List.filter_append]
                show DpAll K H _ (_ ++ List.filter _ [d1])
                rw [List.filter_cons, if_pos (by rw [eb]; decide), List.filter_nil]
                exact dp_one all2 (hd1.dp l1)
          · rintro H' ⟨sm, ys, eD, all2⟩
            rw [len, List.take_length] at all2
            refine ⟨by show 0 ≤ sizeLine; decide, fun z nz => ?_⟩
            have s2 := same_new (o := .lst []) nz
            refine ⟨.list (ds.filter fun d => !inB 0 1000000000000 d), .list [], .lst (SqL.of (s2 _ _ eD)) (dpAll_same (sm.trans s2) all2), .lst (SqL.of upd_same) .nil, ?_, rfl, _, rfl, ?_⟩
            · refine Bool.and_eq_true_iff.mpr ⟨filter_lay lay, decide_eq_true ?_⟩
              show PyData.depthAll _ + 1 ≤ 64
              have := filter_depth (p := fun d => !inB 0 1000000000000 d) dep
              omega
            · rw [eqv_empty]
              match xs, ds, two, len, all, e, q with
              | [v1, v2], [d1, d2], _, _, .cons h1 (.cons h2 .nil), e, q =>
                have q' : ∀ H', Same H H' → Q (.bl (inB 0 1000000000000 d1 && (inB 0 1000000000000 d2 && leB d1 d2))) H' := q
                cases b1 : inB 0 1000000000000 d1 with
                | false =>
                  rw [List.filter_cons, if_pos (by rw [b1]; decide)]
                  refine iteT ?_
                  rw [b1] at q'
                  exact q' _ (sm.trans s2)
                | true =>
                  cases b2 : inB 0 1000000000000 d2 with
                  | false =>
                    rw [List.filter_cons, if_neg (by rw [b1]; decide), List.filter_cons, if_pos (by rw [b2]; decide)]
                    refine iteT ?_
                    rw [b1, b2] at q'
                    exact q' _ (sm.trans s2)
                  | true =>
                    rw [List.filter_cons, if_neg (by rw [b1]; decide), List.filter_cons, if_neg (by rw [b2]; decide)]
                    refine iteF ?_
                    cases d1 with
                    | int i =>
                      cases d2 with
                      | int j =>
                        have x1 := h1.asInt
                        have x2 := h2.asInt
                        subst x1 x2
                        have et := s2 _ _ (sm _ _ e)
                        refine ⟨.ref a, rfl, a, _, 0, .int i, rfl, rfl, SqT.of et, rfl, .ref a, rfl, a, _, 1, .int j, rfl, rfl, SqT.of et, rfl, _, _, rfl, rfl, ?_⟩
                        rw [b1, b2] at q'
                        exact q' _ (sm.trans s2)
                      | _ => exact absurd b2 (by simp [inB])
                    | _ => exact absurd b1 (by simp [inB])
        · have ne : ¬ (V.int (xs.length : Nat) = V.int 2) := fun z => two (by
            have z' := V.int.inj z
            omega)
          rw [decide_eq_false ne]
          refine iteT ?_
          have z : ivB (.tuple ds) = false := by
            match ds, len with
            | [], _ => rfl
            | [_], _ => rfl
            | [_, _], len => exact absurd len two
            | _ :: _ :: _ :: _, _ => rfl
          rw [z] at q
          exact q H (Same.refl _)
      | _ => exact (Bool.false_ne_true tb).elim

/-! ### the first error of an ascending tuple of intervals -/
def leqB : PyData → PyData → Bool
  | .tuple [.int x1, .int x2], .tuple [.int y1, .int y2] => if x1 = y1 then (if x2 = y2 then true else decide (x2 ≤ y2)) else decide (x1 ≤ y1)
  | _, _ => false
def errAt (ds : List PyData) (i : Nat) : Option Str := if ivB (ds.getD i .none) = true then (if 0 < i ∧ leqB (ds.getD i .none) (ds.getD (i - 1) .none) = true then some "order" else none) else some "interval"
def fe (ds : List PyData) : Nat → Nat → PyData
  | 0, _ => .none
  | k + 1, i => match errAt ds i with
    | some s => .tuple [.int i, .str s]
    | none => fe ds k (i + 1)
def noTup : PyData := .tuple [.none, .str "tuple"]
def errD (most : Int) : PyData → PyData
  | .tuple ds => if (ds.length : Int) > most then noTup else fe ds ds.length 0
  | _ => noTup
theorem iv_shape {d : PyData} (h : ivB d = true) : ∃ x y, d = .tuple [.int x, .int y] := by
  cases d with
  | tuple ds =>
    match ds, h with
    | [], h => exact (Bool.false_ne_true h).elim
    | [_], h => exact (Bool.false_ne_true h).elim
    | _ :: _ :: _ :: _, h => exact (Bool.false_ne_true h).elim
    | [a, b], h =>
      have h' : (inB 0 1000000000000 a && (inB 0 1000000000000 b && leB a b)) = true := h
      have h1 := (Bool.and_eq_true_iff.mp h').1
      have h2 := (Bool.and_eq_true_iff.mp (Bool.and_eq_true_iff.mp h').2).1
      cases a with
      | int x =>
        cases b with
        | int y => exact ⟨x, y, rfl⟩
        | _ => exact (Bool.false_ne_true h2).elim
      | _ => exact (Bool.false_ne_true h1).elim
  | _ => exact (Bool.false_ne_true h).elim
theorem Dv.asPair {K : PySem.W.Frag} {H : Hp} {v : V} {x y : Int} (h : Dv K H v (.tuple [.int x, .int y])) : ∃ b, v = .ref b ∧ H b = some (.tup [.int x, .int y]) := by
  cases h with
  | @tup a xs _ e all =>
    match xs, all with
    | [_, _], .cons h1 (.cons h2 .nil) =>
      cases h1
      cases h2
      exact ⟨a, rfl, e⟩
theorem getD_some {ds : List PyData} {i : Nat} {d : PyData} (h : ds[i]? = some d) : ds.getD i .none = d := by
  rw [List.getD_eq_getElem?_getD, h]
  rfl
theorem sm_fe (ds : List PyData) : ∀ k i : Nat, i + k ≤ 1000 → Sm 1000 3 (fe ds k i)
  | 0, _, _ => Sm.none.mono (by decide) (by decide)
  | k + 1, i, h => by
    show Sm 1000 3 (match errAt ds i with | some s => .tuple [.int i, .str s] | none => fe ds k (i + 1))
    have one : ∀ s : Str, Sm 100 0 (.str s) → Sm 1000 3 (.tuple [.int i, .str s]) := fun s hs => by
      refine (Sm.tup (n := 100) (dp := 0) (ds := [.int i, .str s]) (fun d hd => ?_)).mono (by show 2 * 101 ≤ 1000; decide) (by decide)
      rcases List.mem_cons.mp hd with rfl | hd
      · exact Sm.int (by omega)
      · rw [List.mem_singleton.mp hd]
        exact hs
    cases e : errAt ds i with
    | none => exact sm_fe ds k (i + 1) (by omega)
    | some s =>
      apply one
      unfold errAt at e
      split at e
      · split at e
        · cases e
          exact ⟨rfl, by decide +kernel, by decide +kernel, Nat.le_refl _⟩
        · cases e
      · cases e
        exact ⟨rfl, by decide +kernel, by decide +kernel, Nat.le_refl _⟩
theorem sm_noTup : Sm 1000 3 noTup := by
  refine ⟨by decide +kernel, by decide +kernel, by decide +kernel, by decide +kernel⟩
theorem sm_err (most : Int) {d : PyData} (h : ∀ ds, d = .tuple ds → ds.length ≤ 900) : Sm 1000 3 (errD most d) := by
  cases d with
  | tuple ds =>
    show Sm 1000 3 (if (ds.length : Int) > most then noTup else fe ds ds.length 0)
    split
    · exact sm_noTup
    · exact sm_fe ds _ _ (by have := h ds rfl; omega)
  | _ => exact sm_noTup
def sp_ascending_error (K : PySem.W.Frag) : Sp := fun vs H Q _ => ∃ (v : V) (d : PyData) (most : Int), vs = [v, .int most] ∧ Dv K H v d ∧ ∀ H' r, Same H H' → Dv K H' r (errD most d) → Q r H'
theorem ok_ascending_error (T : Tx K mg f_is_number f_is_position f_is_tuple_of f_is_interval f_ascending_error f_targets_error f_is_targets f_is_pieces f_law_deck f_law_draw f_law_interval f_law_row f_law_is_number f_law_is_interval f_law_odd f_law_due f_law_changed f_law d_is_number d_is_position d_is_tuple_of d_is_interval d_ascending_error d_targets_error d_is_targets d_is_pieces d_law_deck d_law_draw d_law_interval d_law_row d_law_is_number d_law_is_interval d_law_odd d_law_due d_law_changed d_law t_LAST_POSITION t_MAX_TARGETS t_MAX_PIECES) : FnOk P w K mg base CX0 4 f_ascending_error d_ascending_error ["value", "most"] (sp_ascending_error K) := by
  refine T.F_ascending_error.ok sc_ascending_error (fun vs H Q E h => ?_) (fun cdv A outer s H vs Q E hr h => ?_)
  · obtain ⟨v, d, most, rfl, _⟩ := h
    rfl
  · obtain ⟨v, d, most, rfl, hd, q⟩ := h
    refine ⟨_, (pss_cons (ps_if (PW.pt (pw_or (pt_not (pt_val (pe_callB call_isi (by rfl) T.z_isinstance (by decide +kernel) (pa_cons (pv 0) (pa_cons (pe_bltn (v := .ty "tuple") (u := .type "tuple") (by rfl) T.z_tuple (by decide +kernel) rfl) pa_nil))))) (pw_or1 (pt_cmpR op_gt (pe_callB call_len_seq (by rfl) T.z_len PySem.boot_len (pa_cons (pv 0) pa_nil)) (pv 1) (nomark _)))))
      (pss_one (ps_ret (pe_tup (pa_cons pe_non (pa_cons pe_str pa_nil)))))
      pss_nil)
      (pss_cons (ps_for PassesOwn.never rfl (pi_enumT (by rfl) T.z_enumerate (pa_cons (pv 0) pa_nil)) (pg_tup rfl (pgs_cons (pg_name (i := 2) sc_ascending_error.nd rfl (Or.inl rfl)) (pgs_cons (pg_name (i := 3) sc_ascending_error.nd rfl (Or.inl rfl)) pgs_nil)))
      (pss_cons (ps_if (pt_not (pt_val (pe_call (ok_is_interval T) (hr.mono (by decide)) (by rfl) T.g_is_interval T.F_is_interval.kp T.b_is_interval .nil pass0 (pa_cons (pv 3) pa_nil))))
      (pss_one (ps_ret (pe_tup (pa_cons (pv 2) (pa_cons pe_str pa_nil)))))
      pss_nil)
      (pss_one (ps_if (PW.pt (pw_and (pt_cmpR op_gt (pv 2) pe_int (nomark _)) (pw_and1 (pt_cmpR (op_leT hr.units0) (pv 3) (pe_ix ix_tup (pv 0) (pe_op op_sub (pv 2) pe_int) (fun _ _ => rfl)) (nomark _)))))
      (pss_one (ps_ret (pe_tup (pa_cons (pv 2) (pa_cons pe_str pa_nil)))))
      pss_nil))))
      (pss_one (ps_ret pe_non)))), ?_⟩
    refine ⟨v, rfl, v, .ty "tuple", _, _, _, rfl, .ty "tuple", hd.ty, kit_tup d, _, rfl, ?_⟩
    cases tb : tupB d with
    | false =>
      refine iteT ?_
      refine iteT ?_
      refine ⟨by show 2 ≤ sizeLine; decide, fun t nt => ?_⟩
      have e : errD most d = noTup := by
        cases d with
        | tuple ds => cases tb
        | _ => rfl
      rw [e] at q
      exact q _ _ (same_new nt) (.tup upd_same (.cons .non (.cons (.str _) .nil)))
    | true =>
      refine iteF ?_
      cases hd with
      | @tup a xs ds e all =>
        have len := all.length
        refine ⟨.ref a, rfl, a, xs, rfl, .inr (SqT.of e), .int most, rfl, _, _, rfl, rfl, _, rfl, ite2 (fun e1 => ?_) (fun e1 => ?_)⟩
        · have e2 : most < (xs.length : Int) := of_decide_eq_true e1
          refine ⟨by show 2 ≤ sizeLine; decide, fun t nt => ?_⟩
          have eq : errD most (.tuple ds) = noTup := by
            show (if (ds.length : Int) > most then noTup else fe ds ds.length 0) = noTup
            rw [if_pos (by omega)]
          rw [eq] at q
          exact q _ _ (same_new nt) (.tup upd_same (.cons .non (.cons (.str _) .nil)))
        · have e2 : ¬ most < (xs.length : Int) := fun z => e1 (decide_eq_true z)
          have eq : errD most (.tuple ds) = fe ds ds.length 0 := by
            show (if (ds.length : Int) > most then noTup else fe ds ds.length 0) = _
            rw [if_neg (by omega)]
          rw [eq] at q
          generalize eR : fe ds ds.length 0 = R at q
          refine ⟨.ref a, rfl, a, xs, rfl, SqT.of e, ?_⟩
          refine ⟨fun i m σ H' => i + m = xs.length ∧ Same H H' ∧ fe ds m i = R ∧ (∀ j, j < i → ivB (ds.getD j .none) = true) ∧ ∃ y2 y3, σ = [some (.ref a), some (.int most), y2, y3], ⟨xs.length, by omega, Same.refl _, by rw [len]; exact eR, fun j hj => absurd hj (Nat.not_lt_zero j), none, none, rfl⟩, fun i m σ H1 hW => ?_⟩
          obtain ⟨em, sm, ef, ok, y2, y3, rfl⟩ := hW
          have ha1 := sm _ _ e
          by_cases hi : i < xs.length
          · have hx : xs[i]? = some xs[i] := List.getElem?_eq_getElem hi
            obtain ⟨m', rfl⟩ : ∃ m', m = m' + 1 := ⟨m - 1, by omega⟩
            refine .inr ⟨⟨_, _, SqT.of ha1, hx, rfl⟩, fun σ' H' => Same H H' ∧ fe ds m' (i + 1) = R ∧ (∀ j, j < i + 1 → ivB (ds.getD j .none) = true) ∧ ∃ y2 y3, σ' = [some (.ref a), some (.int most), y2, y3], fun σ' H' hN => ?_, fun z H' hy => ?_⟩
            · obtain ⟨n1, n2, n3, n4⟩ := hN
              exact ⟨m', by omega, by omega, n1, n2, n3, n4⟩
            · obtain ⟨t, x, rfl, nt, rfl, fx⟩ := hy
              have ex : x = xs[i] := Option.some.inj ((fx _ (SqT.of ha1)).symm.trans hx)
              subst ex
              obtain ⟨di, edi, hdi⟩ := all.get hx
              have gd := getD_some edi
              have st := same_new (o := .tup [.int (i : Nat), xs[i]]) nt
              have et := upd_same (H := H1) (a := t) (o := .tup [.int (i : Nat), xs[i]])
              generalize upd H1 t (.tup [.int (i : Nat), xs[i]]) = H2 at *
              have smH := sm.trans st
              have hv2 := dv_same smH hdi
              generalize xs[i] = vi at *
              refine ⟨t, _, rfl, SqT.of et, rfl, .int (i : Nat), [vi], rfl, vi, [], rfl, rfl, ?_⟩
              have fes : fe ds (m' + 1) i = match errAt ds i with | some s => .tuple [.int i, .str s] | none => fe ds m' (i + 1) := rfl
              refine ⟨vi, rfl, vi, di, rfl, hv2, _, rfl, ?_⟩
              cases hiv : ivB di with
              | false =>
                refine iteT ?_
                have ea : errAt ds i = some (Str.ofString "interval") := by
                  unfold errAt
                  rw [gd, hiv]
                  rfl
                rw [ea] at fes
                refine ⟨.int _, rfl, by show 2 ≤ sizeLine; decide, fun t2 nt2 => ?_⟩
                have q2 := q (upd H2 t2 (.tup [.int (i : Nat), .str "interval"])) (.ref t2) (smH.trans (same_new nt2))
                rw [← ef, fes] at q2
                exact q2 (.tup upd_same (.cons (.int _) (.cons (.str _) .nil)))
              | true =>
                refine iteF ?_
                obtain ⟨x1, x2, rfl⟩ := iv_shape hiv
                obtain ⟨b, rfl, hb⟩ := hv2.asPair
                refine ⟨.int _, rfl, _, _, rfl, rfl, _, rfl, ite2 (fun g0 => ?_) (fun g0 => ?_)⟩
                · have i0 : 0 < i := by
                    have z := of_decide_eq_true g0
                    omega
                  have hp : xs[i - 1]? = some xs[i - 1] := List.getElem?_eq_getElem (by omega)
                  obtain ⟨dp, edp, hdp⟩ := all.get hp
                  have gp := getD_some edp
                  have okp := ok (i - 1) (by omega)
                  rw [gp] at okp
                  obtain ⟨y1, y2', rfl⟩ := iv_shape okp
                  obtain ⟨c, ec, hc⟩ := (dv_same smH hdp).asPair
                  have ix : atI xs ((i : Int) - 1) = some (.ref c) := by
                    rw [show (i : Int) - 1 = ((i - 1 : Nat) : Int) by omega, ← ec]
                    exact atI_nat hp
                  refine ⟨.ref b, rfl, .ref a, rfl, .int _, rfl, _, _, rfl, rfl, a, xs, _, .ref c, rfl, rfl, SqT.of (st _ _ ha1), ix, b, c, [x1, x2], [y1, y2'], rfl, rfl, SqT.of hb, SqT.of hc, _, rfl, ?_⟩
                  have elex : Ob.lexAt (fun j => decide ([x1, x2].getD j 0 = [y1, y2'].getD j 0)) (fun j => decide ([x1, x2].getD j 0 ≤ [y1, y2'].getD j 0)) (decide ([x1, x2].length ≤ [y1, y2'].length)) 0 (min [x1, x2].length [y1, y2'].length) = leqB (.tuple [.int x1, .int x2]) (.tuple [.int y1, .int y2']) := by
                    show (if decide (x1 = y1) = true then (if decide (x2 = y2') = true then true else decide (x2 ≤ y2')) else decide (x1 ≤ y1)) = (if x1 = y1 then (if x2 = y2' then true else decide (x2 ≤ y2')) else decide (x1 ≤ y1))
                    by_cases c1 : x1 = y1
                    · rw [if_pos (decide_eq_true c1), if_pos c1]
                      by_cases c2 : x2 = y2'
                      · rw [if_pos (decide_eq_true c2), if_pos c2]
                      · rw [if_neg (by rw [decide_eq_false c2]; decide), if_neg c2]
                    · rw [if_neg (by rw [decide_eq_false c1]; decide), if_neg c1]
                  rw [elex]
                  cases hl : leqB (.tuple [.int x1, .int x2]) (.tuple [.int y1, .int y2']) with
                  | true =>
                    refine iteT ?_
                    have ea : errAt ds i = some (Str.ofString "order") := by
                      unfold errAt
                      rw [if_pos (by rw [gd]; exact hiv), if_pos ⟨i0, by rw [gd, gp]; exact hl⟩]
                    rw [ea] at fes
                    refine ⟨.int _, rfl, by show 2 ≤ sizeLine; decide, fun t2 nt2 => ?_⟩
                    have q2 := q (upd H2 t2 (.tup [.int (i : Nat), .str "order"])) (.ref t2) (smH.trans (same_new nt2))
                    rw [← ef, fes] at q2
                    exact q2 (.tup upd_same (.cons (.int _) (.cons (.str _) .nil)))
                  | false =>
                    refine iteF ?_
                    have ea : errAt ds i = none := by
                      unfold errAt
                      rw [if_pos (by rw [gd]; exact hiv), if_neg (fun z => by
                        have z2 := z.2
                        rw [gd, gp, hl] at z2
                        exact Bool.false_ne_true z2)]
                    rw [ea] at fes
                    refine ⟨smH, fes.symm.trans ef, fun j hj => ?_, _, _, rfl⟩
                    rcases Nat.lt_or_ge j i with z | z
                    · exact ok j z
                    · have : j = i := by omega
                      subst this
                      rw [gd]
                      exact hiv
                · have i0 : i = 0 := by
                    rcases Nat.eq_zero_or_pos i with z | z
                    · exact z
                    · exact absurd (decide_eq_true (by omega)) g0
                  refine iteF ?_
                  have ea : errAt ds i = none := by
                    unfold errAt
                    rw [if_pos (by rw [gd]; exact hiv), if_neg (fun z => by
                      have z1 := z.1
                      omega)]
                  rw [ea] at fes
                  refine ⟨smH, fes.symm.trans ef, fun j hj => ?_, _, _, rfl⟩
                  have : j = i := by omega
                  subst this
                  rw [gd]
                  exact hiv
          · refine .inl ⟨⟨_, SqT.of ha1, rfl, by omega⟩, ?_⟩
            have m0 : m = 0 := by omega
            subst m0
            have q2 := q H1 .non sm
            rw [← ef] at q2
            exact q2 .non
      | _ => exact (Bool.false_ne_true tb).elim

def noneB : PyData → Bool
  | .none => true
  | _ => false
theorem Dv.noneB {K : PySem.W.Frag} {H : Hp} {v : V} {d : PyData} (h : Dv K H v d) : decide (v = .non) = noneB d := by
  cases h <;> first | rfl | exact decide_eq_false (fun z => by cases z)
def sp_targets_error (K : PySem.W.Frag) : Sp := fun vs H Q _ => ∃ (v : V) (d : PyData), vs = [v] ∧ Dv K H v d ∧ ∀ H' r, Same H H' → Dv K H' r (errD 24 d) → Q r H'
theorem ok_targets_error (T : Tx K mg f_is_number f_is_position f_is_tuple_of f_is_interval f_ascending_error f_targets_error f_is_targets f_is_pieces f_law_deck f_law_draw f_law_interval f_law_row f_law_is_number f_law_is_interval f_law_odd f_law_due f_law_changed f_law d_is_number d_is_position d_is_tuple_of d_is_interval d_ascending_error d_targets_error d_is_targets d_is_pieces d_law_deck d_law_draw d_law_interval d_law_row d_law_is_number d_law_is_interval d_law_odd d_law_due d_law_changed d_law t_LAST_POSITION t_MAX_TARGETS t_MAX_PIECES) : FnOk P w K mg base CX0 5 f_targets_error d_targets_error ["value"] (sp_targets_error K) := by
  refine T.F_targets_error.ok sc_targets_error (fun vs H Q E h => ?_) (fun cdv A outer s H vs Q E hr h => ?_)
  · obtain ⟨v, d, rfl, _⟩ := h
    rfl
  · obtain ⟨v, d, rfl, hd, q⟩ := h
    refine ⟨_, (pss_one (ps_ret (pe_call (ok_ascending_error T) (hr.mono (by decide)) (by rfl) T.g_ascending_error T.F_ascending_error.kp T.b_ascending_error .nil pass0 (pa_cons (pv 0) (pa_cons (pe_glob (v := .int 24) (by rfl) T.c_MAX_TARGETS ⟨_, rfl⟩) pa_nil))))), ?_⟩
    exact ⟨v, rfl, v, d, 24, rfl, hd, fun H' r sm hr2 => q H' r sm hr2⟩
def sp_is_targets (K : PySem.W.Frag) : Sp := fun vs H Q _ => ∃ (v : V) (d : PyData), vs = [v] ∧ Dv K H v d ∧ ∀ H', Same H H' → Q (.bl (noneB (errD 24 d))) H'
theorem ok_is_targets (T : Tx K mg f_is_number f_is_position f_is_tuple_of f_is_interval f_ascending_error f_targets_error f_is_targets f_is_pieces f_law_deck f_law_draw f_law_interval f_law_row f_law_is_number f_law_is_interval f_law_odd f_law_due f_law_changed f_law d_is_number d_is_position d_is_tuple_of d_is_interval d_ascending_error d_targets_error d_is_targets d_is_pieces d_law_deck d_law_draw d_law_interval d_law_row d_law_is_number d_law_is_interval d_law_odd d_law_due d_law_changed d_law t_LAST_POSITION t_MAX_TARGETS t_MAX_PIECES) : FnOk P w K mg base CX0 6 f_is_targets d_is_targets ["value"] (sp_is_targets K) := by
  refine T.F_is_targets.ok sc_is_targets (fun vs H Q E h => ?_) (fun cdv A outer s H vs Q E hr h => ?_)
  · obtain ⟨v, d, rfl, _⟩ := h
    rfl
  · obtain ⟨v, d, rfl, hd, q⟩ := h
    refine ⟨_, (pss_one (ps_ret (pe_cmpR op_isN (pe_call (ok_targets_error T) (hr.mono (by decide)) (by rfl) T.g_targets_error T.F_targets_error.kp T.b_targets_error .nil pass0 (pa_cons (pv 0) pa_nil)) pe_non (nomark _)))), ?_⟩
    refine ⟨v, rfl, v, d, rfl, hd, fun H' r sm hr2 => ⟨rfl, ?_⟩⟩
    rw [hr2.noneB]
    exact q H' sm
def sp_is_pieces (K : PySem.W.Frag) : Sp := fun vs H Q _ => ∃ (v : V) (d : PyData), vs = [v] ∧ Dv K H v d ∧ ∀ H', Same H H' → Q (.bl (noneB (errD 30 d))) H'
theorem ok_is_pieces (T : Tx K mg f_is_number f_is_position f_is_tuple_of f_is_interval f_ascending_error f_targets_error f_is_targets f_is_pieces f_law_deck f_law_draw f_law_interval f_law_row f_law_is_number f_law_is_interval f_law_odd f_law_due f_law_changed f_law d_is_number d_is_position d_is_tuple_of d_is_interval d_ascending_error d_targets_error d_is_targets d_is_pieces d_law_deck d_law_draw d_law_interval d_law_row d_law_is_number d_law_is_interval d_law_odd d_law_due d_law_changed d_law t_LAST_POSITION t_MAX_TARGETS t_MAX_PIECES) : FnOk P w K mg base CX0 6 f_is_pieces d_is_pieces ["value"] (sp_is_pieces K) := by
  refine T.F_is_pieces.ok sc_is_pieces (fun vs H Q E h => ?_) (fun cdv A outer s H vs Q E hr h => ?_)
  · obtain ⟨v, d, rfl, _⟩ := h
    rfl
  · obtain ⟨v, d, rfl, hd, q⟩ := h
    refine ⟨_, (pss_one (ps_ret (pe_cmpR op_isN (pe_call (ok_ascending_error T) (hr.mono (by decide)) (by rfl) T.g_ascending_error T.F_ascending_error.kp T.b_ascending_error .nil pass0 (pa_cons (pv 0) (pa_cons (pe_glob (v := .int 30) (by rfl) T.c_MAX_PIECES ⟨_, rfl⟩) pa_nil))) pe_non (nomark _)))), ?_⟩
    refine ⟨v, rfl, v, d, 30, rfl, hd, fun H' r sm hr2 => ⟨rfl, ?_⟩⟩
    rw [hr2.noneB]
    exact q H' sm
theorem fe_none (ds : List PyData) : ∀ k i : Nat, (noneB (fe ds k i) = true ↔ ∀ j, i ≤ j → j < i + k → errAt ds j = none)
  | 0, i => ⟨fun _ j h1 h2 => absurd h2 (by omega), fun _ => rfl⟩
  | k + 1, i => by
    have e : fe ds (k + 1) i = match errAt ds i with | some s => .tuple [.int i, .str s] | none => fe ds k (i + 1) := rfl
    cases ea : errAt ds i with
    | some s =>
      rw [ea] at e
      rw [e]
      refine ⟨fun z => (Bool.false_ne_true z).elim, fun z => ?_⟩
      have := z i (Nat.le_refl _) (by omega)
      rw [ea] at this
      cases this
    | none =>
      rw [ea] at e
      rw [e]
      show noneB (fe ds k (i + 1)) = true ↔ _
      rw [fe_none ds k (i + 1)]
      refine ⟨fun z j h1 h2 => ?_, fun z j h1 h2 => z j (by omega) (by omega)⟩
      rcases Nat.eq_or_lt_of_le h1 with h | h
      · rw [← h]
        exact ea
      · exact z j h (by omega)
theorem errAt_none {ds : List PyData} {i : Nat} : errAt ds i = none ↔ ivB (ds.getD i .none) = true ∧ (0 < i → leqB (ds.getD i .none) (ds.getD (i - 1) .none) = false) := by
  unfold errAt
  by_cases h : ivB (ds.getD i .none) = true
  · rw [if_pos h]
    by_cases h2 : 0 < i ∧ leqB (ds.getD i .none) (ds.getD (i - 1) .none) = true
    · rw [if_pos h2]
      refine ⟨fun z => (by cases z), fun z => ?_⟩
      have := z.2 h2.1
      rw [h2.2] at this
      cases this
    · rw [if_neg h2]
      refine ⟨fun _ => ⟨h, fun z => ?_⟩, fun _ => rfl⟩
      cases e : leqB (ds.getD i .none) (ds.getD (i - 1) .none) with
      | false => rfl
      | true => exact absurd ⟨z, e⟩ h2
  · rw [if_neg h]
    exact ⟨fun z => (by cases z), fun z => absurd z.1 h⟩
def sp_law_due (K : PySem.W.Frag) : Sp := fun vs H Q _ => ∃ (v : V) (d : PyData) (most : Int), vs = [v, .int most] ∧ Dv K H v d ∧ (∀ ds, d = .tuple ds → ds.length ≤ 900 ∧ ∀ x ∈ ds, PlainT x) ∧ ∀ H', Same H H' → Q (.bl (noneB (errD most d))) H'
theorem ok_law_due (T : Tx K mg f_is_number f_is_position f_is_tuple_of f_is_interval f_ascending_error f_targets_error f_is_targets f_is_pieces f_law_deck f_law_draw f_law_interval f_law_row f_law_is_number f_law_is_interval f_law_odd f_law_due f_law_changed f_law d_is_number d_is_position d_is_tuple_of d_is_interval d_ascending_error d_targets_error d_is_targets d_is_pieces d_law_deck d_law_draw d_law_interval d_law_row d_law_is_number d_law_is_interval d_law_odd d_law_due d_law_changed d_law t_LAST_POSITION t_MAX_TARGETS t_MAX_PIECES) : FnOk P w K mg base CX0 3 f_law_due d_law_due ["_law_value", "_law_most"] (sp_law_due K) := by
  refine T.F_law_due.ok sc_law_due (fun vs H Q E h => ?_) (fun cdv A outer s H vs Q E hr h => ?_)
  · obtain ⟨v, d, most, rfl, _⟩ := h
    rfl
  · obtain ⟨v, d, most, rfl, hd, pl, q⟩ := h
    refine ⟨_, (pss_cons (ps_if (PW.pt (pw_or (pt_not (pt_val (pe_callB call_isi (by rfl) T.z_isinstance (by decide +kernel) (pa_cons (pv 0) (pa_cons (pe_bltn (v := .ty "tuple") (u := .type "tuple") (by rfl) T.z_tuple (by decide +kernel) rfl) pa_nil))))) (pw_or1 (pt_cmpR op_gt (pe_callB call_len_seq (by rfl) T.z_len PySem.boot_len (pa_cons (pv 0) pa_nil)) (pv 1) (nomark _)))))
      (pss_one (ps_ret pe_bl))
      pss_nil)
      (pss_cons (ps_if (pt_cmpR (op_neL hr.units0) (pe_lc (own := [("_law_item", 2)]) (g := (gName 2)) (by rfl) sc_law_due.nd (pi_tup (pv 0)) (blkOk_by (own := [("_law_item", 2)]) (N := N_law_due) (sc := defScope s_law_due) (by decide +kernel)) (fun _ _ _ _ _ => (pg_name (i := 2) sc_law_due.nd rfl (Or.inl rfl))) (fun _ _ _ _ _ => pts_one (pt_not (pt_val (pe_call (ok_law_is_interval T) (hr.mono (by decide)) (by rfl) T.g_law_is_interval T.F_law_is_interval.kp T.b_law_is_interval .nil pass0 (pa_cons (pv 2) pa_nil))))) (fun _ _ _ _ _ => (pv 2))) (pe_lst pa_nil) (nomark _))
      (pss_one (ps_ret pe_bl))
      pss_nil)
      (pss_one (ps_ret (pe_cmpR (op_eqL hr.units0) (pe_lc (own := [("_law_k", 3)]) (g := (gName 3)) (by rfl) sc_law_due.nd (pi_range2 (by rfl) T.z_range (pa_cons pe_int (pa_cons (pe_callB call_len_seq (by rfl) T.z_len PySem.boot_len (pa_cons (pv 0) pa_nil)) pa_nil))) (blkOk_by (own := [("_law_k", 3)]) (N := N_law_due) (sc := defScope s_law_due) (by decide +kernel)) (fun _ _ _ _ _ => (pg_name (i := 3) sc_law_due.nd rfl (Or.inl rfl))) (fun _ _ _ _ _ => pts_one (pt_cmpR (show OpR _ (compareOp .GtE) (rGeT K) from (op_geT hr.units0)) (pe_ix (show IxR _ (rIxT K) from ix_tup) (pv 0) (pe_op op_sub (pv 3) pe_int) (fun _ _ => rfl)) (pe_ix (show IxR _ (rIxT K) from ix_tup) (pv 0) (pv 3) (fun _ _ => rfl)) (nomark _))) (fun _ _ _ _ _ => (pv 3))) (pe_lst pa_nil) (nomark _)))))), ?_⟩
    refine ⟨v, rfl, v, .ty "tuple", _, _, _, rfl, .ty "tuple", hd.ty, kit_tup d, _, rfl, ?_⟩
    cases tb : tupB d with
    | false =>
      refine iteT ?_
      refine iteT ?_
      have e : errD most d = noTup := by
        cases d with
        | tuple ds => cases tb
        | _ => rfl
      rw [e] at q
      exact q _ (Same.refl _)
    | true =>
      refine iteF ?_
      cases hd with
      | @tup a xs ds e all =>
        have len := all.length
        obtain ⟨few, plain⟩ := pl ds rfl
        refine ⟨.ref a, rfl, a, xs, rfl, .inr (SqT.of e), .int most, rfl, _, _, rfl, rfl, _, rfl, ite2 (fun e1 => ?_) (fun e1 => ?_)⟩
        · have e2 : most < (xs.length : Int) := of_decide_eq_true e1
          have eq : errD most (.tuple ds) = noTup := by
            show (if (ds.length : Int) > most then noTup else fe ds ds.length 0) = noTup
            rw [if_pos (by omega)]
          rw [eq] at q
          exact q _ (Same.refl _)
        · have e2 : ¬ most < (xs.length : Int) := fun z => e1 (decide_eq_true z)
          have eq : errD most (.tuple ds) = fe ds ds.length 0 := by
            show (if (ds.length : Int) > most then noTup else fe ds ds.length 0) = _
            rw [if_neg (by omega)]
          rw [eq] at q
          refine ⟨.ref a, rfl, a, rfl, ⟨_, SqT.of e⟩, fun D nD => ?_⟩
          refine lc_tup (K := K) (a := a) (xs := xs) (fun i H' => Same H H' ∧ ∃ ys, H' D = some (.lst ys) ∧ ys.length ≤ i ∧ (ys.isEmpty = true ↔ ∀ j, j < i → ivB (ds.getD j .none) = true)) ⟨same_new nD, [], upd_same, Nat.le_refl _, fun _ j hj => absurd hj (Nat.not_lt_zero j), fun _ => rfl⟩ (fun i H' _ h => SqT.of (h.1 _ _ e)) ?_ ?_
          · rintro i x H' hi ⟨sm, ys, eD, ly, iff⟩
            obtain ⟨d1, e1', hd1⟩ := all.get hi
            have gd := getD_some e1'
            have li : i < xs.length := (List.getElem?_eq_some_iff.mp hi).1
            refine ⟨rfl, x, rfl, x, d1, rfl, dv_same sm hd1, plain d1 (List.mem_of_getElem? e1'), fun H2 s2 => ⟨_, rfl, ?_⟩⟩
            have eD2 := s2 _ _ eD
            cases eb : ivB d1 with
            | true =>
              refine iteF ?_
              refine ⟨sm.trans s2, ys, eD2, by omega, ?_⟩
              rw [iff]
              refine ⟨fun z j hj => ?_, fun z j hj => z j (by omega)⟩
              rcases Nat.lt_or_ge j i with h | h
              · exact z j h
              · have : j = i := by omega
                subst this
                rw [gd]
                exact eb
            | false =>
              refine iteT ?_
              refine ⟨x, rfl, ys, eD2, small1000 (by omega), ?_, _, upd_same, by rw [List.length_append, List.length_singleton]; omega, ?_⟩
              · intro b o ebb
                rw [upd_ne (ne_of_none ebb nD)]
                exact s2 b o (sm b o ebb)
              · refine ⟨fun z => ?_, fun z => ?_⟩
                · rw [List.isEmpty_iff] at z
                  simp at z
                · have z1 := z i (by omega)
                  rw [gd, eb] at z1
                  cases z1
          · rintro H' ⟨sm, ys, eD, ly, iff⟩
            refine ⟨by show 0 ≤ sizeLine; decide, fun z nz => ?_⟩
            have s2 := same_new (o := .lst []) nz
            have ez := upd_same (H := H') (a := z) (o := .lst [])
            generalize upd H' z (.lst []) = H2 at *
            refine ⟨D, z, ys, rfl, rfl, SqL.of (s2 _ _ eD), SqL.of ez, _, rfl, ?_⟩
            cases ey : ys.isEmpty with
            | false =>
              refine iteT ?_
              have no : noneB (fe ds ds.length 0) = false := by
                cases c : noneB (fe ds ds.length 0) with
                | false => rfl
                | true =>
                  have w1 := (fe_none ds ds.length 0).mp c
                  have w2 := iff.mpr fun j hj => (errAt_none.mp (w1 j (Nat.zero_le _) (by omega))).1
                  rw [ey] at w2
                  cases w2
              rw [no] at q
              exact q _ (sm.trans s2)
            | true =>
              refine iteF ?_
              have good := iff.mp ey
              have smH := sm.trans s2
              have ha2 := smH _ _ e
              refine ⟨.ref a, rfl, a, xs, rfl, .inr (SqT.of ha2), 1, _, rfl, ⟨by decide, by decide, by omega, by omega⟩, fun D2 nD2 => ?_⟩
              refine lc_range (lo := 1) (n := ((xs.length : Int) - 1).toNat) (fun i H' => Same H2 H' ∧ ∃ ys, H' D2 = some (.lst ys) ∧ ys.length ≤ i ∧ (ys.isEmpty = true ↔ ∀ j, 0 < j → j < 1 + i → leqB (ds.getD j .none) (ds.getD (j - 1) .none) = false)) ⟨same_new nD2, [], upd_same, Nat.le_refl _, fun _ j h1 h2 => absurd h2 (by omega), fun _ => rfl⟩ ?_ ?_
              · rintro i H3 hi ⟨sm3, ys3, eD3, ly3, iff3⟩
                have ha3 := sm3 _ _ ha2
                have hx : xs[1 + i]? = some (xs[1 + i]'(by omega)) := List.getElem?_eq_getElem (by omega)
                have hp : xs[i]? = some (xs[i]'(by omega)) := List.getElem?_eq_getElem (by omega)
                obtain ⟨dx, edx, hdx⟩ := all.get hx
                obtain ⟨dp, edp, hdp⟩ := all.get hp
                have gx := getD_some edx
                have gp := getD_some edp
                have okx := good (1 + i) (by omega)
                have okp := good i (by omega)
                rw [gx] at okx
                rw [gp] at okp
                obtain ⟨x1, x2, rfl⟩ := iv_shape okx
                obtain ⟨y1, y2, rfl⟩ := iv_shape okp
                obtain ⟨b, eb, hb⟩ := (dv_same (smH.trans sm3) hdx).asPair
                obtain ⟨c, ec, hc⟩ := (dv_same (smH.trans sm3) hdp).asPair
                have ix : atI xs (1 + (i : Int)) = some (.ref b) := by
                  rw [show 1 + (i : Int) = ((1 + i : Nat) : Int) by omega, ← eb]
                  exact atI_nat hx
                have ixp : atI xs (1 + (i : Int) - 1) = some (.ref c) := by
                  rw [show 1 + (i : Int) - 1 = (i : Int) by omega, ← ec]
                  exact atI_nat hp
                refine ⟨rfl, .ref a, rfl, .int _, rfl, _, _, rfl, rfl, a, xs, _, .ref c, rfl, rfl, SqT.of ha3, ixp, .ref a, rfl, .int _, rfl, a, xs, _, .ref b, rfl, rfl, SqT.of ha3, ix, c, b, [y1, y2], [x1, x2], rfl, rfl, SqT.of hc, SqT.of hb, _, rfl, ?_⟩
                have elex : Ob.lexAt (fun j => decide ([y1, y2].getD j 0 = [x1, x2].getD j 0)) (fun j => decide ([x1, x2].getD j 0 ≤ [y1, y2].getD j 0)) (decide ([y1, y2].length ≥ [x1, x2].length)) 0 (min [y1, y2].length [x1, x2].length) = leqB (.tuple [.int x1, .int x2]) (.tuple [.int y1, .int y2]) := by
                  show (if decide (y1 = x1) = true then (if decide (y2 = x2) = true then true else decide (x2 ≤ y2)) else decide (x1 ≤ y1)) = (if x1 = y1 then (if x2 = y2 then true else decide (x2 ≤ y2)) else decide (x1 ≤ y1))
                  by_cases c1 : x1 = y1
                  · rw [if_pos (decide_eq_true c1.symm), if_pos c1]
                    by_cases c2 : x2 = y2
                    · rw [if_pos (decide_eq_true c2.symm), if_pos c2]
                    · rw [if_neg (by rw [decide_eq_false (fun z => c2 z.symm)]; decide), if_neg c2]
                  · rw [if_neg (by rw [decide_eq_false (fun z => c1 z.symm)]; decide), if_neg c1]
                rw [elex]
                have at1 : leqB (ds.getD (1 + i) .none) (ds.getD (1 + i - 1) .none) = leqB (.tuple [.int x1, .int x2]) (.tuple [.int y1, .int y2]) := by
                  rw [show 1 + i - 1 = i by omega, gx, gp]
                cases hl : leqB (.tuple [.int x1, .int x2]) (.tuple [.int y1, .int y2]) with
                | true =>
                  refine iteT ?_
                  refine ⟨.int _, rfl, ys3, eD3, small1000 (by omega), ?_, _, upd_same, by rw [List.length_append, List.length_singleton]; omega, ?_⟩
                  · intro b' o ebb
                    rw [upd_ne (ne_of_none ebb nD2)]
                    exact sm3 b' o ebb
                  · refine ⟨fun z => ?_, fun z => ?_⟩
                    · rw [List.isEmpty_iff] at z
                      simp at z
                    · have z1 := z (1 + i) (by omega) (by omega)
                      rw [at1, hl] at z1
                      cases z1
                | false =>
                  refine iteF ?_
                  refine ⟨sm3, ys3, eD3, by omega, ?_⟩
                  rw [iff3]
                  refine ⟨fun z j h0 hj => ?_, fun z j h0 hj => z j h0 (by omega)⟩
                  rcases Nat.lt_or_ge j (1 + i) with h | h
                  · exact z j h0 h
                  · have : j = 1 + i := by omega
                    subst this
                    rw [at1]
                    exact hl
              · rintro H3 ⟨sm3, ys3, eD3, ly3, iff3⟩
                refine ⟨by show 0 ≤ sizeLine; decide, fun z3 nz3 => ?_⟩
                have s4 := same_new (o := .lst []) nz3
                have ez3 := upd_same (H := H3) (a := z3) (o := .lst [])
                generalize upd H3 z3 (.lst []) = H4 at *
                refine ⟨D2, z3, ys3, rfl, rfl, SqL.of (s4 _ _ eD3), SqL.of ez3, ?_⟩
                have fin : noneB (fe ds ds.length 0) = ys3.isEmpty := by
                  rw [Bool.eq_iff_iff, fe_none, iff3]
                  refine ⟨fun z j h0 hj => (errAt_none.mp (z j (by omega) (by omega))).2 h0, fun z j h0 hj => errAt_none.mpr ⟨good j (by omega), fun h1 => z j h1 (by omega)⟩⟩
                rw [fin] at q
                exact q _ (smH.trans (sm3.trans s4))
      | _ => exact (Bool.false_ne_true tb).elim

/-! ### the law's odd values -/
/-- the heap but for the deck -/
def Off (d c : Addr) (H : Hp) : Hp := fun b => if b = d ∨ b = c then none else H b
theorem off_get {d c : Addr} {H : Hp} {b : Addr} {o : HO} (n : b ≠ d ∧ b ≠ c) (e : H b = some o) : Off d c H b = some o := by
  unfold Off
  rw [if_neg (fun z => z.elim n.1 n.2)]
  exact e
theorem off_at {d c : Addr} {H : Hp} {b : Addr} {o : HO} (e : Off d c H b = some o) : b ≠ d ∧ b ≠ c ∧ H b = some o := by
  unfold Off at e
  by_cases z : b = d ∨ b = c
  · rw [if_pos z] at e
    cases e
  · rw [if_neg z] at e
    exact ⟨fun q => z (.inl q), fun q => z (.inr q), e⟩
theorem off_sub {d c : Addr} {H : Hp} : Same (Off d c H) H := fun _ _ e => (off_at e).2.2
theorem off_kp {d c : Addr} {H H' : Hp} (k : Kp d c H H') : Same (Off d c H) (Off d c H') := fun b o e => by
  obtain ⟨n1, n2, z⟩ := off_at e
  exact off_get ⟨n1, n2⟩ (k b o n1 n2 z)
/-- what is new since H -/
def New (H H' : Hp) : Hp := fun b => match H b with
  | none => H' b
  | some _ => none
theorem new_get {H H' : Hp} {b : Addr} {o : HO} (n : H b = none) (e : H' b = some o) : New H H' b = some o := by
  unfold New
  rw [n]
  exact e
theorem new_at {H H' : Hp} {b : Addr} {o : HO} (e : New H H' b = some o) : H b = none ∧ H' b = some o := by
  unfold New at e
  cases q : H b with
  | none =>
    rw [q] at e
    exact ⟨rfl, e⟩
  | some u =>
    rw [q] at e
    cases e
theorem new_off {d c : Addr} {n : Int} {H H' : Hp} (h : Dk H d c n) : Same (New H H') (Off d c H') := fun b o e => by
  obtain ⟨n, z⟩ := new_at e
  exact off_get (h.off n) z
def oddD : List PyData := [.none, .bool true, .bool false, .int (-1), .int 0, .int 1, .int (10 ^ 12 + 1), .int (10 ^ 29), .str "", .str "0-1", .tuple [], .tuple [.int 0], .list [], .list [.int 0, .int 1], .dict [], .dict [(.str "a", .int 1)],
  .tuple [.int 0, .bool true], .tuple [.bool false, .int 1], .tuple [.int 1, .int 0], .tuple [.int 0, .int 1, .int 2], .tuple [.tuple [.int 0, .int 1]], .tuple [.none, .none], .tuple [.str "0", .str "1"], .tuple [.int 0, .int (10 ^ 12 + 1)],
  .tuple [.int (-1), .int 0], .list [.tuple [.int 0, .int 1]]]
def fineB (d : PyData) : Bool := d.showable && (d.leavesShort 40 && (decide (d.weight ≤ 1000) && (decide (d.depth ≤ 3) && (match d with
  | .tuple ds => PyData.canLayAll0 ds && decide (PyData.depthAll ds ≤ 60)
  | _ => true))))
theorem fine_ok {d : PyData} (h : fineB d = true) : Sm 1000 3 d ∧ PlainT d := by
  have h1 := Bool.and_eq_true_iff.mp h
  have h2 := Bool.and_eq_true_iff.mp h1.2
  have h3 := Bool.and_eq_true_iff.mp h2.2
  have h4 := Bool.and_eq_true_iff.mp h3.2
  refine ⟨⟨h1.1, h2.1, of_decide_eq_true h3.1, of_decide_eq_true h4.1⟩, fun ds e => ?_⟩
  subst e
  have h5 := Bool.and_eq_true_iff.mp h4.2
  exact ⟨h5.1, of_decide_eq_true h5.2⟩
theorem odd_fine : oddD.all fineB = true := by decide +kernel
theorem odd_ok {d : PyData} (h : d ∈ oddD) : Sm 1000 3 d ∧ PlainT d := fine_ok (List.all_eq_true.mp odd_fine d h)
def sp_law_odd (K : PySem.W.Frag) : Sp := fun vs H Q _ => ∃ (d c : Addr) (n : Int), vs = [.ref d] ∧ Dk H d c n ∧ 0 ≤ n ∧ n < 999990 ∧
  ∀ H' v dd, Kp d c H H' → Dk H' d c (n + 1) → Dv K (New H H') v dd → dd ∈ oddD → Q v H'
theorem ok_law_odd (T : Tx K mg f_is_number f_is_position f_is_tuple_of f_is_interval f_ascending_error f_targets_error f_is_targets f_is_pieces f_law_deck f_law_draw f_law_interval f_law_row f_law_is_number f_law_is_interval f_law_odd f_law_due f_law_changed f_law d_is_number d_is_position d_is_tuple_of d_is_interval d_ascending_error d_targets_error d_is_targets d_is_pieces d_law_deck d_law_draw d_law_interval d_law_row d_law_is_number d_law_is_interval d_law_odd d_law_due d_law_changed d_law t_LAST_POSITION t_MAX_TARGETS t_MAX_PIECES) : FnOk P w K mg base CX0 2 f_law_odd d_law_odd ["_law_deck_here"] (sp_law_odd K) := by
  refine T.F_law_odd.ok sc_law_odd (fun vs H Q E h => ?_) (fun cdv A outer s H vs Q E hr h => ?_)
  · obtain ⟨d, c, n, rfl, _⟩ := h
    rfl
  · obtain ⟨d, c, n, rfl, dk, n0, n1, q⟩ := h
    refine ⟨_, (pss_cons (ps_set (i := 1) sc_law_odd.nd rfl (Or.inl rfl) (pe_lst (pa_cons pe_non (pa_cons pe_bl (pa_cons pe_bl (pa_cons (pe_un un_neg pe_int) (pa_cons pe_int (pa_cons pe_int (pa_cons (pe_op op_add (pe_op op_pow pe_int pe_int) pe_int) (pa_cons (pe_op op_pow pe_int pe_int) (pa_cons pe_str (pa_cons pe_str (pa_cons (pe_tup pa_nil) (pa_cons (pe_tup (pa_cons pe_int pa_nil)) (pa_cons (pe_lst pa_nil) (pa_cons (pe_lst (pa_cons pe_int (pa_cons pe_int pa_nil))) (pa_cons pe_dnewK (pa_cons (pe_disp (pps_cons pe_str pe_int pps_nil) (by rfl) (by rfl) (fun z => by cases z) (by decide)) pa_nil))))))))))))))))))
      (pss_cons (ps_set (i := 1) sc_law_odd.nd rfl (Or.inl rfl) (pe_op op_cat (pv 1) (pe_lst (pa_cons (pe_tup (pa_cons pe_int (pa_cons pe_bl pa_nil))) (pa_cons (pe_tup (pa_cons pe_bl (pa_cons pe_int pa_nil))) (pa_cons (pe_tup (pa_cons pe_int (pa_cons pe_int pa_nil))) (pa_cons (pe_tup (pa_cons pe_int (pa_cons pe_int (pa_cons pe_int pa_nil)))) (pa_cons (pe_tup (pa_cons (pe_tup (pa_cons pe_int (pa_cons pe_int pa_nil))) pa_nil)) (pa_cons (pe_tup (pa_cons pe_non (pa_cons pe_non pa_nil))) (pa_cons (pe_tup (pa_cons pe_str (pa_cons pe_str pa_nil))) (pa_cons (pe_tup (pa_cons pe_int (pa_cons (pe_op op_add (pe_op op_pow pe_int pe_int) pe_int) pa_nil))) pa_nil)))))))))))
      (pss_one (ps_ret (pe_ix ix_list (pe_op op_cat (pv 1) (pe_lst (pa_cons (pe_tup (pa_cons (pe_un un_neg pe_int) (pa_cons pe_int pa_nil))) (pa_cons (pe_lst (pa_cons (pe_tup (pa_cons pe_int (pa_cons pe_int pa_nil))) pa_nil)) pa_nil)))) (pe_call (ok_law_draw T) (hr.mono (by decide)) (by rfl) T.g_law_draw T.F_law_draw.kp T.b_law_draw .nil pass0 (pa_cons (pv 0) (pa_cons pe_int pa_nil))) (fun _ _ => rfl)))))), ?_⟩
    refine ⟨1, rfl, 10, 12, rfl, rfl, ⟨by decide, by decide, by decide⟩, _, _, rfl, rfl, 10, 29, rfl, rfl, ⟨by decide, by decide, by decide⟩, by show 0 ≤ sizeLine; decide, fun p1 m1 => ?_⟩
    have s1 := same_new (H := H) (p := p1) (o := .tup []) m1
    have e1 := upd_same (H := H) (a := p1) (o := .tup [])
    generalize upd H p1 (.tup []) = H1 at *
    refine ⟨by show 1 ≤ sizeLine; decide, fun p2 m2 => ?_⟩
    have s2 := same_new (H := H1) (p := p2) (o := .tup [.int 0]) m2
    have e2 := upd_same (H := H1) (a := p2) (o := .tup [.int 0])
    generalize upd H1 p2 (.tup [.int 0]) = H2 at *
    refine ⟨by show 0 ≤ sizeLine; decide, fun p3 m3 => ?_⟩
    have s3 := same_new (H := H2) (p := p3) (o := .lst []) m3
    have e3 := upd_same (H := H2) (a := p3) (o := .lst [])
    generalize upd H2 p3 (.lst []) = H3 at *
    refine ⟨by show 2 ≤ sizeLine; decide, fun p4 m4 => ?_⟩
    have s4 := same_new (H := H3) (p := p4) (o := .lst [.int 0, .int 1]) m4
    have e4 := upd_same (H := H3) (a := p4) (o := .lst [.int 0, .int 1])
    generalize upd H3 p4 (.lst [.int 0, .int 1]) = H4 at *
    refine fun p5 m5 => ?_
    have s5 := same_new (H := H4) (p := p5) (o := .dK []) m5
    have e5 := upd_same (H := H4) (a := p5) (o := .dK [])
    generalize upd H4 p5 (.dK []) = H5 at *
    refine fun p6 m6 => ⟨upd_same, [(.inr "a", .int 1)], rfl, by decide, ?_⟩
    have s6 : Same H5 (upd (upd H5 p6 (.dK [])) p6 (.dK (mergeK [] [(.inr "a", .int 1)]))) := by
      rw [upd_upd]
      exact same_new m6
    have e6 := upd_same (H := upd H5 p6 (.dK [])) (a := p6) (o := .dK (mergeK [] [(.inr "a", .int 1)]))
    generalize upd (upd H5 p6 (.dK [])) p6 (.dK (mergeK [] [(.inr "a", .int 1)])) = H6 at *
    refine ⟨by show 16 ≤ sizeLine; decide, fun p7 m7 => ?_⟩
    have s7 := same_new (H := H6) (p := p7) (o := .lst [.non, .bl true, .bl false, .int (-1), .int 0, .int 1, .int (10 ^ (12 : Int).toNat + 1), .int (10 ^ (29 : Int).toNat), .str "", .str "0-1", .ref p1, .ref p2, .ref p3, .ref p4, .ref p5, .ref p6]) m7
    have e7 := upd_same (H := H6) (a := p7) (o := .lst [.non, .bl true, .bl false, .int (-1), .int 0, .int 1, .int (10 ^ (12 : Int).toNat + 1), .int (10 ^ (29 : Int).toNat), .str "", .str "0-1", .ref p1, .ref p2, .ref p3, .ref p4, .ref p5, .ref p6])
    generalize upd H6 p7 (.lst [.non, .bl true, .bl false, .int (-1), .int 0, .int 1, .int (10 ^ (12 : Int).toNat + 1), .int (10 ^ (29 : Int).toNat), .str "", .str "0-1", .ref p1, .ref p2, .ref p3, .ref p4, .ref p5, .ref p6]) = H7 at *
    refine ⟨.ref p7, rfl, by show 2 ≤ sizeLine; decide, fun p8 m8 => ?_⟩
    have s8 := same_new (H := H7) (p := p8) (o := .tup [.int 0, .bl true]) m8
    have e8 := upd_same (H := H7) (a := p8) (o := .tup [.int 0, .bl true])
    generalize upd H7 p8 (.tup [.int 0, .bl true]) = H8 at *
    refine ⟨by show 2 ≤ sizeLine; decide, fun p9 m9 => ?_⟩
    have s9 := same_new (H := H8) (p := p9) (o := .tup [.bl false, .int 1]) m9
    have e9 := upd_same (H := H8) (a := p9) (o := .tup [.bl false, .int 1])
    generalize upd H8 p9 (.tup [.bl false, .int 1]) = H9 at *
    refine ⟨by show 2 ≤ sizeLine; decide, fun p10 m10 => ?_⟩
    have s10 := same_new (H := H9) (p := p10) (o := .tup [.int 1, .int 0]) m10
    have e10 := upd_same (H := H9) (a := p10) (o := .tup [.int 1, .int 0])
    generalize upd H9 p10 (.tup [.int 1, .int 0]) = H10 at *
    refine ⟨by show 3 ≤ sizeLine; decide, fun p11 m11 => ?_⟩
    have s11 := same_new (H := H10) (p := p11) (o := .tup [.int 0, .int 1, .int 2]) m11
    have e11 := upd_same (H := H10) (a := p11) (o := .tup [.int 0, .int 1, .int 2])
    generalize upd H10 p11 (.tup [.int 0, .int 1, .int 2]) = H11 at *
    refine ⟨by show 2 ≤ sizeLine; decide, fun p12 m12 => ?_⟩
    have s12 := same_new (H := H11) (p := p12) (o := .tup [.int 0, .int 1]) m12
    have e12 := upd_same (H := H11) (a := p12) (o := .tup [.int 0, .int 1])
    generalize upd H11 p12 (.tup [.int 0, .int 1]) = H12 at *
    refine ⟨by show 1 ≤ sizeLine; decide, fun p13 m13 => ?_⟩
    have s13 := same_new (H := H12) (p := p13) (o := .tup [.ref p12]) m13
    have e13 := upd_same (H := H12) (a := p13) (o := .tup [.ref p12])
    generalize upd H12 p13 (.tup [.ref p12]) = H13 at *
    refine ⟨by show 2 ≤ sizeLine; decide, fun p14 m14 => ?_⟩
    have s14 := same_new (H := H13) (p := p14) (o := .tup [.non, .non]) m14
    have e14 := upd_same (H := H13) (a := p14) (o := .tup [.non, .non])
    generalize upd H13 p14 (.tup [.non, .non]) = H14 at *
    refine ⟨by show 2 ≤ sizeLine; decide, fun p15 m15 => ?_⟩
    have s15 := same_new (H := H14) (p := p15) (o := .tup [.str "0", .str "1"]) m15
    have e15 := upd_same (H := H14) (a := p15) (o := .tup [.str "0", .str "1"])
    generalize upd H14 p15 (.tup [.str "0", .str "1"]) = H15 at *
    refine ⟨10, 12, rfl, rfl, ⟨by decide, by decide, by decide⟩, _, _, rfl, rfl, by show 2 ≤ sizeLine; decide, fun p16 m16 => ?_⟩
    have s16 := same_new (H := H15) (p := p16) (o := .tup [.int 0, .int (10 ^ (12 : Int).toNat + 1)]) m16
    have e16 := upd_same (H := H15) (a := p16) (o := .tup [.int 0, .int (10 ^ (12 : Int).toNat + 1)])
    generalize upd H15 p16 (.tup [.int 0, .int (10 ^ (12 : Int).toNat + 1)]) = H16 at *
    refine ⟨by show 8 ≤ sizeLine; decide, fun p17 m17 => ?_⟩
    have s17 := same_new (H := H16) (p := p17) (o := .lst [.ref p8, .ref p9, .ref p10, .ref p11, .ref p13, .ref p14, .ref p15, .ref p16]) m17
    have e17 := upd_same (H := H16) (a := p17) (o := .lst [.ref p8, .ref p9, .ref p10, .ref p11, .ref p13, .ref p14, .ref p15, .ref p16])
    generalize upd H16 p17 (.lst [.ref p8, .ref p9, .ref p10, .ref p11, .ref p13, .ref p14, .ref p15, .ref p16]) = H17 at *
    refine ⟨p7, p17, _, _, rfl, rfl, s17 _ _ (s16 _ _ (s15 _ _ (s14 _ _ (s13 _ _ (s12 _ _ (s11 _ _ (s10 _ _ (s9 _ _ (s8 _ _ (e7)))))))))), e17, by show 24 ≤ sizeLine; decide, fun p18 m18 => ?_⟩
    have s18 := same_new (H := H17) (p := p18) (o := .lst ([.non, .bl true, .bl false, .int (-1), .int 0, .int 1, .int (10 ^ (12 : Int).toNat + 1), .int (10 ^ (29 : Int).toNat), .str "", .str "0-1", .ref p1, .ref p2, .ref p3, .ref p4, .ref p5, .ref p6] ++ [.ref p8, .ref p9, .ref p10, .ref p11, .ref p13, .ref p14, .ref p15, .ref p16])) m18
    have e18 : (upd H17 p18 (.lst ([.non, .bl true, .bl false, .int (-1), .int 0, .int 1, .int (10 ^ (12 : Int).toNat + 1), .int (10 ^ (29 : Int).toNat), .str "", .str "0-1", .ref p1, .ref p2, .ref p3, .ref p4, .ref p5, .ref p6] ++ [.ref p8, .ref p9, .ref p10, .ref p11, .ref p13, .ref p14, .ref p15, .ref p16]))) p18 = some (.lst [.non, .bl true, .bl false, .int (-1), .int 0, .int 1, .int (10 ^ (12 : Int).toNat + 1), .int (10 ^ (29 : Int).toNat), .str "", .str "0-1", .ref p1, .ref p2, .ref p3, .ref p4, .ref p5, .ref p6, .ref p8, .ref p9, .ref p10, .ref p11, .ref p13, .ref p14, .ref p15, .ref p16]) := upd_same
    generalize upd H17 p18 (.lst ([.non, .bl true, .bl false, .int (-1), .int 0, .int 1, .int (10 ^ (12 : Int).toNat + 1), .int (10 ^ (29 : Int).toNat), .str "", .str "0-1", .ref p1, .ref p2, .ref p3, .ref p4, .ref p5, .ref p6] ++ [.ref p8, .ref p9, .ref p10, .ref p11, .ref p13, .ref p14, .ref p15, .ref p16])) = H18 at *
    refine ⟨.ref p18, rfl, 1, rfl, by show 2 ≤ sizeLine; decide, fun p19 m19 => ?_⟩
    have s19 := same_new (H := H18) (p := p19) (o := .tup [.int (-1), .int 0]) m19
    have e19 := upd_same (H := H18) (a := p19) (o := .tup [.int (-1), .int 0])
    generalize upd H18 p19 (.tup [.int (-1), .int 0]) = H19 at *
    refine ⟨by show 2 ≤ sizeLine; decide, fun p20 m20 => ?_⟩
    have s20 := same_new (H := H19) (p := p20) (o := .tup [.int 0, .int 1]) m20
    have e20 := upd_same (H := H19) (a := p20) (o := .tup [.int 0, .int 1])
    generalize upd H19 p20 (.tup [.int 0, .int 1]) = H20 at *
    refine ⟨by show 1 ≤ sizeLine; decide, fun p21 m21 => ?_⟩
    have s21 := same_new (H := H20) (p := p21) (o := .lst [.ref p20]) m21
    have e21 := upd_same (H := H20) (a := p21) (o := .lst [.ref p20])
    generalize upd H20 p21 (.lst [.ref p20]) = H21 at *
    refine ⟨by show 2 ≤ sizeLine; decide, fun p22 m22 => ?_⟩
    have s22 := same_new (H := H21) (p := p22) (o := .lst [.ref p19, .ref p21]) m22
    have e22 := upd_same (H := H21) (a := p22) (o := .lst [.ref p19, .ref p21])
    generalize upd H21 p22 (.lst [.ref p19, .ref p21]) = H22 at *
    refine ⟨p18, p22, _, _, rfl, rfl, s22 _ _ (s21 _ _ (s20 _ _ (s19 _ _ (e18)))), e22, by show 26 ≤ sizeLine; decide, fun p23 m23 => ?_⟩
    have s23 := same_new (H := H22) (p := p23) (o := .lst ([.non, .bl true, .bl false, .int (-1), .int 0, .int 1, .int (10 ^ (12 : Int).toNat + 1), .int (10 ^ (29 : Int).toNat), .str "", .str "0-1", .ref p1, .ref p2, .ref p3, .ref p4, .ref p5, .ref p6, .ref p8, .ref p9, .ref p10, .ref p11, .ref p13, .ref p14, .ref p15, .ref p16] ++ [.ref p19, .ref p21])) m23
    have e23 : (upd H22 p23 (.lst ([.non, .bl true, .bl false, .int (-1), .int 0, .int 1, .int (10 ^ (12 : Int).toNat + 1), .int (10 ^ (29 : Int).toNat), .str "", .str "0-1", .ref p1, .ref p2, .ref p3, .ref p4, .ref p5, .ref p6, .ref p8, .ref p9, .ref p10, .ref p11, .ref p13, .ref p14, .ref p15, .ref p16] ++ [.ref p19, .ref p21]))) p23 = some (.lst [.non, .bl true, .bl false, .int (-1), .int 0, .int 1, .int (10 ^ (12 : Int).toNat + 1), .int (10 ^ (29 : Int).toNat), .str "", .str "0-1", .ref p1, .ref p2, .ref p3, .ref p4, .ref p5, .ref p6, .ref p8, .ref p9, .ref p10, .ref p11, .ref p13, .ref p14, .ref p15, .ref p16, .ref p19, .ref p21]) := upd_same
    generalize upd H22 p23 (.lst ([.non, .bl true, .bl false, .int (-1), .int 0, .int 1, .int (10 ^ (12 : Int).toNat + 1), .int (10 ^ (29 : Int).toNat), .str "", .str "0-1", .ref p1, .ref p2, .ref p3, .ref p4, .ref p5, .ref p6, .ref p8, .ref p9, .ref p10, .ref p11, .ref p13, .ref p14, .ref p15, .ref p16] ++ [.ref p19, .ref p21])) = H23 at *
    have hs : Same H H23 := s1.trans ( s2.trans ( s3.trans ( s4.trans ( s5.trans ( s6.trans ( s7.trans ( s8.trans ( s9.trans ( s10.trans ( s11.trans ( s12.trans ( s13.trans ( s14.trans ( s15.trans ( s16.trans ( s17.trans ( s18.trans ( s19.trans ( s20.trans ( s21.trans ( s22.trans (s23))))))))))))))))))))))
    have o1 : New H H23 p1 = some _ := new_get m1 (s23 _ _ (s22 _ _ (s21 _ _ (s20 _ _ (s19 _ _ (s18 _ _ (s17 _ _ (s16 _ _ (s15 _ _ (s14 _ _ (s13 _ _ (s12 _ _ (s11 _ _ (s10 _ _ (s9 _ _ (s8 _ _ (s7 _ _ (s6 _ _ (s5 _ _ (s4 _ _ (s3 _ _ (s2 _ _ (e1)))))))))))))))))))))))
    have o2 : New H H23 p2 = some _ := new_get (s1.free m2) (s23 _ _ (s22 _ _ (s21 _ _ (s20 _ _ (s19 _ _ (s18 _ _ (s17 _ _ (s16 _ _ (s15 _ _ (s14 _ _ (s13 _ _ (s12 _ _ (s11 _ _ (s10 _ _ (s9 _ _ (s8 _ _ (s7 _ _ (s6 _ _ (s5 _ _ (s4 _ _ (s3 _ _ (e2))))))))))))))))))))))
    have o3 : New H H23 p3 = some _ := new_get (s1.free (s2.free m3)) (s23 _ _ (s22 _ _ (s21 _ _ (s20 _ _ (s19 _ _ (s18 _ _ (s17 _ _ (s16 _ _ (s15 _ _ (s14 _ _ (s13 _ _ (s12 _ _ (s11 _ _ (s10 _ _ (s9 _ _ (s8 _ _ (s7 _ _ (s6 _ _ (s5 _ _ (s4 _ _ (e3)))))))))))))))))))))
    have o4 : New H H23 p4 = some _ := new_get (s1.free (s2.free (s3.free m4))) (s23 _ _ (s22 _ _ (s21 _ _ (s20 _ _ (s19 _ _ (s18 _ _ (s17 _ _ (s16 _ _ (s15 _ _ (s14 _ _ (s13 _ _ (s12 _ _ (s11 _ _ (s10 _ _ (s9 _ _ (s8 _ _ (s7 _ _ (s6 _ _ (s5 _ _ (e4))))))))))))))))))))
    have o5 : New H H23 p5 = some _ := new_get (s1.free (s2.free (s3.free (s4.free m5)))) (s23 _ _ (s22 _ _ (s21 _ _ (s20 _ _ (s19 _ _ (s18 _ _ (s17 _ _ (s16 _ _ (s15 _ _ (s14 _ _ (s13 _ _ (s12 _ _ (s11 _ _ (s10 _ _ (s9 _ _ (s8 _ _ (s7 _ _ (s6 _ _ (e5)))))))))))))))))))
    have o6 : New H H23 p6 = some _ := new_get (s1.free (s2.free (s3.free (s4.free (s5.free m6))))) (s23 _ _ (s22 _ _ (s21 _ _ (s20 _ _ (s19 _ _ (s18 _ _ (s17 _ _ (s16 _ _ (s15 _ _ (s14 _ _ (s13 _ _ (s12 _ _ (s11 _ _ (s10 _ _ (s9 _ _ (s8 _ _ (s7 _ _ (e6))))))))))))))))))
    have o8 : New H H23 p8 = some _ := new_get (s1.free (s2.free (s3.free (s4.free (s5.free (s6.free (s7.free m8))))))) (s23 _ _ (s22 _ _ (s21 _ _ (s20 _ _ (s19 _ _ (s18 _ _ (s17 _ _ (s16 _ _ (s15 _ _ (s14 _ _ (s13 _ _ (s12 _ _ (s11 _ _ (s10 _ _ (s9 _ _ (e8))))))))))))))))
    have o9 : New H H23 p9 = some _ := new_get (s1.free (s2.free (s3.free (s4.free (s5.free (s6.free (s7.free (s8.free m9)))))))) (s23 _ _ (s22 _ _ (s21 _ _ (s20 _ _ (s19 _ _ (s18 _ _ (s17 _ _ (s16 _ _ (s15 _ _ (s14 _ _ (s13 _ _ (s12 _ _ (s11 _ _ (s10 _ _ (e9)))))))))))))))
    have o10 : New H H23 p10 = some _ := new_get (s1.free (s2.free (s3.free (s4.free (s5.free (s6.free (s7.free (s8.free (s9.free m10))))))))) (s23 _ _ (s22 _ _ (s21 _ _ (s20 _ _ (s19 _ _ (s18 _ _ (s17 _ _ (s16 _ _ (s15 _ _ (s14 _ _ (s13 _ _ (s12 _ _ (s11 _ _ (e10))))))))))))))
    have o11 : New H H23 p11 = some _ := new_get (s1.free (s2.free (s3.free (s4.free (s5.free (s6.free (s7.free (s8.free (s9.free (s10.free m11)))))))))) (s23 _ _ (s22 _ _ (s21 _ _ (s20 _ _ (s19 _ _ (s18 _ _ (s17 _ _ (s16 _ _ (s15 _ _ (s14 _ _ (s13 _ _ (s12 _ _ (e11)))))))))))))
    have o12 : New H H23 p12 = some _ := new_get (s1.free (s2.free (s3.free (s4.free (s5.free (s6.free (s7.free (s8.free (s9.free (s10.free (s11.free m12))))))))))) (s23 _ _ (s22 _ _ (s21 _ _ (s20 _ _ (s19 _ _ (s18 _ _ (s17 _ _ (s16 _ _ (s15 _ _ (s14 _ _ (s13 _ _ (e12))))))))))))
    have o13 : New H H23 p13 = some _ := new_get (s1.free (s2.free (s3.free (s4.free (s5.free (s6.free (s7.free (s8.free (s9.free (s10.free (s11.free (s12.free m13)))))))))))) (s23 _ _ (s22 _ _ (s21 _ _ (s20 _ _ (s19 _ _ (s18 _ _ (s17 _ _ (s16 _ _ (s15 _ _ (s14 _ _ (e13)))))))))))
    have o14 : New H H23 p14 = some _ := new_get (s1.free (s2.free (s3.free (s4.free (s5.free (s6.free (s7.free (s8.free (s9.free (s10.free (s11.free (s12.free (s13.free m14))))))))))))) (s23 _ _ (s22 _ _ (s21 _ _ (s20 _ _ (s19 _ _ (s18 _ _ (s17 _ _ (s16 _ _ (s15 _ _ (e14))))))))))
    have o15 : New H H23 p15 = some _ := new_get (s1.free (s2.free (s3.free (s4.free (s5.free (s6.free (s7.free (s8.free (s9.free (s10.free (s11.free (s12.free (s13.free (s14.free m15)))))))))))))) (s23 _ _ (s22 _ _ (s21 _ _ (s20 _ _ (s19 _ _ (s18 _ _ (s17 _ _ (s16 _ _ (e15)))))))))
    have o16 : New H H23 p16 = some _ := new_get (s1.free (s2.free (s3.free (s4.free (s5.free (s6.free (s7.free (s8.free (s9.free (s10.free (s11.free (s12.free (s13.free (s14.free (s15.free m16))))))))))))))) (s23 _ _ (s22 _ _ (s21 _ _ (s20 _ _ (s19 _ _ (s18 _ _ (s17 _ _ (e16))))))))
    have o19 : New H H23 p19 = some _ := new_get (s1.free (s2.free (s3.free (s4.free (s5.free (s6.free (s7.free (s8.free (s9.free (s10.free (s11.free (s12.free (s13.free (s14.free (s15.free (s16.free (s17.free (s18.free m19)))))))))))))))))) (s23 _ _ (s22 _ _ (s21 _ _ (s20 _ _ (e19)))))
    have o20 : New H H23 p20 = some _ := new_get (s1.free (s2.free (s3.free (s4.free (s5.free (s6.free (s7.free (s8.free (s9.free (s10.free (s11.free (s12.free (s13.free (s14.free (s15.free (s16.free (s17.free (s18.free (s19.free m20))))))))))))))))))) (s23 _ _ (s22 _ _ (s21 _ _ (e20))))
    have o21 : New H H23 p21 = some _ := new_get (s1.free (s2.free (s3.free (s4.free (s5.free (s6.free (s7.free (s8.free (s9.free (s10.free (s11.free (s12.free (s13.free (s14.free (s15.free (s16.free (s17.free (s18.free (s19.free (s20.free m21)))))))))))))))))))) (s23 _ _ (s22 _ _ (e21)))
    have oL := ((((((((((((((((((((((dk.kept s1).kept s2).kept s3).kept s4).kept s5).kept s6).kept s7).kept s8).kept s9).kept s10).kept s11).kept s12).kept s13).kept s14).kept s15).kept s16).kept s17).kept s18).kept s19).kept s20).kept s21).kept s22).off m23
    have all : DvAll K (New H H23) [.non, .bl true, .bl false, .int (-1), .int 0, .int 1, .int (10 ^ (12 : Int).toNat + 1), .int (10 ^ (29 : Int).toNat), .str "", .str "0-1", .ref p1, .ref p2, .ref p3, .ref p4, .ref p5, .ref p6, .ref p8, .ref p9, .ref p10, .ref p11, .ref p13, .ref p14, .ref p15, .ref p16, .ref p19, .ref p21] oddD := .cons (.non) (.cons (.bl true) (.cons (.bl false) (.cons (.int _) (.cons (.int _) (.cons (.int _) (.cons (.int _) (.cons (.int _) (.cons (.str _) (.cons (.str _) (.cons (.tup o1 .nil) (.cons (.tup o2 (.cons (.int _) (.nil))) (.cons (.lst o3 .nil) (.cons (.lst o4 (.cons (.int _) (.cons (.int _) (.nil)))) (.cons (.dic o5 .nil) (.cons (.dic o6 (.cons (.int _) (.nil))) (.cons (.tup o8 (.cons (.int _) (.cons (.bl _) (.nil)))) (.cons (.tup o9 (.cons (.bl _) (.cons (.int _) (.nil)))) (.cons (.tup o10 (.cons (.int _) (.cons (.int _) (.nil)))) (.cons (.tup o11 (.cons (.int _) (.cons (.int _) (.cons (.int _) (.nil))))) (.cons (.tup o13 (.cons (.tup o12 (.cons (.int _) (.cons (.int _) (.nil)))) (.nil))) (.cons (.tup o14 (.cons (.non) (.cons (.non) (.nil)))) (.cons (.tup o15 (.cons (.str _) (.cons (.str _) (.nil)))) (.cons (.tup o16 (.cons (.int _) (.cons (.int _) (.nil)))) (.cons (.tup o19 (.cons (.int _) (.cons (.int _) (.nil)))) (.cons (.lst o21 (.cons (.tup o20 (.cons (.int _) (.cons (.int _) (.nil)))) (.nil))) (.nil))))))))))))))))))))))))))
    generalize ([.non, .bl true, .bl false, .int (-1), .int 0, .int 1, .int (10 ^ (12 : Int).toNat + 1), .int (10 ^ (29 : Int).toNat), .str "", .str "0-1", .ref p1, .ref p2, .ref p3, .ref p4, .ref p5, .ref p6, .ref p8, .ref p9, .ref p10, .ref p11, .ref p13, .ref p14, .ref p15, .ref p16, .ref p19, .ref p21] : List V) = items at *
    have len : items.length = 26 := all.length
    refine ⟨.ref d, rfl, d, c, n, 26, rfl, dk.kept hs, n0, by omega, by decide, by decide, fun Hd r kp dk2 r0 r1 => ?_⟩
    obtain ⟨j, rfl⟩ : ∃ j : Nat, r = j := ⟨r.toNat, by omega⟩
    have hj : j < items.length := by omega
    have ej : items[j]? = some items[j] := List.getElem?_eq_getElem hj
    obtain ⟨dd, ed, hdv⟩ := all.get ej
    refine ⟨p23, items, j, items[j], rfl, rfl, SqL.of (kp.keep oL.1 oL.2 e23), atI_nat ej, ?_⟩
    have after : Same (New H H23) (New H Hd) := fun b o e => by
      obtain ⟨nb, eb⟩ := new_at e
      have ob := dk.off nb
      exact new_get nb (kp b o ob.1 ob.2 eb)
    exact q _ _ dd ((Kp.same hs).trans kp) dk2 (dv_same after hdv) (List.mem_of_getElem? ed)

/-! ### rows of intervals -/
inductive Ivs (H : Hp) : List V → List (Int × Int) → Prop
  | nil : Ivs H [] []
  | cons {a : Addr} {x y : Int} {vs : List V} {ps : List (Int × Int)} : H a = some (.tup [.int x, .int y]) → Ivs H vs ps → Ivs H (.ref a :: vs) ((x, y) :: ps)
theorem Ivs.length {H : Hp} {vs : List V} {ps : List (Int × Int)} (h : Ivs H vs ps) : vs.length = ps.length := by
  induction h with
  | nil => rfl
  | cons _ _ ih => rw [List.length_cons, List.length_cons, ih]
theorem Ivs.same {H H' : Hp} (s : Same H H') {vs : List V} {ps : List (Int × Int)} (h : Ivs H vs ps) : Ivs H' vs ps := by
  induction h with
  | nil => exact .nil
  | cons e _ ih => exact .cons (s _ _ e) ih
theorem Ivs.kp {d c : Addr} {n : Int} {H H' : Hp} (k : Kp d c H H') (dk : Dk H d c n) {vs : List V} {ps : List (Int × Int)} (h : Ivs H vs ps) : Ivs H' vs ps := by
  induction h with
  | nil => exact .nil
  | cons e _ ih => exact .cons (k.tup dk e) ih
theorem Ivs.get {H : Hp} {vs : List V} {ps : List (Int × Int)} (h : Ivs H vs ps) : ∀ {i : Nat} {v : V}, vs[i]? = some v → ∃ a x y, v = .ref a ∧ ps[i]? = some (x, y) ∧ H a = some (.tup [.int x, .int y]) := by
  induction h with
  | nil =>
    intro i v e
    simp at e
  | cons e _ ih =>
    intro i v q
    cases i with
    | zero =>
      cases q
      exact ⟨_, _, _, rfl, rfl, e⟩
    | succ i => exact ih q
theorem Ivs.snoc {H : Hp} {vs : List V} {ps : List (Int × Int)} {a : Addr} {x y : Int} (h : Ivs H vs ps) (e : H a = some (.tup [.int x, .int y])) : Ivs H (vs ++ [.ref a]) (ps ++ [(x, y)]) := by
  induction h with
  | nil => exact .cons e .nil
  | cons z _ ih => exact .cons z ih
def pairD (p : Int × Int) : PyData := .tuple [.int p.1, .int p.2]
theorem Ivs.dp {K : PySem.W.Frag} {H : Hp} {vs : List V} {ps : List (Int × Int)} (h : Ivs H vs ps) : DpAll K H vs (ps.map pairD) := by
  induction h with
  | nil => exact .nil
  | cons e _ ih => exact .cons (dp2 e) ih

/-! ### tuples cut and joined, whatever they hold -/
theorem cutTo (xs : List V) (j : Nat) : cutV xs none (some (j : Int)) = xs.take j := by
  unfold cutV
  rw [HT.sIx_none, show HT.sIx xs.length xs.length (some (j : Int)) = min j xs.length from HT.sIx_nat xs.length xs.length j]
  rw [Nat.sub_zero, List.drop_zero]
  rcases Nat.le_total j xs.length with h | h
  · rw [Nat.min_eq_left h]
  · rw [Nat.min_eq_right h, List.take_length, List.take_of_length_le h]
theorem cutAfter (xs : List V) (j : Nat) : cutV xs (some ((j : Int) + 1)) none = xs.drop (j + 1) := by
  unfold cutV
  rw [HT.sIx_none, show HT.sIx xs.length 0 (some ((j : Int) + 1)) = min (j + 1) xs.length from HT.sIx_nat xs.length 0 (j + 1)]
  rcases Nat.le_total (j + 1) xs.length with h | h
  · rw [Nat.min_eq_left h, List.take_of_length_le (by rw [List.length_drop]; exact Nat.le_refl _)]
  · rw [Nat.min_eq_right h, List.drop_length, List.drop_eq_nil_of_le h, List.take_nil]
theorem sl_any {K : PySem.W.Frag} {H : Hp} {a : Addr} {xs : List V} {lo hi : Option Int} {Q : VK} (ha : H a = some (.tup xs)) (k : ∀ H' p, Same H H' → H' p = some (.tup (cutV xs lo hi)) → Q (.ref p) H') : rSlA K (.ref a) lo hi H Q := by
  refine ⟨a, xs, rfl, SqT.of ha, fun c => k H a (Same.refl _) ?_, fun _ p np => k _ p (same_new np) upd_same⟩
  unfold cutV
  rw [c.1, c.2, List.drop_zero, Nat.sub_zero, List.take_length]
  exact ha
theorem cat_any {K : PySem.W.Frag} {H : Hp} {a b : Addr} {xs ys : List V} {Q : VK} (ha : H a = some (.tup xs)) (hb : H b = some (.tup ys)) (sz : xs.length + ys.length ≤ sizeLine) (k : ∀ H' p, Same H H' → H' p = some (.tup (xs ++ ys)) → Q (.ref p) H') : rCatA K (.ref a) (.ref b) H Q := by
  refine ⟨a, b, xs, ys, rfl, rfl, SqT.of ha, SqT.of hb, sz, fun e => k H b (Same.refl _) ?_, fun _ e => k H a (Same.refl _) ?_, fun _ _ p np => k _ p (same_new np) upd_same⟩
  · rw [e, List.nil_append]
    exact hb
  · rw [e, List.append_nil]
    exact ha
theorem DvAll.take {K : PySem.W.Frag} {H : Hp} : ∀ {vs : List V} {ds : List PyData}, DvAll K H vs ds → ∀ n : Nat, DvAll K H (vs.take n) (ds.take n)
  | _, _, .nil, n => by
    rw [List.take_nil, List.take_nil]
    exact .nil
  | _, _, .cons a b, 0 => .nil
  | _, _, .cons a b, n + 1 => .cons a (b.take n)
theorem DvAll.drop {K : PySem.W.Frag} {H : Hp} : ∀ {vs : List V} {ds : List PyData}, DvAll K H vs ds → ∀ n : Nat, DvAll K H (vs.drop n) (ds.drop n)
  | _, _, .nil, n => by
    rw [List.drop_nil, List.drop_nil]
    exact .nil
  | _, _, .cons a b, 0 => .cons a b
  | _, _, .cons a b, n + 1 => b.drop n
theorem DvAll.set {K : PySem.W.Frag} {H : Hp} {v : V} {d : PyData} (h : Dv K H v d) : ∀ {vs : List V} {ds : List PyData}, DvAll K H vs ds → ∀ n : Nat, DvAll K H (vs.set n v) (ds.set n d)
  | _, _, .nil, n => .nil
  | _, _, .cons a b, 0 => .cons h b
  | _, _, .cons a b, n + 1 => .cons a (b.set h n)
def Fi (d : PyData) : Prop := Sm 1000 3 d ∧ PlainT d
theorem Dk.offT {H : Hp} {d c : Addr} {n : Int} (h : Dk H d c n) {p : Addr} {xs : List V} (e : H p = some (.tup xs)) : Off d c H p = some (.tup xs) := by
  obtain ⟨ys, ec, _⟩ := h.cells
  exact off_get ⟨ne_of e h.top (fun z => by cases z), ne_of e ec (fun z => by cases z)⟩ e
theorem off_same {d c : Addr} {H H' : Hp} (s : Same H H') : Same (Off d c H) (Off d c H') := off_kp (Kp.same s)
theorem pair_fi {lo hi : Int} (h1 : lo.natAbs < 10 ^ 30) (h2 : hi.natAbs < 10 ^ 30) : Fi (.tuple [.int lo, .int hi]) :=
  ⟨(sm2 h1 h2).mono (by decide) (by decide), fun es e => by
    cases e
    exact ⟨rfl, by show 0 ≤ 60; decide⟩⟩
/-! ### the law's rows, of pairs -/
def Fp (d : PyData) : Prop := Fi d ∧ ∃ lo hi : Int, d = .tuple [.int lo, .int hi]
def sp_law_row (K : PySem.W.Frag) : Sp := fun vs H Q _ => ∃ (d c : Addr) (n lim most : Int), vs = [.ref d, .int lim, .int most] ∧ Dk H d c n ∧ 0 ≤ n ∧ n < 900000 ∧ 0 < lim ∧ lim ≤ 1000000000001 ∧ 0 ≤ most ∧ most ≤ 40 ∧
  ∀ H' t us ds n', Kp d c H H' → Dk H' d c n' → n ≤ n' → n' ≤ n + 100 → H' t = some (.tup us) → DvAll K (Off d c H') us ds → (ds.length : Int) ≤ most → (∀ x ∈ ds, Fp x) → Q (.ref t) H'
theorem Dk.upd {H : Hp} {d c : Addr} {n : Int} (h : Dk H d c n) {p : Addr} {o : HO} (off : p ≠ d ∧ p ≠ c) : Dk (upd H p o) d c n := by
  obtain ⟨xs, e, a⟩ := h.cells
  exact ⟨by rw [upd_ne off.1.symm]; exact h.top, xs, by rw [upd_ne off.2.symm]; exact e, a⟩
theorem zip_refs : ∀ {H : Hp} {ws : List V} {ps : List (Int × Int)}, Ivs H ws ps → ∃ ks : List (Addr × List Int), ws = ks.map (fun p => V.ref p.1) ∧ (∀ p ∈ ks, ∃ x y, p.2 = [x, y] ∧ H p.1 = some (.tup [.int x, .int y]) ∧ (x, y) ∈ ps) ∧ ks.length = ps.length
  | _, _, _, .nil => ⟨[], rfl, (fun p hp => nomatch hp), rfl⟩
  | _, _, _, .cons (a := a) (x := x) (y := y) e r => by
    obtain ⟨ks, e1, e2, e3⟩ := zip_refs r
    refine ⟨(a, [x, y]) :: ks, by rw [e1]; rfl, fun p hp => ?_, by rw [List.length_cons, List.length_cons, e3]⟩
    rcases List.mem_cons.mp hp with rfl | hp
    · exact ⟨x, y, rfl, e, List.mem_cons_self⟩
    · obtain ⟨x', y', h1, h2, h3⟩ := e2 p hp
      exact ⟨x', y', h1, h2, List.mem_cons_of_mem _ h3⟩
theorem nodup_len {α : Type} [DecidableEq α] : ∀ {l m : List α}, l.Nodup → (∀ x ∈ l, x ∈ m) → l.length ≤ m.length
  | [], _, _, _ => Nat.zero_le _
  | a :: l, m, h, hs => by
    have hm := hs a List.mem_cons_self
    have h' := List.nodup_cons.mp h
    have ih := nodup_len (l := l) (m := m.erase a) h'.2 (fun x hx => (List.mem_erase_of_ne (fun e => h'.1 (by rw [← e]; exact hx))).mpr (hs x (List.mem_cons_of_mem _ hx)))
    rw [List.length_erase_of_mem hm] at ih
    have := List.length_pos_of_mem hm
    rw [List.length_cons]
    omega
theorem ok_law_row (T : Tx K mg f_is_number f_is_position f_is_tuple_of f_is_interval f_ascending_error f_targets_error f_is_targets f_is_pieces f_law_deck f_law_draw f_law_interval f_law_row f_law_is_number f_law_is_interval f_law_odd f_law_due f_law_changed f_law d_is_number d_is_position d_is_tuple_of d_is_interval d_ascending_error d_targets_error d_is_targets d_is_pieces d_law_deck d_law_draw d_law_interval d_law_row d_law_is_number d_law_is_interval d_law_odd d_law_due d_law_changed d_law t_LAST_POSITION t_MAX_TARGETS t_MAX_PIECES) : FnOk P w K mg base CX0 3 f_law_row d_law_row ["_law_deck_here", "_law_limit", "_law_most"] (sp_law_row K) := by
  refine T.F_law_row.ok sc_law_row (fun vs H Q E h => ?_) (fun cdv A outer s H vs Q E hr h => ?_)
  · obtain ⟨d, c, n, lim, most, rfl, _⟩ := h
    rfl
  · obtain ⟨d, c, n, lim, most, rfl, dk, n0, n1, l0, l1, m0, m1, q⟩ := h
    refine ⟨_, (pss_cons (ps_setLc (i := 3) (own := [("_law_k", 4)]) (g := (gName 4)) (tt := tYes) (by rfl) sc_law_row.nd rfl rfl (sw_true rfl rfl rfl (by decide +kernel)) (pi_range1 (by rfl) T.z_range (pa_cons (pe_call (ok_law_draw T) (hr.mono (by decide)) (by rfl) T.g_law_draw T.F_law_draw.kp T.b_law_draw .nil pass0 (pa_cons (pv 0) (pa_cons (pe_op op_add (pv 2) pe_int) pa_nil))) pa_nil)) (blkOk_by (own := [("_law_k", 4)]) (N := N_law_row) (sc := defScope s_law_row) (by decide +kernel)) (fun _ _ _ _ _ => (pg_name (i := 4) sc_law_row.nd rfl (Or.inl rfl))) (fun _ _ _ _ _ => pts_nil) (fun _ _ _ _ _ => (pe_call (ok_law_interval T) (hr.mono (by decide)) (by rfl) T.g_law_interval T.F_law_interval.kp T.b_law_interval .nil pass0 (pa_cons (pv 0) (pa_cons (pv 1) pa_nil)))))
      (pss_one (ps_ret (pe_callTy call_tuple_of (by rfl) T.z_tuple (by decide +kernel) (pa_cons (pe_callB (cr_sortedT rfl) (by rfl) T.z_sorted (by decide +kernel) (pa_cons (pe_callTy (cr_setOfT rfl hr.units) (by rfl) T.z_set (by decide +kernel) (pa_cons (pv 3) pa_nil)) pa_nil)) pa_nil))))), ?_⟩
    refine ⟨.ref d, rfl, .int most, rfl, _, _, rfl, rfl, d, c, n, _, rfl, dk, n0, by omega, by omega, by omega, fun H4 m kp4 dk4 r0 r1 => ?_⟩
    refine ⟨m, rfl, by omega, by omega, fun D nD => ?_⟩
    have offD := dk4.off nD
    refine lc_range (lo := 0) (n := m.toNat) (fun k H' => Kp d c H4 H' ∧ Dk H' d c (n + 1 + 2 * k) ∧ ∃ ws ps, H' D = some (.lst ws) ∧ Ivs H' ws ps ∧ ps.length = k ∧ ∀ p ∈ ps, 0 ≤ p.1 ∧ p.1 ≤ p.2 ∧ p.2 < lim) ⟨Kp.same (same_new nD), ?_, [], [], upd_same, .nil, rfl, fun p hp => nomatch hp⟩ ?_ ?_
    · have en : n + 1 = n + 1 + 2 * ((0 : Nat) : Int) := by omega
      rw [← en]
      exact dk4.upd offD
    · rintro k H5 hk ⟨kp5, dk5, ws, ps, eD, iv, pl, low⟩
      refine ⟨rfl, .ref d, rfl, .int lim, rfl, d, c, _, lim, rfl, dk5, by omega, by omega, l0, by omega, fun H6 x y t kp6 dk6 x0 xy yL nt et => ?_⟩
      have eD6 := kp6.keep offD.1 offD.2 eD
      have iv6 := iv.kp kp6 dk5
      have ntD : t ≠ D := ne_of et eD6 (fun z => by cases z)
      refine ⟨ws, eD6, small1000 (by rw [iv.length, pl]; omega), fun b o n1 n2 e => ?_, ?_, _, ps ++ [(x, y)], upd_same, ?_, ?_, ?_⟩
      · rw [upd_ne (ne_of_none e nD)]
        exact (kp5.trans kp6) b o n1 n2 e
      · have en : n + 1 + 2 * (k : Int) + 2 = n + 1 + 2 * ((k + 1 : Nat) : Int) := by omega
        rw [← en]
        exact dk6.upd offD
      · have up : ∀ {vs : List V} {qs : List (Int × Int)}, Ivs H6 vs qs → Ivs (upd H6 D (.lst (ws ++ [.ref t]))) vs qs := by
          intro vs qs hv
          induction hv with
          | nil => exact .nil
          | cons e' _ ih =>
            refine .cons ?_ ih
            rw [upd_ne (ne_of e' eD6 (fun z => by cases z))]
            exact e'
        refine (up iv6).snoc ?_
        rw [upd_ne ntD]
        exact et
      · rw [List.length_append, List.length_singleton, pl]
      · intro q1 hq1
        rcases List.mem_append.mp hq1 with hq1 | hq1
        · exact low q1 hq1
        · rw [List.mem_singleton.mp hq1]
          exact ⟨x0, xy, yL⟩
    · rintro H5 ⟨kp5, dk5, ws, ps, eD, iv, pl, low⟩
      obtain ⟨ks, ews, eks, lks⟩ := zip_refs iv
      have pairs : ∀ p ∈ ks, SqT K H5 p.1 (p.2.map V.int) := fun p hp => by
        obtain ⟨x, y, e1, e2, _⟩ := eks p hp
        rw [e1]
        exact SqT.of e2
      refine ⟨.ref D, rfl, D, ks, rfl, by rw [← ews]; exact SqL.of eD, pairs, by omega, fun sa L nsa sub sup => ?_⟩
      have s6 : Same H5 (upd H5 sa (SetTO P w sa L)) := same_new nsa
      refine ⟨sa, L, 2, 1000000000002, rfl, upd_same, fun p hp => sqT_same s6 (pairs p (sub p hp)), by decide, fun p hp => ?_, fun L' pl2 perm nd lt srt npl => ?_⟩
      · obtain ⟨x, y, e1, e2, e3⟩ := eks p (sub p hp)
        have z := low _ e3
        rw [e1]
        refine ⟨rfl, ?_⟩
        intro v hv
        rcases List.mem_cons.mp hv with rfl | hv
        · exact ⟨by omega, by omega⟩
        · rw [List.mem_singleton.mp hv]
          exact ⟨by omega, by omega⟩
      refine ⟨pl2, _, rfl, .inl ⟨SqL.of upd_same, fun t nt => ?_⟩⟩
      have s7 := s6.trans (same_new (o := .lst (L'.map fun q => V.ref q.1)) npl)
      have s8 := s7.trans (same_new (o := .tup (L'.map fun q => V.ref q.1)) nt)
      have dk8 := dk5.kept s8
      have sub2 : ∀ p ∈ L', ∃ x y, p.2 = [x, y] ∧ H5 p.1 = some (.tup [.int x, .int y]) ∧ 0 ≤ x ∧ x ≤ y ∧ y < lim := fun p hp => by
        obtain ⟨x, y, e1, e2, e3⟩ := eks p (sub p (perm.mem_iff.mp hp))
        exact ⟨x, y, e1, e2, low _ e3⟩
      have made : ∀ M : List (Addr × List Int), (∀ p ∈ M, ∃ x y, p.2 = [x, y] ∧ H5 p.1 = some (.tup [.int x, .int y]) ∧ 0 ≤ x ∧ x ≤ y ∧ y < lim) → ∃ ds, DvAll K (Off d c (upd (upd (upd H5 sa (SetTO P w sa L)) pl2 (.lst (L'.map fun q => V.ref q.1))) t (.tup (L'.map fun q => V.ref q.1)))) (M.map fun q => V.ref q.1) ds ∧ ∀ x ∈ ds, Fp x := by
        intro M hM2
        induction M with
        | nil => exact ⟨[], .nil, fun x hx => nomatch hx⟩
        | cons p M ih =>
          obtain ⟨ds, h1, h2⟩ := ih fun r hr => hM2 r (List.mem_cons_of_mem _ hr)
          obtain ⟨x, y, e1, e2, x0, xy, yl⟩ := hM2 p List.mem_cons_self
          refine ⟨.tuple [.int x, .int y] :: ds, .cons (.tup (dk8.offT (s8 _ _ e2)) (.cons (.int _) (.cons (.int _) .nil))) h1, fun r hr => ?_⟩
          rcases List.mem_cons.mp hr with rfl | hr
          · exact ⟨pair_fi (by omega) (by omega), x, y, rfl⟩
          · exact h2 r hr
      obtain ⟨ds, hds, fds⟩ := made L' sub2
      have len : L'.length ≤ ks.length := by
        have nk : ∀ (M : List (Addr × List Int)), (M.map (·.2)).Nodup → (∀ p ∈ M, p ∈ ks) → M.length ≤ ks.length := by
          intro M hn hsub
          have h2 : (M.map (·.2)).length ≤ (ks.map (·.2)).length := by
            apply nodup_len hn
            intro v hv
            obtain ⟨p, hp, rfl⟩ := List.mem_map.mp hv
            exact List.mem_map.mpr ⟨p, hsub p hp, rfl⟩
          rw [List.length_map, List.length_map] at h2
          exact h2
        exact nk L' nd fun p hp => sub p (perm.mem_iff.mp hp)
      have dlen := hds.length
      rw [List.length_map] at dlen
      refine q _ t _ ds _ (kp4.trans (kp5.trans (Kp.same s8))) dk8 (by omega) (by omega) upd_same hds (by omega) fds

def VOk (d : PyData) : Prop := Sm 200000 6 d ∧ ∀ ds, d = .tuple ds → ds.length ≤ 900 ∧ ∀ x ∈ ds, PlainT x
theorem row_vok {ds : List PyData} (h : ∀ x ∈ ds, Fi x) (hn : ds.length ≤ 199) : VOk (.tuple ds) ∧ VOk (.list ds) := by
  have m : ds.length * (1000 + 1) ≤ 200000 := Nat.le_trans (Nat.mul_le_mul_right _ hn) (by decide)
  refine ⟨⟨(Sm.tup fun d hd => (h d hd).1).mono m (by decide), fun es e => ?_⟩, ⟨(Sm.lst fun d hd => (h d hd).1).mono m (by decide), fun es e => by cases e⟩⟩
  cases e
  exact ⟨by omega, fun x hx => (h x hx).2⟩
theorem odd_short : oddD.all (fun d => match d with | .tuple ds => decide (ds.length ≤ 900) && ds.all (fun x => match x with | .tuple es => PyData.canLayAll0 es && decide (PyData.depthAll es ≤ 60) | _ => true) | _ => true) = true := by decide +kernel
theorem odd_vok {d : PyData} (h : d ∈ oddD) : VOk d := by
  refine ⟨(odd_ok h).1.mono (by decide) (by decide), fun ds e => ?_⟩
  subst e
  have z := List.all_eq_true.mp odd_short _ h
  have z' := Bool.and_eq_true_iff.mp z
  refine ⟨of_decide_eq_true z'.1, fun x hx es e2 => ?_⟩
  subst e2
  have w := List.all_eq_true.mp z'.2 _ hx
  have w' := Bool.and_eq_true_iff.mp w
  exact ⟨w'.1, of_decide_eq_true w'.2⟩
/-- a row of small items -/
def Rw (K : PySem.W.Frag) (G : Hp) (N : Nat) (us : List V) : Prop := ∃ ds, DvAll K G us ds ∧ (∀ x ∈ ds, Fi x) ∧ ds.length ≤ N
theorem Rw.same {K : PySem.W.Frag} {G G' : Hp} {N : Nat} {us : List V} (h : Rw K G N us) (s : Same G G') : Rw K G' N us :=
  let ⟨ds, a, b, c⟩ := h
  ⟨ds, dvAll_same s a, b, c⟩
theorem Rw.cut {K : PySem.W.Frag} {G : Hp} {N : Nat} {us : List V} (h : Rw K G N us) (lo hi : Option Int) : Rw K G N (cutV us lo hi) := by
  obtain ⟨ds, a, b, c⟩ := h
  unfold cutV
  refine ⟨_, (a.drop _).take _, fun x hx => b x (List.mem_of_mem_drop (List.mem_of_mem_take hx)), ?_⟩
  rw [List.length_take, List.length_drop]
  omega
theorem Rw.cat {K : PySem.W.Frag} {G : Hp} {N M : Nat} {us vs : List V} (h : Rw K G N us) (h2 : Rw K G M vs) : Rw K G (N + M) (us ++ vs) := by
  obtain ⟨ds, a, b, c⟩ := h
  obtain ⟨es, a2, b2, c2⟩ := h2
  refine ⟨_, a.append a2, fun x hx => ?_, by rw [List.length_append]; omega⟩
  rcases List.mem_append.mp hx with hx | hx
  · exact b x hx
  · exact b2 x hx
theorem DvAll.rev {K : PySem.W.Frag} {H : Hp} : ∀ {vs : List V} {ds : List PyData}, DvAll K H vs ds → DvAll K H vs.reverse ds.reverse
  | _, _, .nil => .nil
  | _, _, .cons a b => by
    rw [List.reverse_cons, List.reverse_cons]
    exact b.rev.append (.cons a .nil)
theorem Rw.rev {K : PySem.W.Frag} {G : Hp} {N : Nat} {us : List V} (h : Rw K G N us) : Rw K G N us.reverse := by
  obtain ⟨ds, a, b, c⟩ := h
  exact ⟨_, a.rev, fun x hx => b x (List.mem_reverse.mp hx), by rw [List.length_reverse]; exact c⟩
theorem Rw.one {K : PySem.W.Frag} {G : Hp} {v : V} {d : PyData} (h : Dv K G v d) (f : Fi d) : Rw K G 1 [v] :=
  ⟨[d], .cons h .nil, fun x hx => by rw [List.mem_singleton.mp hx]; exact f, Nat.le_refl _⟩
theorem Rw.len {K : PySem.W.Frag} {G : Hp} {N : Nat} {us : List V} (h : Rw K G N us) : us.length ≤ N := by
  obtain ⟨ds, a, b, c⟩ := h
  rw [a.length]
  exact c
def Gd (K : PySem.W.Frag) (G : Hp) (v : V) : Prop := ∃ dd, Dv K G v dd ∧ VOk dd
theorem Gd.same {K : PySem.W.Frag} {G G' : Hp} {v : V} (h : Gd K G v) (s : Same G G') : Gd K G' v :=
  let ⟨dd, a, b⟩ := h
  ⟨dd, dv_same s a, b⟩
theorem Rw.tup {K : PySem.W.Frag} {G : Hp} {N : Nat} {us : List V} {p : Addr} (h : Rw K G N us) (e : G p = some (.tup us)) (hn : N ≤ 199) : Gd K G (.ref p) := by
  obtain ⟨ds, a, b, c⟩ := h
  exact ⟨_, .tup e a, (row_vok b (by omega)).1⟩
theorem Rw.lst {K : PySem.W.Frag} {G : Hp} {N : Nat} {us : List V} {p : Addr} (h : Rw K G N us) (e : G p = some (.lst us)) (hn : N ≤ 199) : Gd K G (.ref p) := by
  obtain ⟨ds, a, b, c⟩ := h
  exact ⟨_, .lst e a, (row_vok b (by omega)).2⟩
theorem pairs_lay : ∀ {ds : List PyData}, (∀ x ∈ ds, Fp x) → PyData.canLayAll0 ds = true ∧ PyData.depthAll ds ≤ 60
  | [], _ => ⟨rfl, Nat.zero_le _⟩
  | d :: ds, h => by
    obtain ⟨a, b⟩ := pairs_lay fun x hx => h x (List.mem_cons_of_mem _ hx)
    obtain ⟨_, lo, hi, rfl⟩ := h d List.mem_cons_self
    refine ⟨Bool.and_eq_true_iff.mpr ⟨rfl, a⟩, ?_⟩
    exact Nat.max_le.mpr ⟨(by decide : (1 : Nat) ≤ 60), b⟩
theorem nest_vok {ds : List PyData} (h : ∀ x ∈ ds, Fp x) (hn : ds.length ≤ 33) : VOk (.tuple [.tuple ds]) := by
  have m : ds.length * (1000 + 1) ≤ 40000 := Nat.le_trans (Nat.mul_le_mul_right _ hn) (by decide)
  have s1 : Sm 40000 4 (.tuple ds) := (Sm.tup fun d hd => (h d hd).1.1).mono m (by decide)
  refine ⟨(Sm.tup (ds := [.tuple ds]) (n := 40000) (dp := 4) fun d hd => ?_).mono (by show 1 * 40001 ≤ 200000; decide) (by decide), fun es e => ?_⟩
  · rw [List.mem_singleton.mp hd]
    exact s1
  · cases e
    refine ⟨by show 1 ≤ 900; decide, fun x hx es e2 => ?_⟩
    rw [List.mem_singleton.mp hx] at e2
    cases e2
    exact pairs_lay h
theorem pair_vok {d : PyData} (h : Fp d) : VOk d := by
  obtain ⟨⟨s1, _⟩, lo, hi, rfl⟩ := h
  refine ⟨s1.mono (by decide) (by decide), fun es e => ?_⟩
  cases e
  refine ⟨by show 2 ≤ 900; decide, fun x hx es e2 => ?_⟩
  subst e2
  simp at hx
theorem lst_fi {lo hi : Int} (h : Fi (.tuple [.int lo, .int hi])) : Fi (.list [.int lo, .int hi]) :=
  ⟨⟨h.1.shows, h.1.short, h.1.small, h.1.flat⟩, fun es e => by cases e⟩
def sp_law_changed (K : PySem.W.Frag) : Sp := fun vs H Q _ => ∃ (d c t : Addr) (n : Int) (us : List V) (ds : List PyData), vs = [.ref d, .ref t] ∧ Dk H d c n ∧ 0 ≤ n ∧ n < 900000 ∧ H t = some (.tup us) ∧ DvAll K (Off d c H) us ds ∧ ds.length ≤ 33 ∧ (∀ x ∈ ds, Fp x) ∧
  ∀ H' v n', Kp d c H H' → Dk H' d c n' → n ≤ n' → n' ≤ n + 5 → Gd K (Off d c H') v → Q v H'
theorem ok_law_changed (T : Tx K mg f_is_number f_is_position f_is_tuple_of f_is_interval f_ascending_error f_targets_error f_is_targets f_is_pieces f_law_deck f_law_draw f_law_interval f_law_row f_law_is_number f_law_is_interval f_law_odd f_law_due f_law_changed f_law d_is_number d_is_position d_is_tuple_of d_is_interval d_ascending_error d_targets_error d_is_targets d_is_pieces d_law_deck d_law_draw d_law_interval d_law_row d_law_is_number d_law_is_interval d_law_odd d_law_due d_law_changed d_law t_LAST_POSITION t_MAX_TARGETS t_MAX_PIECES) : FnOk P w K mg base CX0 3 f_law_changed d_law_changed ["_law_deck_here", "_law_row_here"] (sp_law_changed K) := by
  refine T.F_law_changed.ok sc_law_changed (fun vs H Q E h => ?_) (fun cdv A outer s H vs Q E hr h => ?_)
  · obtain ⟨d, c, t, n, us, ds, rfl, _⟩ := h
    rfl
  · obtain ⟨d, c, t, n, us, ds, rfl, dk, n0, n1, ht, all, few, fp, q⟩ := h
    have len := all.length
    have big : sizeLine = 16777216 := by decide
    refine ⟨_, (pss_cons (ps_if (pt_cmpR (op_eqE hr.units0) (pv 1) (pe_tup pa_nil) (nomark _))
      (pss_one (ps_ret (pe_call (ok_law_odd T) (hr.mono (by decide)) (by rfl) T.g_law_odd T.F_law_odd.kp T.b_law_odd .nil pass0 (pa_cons (pv 0) pa_nil))))
      pss_nil)
      (pss_cons (ps_par (by rfl) sc_law_changed.nd (i := 2) (j := 3) rfl rfl (by decide) rfl rfl (pa_cons (pe_call (ok_law_draw T) (hr.mono (by decide)) (by rfl) T.g_law_draw T.F_law_draw.kp T.b_law_draw .nil pass0 (pa_cons (pv 0) (pa_cons (pe_callB call_len_seq (by rfl) T.z_len PySem.boot_len (pa_cons (pv 1) pa_nil)) pa_nil))) (pa_cons (pe_call (ok_law_draw T) (hr.mono (by decide)) (by rfl) T.g_law_draw T.F_law_draw.kp T.b_law_draw .nil pass0 (pa_cons (pv 0) (pa_cons (pe_callB call_len_seq (by rfl) T.z_len PySem.boot_len (pa_cons (pv 1) pa_nil)) pa_nil))) pa_nil)) (by rfl))
      (pss_cons (ps_set (i := 4) sc_law_changed.nd rfl (Or.inl rfl) (pe_op op_catA (pe_slice sl_tupA (pv 1) po_none (po_some (pv 2))) (pe_slice sl_tupA (pv 1) (po_some (pe_op op_add (pv 2) pe_int)) po_none)))
      (pss_cons (ps_set (i := 5) sc_law_changed.nd rfl (Or.inl rfl) (pe_lst (pa_cons (pe_revT (pv 1)) (pa_cons (pe_op op_catA (pv 1) (pe_slice sl_tupA (pv 1) (po_some (pe_un un_neg pe_int)) po_none)) (pa_cons (pe_op op_catA (pe_op op_catA (pe_slice sl_tupA (pv 1) po_none (po_some (pv 2))) (pe_slice sl_tupA (pv 1) (po_some (pv 2)) (po_some (pe_op op_add (pv 2) pe_int)))) (pe_slice sl_tupA (pv 1) (po_some (pv 2)) po_none)) (pa_cons (pe_op op_catA (pe_op op_catA (pe_slice sl_tupA (pv 4) po_none (po_some (pv 3))) (pe_slice sl_tupA (pv 1) (po_some (pv 2)) (po_some (pe_op op_add (pv 2) pe_int)))) (pe_slice sl_tupA (pv 4) (po_some (pv 3)) po_none)) pa_nil))))))
      (pss_cons (ps_set (i := 5) sc_law_changed.nd rfl (Or.inl rfl) (pe_op op_cat (pv 5) (pe_lst (pa_cons (pe_op op_catA (pe_op op_catA (pe_slice sl_tupA (pv 1) po_none (po_some (pv 2))) (pe_tup (pa_cons (pe_call (ok_law_odd T) (hr.mono (by decide)) (by rfl) T.g_law_odd T.F_law_odd.kp T.b_law_odd .nil pass0 (pa_cons (pv 0) pa_nil)) pa_nil))) (pe_slice sl_tupA (pv 1) (po_some (pe_op op_add (pv 2) pe_int)) po_none)) (pa_cons (pe_callTy call_list_of (by rfl) T.z_list (by decide +kernel) (pa_cons (pv 1) pa_nil)) pa_nil)))))
      (pss_cons (ps_expr (pe_bm PySem.F.plainAttrs_list PySem.F.slot_list_append PySem.F.type_list_append mt_append (pv 5) (pa_cons (pe_op op_catA (pe_op op_catA (pe_slice sl_tupA (pv 1) po_none (po_some (pv 2))) (pe_tup (pa_cons (pe_callTy call_list_of (by rfl) T.z_list (by decide +kernel) (pa_cons (pe_ix ix_tup (pv 1) (pv 2) (fun _ _ => rfl)) pa_nil)) pa_nil))) (pe_slice sl_tupA (pv 1) (po_some (pe_op op_add (pv 2) pe_int)) po_none)) pa_nil)))
      (pss_one (ps_ret (pe_ix ix_list (pe_op op_cat (pv 5) (pe_lst (pa_cons (pe_tup (pa_cons (pv 1) pa_nil)) (pa_cons (pe_op op_catA (pv 1) (pe_tup (pa_cons pe_non pa_nil))) (pa_cons (pe_ix ix_tup (pv 1) (pv 2) (fun _ _ => rfl)) pa_nil))))) (pe_call (ok_law_draw T) (hr.mono (by decide)) (by rfl) T.g_law_draw T.F_law_draw.kp T.b_law_draw .nil pass0 (pa_cons (pv 0) (pa_cons pe_int pa_nil))) (fun _ _ => rfl)))))))))), ?_⟩
    refine ⟨.ref t, rfl, by show 0 ≤ sizeLine; decide, fun z nz => ?_⟩
    have sz := same_new (o := .tup []) nz
    have ez := upd_same (H := H) (a := z) (o := .tup [])
    generalize upd H z (.tup []) = H1 at *
    refine ⟨t, z, us, rfl, rfl, SqT.of (sz _ _ ht), SqT.of ez, _, rfl, ?_⟩
    have dk1 := dk.kept sz
    have ht1 := sz _ _ ht
    cases eu : us.isEmpty with
    | true =>
      refine iteT ?_
      refine ⟨.ref d, rfl, d, c, n, rfl, dk1, n0, by omega, fun H2 v dd kp2 dk2 hv hin => ?_⟩
      exact q _ v _ ((Kp.same sz).trans kp2) dk2 (by omega) (by omega) ⟨dd, dv_same (new_off dk1) hv, odd_vok hin⟩
    | false =>
      refine iteF ?_
      have pos : 0 < us.length := by
        cases us with
        | nil => cases eu
        | cons x r => exact Nat.succ_pos _
      refine ⟨.ref d, rfl, .ref t, rfl, t, us, rfl, .inr (SqT.of ht1), d, c, n, _, rfl, dk1, n0, by omega, by omega, by omega, fun H2 at1 kp2 dk2 a0 a1 => ?_⟩
      have ht2 := kp2.tup dk1 ht1
      refine ⟨.ref d, rfl, .ref t, rfl, t, us, rfl, .inr (SqT.of ht2), d, c, _, _, rfl, dk2, by omega, by omega, by omega, by omega, fun H3 to1 kp3 dk3 b0 b1 => ?_⟩
      have ht3 := kp3.tup dk2 ht2
      refine ⟨_, _, rfl, ?_⟩
      have kpH3 : Kp d c H H3 := (Kp.same sz).trans (kp2.trans kp3)
      have all3 : DvAll K (Off d c H3) us ds := dvAll_same (off_kp kpH3) all
      have rw3 : Rw K (Off d c H3) 33 us := ⟨ds, all3, fun x hx => (fp x hx).1, few⟩
      have cl : ∀ lo hi, (cutV us lo hi).length ≤ 33 := fun lo hi => (rw3.cut lo hi).len
      have ul := rw3.len
      obtain ⟨i, rfl⟩ : ∃ i : Nat, at1 = i := ⟨at1.toNat, by omega⟩
      obtain ⟨j, rfl⟩ : ∃ j : Nat, to1 = j := ⟨to1.toNat, by omega⟩
      have hi : i < us.length := by omega
      have ei : us[i]? = some us[i] := List.getElem?_eq_getElem hi
      obtain ⟨di, edi, hdi⟩ := all3.get ei
      have fdi := fp di (List.mem_of_getElem? edi)
      have fdi' := fdi
      obtain ⟨fi1, x1, x2, rfl⟩ := fdi'
      obtain ⟨b, eb, hb⟩ := hdi.asPair
      have aB : atI us (i : Int) = some (.ref b) := by
        rw [← eb]
        exact atI_nat ei
      have hb3 := (off_at hb).2.2
      clear hdi
      -- rest
      refine ⟨.ref t, rfl, .int _, rfl, _, rfl, sl_any ht3 (fun H4 pa s4 ea => ?_)⟩
      have ht4 := s4 _ _ ht3
      refine ⟨.ref t, rfl, .int _, rfl, _, _, rfl, rfl, _, rfl, ?_⟩
      dsimp only [tNoPart]
      refine sl_any (K := K) (lo := some ((i : Int) + 1)) (hi := none) ht4 (fun H5 pb s5 eb5 => ?_)
      have ht5 := s5 _ _ ht4
      refine cat_any (s5 _ _ ea) eb5 (by have := cl none (some (i : Int)); have := cl (some ((i : Int) + 1)) none; rw [big]; omega) (fun H6 pr s6 er => ?_)
      have ht6 := s6 _ _ ht5
      have s36 := s4.trans (s5.trans s6)
      have rwr : Rw K (Off d c H3) 66 (cutV us none (some (i : Int)) ++ cutV us (some ((i : Int) + 1)) none) := (rw3.cut _ _).cat (rw3.cut _ _)
      generalize (cutV us none (some (i : Int)) ++ cutV us (some ((i : Int) + 1)) none) = rs at *
      have rl : ∀ lo hi, (cutV rs lo hi).length ≤ 66 := fun lo hi => (rwr.cut lo hi).len
      -- backwards
      refine ⟨.ref t, rfl, t, us, rfl, SqT.of ht6, fun p0 np0 => ?_⟩
      have s7 := same_new (o := .tup us.reverse) np0
      have e0 := upd_same (H := H6) (a := p0) (o := .tup us.reverse)
      generalize upd H6 p0 (.tup us.reverse) = H7 at *
      have ht7 := s7 _ _ ht6
      have s37 := s36.trans s7
      have g0 : Gd K (Off d c H7) (.ref p0) := (rw3.rev.same (off_same s37)).tup ((dk3.kept s37).offT e0) (by decide)
      -- the last twice
      refine ⟨.ref t, rfl, .ref t, rfl, 1, rfl, _, rfl, ?_⟩
      dsimp only [tNoPart]
      refine sl_any (K := K) (lo := some (-1)) (hi := none) ht7 (fun H8 pl s8 el => ?_)
      refine cat_any (s8 _ _ ht7) el (by have := cl (some (-1)) none; rw [big]; omega) (fun H9 p1 s9 e1 => ?_)
      have ht9 := s9 _ _ (s8 _ _ ht7)
      have s39 := s37.trans (s8.trans s9)
      have g1 : Gd K (Off d c H9) (.ref p1) := ((rw3.cat (rw3.cut _ _)).same (off_same s39)).tup ((dk3.kept s39).offT e1) (by decide)
      -- one twice
      refine ⟨.ref t, rfl, .int _, rfl, _, rfl, sl_any ht9 (fun Ha pA sa eA => ?_)⟩
      refine ⟨.ref t, rfl, .int _, rfl, _, rfl, .int _, rfl, _, _, rfl, rfl, _, rfl, sl_any (sa _ _ ht9) (fun Hb pB sb eB => ?_)⟩
      refine cat_any (sb _ _ eA) eB (by have := cl none (some (i : Int)); have := cl (some (i : Int)) (some ((i : Int) + 1)); rw [big]; omega) (fun Hc pC sc eC => ?_)
      have htc := sc _ _ (sb _ _ (sa _ _ ht9))
      refine ⟨.ref t, rfl, .int _, rfl, _, rfl, ?_⟩
      dsimp only [tNoPart]
      refine sl_any (K := K) (lo := some (i : Int)) (hi := none) htc (fun Hd pD sd eD => ?_)
      refine cat_any (sd _ _ eC) eD (by have := cl none (some (i : Int)); have := cl (some (i : Int)) (some ((i : Int) + 1)); have := cl (some (i : Int)) none; rw [big, List.length_append]; omega) (fun He p2 se e2 => ?_)
      have hte := se _ _ (sd _ _ htc)
      have s9e := sa.trans (sb.trans (sc.trans (sd.trans se)))
      have s3e := s39.trans s9e
      have g2 : Gd K (Off d c He) (.ref p2) := ((((rw3.cut _ _).cat (rw3.cut _ _)).cat (rw3.cut _ _)).same (off_same s3e)).tup ((dk3.kept s3e).offT e2) (by decide)
      -- one moved
      have er_e := s9e _ _ (s9 _ _ (s8 _ _ (s7 _ _ er)))
      refine ⟨.ref pr, rfl, .int _, rfl, _, rfl, sl_any er_e (fun Hf pF sf eF => ?_)⟩
      refine ⟨.ref t, rfl, .int _, rfl, _, rfl, .int _, rfl, _, _, rfl, rfl, _, rfl, sl_any (sf _ _ hte) (fun Hg pG sg eG => ?_)⟩
      refine cat_any (sg _ _ eF) eG (by have := rl none (some (j : Int)); have := cl (some (i : Int)) (some ((i : Int) + 1)); rw [big]; omega) (fun Hh pH sh eH => ?_)
      refine ⟨.ref pr, rfl, .int _, rfl, _, rfl, ?_⟩
      dsimp only [tNoPart]
      refine sl_any (K := K) (lo := some (j : Int)) (hi := none) (sh _ _ (sg _ _ (sf _ _ er_e))) (fun Hi pI si eI => ?_)
      refine cat_any (si _ _ eH) eI (by have := rl none (some (j : Int)); have := cl (some (i : Int)) (some ((i : Int) + 1)); have := rl (some (j : Int)) none; rw [big, List.length_append]; omega) (fun Hj p3 sj e3 => ?_)
      have sej := sf.trans (sg.trans (sh.trans (si.trans sj)))
      have s3j := s3e.trans sej
      have htj := sej _ _ hte
      have g3 : Gd K (Off d c Hj) (.ref p3) := ((((rwr.cut _ _).cat (rw3.cut _ _)).cat (rwr.cut _ _)).same (off_same s3j)).tup ((dk3.kept s3j).offT e3) (by decide)
      refine ⟨by show 4 ≤ sizeLine; decide, fun q1 nq1 => ?_⟩
      have dkj := dk3.kept s3j
      have offq1 := dkj.off nq1
      have sk := same_new (o := .lst [.ref p0, .ref p1, .ref p2, .ref p3]) nq1
      have eq1 := upd_same (H := Hj) (a := q1) (o := .lst [.ref p0, .ref p1, .ref p2, .ref p3])
      generalize upd Hj q1 (.lst [.ref p0, .ref p1, .ref p2, .ref p3]) = Hk at *
      have htk := sk _ _ htj
      have s7k := s8.trans (s9.trans (s9e.trans (sej.trans sk)))
      have s9k := s9e.trans (sej.trans sk)
      have sek := sej.trans sk
      have s3k := s3j.trans sk
      -- with an odd one
      refine ⟨.ref q1, rfl, .ref t, rfl, .int _, rfl, _, rfl, sl_any htk (fun Hl pL sl eL => ?_)⟩
      have dkl := dkj.kept (sk.trans sl)
      refine ⟨.ref d, rfl, d, c, _, rfl, dkl, by omega, by omega, fun Hm vo dd kpm dkm hvo0 hin => ?_⟩
      have htm := kpm.tup dkl (sl _ _ htk)
      have eLm := kpm.tup dkl eL
      have eq1m := kpm.keep offq1.1 offq1.2 (sl _ _ eq1)
      refine ⟨by show 1 ≤ sizeLine; decide, fun po npo => ?_⟩
      have sn := same_new (o := .tup [vo]) npo
      have eo := upd_same (H := Hm) (a := po) (o := .tup [vo])
      generalize upd Hm po (.tup [vo]) = Hn at *
      refine cat_any (sn _ _ eLm) eo (by have := cl none (some (i : Int)); rw [big, List.length_singleton]; omega) (fun Ho pP so eP => ?_)
      refine ⟨.ref t, rfl, .int _, rfl, _, _, rfl, rfl, _, rfl, ?_⟩
      dsimp only [tNoPart]
      refine sl_any (K := K) (lo := some ((i : Int) + 1)) (hi := none) (so _ _ (sn _ _ htm)) (fun Hp pQ sp eQ => ?_)
      refine cat_any (sp _ _ eP) eQ (by have := cl none (some (i : Int)); have := cl (some ((i : Int) + 1)) none; rw [big, List.length_append, List.length_singleton]; omega) (fun Hq p4 sq e4 => ?_)
      have smq := sn.trans (so.trans (sp.trans sq))
      have htq := smq _ _ htm
      have dkq := dkm.kept smq
      have rwm : Rw K (Off d c Hm) 33 us := rw3.same (fun b' o e => off_kp kpm b' o (off_same (s3k.trans sl) b' o e))
      have dvo : Dv K (Off d c Hq) vo dd := dv_same (off_same smq) (dv_same (new_off dkl) hvo0)
      have rwq := rwm.same (off_same (d := d) (c := c) smq)
      have g4 : Gd K (Off d c Hq) (.ref p4) := (((rwq.cut _ _).cat (Rw.one dvo (odd_ok hin))).cat (rwq.cut _ _)).tup (dkq.offT e4) (by decide)
      -- as a list
      refine ⟨.ref t, rfl, t, us, rfl, .inr (SqT.of htq), fun l5 nl5 => ?_⟩
      have offl5 := dkq.off nl5
      have sr := same_new (o := .lst us) nl5
      have e5 := upd_same (H := Hq) (a := l5) (o := .lst us)
      generalize upd Hq l5 (.lst us) = Hr at *
      have g5 : Gd K (Off d c Hr) (.ref l5) := (rwq.same (off_same sr)).lst (off_get ⟨offl5.1, offl5.2⟩ e5) (by decide)
      refine ⟨by show 2 ≤ sizeLine; decide, fun q2 nq2 => ?_⟩
      have ss := same_new (o := .lst [.ref p4, .ref l5]) nq2
      have eq2 := upd_same (H := Hr) (a := q2) (o := .lst [.ref p4, .ref l5])
      generalize upd Hr q2 (.lst [.ref p4, .ref l5]) = Hs at *
      have sms := smq.trans (sr.trans ss)
      refine ⟨q1, q2, _, _, rfl, rfl, sms _ _ eq1m, eq2, by show 4 + 2 ≤ sizeLine; decide, fun q3 nq3 => ?_⟩
      have dks := dkm.kept sms
      have offq3 := dks.off nq3
      have st := same_new (o := .lst [.ref p0, .ref p1, .ref p2, .ref p3, .ref p4, .ref l5]) nq3
      have eq3 : (upd Hs q3 (.lst ([.ref p0, .ref p1, .ref p2, .ref p3] ++ [.ref p4, .ref l5]))) q3 = some (.lst [.ref p0, .ref p1, .ref p2, .ref p3, .ref p4, .ref l5]) := upd_same
      change Same Hs (upd Hs q3 (.lst ([.ref p0, .ref p1, .ref p2, .ref p3] ++ [.ref p4, .ref l5]))) at st
      generalize upd Hs q3 (.lst ([.ref p0, .ref p1, .ref p2, .ref p3] ++ [.ref p4, .ref l5])) = Ht at *
      have htt := st _ _ (sms _ _ htm)
      -- with a list for one
      have hbm : Hm b = some (.tup [.int x1, .int x2]) := kpm.tup dkl (sl _ _ (s3k _ _ hb3))
      refine ⟨.ref q3, rfl, .inl ⟨rfl, _, SqL.of eq3⟩, .ref t, rfl, .int _, rfl, _, rfl, sl_any htt (fun Hu pU su eU => ?_)⟩
      refine ⟨.ref t, rfl, .int _, rfl, t, us, _, .ref b, rfl, rfl, SqT.of (su _ _ htt), aB, b, _, rfl, .inr (SqT.of (su _ _ (st _ _ (sms _ _ hbm)))), fun l6 nl6 => ?_⟩
      have sv := same_new (o := .lst [.int x1, .int x2]) nl6
      have el6 := upd_same (H := Hu) (a := l6) (o := .lst [.int x1, .int x2])
      have nl63 : l6 ≠ q3 := (ne_of_none (su _ _ eq3) nl6).symm
      have offl6 := ((dks.kept st).kept su).off nl6
      generalize upd Hu l6 (.lst [.int x1, .int x2]) = Hv at *
      refine ⟨by show 1 ≤ sizeLine; decide, fun pw npw => ?_⟩
      have sw := same_new (o := .tup [.ref l6]) npw
      have ew := upd_same (H := Hv) (a := pw) (o := .tup [.ref l6])
      generalize upd Hv pw (.tup [.ref l6]) = Hw at *
      refine cat_any (sw _ _ (sv _ _ eU)) ew (by have := cl none (some (i : Int)); rw [big, List.length_singleton]; omega) (fun Hx pX sx eX => ?_)
      refine ⟨.ref t, rfl, .int _, rfl, _, _, rfl, rfl, _, rfl, ?_⟩
      dsimp only [tNoPart]
      refine sl_any (K := K) (lo := some ((i : Int) + 1)) (hi := none) (sx _ _ (sw _ _ (sv _ _ (su _ _ htt)))) (fun Hy pY sy eY => ?_)
      refine cat_any (sy _ _ eX) eY (by have := cl none (some (i : Int)); have := cl (some ((i : Int) + 1)) none; rw [big, List.length_append, List.length_singleton]; omega) (fun Hz p6 szz e6 => ?_)
      have stz := su.trans (sv.trans (sw.trans (sx.trans (sy.trans szz))))
      have eq3z := stz _ _ eq3
      refine ⟨q3, _, _, rfl, rfl, eq3z, by show 6 < sizeLine; decide, ?_⟩
      have ssA : Same Hs (upd Hz q3 (.lst ([.ref p0, .ref p1, .ref p2, .ref p3, .ref p4, .ref l5] ++ [.ref p6]))) := fun b' o e => by
        rw [upd_ne (ne_of_none e nq3)]
        exact stz _ _ (st _ _ e)
      have e6A : (upd Hz q3 (.lst ([.ref p0, .ref p1, .ref p2, .ref p3, .ref p4, .ref l5] ++ [.ref p6]))) p6 = some (.tup (cutV us none (some (i : Int)) ++ [.ref l6] ++ cutV us (some ((i : Int) + 1)) none)) := by
        rw [upd_ne (ne_of e6 eq3z (fun z => by cases z))]
        exact e6
      have el6A : (upd Hz q3 (.lst ([.ref p0, .ref p1, .ref p2, .ref p3, .ref p4, .ref l5] ++ [.ref p6]))) l6 = some (.lst [.int x1, .int x2]) := by
        rw [upd_ne nl63]
        exact szz _ _ (sy _ _ (sx _ _ (sw _ _ el6)))
      have eq3A : (upd Hz q3 (.lst ([.ref p0, .ref p1, .ref p2, .ref p3, .ref p4, .ref l5] ++ [.ref p6]))) q3 = some (.lst [.ref p0, .ref p1, .ref p2, .ref p3, .ref p4, .ref l5, .ref p6]) := upd_same
      generalize upd Hz q3 (.lst ([.ref p0, .ref p1, .ref p2, .ref p3, .ref p4, .ref l5] ++ [.ref p6])) = HA at *
      have dkA := dks.kept ssA
      have smA := sms.trans ssA
      have rwA := rwm.same (off_same (d := d) (c := c) smA)
      have dl6 : Dv K (Off d c HA) (.ref l6) (.list [.int x1, .int x2]) := .lst (off_get ⟨offl6.1, offl6.2⟩ el6A) (.cons (.int _) (.cons (.int _) .nil))
      have g6 : Gd K (Off d c HA) (.ref p6) := (((rwA.cut _ _).cat (Rw.one dl6 (lst_fi fi1))).cat (rwA.cut _ _)).tup (dkA.offT e6A) (by decide)
      have htA := smA _ _ htm
      -- the end of the menu
      refine ⟨.ref q3, rfl, .ref t, rfl, by show 1 ≤ sizeLine; decide, fun p7 np7 => ?_⟩
      have sB := same_new (o := .tup [.ref t]) np7
      have e7 := upd_same (H := HA) (a := p7) (o := .tup [.ref t])
      generalize upd HA p7 (.tup [.ref t]) = HB at *
      refine ⟨.ref t, rfl, by show 1 ≤ sizeLine; decide, fun pn npn => ?_⟩
      have sC := same_new (o := .tup [.non]) npn
      have en := upd_same (H := HB) (a := pn) (o := .tup [.non])
      generalize upd HB pn (.tup [.non]) = HC at *
      refine cat_any (sC _ _ (sB _ _ htA)) en (by rw [big, List.length_singleton]; omega) (fun HD p8 sD e8 => ?_)
      have sAD := sB.trans (sC.trans sD)
      refine ⟨.ref t, rfl, .int _, rfl, t, us, _, .ref b, rfl, rfl, SqT.of (sAD _ _ htA), aB, by show 3 ≤ sizeLine; decide, fun q5 nq5 => ?_⟩
      have sE := same_new (o := .lst [.ref p7, .ref p8, .ref b]) nq5
      have eq5 := upd_same (H := HD) (a := q5) (o := .lst [.ref p7, .ref p8, .ref b])
      generalize upd HD q5 (.lst [.ref p7, .ref p8, .ref b]) = HE at *
      have sAE := sAD.trans sE
      refine ⟨q3, q5, _, _, rfl, rfl, sAE _ _ eq3A, eq5, by show 7 + 3 ≤ sizeLine; decide, fun q6 nq6 => ?_⟩
      have dkE := dkA.kept sAE
      have offq6 := dkE.off nq6
      have sF : Same HE (upd HE q6 (.lst ([.ref p0, .ref p1, .ref p2, .ref p3, .ref p4, .ref l5, .ref p6] ++ [.ref p7, .ref p8, .ref b]))) := same_new nq6
      have eq6 : (upd HE q6 (.lst ([.ref p0, .ref p1, .ref p2, .ref p3, .ref p4, .ref l5, .ref p6] ++ [.ref p7, .ref p8, .ref b]))) q6 = some (.lst [.ref p0, .ref p1, .ref p2, .ref p3, .ref p4, .ref l5, .ref p6, .ref p7, .ref p8, .ref b]) := upd_same
      generalize upd HE q6 (.lst ([.ref p0, .ref p1, .ref p2, .ref p3, .ref p4, .ref l5, .ref p6] ++ [.ref p7, .ref p8, .ref b])) = HF at *
      have sAF := sAE.trans sF
      have smF := smA.trans sAF
      have dkF := dkE.kept sF
      have rwF := rwm.same (off_same (d := d) (c := c) smF)
      have allF : DvAll K (Off d c HF) us ds := dvAll_same (off_same smF) (dvAll_same (off_kp kpm) (dvAll_same (off_same (s3k.trans sl)) all3))
      have htF := smF _ _ htm
      have toM : Same (Off d c Hk) (Off d c HF) := fun b' o e => off_same smF b' o (off_kp kpm b' o (off_same sl b' o e))
      have menu : ∀ v ∈ [V.ref p0, .ref p1, .ref p2, .ref p3, .ref p4, .ref l5, .ref p6, .ref p7, .ref p8, .ref b], Gd K (Off d c HF) v := by
        intro v hv
        simp only [List.mem_cons, List.not_mem_nil, or_false] at hv
        rcases hv with rfl | rfl | rfl | rfl | rfl | rfl | rfl | rfl | rfl | rfl
        · exact (g0.same (off_same s7k)).same toM
        · exact (g1.same (off_same s9k)).same toM
        · exact (g2.same (off_same sek)).same toM
        · exact (g3.same (off_same sk)).same toM
        · exact g4.same (off_same (sr.trans (ss.trans (ssA.trans sAF))))
        · exact g5.same (off_same (ss.trans (ssA.trans sAF)))
        · exact g6.same (off_same sAF)
        · exact ⟨_, .tup (dkF.offT (sF _ _ (sE _ _ (sD _ _ (sC _ _ e7))))) (.cons (.tup (dkF.offT htF) allF) .nil), nest_vok fp few⟩
        · exact (rwF.cat (Rw.one .non ⟨Sm.none.mono (by decide) (by decide), fun es e => by cases e⟩)).tup (dkF.offT (sF _ _ (sE _ _ e8))) (by decide)
        · exact ⟨_, .tup (dkF.offT (smF _ _ hbm)) (.cons (.int _) (.cons (.int _) .nil)), pair_vok fdi⟩
      have ml : [V.ref p0, .ref p1, .ref p2, .ref p3, .ref p4, .ref l5, .ref p6, .ref p7, .ref p8, .ref b].length = 10 := rfl
      generalize [V.ref p0, .ref p1, .ref p2, .ref p3, .ref p4, .ref l5, .ref p6, .ref p7, .ref p8, .ref b] = items at *
      refine ⟨.ref d, rfl, d, c, _, 10, rfl, dkF, by omega, by omega, by decide, by decide, fun HG r kpG dkG r0 r1 => ?_⟩
      obtain ⟨m, rfl⟩ : ∃ m : Nat, r = m := ⟨r.toNat, by omega⟩
      have hm : m < items.length := by omega
      have em : items[m]? = some items[m] := List.getElem?_eq_getElem hm
      refine ⟨q6, items, m, items[m], rfl, rfl, SqL.of (kpG.keep offq6.1 offq6.2 eq6), atI_nat em, ?_⟩
      exact q _ _ _ (kpH3.trans ((Kp.same (s3k.trans sl)).trans (kpm.trans ((Kp.same smF).trans kpG)))) dkG (by omega) (by omega) ((menu _ (List.mem_of_getElem? em)).same (off_kp kpG))

def sp_law (K : PySem.W.Frag) : Sp := fun vs H Q _ => ∃ (a : Addr) (ns : List Int), vs = [.ref a] ∧ SqL K H a (ns.map V.int) ∧ ns.length ≤ 63 ∧ ∀ H', Q (.bl true) H'
theorem lim3 {r : Int} (h0 : 0 ≤ r) (h1 : r < 3) : ∃ L : Int, atI [V.int 4, .int 9, .int (10 ^ (12 : Int).toNat + 1)] r = some (.int L) ∧ 0 < L ∧ L ≤ 1000000000001 := by
  have : r = 0 ∨ r = 1 ∨ r = 2 := by omega
  rcases this with rfl | rfl | rfl
  · exact ⟨4, rfl, by decide, by decide⟩
  · exact ⟨9, rfl, by decide, by decide⟩
  · exact ⟨1000000000001, rfl, by decide, by decide⟩
theorem lim4 {r : Int} (h0 : 0 ≤ r) (h1 : r < 4) : ∃ L : Int, atI [V.int 24, .int 25, .int 30, .int 31] r = some (.int L) ∧ 0 < L ∧ L ≤ 31 := by
  have : r = 0 ∨ r = 1 ∨ r = 2 ∨ r = 3 := by omega
  rcases this with rfl | rfl | rfl | rfl
  · exact ⟨24, rfl, by decide, by decide⟩
  · exact ⟨25, rfl, by decide, by decide⟩
  · exact ⟨30, rfl, by decide, by decide⟩
  · exact ⟨31, rfl, by decide, by decide⟩
theorem ivs_rw {K : PySem.W.Frag} {d c : Addr} {n : Int} {H : Hp} (dk : Dk H d c n) : ∀ {vs : List V} {ps : List (Int × Int)}, Ivs H vs ps → (∀ p ∈ ps, 0 ≤ p.1 ∧ p.1 < 1000 ∧ 0 ≤ p.2 ∧ p.2 < 1000) → Rw K (Off d c H) ps.length vs
  | _, _, .nil, _ => ⟨[], .nil, (fun x hx => nomatch hx), Nat.le_refl _⟩
  | _, _, .cons (x := x) (y := y) e r, h => by
    obtain ⟨ds, h1, h2, h3⟩ := ivs_rw (K := K) dk r fun p hp => h p (List.mem_cons_of_mem _ hp)
    obtain ⟨x0, x1, y0, y1⟩ := h (x, y) List.mem_cons_self
    have x1' : x < 1000 := x1
    have x0' : 0 ≤ x := x0
    have y0' : 0 ≤ y := y0
    have y1' : y < 1000 := y1
    refine ⟨.tuple [.int x, .int y] :: ds, .cons (.tup (dk.offT e) (.cons (.int _) (.cons (.int _) .nil))) h1, fun r hr => ?_, by rw [List.length_cons, List.length_cons]; omega⟩
    rcases List.mem_cons.mp hr with rfl | hr
    · exact pair_fi (by omega) (by omega)
    · exact h2 r hr
theorem ok_law (T : Tx K mg f_is_number f_is_position f_is_tuple_of f_is_interval f_ascending_error f_targets_error f_is_targets f_is_pieces f_law_deck f_law_draw f_law_interval f_law_row f_law_is_number f_law_is_interval f_law_odd f_law_due f_law_changed f_law d_is_number d_is_position d_is_tuple_of d_is_interval d_ascending_error d_targets_error d_is_targets d_is_pieces d_law_deck d_law_draw d_law_interval d_law_row d_law_is_number d_law_is_interval d_law_odd d_law_due d_law_changed d_law t_LAST_POSITION t_MAX_TARGETS t_MAX_PIECES) (hM : ∃ mm, base.Ns sysModules mm) : FnG P w K mg base 7 f_law d_law ["_law_script"] (sp_law K) := by
  refine FnG.of T.F_law sc_law (fun {vs H Q} h => ?_) (fun cdv A outer s H vs Q hr hq h => ?_)
  · obtain ⟨a, ns, rfl, _⟩ := h
    rfl
  · obtain ⟨a, ns, rfl, hS, hlen, q⟩ := h
    refine ⟨_, (pss_cons (ps_set (i := 1) sc_law.nd rfl (Or.inl rfl) (pe_call (ok_law_deck T) (hr.mono (by decide)) (by rfl) T.g_law_deck T.F_law_deck.kp T.b_law_deck .nil pass0 (pa_cons (pv 0) pa_nil)))
      (pss_cons (ps_for PassesOwn.never rfl (pi_range1 (by rfl) T.z_range (pa_cons pe_int pa_nil)) (pg_name (i := 2) sc_law.nd rfl (Or.inr rfl))
      (pss_cons (ps_set (i := 3) sc_law.nd rfl (Or.inl rfl) (pe_call (ok_law_row T) (hr.mono (by decide)) (by rfl) T.g_law_row T.F_law_row.kp T.b_law_row .nil pass0 (pa_cons (pv 1) (pa_cons (pe_ix ix_list (pe_lst (pa_cons pe_int (pa_cons pe_int (pa_cons (pe_op op_add (pe_op op_pow pe_int pe_int) pe_int) pa_nil)))) (pe_call (ok_law_draw T) (hr.mono (by decide)) (by rfl) T.g_law_draw T.F_law_draw.kp T.b_law_draw .nil pass0 (pa_cons (pv 1) (pa_cons pe_int pa_nil))) (fun _ _ => rfl)) (pa_cons pe_int pa_nil)))))
      (pss_cons (ps_set (i := 4) sc_law.nd rfl (Or.inl rfl) (pe_callTy call_tuple_of (by rfl) T.z_tuple (by decide +kernel) (pa_cons (pe_lc (own := [("_law_k", 5)]) (g := (gName 5)) (tt := tYes) (by rfl) sc_law.nd (pi_range1 (by rfl) T.z_range (pa_cons (pe_ix ix_list (pe_lst (pa_cons pe_int (pa_cons pe_int (pa_cons pe_int (pa_cons pe_int pa_nil))))) (pe_call (ok_law_draw T) (hr.mono (by decide)) (by rfl) T.g_law_draw T.F_law_draw.kp T.b_law_draw .nil pass0 (pa_cons (pv 1) (pa_cons pe_int pa_nil))) (fun _ _ => rfl)) pa_nil)) (blkOk_by (own := [("_law_k", 5)]) (N := N_law) (sc := defScope s_law) (by decide +kernel)) (fun _ _ _ _ _ => (pg_name (i := 5) sc_law.nd rfl (Or.inl rfl))) (fun _ _ _ _ _ => pts_nil) (fun _ _ _ _ _ => (pe_tup (pa_cons (pv 5) (pa_cons (pe_op op_add (pv 5) (pv 2)) pa_nil))))) pa_nil)))
      (pss_one (ps_for PassesOwn.never rfl (pi_list (pe_lst (pa_cons (pv 3) (pa_cons (pe_call (ok_law_changed T) (hr.mono (by decide)) (by rfl) T.g_law_changed T.F_law_changed.kp T.b_law_changed .nil pass0 (pa_cons (pv 1) (pa_cons (pv 3) pa_nil))) (pa_cons (pe_call (ok_law_changed T) (hr.mono (by decide)) (by rfl) T.g_law_changed T.F_law_changed.kp T.b_law_changed .nil pass0 (pa_cons (pv 1) (pa_cons (pv 3) pa_nil))) (pa_cons (pv 4) (pa_cons (pe_call (ok_law_odd T) (hr.mono (by decide)) (by rfl) T.g_law_odd T.F_law_odd.kp T.b_law_odd .nil pass0 (pa_cons (pv 1) pa_nil)) (pa_cons (pe_tup pa_nil) pa_nil)))))))) (pg_name (i := 6) sc_law.nd rfl (Or.inl rfl))
      (pss_cons (ps_set (i := 7) sc_law.nd rfl (Or.inl rfl) (pe_callB (call_reprV hM hq hr.units) (by rfl) T.z_repr (by decide +kernel) (pa_cons (pv 6) pa_nil)))
      (pss_cons (ps_par (by rfl) sc_law.nd (i := 8) (j := 9) rfl rfl (by decide) rfl rfl (pa_cons (pe_call (ok_is_targets T) (hr.mono (by decide)) (by rfl) T.g_is_targets T.F_is_targets.kp T.b_is_targets .nil pass0 (pa_cons (pv 6) pa_nil)) (pa_cons (pe_call (ok_is_pieces T) (hr.mono (by decide)) (by rfl) T.g_is_pieces T.F_is_pieces.kp T.b_is_pieces .nil pass0 (pa_cons (pv 6) pa_nil)) pa_nil)) (by rfl))
      (pss_cons (ps_if (PW.pt (pw_or (pt_not (pt_val (pe_callB call_isi (by rfl) T.z_isinstance (by decide +kernel) (pa_cons (pv 8) (pa_cons (pe_bltn (v := .ty "bool") (u := .type "bool") (by rfl) T.z_bool (by decide +kernel) rfl) pa_nil))))) (pw_or1 (pt_not (pt_val (pe_callB call_isi (by rfl) T.z_isinstance (by decide +kernel) (pa_cons (pv 9) (pa_cons (pe_bltn (v := .ty "bool") (u := .type "bool") (by rfl) T.z_bool (by decide +kernel) rfl) pa_nil))))))))
      (pss_one (ps_ret pe_bl))
      pss_nil)
      (pss_one (ps_if (PW.pt (pw_or (pt_cmpR (op_neD hr.units) (pe_lst (pa_cons (pv 8) (pa_cons (pv 9) pa_nil))) (pe_lst (pa_cons (pe_call (ok_law_due T) (hr.mono (by decide)) (by rfl) T.g_law_due T.F_law_due.kp T.b_law_due .nil pass0 (pa_cons (pv 6) (pa_cons pe_int pa_nil))) (pa_cons (pe_call (ok_law_due T) (hr.mono (by decide)) (by rfl) T.g_law_due T.F_law_due.kp T.b_law_due .nil pass0 (pa_cons (pv 6) (pa_cons pe_int pa_nil))) pa_nil))) (nomark _)) (pw_or1 (pt_cmpR op_ne (pe_callB (call_reprV hM hq hr.units) (by rfl) T.z_repr (by decide +kernel) (pa_cons (pv 6) pa_nil)) (pv 7) (nomark _)))))
      (pss_one (ps_ret pe_bl))
      pss_nil))))))))))
      (pss_one (ps_ret pe_bl)))), ?_⟩
    refine ⟨.ref a, rfl, a, ns, rfl, hS, hlen, fun H1 d c s1 nd nc dk0 => ?_⟩
    refine ⟨8, rfl, by decide, by decide, for_range (n := 8) (fun i σ H' => (∃ n : Int, Dk H' d c n ∧ 0 ≤ n ∧ n ≤ 200 * i) ∧ ∃ y2 y3 y4 y5 y6 y7 y8 y9, σ = [some (.ref a), some (.ref d), y2, y3, y4, y5, y6, y7, y8, y9])
      ⟨⟨0, dk0, by decide, by decide⟩, _, _, _, _, _, _, _, _, rfl⟩ ?_ (fun σ H' _ => q H')⟩
    rintro i σ H2 hi ⟨⟨n, dk2, n0, n1⟩, y2, y3, y4, y5, y6, y7, y8, y9, rfl⟩
    -- the row
    refine ⟨.ref d, rfl, 10, 12, rfl, rfl, ⟨by decide, by decide, by decide⟩, _, _, rfl, rfl, by show 3 ≤ sizeLine; decide, fun p np => ?_⟩
    have off := dk2.off np
    refine ⟨.ref d, rfl, d, c, n, 3, rfl, dk2.kept (same_new np), n0, by omega, by decide, by decide, fun H3 r kp3 dk3 r0 r1 => ?_⟩
    obtain ⟨L, eL, L0, L1⟩ := lim3 r0 r1
    refine ⟨p, _, r, _, rfl, rfl, SqL.of (kp3.keep off.1 off.2 upd_same), eL, ?_⟩
    refine ⟨d, c, n + 1, L, 33, rfl, dk3, by omega, by omega, L0, L1, by decide, by decide, fun H4 t us ds n4 kp4 dk4 n40 n41 et all few fp => ?_⟩
    have len := all.length
    -- the long one
    refine ⟨by show 4 ≤ sizeLine; decide, fun p2 np2 => ?_⟩
    have off2 := dk4.off np2
    have s5 := same_new (o := .lst [.int 24, .int 25, .int 30, .int 31]) np2
    have ep2 := upd_same (H := H4) (a := p2) (o := .lst [.int 24, .int 25, .int 30, .int 31])
    generalize upd H4 p2 (.lst [.int 24, .int 25, .int 30, .int 31]) = H5 at *
    refine ⟨.ref d, rfl, d, c, n4, 4, rfl, dk4.kept s5, by omega, by omega, by decide, by decide, fun H6 r2 kp6 dk6 r20 r21 => ?_⟩
    obtain ⟨M, eM, M0, M1⟩ := lim4 r20 r21
    refine ⟨p2, _, r2, _, rfl, rfl, SqL.of (kp6.keep off2.1 off2.2 ep2), eM, ?_⟩
    refine ⟨M, rfl, by omega, by omega, fun D nD => ?_⟩
    have et6 := kp6.tup (dk4.kept s5) (s5 _ _ et)
    refine lc_range (lo := 0) (n := M.toNat) (fun k H' => Same H6 H' ∧ ∃ ws ps, H' D = some (.lst ws) ∧ Ivs H' ws ps ∧ ps.length = k ∧ ∀ p ∈ ps, 0 ≤ p.1 ∧ p.1 < 1000 ∧ 0 ≤ p.2 ∧ p.2 < 1000) ⟨same_new nD, [], [], upd_same, .nil, rfl, fun p hp => nomatch hp⟩ ?_ ?_
    · rintro k H7 hk ⟨sm, ws, ps, eD, iv, pl, low⟩
      refine ⟨rfl, .int _, rfl, .int _, rfl, .int _, rfl, _, _, rfl, rfl, by show 2 ≤ sizeLine; decide, fun t2 nt2 => ?_⟩
      have s8 := same_new (o := .tup [.int (0 + (k : Int)), .int (0 + (k : Int) + (0 + (i : Int)))]) nt2
      have et2 := upd_same (H := H7) (a := t2) (o := .tup [.int (0 + (k : Int)), .int (0 + (k : Int) + (0 + (i : Int)))])
      generalize upd H7 t2 (.tup [.int (0 + (k : Int)), .int (0 + (k : Int) + (0 + (i : Int)))]) = H8 at *
      have eD8 := s8 _ _ eD
      have ntD : t2 ≠ D := ne_of et2 eD8 (fun z => by cases z)
      refine ⟨ws, eD8, small1000 (by rw [iv.length, pl]; omega), fun b o e => ?_, _, ps ++ [(0 + (k : Int), 0 + (k : Int) + (0 + (i : Int)))], upd_same, ?_, ?_, ?_⟩
      · rw [upd_ne (ne_of_none e nD)]
        exact s8 _ _ (sm b o e)
      · have up : ∀ {vs : List V} {qs : List (Int × Int)}, Ivs H8 vs qs → Ivs (upd H8 D (.lst (ws ++ [.ref t2]))) vs qs := by
          intro vs qs hv
          induction hv with
          | nil => exact .nil
          | cons e' _ ih =>
            refine .cons ?_ ih
            rw [upd_ne (ne_of e' eD8 (fun z => by cases z))]
            exact e'
        refine (up (iv.same s8)).snoc ?_
        rw [upd_ne ntD]
        exact et2
      · rw [List.length_append, List.length_singleton, pl]
      · intro q1 hq1
        rcases List.mem_append.mp hq1 with hq1 | hq1
        · exact low q1 hq1
        · rw [List.mem_singleton.mp hq1]
          exact ⟨by show (0 : Int) ≤ 0 + (k : Int); omega, by show 0 + (k : Int) < 1000; omega, by show (0 : Int) ≤ 0 + (k : Int) + (0 + (i : Int)); omega, by show 0 + (k : Int) + (0 + (i : Int)) < 1000; omega⟩
    rintro H7 ⟨sm7, ws, ps, eD, iv, pl, low⟩
    refine ⟨D, ws, rfl, .inl ⟨SqL.of eD, fun tl ntl => ?_⟩⟩
    have s8 := same_new (o := .tup ws) ntl
    have etl := upd_same (H := H7) (a := tl) (o := .tup ws)
    generalize upd H7 tl (.tup ws) = H8 at *
    have s68 := sm7.trans s8
    have dk8 := dk6.kept s68
    have et8 := s68 _ _ et6
    have gl : Gd K (Off d c H8) (.ref tl) := (ivs_rw dk8 (iv.same s8) low).tup (dk8.offT etl) (by omega)
    have all8 : DvAll K (Off d c H8) us ds := dvAll_same (off_same s68) (dvAll_same (off_kp kp6) (dvAll_same (off_same s5) all))
    have fi : ∀ x ∈ ds, Fi x := fun x hx => (fp x hx).1
    have gt : Gd K (Off d c H8) (.ref t) := ⟨_, .tup (dk8.offT et8) all8, (row_vok fi (by omega)).1⟩
    -- the values
    refine ⟨.ref t, rfl, .ref d, rfl, .ref t, rfl, d, c, t, _, us, ds, rfl, dk8, by omega, by omega, et8, all8, by omega, fp, fun H9 v1 n9 kp9 dk9 n90 n91 g1 => ?_⟩
    have et9 := kp9.tup dk8 et8
    have all9 := dvAll_same (off_kp kp9) all8
    refine ⟨.ref d, rfl, .ref t, rfl, d, c, t, _, us, ds, rfl, dk9, by omega, by omega, et9, all9, by omega, fp, fun Ha v2 na kpa dka na0 na1 g2 => ?_⟩
    refine ⟨.ref tl, rfl, .ref d, rfl, d, c, _, rfl, dka, by omega, by omega, fun Hb vo dd kpb dkb hvo0 hin => ?_⟩
    have go : Gd K (Off d c Hb) vo := ⟨dd, dv_same (new_off dka) hvo0, odd_vok hin⟩
    refine ⟨by show 0 ≤ sizeLine; decide, fun pe npe => ?_⟩
    have sc := same_new (o := .tup []) npe
    have epe := upd_same (H := Hb) (a := pe) (o := .tup [])
    generalize upd Hb pe (.tup []) = Hc at *
    refine ⟨by show 6 ≤ sizeLine; decide, fun pv npv => ?_⟩
    have sd := same_new (o := .lst [.ref t, v1, v2, .ref tl, vo, .ref pe]) npv
    have epv := upd_same (H := Hc) (a := pv) (o := .lst [.ref t, v1, v2, .ref tl, vo, .ref pe])
    generalize upd Hc pv (.lst [.ref t, v1, v2, .ref tl, vo, .ref pe]) = Hd at *
    have sbd := sc.trans sd
    have dkd := dkb.kept sbd
    have k8 : Same (Off d c H8) (Off d c Hd) := fun b o e => off_same sbd b o (off_kp kpb b o (off_kp kpa b o (off_kp kp9 b o e)))
    have k9 : Same (Off d c H9) (Off d c Hd) := fun b o e => off_same sbd b o (off_kp kpb b o (off_kp kpa b o e))
    have ka : Same (Off d c Ha) (Off d c Hd) := fun b o e => off_same sbd b o (off_kp kpb b o e)
    have ge : Gd K (Off d c Hd) (.ref pe) := ⟨_, .tup (dkd.offT (sd _ _ epe)) .nil, (row_vok (ds := []) (fun x hx => nomatch hx) (by decide)).1⟩
    have vals : ∀ v ∈ [V.ref t, v1, v2, .ref tl, vo, .ref pe], Gd K Hd v := by
      intro v hv
      simp only [List.mem_cons, List.not_mem_nil, or_false] at hv
      rcases hv with rfl | rfl | rfl | rfl | rfl | rfl
      · exact (gt.same k8).same off_sub
      · exact (g1.same k9).same off_sub
      · exact (g2.same ka).same off_sub
      · exact (gl.same k8).same off_sub
      · exact (go.same (off_same sbd)).same off_sub
      · exact ge.same off_sub
    generalize [V.ref t, v1, v2, .ref tl, vo, .ref pe] = vs at *
    refine ⟨pv, rfl, ⟨_, SqL.of epv⟩, for_list (K := K) (a := pv) (xs := vs) (fun j σ H' => Same Hd H' ∧ ∃ z6 z7 z8 z9, σ = [some (.ref a), some (.ref d), some (.int (0 + (i : Int))), some (.ref t), some (.ref tl), y5, z6, z7, z8, z9])
      ⟨Same.refl _, _, _, _, _, rfl⟩ (fun j σ H' _ h => h.1.seq (SqL.of epv)) ?_ ?_⟩
    · rintro j v σ He hj ⟨sm, w6, w7, w8, w9, rfl⟩
      obtain ⟨x, hv, smx, shx⟩ := vals v (List.mem_of_getElem? hj)
      replace hv := dv_same sm hv
      refine ⟨v, rfl, v, x, _, _, rfl, hv, smx, by decide, by decide, ?_⟩
      refine ⟨v, rfl, v, x, rfl, hv, fun Hf sf => ?_⟩
      have hvf := dv_same sf hv
      refine ⟨v, rfl, v, x, rfl, hvf, fun Hg sg => ?_⟩
      have hvg := dv_same sg hvf
      refine ⟨_, _, rfl, ?_⟩
      generalize eb1 : noneB (errD 24 x) = b1
      generalize eb2 : noneB (errD 30 x) = b2
      refine ⟨.bl b1, rfl, .bl b1, .ty "bool", _, _, _, rfl, .ty "bool", (Dv.bl (K := K) (H := Hg) b1).ty, kit_bool (.bool b1), _, rfl, ?_⟩
      refine iteF ?_
      refine ⟨.bl b2, rfl, .bl b2, .ty "bool", _, _, _, rfl, .ty "bool", (Dv.bl (K := K) (H := Hg) b2).ty, kit_bool (.bool b2), _, rfl, ?_⟩
      refine iteF ?_
      refine ⟨.bl b1, rfl, .bl b2, rfl, by show 2 ≤ sizeLine; decide, fun l1 nl1 => ?_⟩
      have sh := same_new (o := .lst [.bl b1, .bl b2]) nl1
      have el1 := upd_same (H := Hg) (a := l1) (o := .lst [.bl b1, .bl b2])
      generalize upd Hg l1 (.lst [.bl b1, .bl b2]) = Hh at *
      have hvh := dv_same sh hvg
      refine ⟨v, rfl, v, x, 24, rfl, hvh, shx, fun Hi si => ?_⟩
      have hvi := dv_same si hvh
      refine ⟨v, rfl, v, x, 30, rfl, hvi, shx, fun Hj sj => ?_⟩
      have hvj := dv_same sj hvi
      rw [eb1, eb2]
      refine ⟨by show 2 ≤ sizeLine; decide, fun l2 nl2 => ?_⟩
      have sk := same_new (o := .lst [.bl b1, .bl b2]) nl2
      have el2 := upd_same (H := Hj) (a := l2) (o := .lst [.bl b1, .bl b2])
      generalize upd Hj l2 (.lst [.bl b1, .bl b2]) = Hk at *
      have hvk := dv_same sk hvj
      refine ⟨.list [.bool b1, .bool b2], .list [.bool b1, .bool b2], .lst (SqL.of (sk _ _ (sj _ _ (si _ _ el1)))) (.cons (.bl _) (.cons (.bl _) .nil)), .lst (SqL.of el2) (.cons (.bl _) (.cons (.bl _) .nil)), rfl, rfl, _, rfl, ?_⟩
      have same2 : PyData.eqv (.list [.bool b1, .bool b2]) (.list [.bool b1, .bool b2]) = true := by
        cases b1 <;> cases b2 <;> rfl
      rw [same2]
      refine iteF ?_
      refine ⟨v, rfl, v, x, _, _, rfl, hvk, smx, by decide, by decide, _, rfl, rfl, _, rfl, ?_⟩
      refine iteNS rfl ?_
      exact ⟨sm.trans (sf.trans (sg.trans (sh.trans (si.trans (sj.trans sk))))), _, _, _, _, rfl⟩
    · rintro σ He ⟨sm, w6, w7, w8, w9, rfl⟩
      exact ⟨⟨_, dkd.kept sm, by omega, by omega⟩, _, _, _, _, _, _, _, _, rfl⟩
end
theorem all_mk {l : PySem.W.OpenLaw} {w : World} {K : PySem.W.Frag} {h : Heap} {mg : Str → Option Value} {fa f1 f2 f3 f4 f5 f6 f7 f8 f9 f10 f11 f12 f13 f14 f15 f16 f17 f18 : Addr} (X : K.In h) (G : h.Ns mainGlobals mg) (hfa : mg "law" = some (.ref fa))
    {od1 an1 od2 an2 od3 an3 od4 an4 od5 an5 od6 an6 od7 an7 od8 an8 od9 an9 od10 an10 od11 an11 od12 an12 od13 an13 od14 an14 od15 an15 od16 an16 od17 an17 od18 an18 : Option Addr} {sl1 sl2 sl3 sl4 sl5 sl6 sl7 sl8 sl9 sl10 sl11 sl12 sl13 sl14 sl15 sl16 sl17 sl18 : Array (Option Value)} {oc1 kV1 dc1 pm1 cd1 ct1 oc2 kV2 dc2 pm2 cd2 ct2 oc3 kV3 dc3 pm3 cd3 ct3 oc4 kV4 dc4 pm4 cd4 ct4 oc5 kV5 dc5 pm5 cd5 ct5 oc6 kV6 dc6 pm6 cd6 ct6 oc7 kV7 dc7 pm7 cd7 ct7 oc8 kV8 dc8 pm8 cd8 ct8 oc9 kV9 dc9 pm9 cd9 ct9 oc10 kV10 dc10 pm10 cd10 ct10 oc11 kV11 dc11 pm11 cd11 ct11 oc12 kV12 dc12 pm12 cd12 ct12 oc13 kV13 dc13 pm13 cd13 ct13 oc14 kV14 dc14 pm14 cd14 ct14 oc15 kV15 dc15 pm15 cd15 ct15 oc16 kV16 dc16 pm16 cd16 ct16 oc17 kV17 dc17 pm17 cd17 ct17 oc18 kV18 dc18 pm18 cd18 ct18 : Value} {tk0 tk1 tk2 : Tok}
    (a1 : PySem.W.nsIn K mainGlobals "is_number" = some (some (.ref f1))) (l1 : K.lookup f1 = some ⟨oc1, od1, .func (PySem.W.fnOf "is_number" "is_number" (defArgs s_is_number) (defBody s_is_number) (defScope s_is_number) .none kV1 dc1 pm1 an1 cd1 ct1), sl1⟩) (c1 : PySem.W.codeIn K cd1 "is_number" = true) (k1 : PySem.W.keepIn K (.ref f1) = true)
    (a2 : PySem.W.nsIn K mainGlobals "is_position" = some (some (.ref f2))) (l2 : K.lookup f2 = some ⟨oc2, od2, .func (PySem.W.fnOf "is_position" "is_position" (defArgs s_is_position) (defBody s_is_position) (defScope s_is_position) .none kV2 dc2 pm2 an2 cd2 ct2), sl2⟩) (c2 : PySem.W.codeIn K cd2 "is_position" = true) (k2 : PySem.W.keepIn K (.ref f2) = true)
    (a3 : PySem.W.nsIn K mainGlobals "is_tuple_of" = some (some (.ref f3))) (l3 : K.lookup f3 = some ⟨oc3, od3, .func (PySem.W.fnOf "is_tuple_of" "is_tuple_of" (defArgs s_is_tuple_of) (defBody s_is_tuple_of) (defScope s_is_tuple_of) .none kV3 dc3 pm3 an3 cd3 ct3), sl3⟩) (c3 : PySem.W.codeIn K cd3 "is_tuple_of" = true) (k3 : PySem.W.keepIn K (.ref f3) = true)
    (a4 : PySem.W.nsIn K mainGlobals "is_interval" = some (some (.ref f4))) (l4 : K.lookup f4 = some ⟨oc4, od4, .func (PySem.W.fnOf "is_interval" "is_interval" (defArgs s_is_interval) (defBody s_is_interval) (defScope s_is_interval) .none kV4 dc4 pm4 an4 cd4 ct4), sl4⟩) (c4 : PySem.W.codeIn K cd4 "is_interval" = true) (k4 : PySem.W.keepIn K (.ref f4) = true)
    (a5 : PySem.W.nsIn K mainGlobals "ascending_error" = some (some (.ref f5))) (l5 : K.lookup f5 = some ⟨oc5, od5, .func (PySem.W.fnOf "ascending_error" "ascending_error" (defArgs s_ascending_error) (defBody s_ascending_error) (defScope s_ascending_error) .none kV5 dc5 pm5 an5 cd5 ct5), sl5⟩) (c5 : PySem.W.codeIn K cd5 "ascending_error" = true) (k5 : PySem.W.keepIn K (.ref f5) = true)
    (a6 : PySem.W.nsIn K mainGlobals "targets_error" = some (some (.ref f6))) (l6 : K.lookup f6 = some ⟨oc6, od6, .func (PySem.W.fnOf "targets_error" "targets_error" (defArgs s_targets_error) (defBody s_targets_error) (defScope s_targets_error) .none kV6 dc6 pm6 an6 cd6 ct6), sl6⟩) (c6 : PySem.W.codeIn K cd6 "targets_error" = true) (k6 : PySem.W.keepIn K (.ref f6) = true)
    (a7 : PySem.W.nsIn K mainGlobals "is_targets" = some (some (.ref f7))) (l7 : K.lookup f7 = some ⟨oc7, od7, .func (PySem.W.fnOf "is_targets" "is_targets" (defArgs s_is_targets) (defBody s_is_targets) (defScope s_is_targets) .none kV7 dc7 pm7 an7 cd7 ct7), sl7⟩) (c7 : PySem.W.codeIn K cd7 "is_targets" = true) (k7 : PySem.W.keepIn K (.ref f7) = true)
    (a8 : PySem.W.nsIn K mainGlobals "is_pieces" = some (some (.ref f8))) (l8 : K.lookup f8 = some ⟨oc8, od8, .func (PySem.W.fnOf "is_pieces" "is_pieces" (defArgs s_is_pieces) (defBody s_is_pieces) (defScope s_is_pieces) .none kV8 dc8 pm8 an8 cd8 ct8), sl8⟩) (c8 : PySem.W.codeIn K cd8 "is_pieces" = true) (k8 : PySem.W.keepIn K (.ref f8) = true)
    (a9 : PySem.W.nsIn K mainGlobals "_law_deck" = some (some (.ref f9))) (l9 : K.lookup f9 = some ⟨oc9, od9, .func (PySem.W.fnOf "_law_deck" "_law_deck" (defArgs s_law_deck) (defBody s_law_deck) (defScope s_law_deck) .none kV9 dc9 pm9 an9 cd9 ct9), sl9⟩) (c9 : PySem.W.codeIn K cd9 "_law_deck" = true) (k9 : PySem.W.keepIn K (.ref f9) = true)
    (a10 : PySem.W.nsIn K mainGlobals "_law_draw" = some (some (.ref f10))) (l10 : K.lookup f10 = some ⟨oc10, od10, .func (PySem.W.fnOf "_law_draw" "_law_draw" (defArgs s_law_draw) (defBody s_law_draw) (defScope s_law_draw) .none kV10 dc10 pm10 an10 cd10 ct10), sl10⟩) (c10 : PySem.W.codeIn K cd10 "_law_draw" = true) (k10 : PySem.W.keepIn K (.ref f10) = true)
    (a11 : PySem.W.nsIn K mainGlobals "_law_interval" = some (some (.ref f11))) (l11 : K.lookup f11 = some ⟨oc11, od11, .func (PySem.W.fnOf "_law_interval" "_law_interval" (defArgs s_law_interval) (defBody s_law_interval) (defScope s_law_interval) .none kV11 dc11 pm11 an11 cd11 ct11), sl11⟩) (c11 : PySem.W.codeIn K cd11 "_law_interval" = true) (k11 : PySem.W.keepIn K (.ref f11) = true)
    (a12 : PySem.W.nsIn K mainGlobals "_law_row" = some (some (.ref f12))) (l12 : K.lookup f12 = some ⟨oc12, od12, .func (PySem.W.fnOf "_law_row" "_law_row" (defArgs s_law_row) (defBody s_law_row) (defScope s_law_row) .none kV12 dc12 pm12 an12 cd12 ct12), sl12⟩) (c12 : PySem.W.codeIn K cd12 "_law_row" = true) (k12 : PySem.W.keepIn K (.ref f12) = true)
    (a13 : PySem.W.nsIn K mainGlobals "_law_is_number" = some (some (.ref f13))) (l13 : K.lookup f13 = some ⟨oc13, od13, .func (PySem.W.fnOf "_law_is_number" "_law_is_number" (defArgs s_law_is_number) (defBody s_law_is_number) (defScope s_law_is_number) .none kV13 dc13 pm13 an13 cd13 ct13), sl13⟩) (c13 : PySem.W.codeIn K cd13 "_law_is_number" = true) (k13 : PySem.W.keepIn K (.ref f13) = true)
    (a14 : PySem.W.nsIn K mainGlobals "_law_is_interval" = some (some (.ref f14))) (l14 : K.lookup f14 = some ⟨oc14, od14, .func (PySem.W.fnOf "_law_is_interval" "_law_is_interval" (defArgs s_law_is_interval) (defBody s_law_is_interval) (defScope s_law_is_interval) .none kV14 dc14 pm14 an14 cd14 ct14), sl14⟩) (c14 : PySem.W.codeIn K cd14 "_law_is_interval" = true) (k14 : PySem.W.keepIn K (.ref f14) = true)
    (a15 : PySem.W.nsIn K mainGlobals "_law_odd" = some (some (.ref f15))) (l15 : K.lookup f15 = some ⟨oc15, od15, .func (PySem.W.fnOf "_law_odd" "_law_odd" (defArgs s_law_odd) (defBody s_law_odd) (defScope s_law_odd) .none kV15 dc15 pm15 an15 cd15 ct15), sl15⟩) (c15 : PySem.W.codeIn K cd15 "_law_odd" = true) (k15 : PySem.W.keepIn K (.ref f15) = true)
    (a16 : PySem.W.nsIn K mainGlobals "_law_due" = some (some (.ref f16))) (l16 : K.lookup f16 = some ⟨oc16, od16, .func (PySem.W.fnOf "_law_due" "_law_due" (defArgs s_law_due) (defBody s_law_due) (defScope s_law_due) .none kV16 dc16 pm16 an16 cd16 ct16), sl16⟩) (c16 : PySem.W.codeIn K cd16 "_law_due" = true) (k16 : PySem.W.keepIn K (.ref f16) = true)
    (a17 : PySem.W.nsIn K mainGlobals "_law_changed" = some (some (.ref f17))) (l17 : K.lookup f17 = some ⟨oc17, od17, .func (PySem.W.fnOf "_law_changed" "_law_changed" (defArgs s_law_changed) (defBody s_law_changed) (defScope s_law_changed) .none kV17 dc17 pm17 an17 cd17 ct17), sl17⟩) (c17 : PySem.W.codeIn K cd17 "_law_changed" = true) (k17 : PySem.W.keepIn K (.ref f17) = true)
    (a18 : PySem.W.nsIn K mainGlobals "law" = some (some (.ref f18))) (l18 : K.lookup f18 = some ⟨oc18, od18, .func (PySem.W.fnOf "law" "law" (defArgs s_law) (defBody s_law) (defScope s_law) .none kV18 dc18 pm18 an18 cd18 ct18), sl18⟩) (c18 : PySem.W.codeIn K cd18 "law" = true) (k18 : PySem.W.keepIn K (.ref f18) = true)
    (y0 : PySem.W.nsIn K mainGlobals "LAST_POSITION" = some (some (.int 1000000000000 tk0))) (y1 : PySem.W.nsIn K mainGlobals "MAX_TARGETS" = some (some (.int 24 tk1))) (y2 : PySem.W.nsIn K mainGlobals "MAX_PIECES" = some (some (.int 30 tk2))) (z0 : PySem.W.nsIn K mainGlobals "abs" = some none) (z1 : PySem.W.nsIn K mainGlobals "bool" = some none) (z2 : PySem.W.nsIn K mainGlobals "enumerate" = some none) (z3 : PySem.W.nsIn K mainGlobals "int" = some none) (z4 : PySem.W.nsIn K mainGlobals "isinstance" = some none) (z5 : PySem.W.nsIn K mainGlobals "len" = some none) (z6 : PySem.W.nsIn K mainGlobals "list" = some none) (z7 : PySem.W.nsIn K mainGlobals "range" = some none) (z8 : PySem.W.nsIn K mainGlobals "repr" = some none) (z9 : PySem.W.nsIn K mainGlobals "set" = some none) (z10 : PySem.W.nsIn K mainGlobals "sorted" = some none) (z11 : PySem.W.nsIn K mainGlobals "tuple" = some none) :
    ∃ fd : FuncData, (∀ (s : Shared) (v : Value), BindsTo s fd ⟨[v], []⟩ [("_law_script", v)]) ∧ ∀ base : Heap, K.In base → base.Ns mainGlobals mg → (∃ mm, base.Ns sysModules mm) → FnG l.prog w K mg base 7 fa fd ["_law_script"] (sp_law K) := by
  have e := hfa.symm.trans (PySem.W.mg_of X G a18)
  cases e
  have F1 := fun_mk (st := s_is_number) l1 c1 k1
  have b1 := F1.binds (ps := ["value"]) fun _ _ _ _ _ _ us hl => match us, hl with | [_], _ => rfl
  have F2 := fun_mk (st := s_is_position) l2 c2 k2
  have b2 := F2.binds (ps := ["value"]) fun _ _ _ _ _ _ us hl => match us, hl with | [_], _ => rfl
  have F3 := fun_mk (st := s_is_tuple_of) l3 c3 k3
  have b3 := F3.binds (ps := ["value", "length"]) fun _ _ _ _ _ _ us hl => match us, hl with | [_, _], _ => rfl
  have F4 := fun_mk (st := s_is_interval) l4 c4 k4
  have b4 := F4.binds (ps := ["value"]) fun _ _ _ _ _ _ us hl => match us, hl with | [_], _ => rfl
  have F5 := fun_mk (st := s_ascending_error) l5 c5 k5
  have b5 := F5.binds (ps := ["value", "most"]) fun _ _ _ _ _ _ us hl => match us, hl with | [_, _], _ => rfl
  have F6 := fun_mk (st := s_targets_error) l6 c6 k6
  have b6 := F6.binds (ps := ["value"]) fun _ _ _ _ _ _ us hl => match us, hl with | [_], _ => rfl
  have F7 := fun_mk (st := s_is_targets) l7 c7 k7
  have b7 := F7.binds (ps := ["value"]) fun _ _ _ _ _ _ us hl => match us, hl with | [_], _ => rfl
  have F8 := fun_mk (st := s_is_pieces) l8 c8 k8
  have b8 := F8.binds (ps := ["value"]) fun _ _ _ _ _ _ us hl => match us, hl with | [_], _ => rfl
  have F9 := fun_mk (st := s_law_deck) l9 c9 k9
  have b9 := F9.binds (ps := ["_law_script"]) fun _ _ _ _ _ _ us hl => match us, hl with | [_], _ => rfl
  have F10 := fun_mk (st := s_law_draw) l10 c10 k10
  have b10 := F10.binds (ps := ["_law_deck_here", "_law_limit"]) fun _ _ _ _ _ _ us hl => match us, hl with | [_, _], _ => rfl
  have F11 := fun_mk (st := s_law_interval) l11 c11 k11
  have b11 := F11.binds (ps := ["_law_deck_here", "_law_limit"]) fun _ _ _ _ _ _ us hl => match us, hl with | [_, _], _ => rfl
  have F12 := fun_mk (st := s_law_row) l12 c12 k12
  have b12 := F12.binds (ps := ["_law_deck_here", "_law_limit", "_law_most"]) fun _ _ _ _ _ _ us hl => match us, hl with | [_, _, _], _ => rfl
  have F13 := fun_mk (st := s_law_is_number) l13 c13 k13
  have b13 := F13.binds (ps := ["_law_value", "_law_low", "_law_high"]) fun _ _ _ _ _ _ us hl => match us, hl with | [_, _, _], _ => rfl
  have F14 := fun_mk (st := s_law_is_interval) l14 c14 k14
  have b14 := F14.binds (ps := ["_law_value"]) fun _ _ _ _ _ _ us hl => match us, hl with | [_], _ => rfl
  have F15 := fun_mk (st := s_law_odd) l15 c15 k15
  have b15 := F15.binds (ps := ["_law_deck_here"]) fun _ _ _ _ _ _ us hl => match us, hl with | [_], _ => rfl
  have F16 := fun_mk (st := s_law_due) l16 c16 k16
  have b16 := F16.binds (ps := ["_law_value", "_law_most"]) fun _ _ _ _ _ _ us hl => match us, hl with | [_, _], _ => rfl
  have F17 := fun_mk (st := s_law_changed) l17 c17 k17
  have b17 := F17.binds (ps := ["_law_deck_here", "_law_row_here"]) fun _ _ _ _ _ _ us hl => match us, hl with | [_, _], _ => rfl
  have F18 := fun_mk (st := s_law) l18 c18 k18
  have b18 := F18.binds (ps := ["_law_script"]) fun _ _ _ _ _ _ us hl => match us, hl with | [_], _ => rfl
  have T : Tx K mg _ _ _ _ _ _ _ _ _ _ _ _ _ _ _ _ _ _ _ _ _ _ _ _ _ _ _ _ _ _ _ _ _ _ _ _ tk0 tk1 tk2 := ⟨F1, b1, PySem.W.mg_of X G a1, F2, b2, PySem.W.mg_of X G a2, F3, b3, PySem.W.mg_of X G a3, F4, b4, PySem.W.mg_of X G a4, F5, b5, PySem.W.mg_of X G a5, F6, b6, PySem.W.mg_of X G a6, F7, b7, PySem.W.mg_of X G a7, F8, b8, PySem.W.mg_of X G a8, F9, b9, PySem.W.mg_of X G a9, F10, b10, PySem.W.mg_of X G a10, F11, b11, PySem.W.mg_of X G a11, F12, b12, PySem.W.mg_of X G a12, F13, b13, PySem.W.mg_of X G a13, F14, b14, PySem.W.mg_of X G a14, F15, b15, PySem.W.mg_of X G a15, F16, b16, PySem.W.mg_of X G a16, F17, b17, PySem.W.mg_of X G a17, F18, b18, PySem.W.mg_of X G a18, PySem.W.mg_of X G y0, PySem.W.mg_of X G y1, PySem.W.mg_of X G y2, PySem.W.mg_none_of X G z0, PySem.W.mg_none_of X G z1, PySem.W.mg_none_of X G z2, PySem.W.mg_none_of X G z3, PySem.W.mg_none_of X G z4, PySem.W.mg_none_of X G z5, PySem.W.mg_none_of X G z6, PySem.W.mg_none_of X G z7, PySem.W.mg_none_of X G z8, PySem.W.mg_none_of X G z9, PySem.W.mg_none_of X G z10, PySem.W.mg_none_of X G z11⟩
  exact ⟨_, fun s v => .of_eq rfl, fun base _ _ hM => ok_law T hM⟩
end L9
open PySem PySem.W PyProof.Rows
set_option maxHeartbeats 0 in
theorem PySem.Challenge.cw_fewspans_k01_targets_and_pieces_judged_holds : PySem.Challenge.rw_fewspans_k01_targets_and_pieces_judged.Holds := by
  w_on; o_law; k_head; (case hw => w_witness2)
  k_fill
  refine L9.quiet_walk (l := PySem.Challenge.rw_fewspans_k01_targets_and_pieces_judged) (n := 63) (k := 7) (x := "_law_script") (sp := fun w => L9.sp_law _) (by decide +kernel) rfl (by decide) rfl ⟨rfl, by decide, by decide⟩ (fun w h Y => PySem.W.kIn_of Y) ?F (fun _ _ a ns hl _ hS => ⟨a, ns, rfl, hS, hl, fun _ => rfl⟩)
  case F =>
    intro w mg fa h KX G hmg
    refine' L9.all_mk KX G hmg ?a1 ?l1 ?c1 ?k1 ?a2 ?l2 ?c2 ?k2 ?a3 ?l3 ?c3 ?k3 ?a4 ?l4 ?c4 ?k4 ?a5 ?l5 ?c5 ?k5 ?a6 ?l6 ?c6 ?k6 ?a7 ?l7 ?c7 ?k7 ?a8 ?l8 ?c8 ?k8 ?a9 ?l9 ?c9 ?k9 ?a10 ?l10 ?c10 ?k10 ?a11 ?l11 ?c11 ?k11 ?a12 ?l12 ?c12 ?k12 ?a13 ?l13 ?c13 ?k13 ?a14 ?l14 ?c14 ?k14 ?a15 ?l15 ?c15 ?k15 ?a16 ?l16 ?c16 ?k16 ?a17 ?l17 ?c17 ?k17 ?a18 ?l18 ?c18 ?k18 ?y0 ?y1 ?y2 ?z0 ?z1 ?z2 ?z3 ?z4 ?z5 ?z6 ?z7 ?z8 ?z9 ?z10 ?z11
    (case a1 => k_is)
    (case l1 => k_is)
    (case c1 => k_is)
    (case k1 => k_is)
    (case a2 => k_is)
    (case l2 => k_is)
    (case c2 => k_is)
    (case k2 => k_is)
    (case a3 => k_is)
    (case l3 => k_is)
    (case c3 => k_is)
    (case k3 => k_is)
    (case a4 => k_is)
    (case l4 => k_is)
    (case c4 => k_is)
    (case k4 => k_is)
    (case a5 => k_is)
    (case l5 => k_is)
    (case c5 => k_is)
    (case k5 => k_is)
    (case a6 => k_is)
    (case l6 => k_is)
    (case c6 => k_is)
    (case k6 => k_is)
    (case a7 => k_is)
    (case l7 => k_is)
    (case c7 => k_is)
    (case k7 => k_is)
    (case a8 => k_is)
    (case l8 => k_is)
    (case c8 => k_is)
    (case k8 => k_is)
    (case a9 => k_is)
    (case l9 => k_is)
    (case c9 => k_is)
    (case k9 => k_is)
    (case a10 => k_is)
    (case l10 => k_is)
    (case c10 => k_is)
    (case k10 => k_is)
    (case a11 => k_is)
    (case l11 => k_is)
    (case c11 => k_is)
    (case k11 => k_is)
    (case a12 => k_is)
    (case l12 => k_is)
    (case c12 => k_is)
    (case k12 => k_is)
    (case a13 => k_is)
    (case l13 => k_is)
    (case c13 => k_is)
    (case k13 => k_is)
    (case a14 => k_is)
    (case l14 => k_is)
    (case c14 => k_is)
    (case k14 => k_is)
    (case a15 => k_is)
    (case l15 => k_is)
    (case c15 => k_is)
    (case k15 => k_is)
    (case a16 => k_is)
    (case l16 => k_is)
    (case c16 => k_is)
    (case k16 => k_is)
    (case a17 => k_is)
    (case l17 => k_is)
    (case c17 => k_is)
    (case k17 => k_is)
    (case a18 => k_is)
    (case l18 => k_is)
    (case c18 => k_is)
    (case k18 => k_is)
    (case y0 => k_is)
    (case y1 => k_is)
    (case y2 => k_is)
    (case z0 => k_is)
    (case z1 => k_is)
    (case z2 => k_is)
    (case z3 => k_is)
    (case z4 => k_is)
    (case z5 => k_is)
    (case z6 => k_is)
    (case z7 => k_is)
    (case z8 => k_is)
    (case z9 => k_is)
    (case z10 => k_is)
    (case z11 => k_is)

