import PyProof.Rows.All
import Wide.All
import OpenK.AllK
import Wide.FinOn
import PySem.Challenge.RW_fewspans_k47_transform_errors
import HandS.ForMost
import HandS.Wide
import HandS.IsInst
import HandS.Conv
import HandS.TupLe
import HandS.Strs
import HandS.SetFor
import HandS.Style
import HandS.TupSets
import HandS.Keys
import HandS.Sort
import HandS.SortOrd
import HandS.SortRule
import HandS.SortKw
import HandS.SetBool
import HandS.TupAny
import HandS.Zip
import HandS.NoneIn
import HandS.Deep
import KE.GoesEnum
import KE.GoesMore
import HandS.Lambda
import HandS.CallLocal
import KE.DataCmp
import HandS.EndTab
import KE.KMinBuiltin
import HandS.TupMul
import PyProof.NeKinds
import HandS.Defaults
import HandS.MakeKwOnly
import HandS.OwnEq
import HandS.FStr
import KE.KCallOwn
import HandS.ExcIs
import HandS.ExcOwn
import HandS.CallSlots
import HandS.WordsExc
import HandS.TryMany
import HandS.Codes
import HandS.ExcInit
import KE.KExcIs
import KE.KExcInit
import KE.KExcLine
import HandS.ExcField
import HandS.HotCalls
import HandS.Flow
set_option Elab.async false
set_option linter.all false
set_option maxRecDepth 100000
set_option maxHeartbeats 4000000
namespace L9
open PySem PySem.Spec PyProof.Rows L2

/-- a statement that is never come to -/
theorem ps_never {X : Cx} {st : Stmt} : PS X st (fun _ _ _ => False) := ⟨fun _ _ _ _ _ _ h => h.elim⟩

/-! ### defs that are run where no text-making of the machine is under way (repr, str of nested data ask for it) -/
abbrev Quiet (A : Around) : Prop := A.guards = some []
structure FnG (P : Program) (w : World) (K : PySem.W.Frag) (mg : Str → Option Value) (base : Heap) (k : Nat) (f : Addr) (fd : FuncData) (ps : List Str) (sp : Sp) : Prop where
  size : ∀ {vs H Q}, sp vs H Q E0 → vs.length = ps.length
  go : ∀ {A outer s H us vs Q}, Room k A → Quiet A → Env0 P w K mg base A outer s H → BindsTo s fd ⟨us, []⟩ (ps.zip us) → Vals vs us → sp vs H Q E0 →
    codeAny (model P w) A (.call (.ref f) ⟨us, []⟩) (CR CX0 outer P w H s Q E0) s
section
variable {P : Program} {w : World} {K : PySem.W.Frag} {mg : Str → Option Value} {base : Heap}
theorem FnG.of {x qual : Str} {st : Stmt} {f : Addr} {fd : FuncData} {N ps : List Str} {k : Nat} {sp : Sp} (F : Fun K x qual st f fd) (S : FnScope N ps (defScope st))
    (size : ∀ {vs H Q}, sp vs H Q E0 → vs.length = ps.length)
    (body : ∀ cdv A outer s H vs Q, Room k (A.deeper (envOfC qual (defScope st) s.heap.objs.size f cdv)) → Quiet (A.deeper (envOfC qual (defScope st) s.heap.objs.size f cdv)) → sp vs H Q E0 →
      ∃ t, PSs (cxOf CX0 P w K mg base N qual (defScope st) f cdv A outer s H E0).nox (defBody st) t ∧ t { nx := fun _ H' => Q .non H', rt := Q } (start N vs) H) :
    FnG P w K mg base (k + 1) f fd ps sp := by
  obtain ⟨oc, od, kV, doc, pm, an, cdv, ct, osl, rfl, look, code⟩ := F.ex
  constructor
  · exact size
  intro A outer s H us vs Q room quiet e0 bind rel want
  have inH : K.In s.heap := e0.mod.kin.keeps fun b o q => (e0.bs b o q).1
  have lim := e0.mod.nolimit.keeps (fun b o q => (e0.bs b o q).1)
  have kinds : ∀ y ∈ ps.zip us, (defScope st).names.lookup y.1 = some .local ∨ ((defScope st).names.lookup y.1 = some .cell ∧ ((cellsFrom (s.heap.objs.size + 1) (defScope st).names []).lookup y.1).isSome = true) := by
    rintro ⟨n, v⟩ hy
    have hn := (List.of_mem_zip hy).1
    cases S.par n hn with
    | inl q => exact Or.inl q
    | inr q => exact Or.inr ⟨q, PySem.W.cellsFrom_some _ _ _ (Or.inl q)⟩
  apply codeAny_call_function room.depth (inH _ _ look) rfl S.co S.gen rfl (PySem.W.codeRec_of inH code)
  apply bind
  apply wpAny_newFunctionEnv_cells S.kind kinds
  intro env he s1 x
  subst he
  refine And.intro (lim.keeps x.toInCall.keep) (codeAny_func ?_)
  obtain ⟨t, ht, hq⟩ := body cdv A outer s H vs Q (room.deeper _) quiet want
  have I := inv_start (CX := CX0) (E := E0) S room.hd e0 (size want) rel x
  apply wpAny_mono (ht.nox.run [] s1 (start N vs) H _ I hq)
  · intro fl s' hs
    cases fl with
    | ret u =>
      obtain ⟨v, σ', H', J, rv, q⟩ := hs
      exact Exists.intro v ⟨H', J.os, J.bare, J.base, J.hok, rv, q⟩
    | next =>
      obtain ⟨σ', H', J, q⟩ := hs
      exact Exists.intro V.non ⟨H', J.os, J.bare, J.base, J.hok, rfl, q⟩
    | brk => exact hs.elim fun _ h => h.elim fun _ h => h.2.elim
    | cont => exact hs.elim fun _ h => h.elim fun _ h => h.2.elim
  · intro e s' hs
    exact hs
end
section
variable {X : Cx} {k : Nat} {f : Addr} {fd : FuncData} {ps : List Str} {sp : Sp} {x : Str} {p pos : Pos} {e : Expr} {es : List Expr} {t : TA}
theorem pe_callG (F : FnG X.prog X.w X.K X.mg X.base k f fd ps sp) (room : Room k X.A) (quiet : Quiet X.A) (hg : Gl X x) (hm : X.mg x = some (.ref f)) (keep : PySem.W.keepIn X.K (.ref f) = true) (bind : Binds X.K fd ps [])
    (args : PA X (e :: es) t) (hdb : (x == ("__debug__" : Str)) = false := by decide) (star : starEach (e :: es) X.env = (false, eval e X.env) :: starEach es X.env := by rfl) (plain : (backTo pos (starEach es X.env)).any (·.1) = false := by rfl) :
    PE X (.Call (.Name x p) (e :: es) [] pos) (tCall sp [] E0 t) := by
  constructor
  intro pins s σ H Q I h
  apply wpAny_Call_Name_kw
  apply ld_glob I hg hm _ hdb
  apply PySem.W.callWith_K (h₀ := X.base) I.ok.mod.kin keep _ star plain
  apply thn (args.run pos pins s σ H _ I h)
  rintro us s1 ⟨vs, H1, I1, rel, q⟩
  refine And.intro I1.kIn ?_
  have q' : sp vs H1 Q E0 := by
    have z := q
    rw [List.append_nil] at z
    exact z
  have same : us.length = ps.length := rel.length.symm.trans (F.size q')
  have b := bind s1 us I1.kIn (by rw [List.append_nil]; exact same)
  rw [List.append_nil] at b
  apply wpAny_call
  apply codeAny_mono (F.go room quiet I1.env0 b rel q')
  intro r s' hr
  match r, hr with
  | .error _, hr => exact hr.elim
  | .ok (.ret u), hr => exact I1.after hr
  | .ok .next, hr => exact False.elim hr
  | .ok .brk, hr => exact False.elim hr
  | .ok .cont, hr => exact False.elim hr
end
/-! ### repr of data at any depth -/
structure Sm (n dp : Nat) (d : PyData) : Prop where
  shows : d.showable = true
  short : d.leavesShort 40 = true
  small : d.weight ≤ n
  flat : d.depth ≤ dp
theorem Sm.mono {n m dp dq : Nat} {d : PyData} (h : Sm n dp d) (h1 : n ≤ m) (h2 : dp ≤ dq) : Sm m dq d := ⟨h.shows, h.short, Nat.le_trans h.small h1, Nat.le_trans h.flat h2⟩
theorem Sm.none : Sm 0 0 .none := ⟨rfl, rfl, Nat.le_refl _, Nat.le_refl _⟩
theorem Sm.bool (b : Bool) : Sm 0 0 (.bool b) := ⟨rfl, rfl, Nat.le_refl _, Nat.le_refl _⟩
theorem log2_small {i : Int} (h : i.natAbs < 10 ^ 30) : i.natAbs.log2 < 100 := PySem.Flt.log2_lt_of (by decide) (Nat.lt_trans h (by decide))
theorem Sm.int {i : Int} (h : i.natAbs < 10 ^ 30) : Sm 100 0 (.int i) := by
  have l := log2_small h
  refine ⟨decide_eq_true (Nat.lt_trans l (by decide)), decide_eq_true ?_, ?_, Nat.le_refl _⟩
  · have q := int_text_length_le10 (a := i) (k := 30) (by decide) h
    show (Str.ofString (toString i)).length ≤ 40
    rw [PySem.ofString_length]
    exact Nat.le_trans q (by decide)
  · show (if i == 0 then 0 else i.natAbs.log2 + 1) ≤ 100
    split <;> omega
theorem smAll {n dp : Nat} : ∀ {ds : List PyData}, (∀ d ∈ ds, Sm n dp d) → PyData.showableAll ds = true ∧ PyData.leavesShortAll 40 ds = true ∧ PyData.weightAll ds ≤ ds.length * (n + 1) ∧ PyData.depthAll ds ≤ dp
  | [], _ => ⟨rfl, rfl, Nat.zero_le _, Nat.zero_le _⟩
  | d :: ds, h => by
    obtain ⟨a, b, c, e⟩ := smAll (ds := ds) fun x hx => h x (List.mem_cons_of_mem _ hx)
    have z := h d List.mem_cons_self
    refine ⟨?_, ?_, ?_, ?_⟩
    · show (d.showable && PyData.showableAll ds) = true
      rw [z.shows, a]
      rfl
    · show (d.leavesShort 40 && PyData.leavesShortAll 40 ds) = true
      rw [z.short, b]
      rfl
    · show d.weight + 1 + PyData.weightAll ds ≤ (ds.length + 1) * (n + 1)
      have := z.small
      rw [Nat.add_mul]
      omega
    · show max d.depth (PyData.depthAll ds) ≤ dp
      exact Nat.max_le.mpr ⟨z.flat, e⟩
theorem Sm.tup {n dp : Nat} {ds : List PyData} (h : ∀ d ∈ ds, Sm n dp d) : Sm (ds.length * (n + 1)) (dp + 1) (.tuple ds) :=
  let ⟨a, b, c, e⟩ := smAll h
  ⟨a, b, c, Nat.succ_le_succ e⟩
theorem Sm.lst {n dp : Nat} {ds : List PyData} (h : ∀ d ∈ ds, Sm n dp d) : Sm (ds.length * (n + 1)) (dp + 1) (.list ds) :=
  let ⟨a, b, c, e⟩ := smAll h
  ⟨a, b, c, Nat.succ_le_succ e⟩
theorem Sm.fits {n dp : Nat} {d : PyData} (h : Sm n dp d) (hn : n ≤ 300000) : d.shown.length ≤ sizeLine := by
  have q := PyData.shown_le 40 (by decide) d h.short
  have := h.small
  have e : sizeLine = 16777216 := by decide
  rw [e]
  omega
/-- data with dicts in it; its lists stand in the heap by themselves -/
def keyD : Key → PyData
  | .inl i => .int i
  | .inr x => .str x
mutual
inductive Dv (K : PySem.W.Frag) (H : Hp) : V → PyData → Prop
  | non : Dv K H .non .none
  | bl (b : Bool) : Dv K H (.bl b) (.bool b)
  | int (i : Int) : Dv K H (.int i) (.int i)
  | str (x : Str) : Dv K H (.str x) (.str x)
  | lst {a : Addr} {xs : List V} {ds : List PyData} : H a = some (.lst xs) → DvAll K H xs ds → Dv K H (.ref a) (.list ds)
  | tup {a : Addr} {xs : List V} {ds : List PyData} : H a = some (.tup xs) → DvAll K H xs ds → Dv K H (.ref a) (.tuple ds)
  | dic {a : Addr} {kvs : List (Key × V)} {ds : List PyData} : H a = some (.dK kvs) → DvAll K H (kvs.map (·.2)) ds → Dv K H (.ref a) (.dict ((kvs.map fun p => keyD p.1).zip ds))
inductive DvAll (K : PySem.W.Frag) (H : Hp) : List V → List PyData → Prop
  | nil : DvAll K H [] []
  | cons {v : V} {vs : List V} {d : PyData} {ds : List PyData} : Dv K H v d → DvAll K H vs ds → DvAll K H (v :: vs) (d :: ds)
end
theorem DvAll.length {K : PySem.W.Frag} {H : Hp} : ∀ {vs : List V} {ds : List PyData}, DvAll K H vs ds → vs.length = ds.length
  | _, _, .nil => rfl
  | _, _, .cons _ h => by rw [List.length_cons, List.length_cons, h.length]
theorem keys_read {P : Program} {w : World} {h : Heap} : ∀ {es : List DictEntry} {vs : List (Key × Value)}, Pairs (mixKind P w) es vs → ReadsAll h (es.map (·.key)) (vs.map fun p => keyD p.1) []
  | _, _, .nil => .nil
  | _, _, .cons (e := e) (kv := kv) hk _ r => by
    have one : Reads h e.key (keyD kv.1) [] := by
      rcases keyIs_shape hk with ⟨i, t, e1, e2⟩ | ⟨x, t, e1, e2⟩
      · rw [e1, e2]
        exact .int i t
      · rw [e1, e2]
        exact .str x t
    exact ReadsAll.cons one (keys_read r)
theorem vals_read {P : Program} {w : World} : ∀ {es : List DictEntry} {vs : List (Key × Value)}, Pairs (mixKind P w) es vs → es.map (·.val) = vs.map (·.2)
  | _, _, .nil => rfl
  | _, _, .cons _ hv r => by rw [List.map_cons, List.map_cons, hv, vals_read r]
theorem kv_vals : ∀ {kvs : List (Key × V)} {vs : List (Key × Value)}, KV kvs vs → Vals (kvs.map (·.2)) (vs.map (·.2)) ∧ (vs.map fun p => keyD p.1) = kvs.map fun p => keyD p.1
  | _, _, .nil => ⟨.nil, rfl⟩
  | _, _, .cons h r => by
    obtain ⟨a, b⟩ := kv_vals r
    refine ⟨.cons h.2 a, ?_⟩
    rw [List.map_cons, List.map_cons, b, h.1]
section
variable {X : Cx} {pins : List (Addr × Obj)} {σ : L2.St} {H : Hp} {s : Shared}
theorem Dv.reads (I : Inv X pins σ H s) (mods : ∃ mm, X.base.Ns sysModules mm) {v : V} {d : PyData} (h : Dv X.K H v d) : ∀ u : Value, RelV v u → ∃ as, Reads s.heap u d as ∧ sysModules ∉ as := by
  have free : H sysModules = none := by
    obtain ⟨mm, o, es, ep, e, _⟩ := mods
    exact (I.bs _ o e).2
  refine Dv.rec (K := X.K) (H := H) (motive_1 := fun v d _ => ∀ u : Value, RelV v u → ∃ as, Reads s.heap u d as ∧ sysModules ∉ as) (motive_2 := fun vs ds _ => ∀ us : List Value, Vals vs us → ∃ as, ReadsAll s.heap us ds as ∧ sysModules ∉ as) ?_ ?_ ?_ ?_ ?_ ?_ ?_ ?_ ?_ h
  · intro u r
    cases r
    exact ⟨_, .none, fun z => nomatch z⟩
  · intro b u r
    cases r
    exact ⟨_, .bool b, fun z => nomatch z⟩
  · intro i u r
    obtain ⟨t, rfl⟩ := r
    exact ⟨_, .int i t, fun z => nomatch z⟩
  · intro x u r
    obtain ⟨t, rfl⟩ := r
    exact ⟨_, .str x t, fun z => nomatch z⟩
  · intro a xs ds e _ ih u r
    cases r
    obtain ⟨_, its, n, rv, q⟩ := I.hok a _ e
    obtain ⟨as, ra, na⟩ := ih _ rv
    refine ⟨a :: as, .list q rfl rfl (by simpa using ra), fun z => ?_⟩
    rcases List.mem_cons.mp z with z | z
    · rw [← z, free] at e
      cases e
    · exact na z
  · intro a xs ds e _ ih u r
    cases r
    obtain ⟨_, its, rv, o, ho, hc, n, hd⟩ := I.hok a _ e
    obtain ⟨as, ra, na⟩ := ih _ rv
    exact ⟨as, .tuple ho hc hd (by simpa using ra), na⟩
  · intro a kvs ds e hall ih u r
    cases r
    obtain ⟨_, hne, vs, kv, o, es, ep, ho, ex, hd, _, prs, _⟩ := I.hok a _ e
    obtain ⟨rv, ek⟩ := kv_vals kv
    obtain ⟨as, ra, na⟩ := ih _ rv
    have len : (kvs.map fun p => keyD p.1).length = ds.length := by
      have z := hall.length
      rw [List.length_map] at z
      rw [List.length_map, z]
    refine ⟨_, .dict ho ex.1 hd (as := []) (bs := as) ?_ ?_, fun z => ?_⟩
    · rw [List.map_fst_zip (by omega), ← ek]
      exact keys_read prs
    · rw [List.map_snd_zip (by omega), vals_read prs]
      exact ra
    · rcases List.mem_cons.mp z with z | z
      · rw [← z] at hne
        exact absurd hne (by decide)
      · exact na z
  · intro us r
    cases r
    exact ⟨_, .nil, fun z => nomatch z⟩
  · intro v vs d ds _ _ ih1 ih2 us r
    cases r with
    | cons r1 r2 =>
      obtain ⟨as, ra, na⟩ := ih1 _ r1
      obtain ⟨bs, rb, nb⟩ := ih2 _ r2
      refine ⟨_, .cons ra rb, fun z => ?_⟩
      rcases List.mem_append.mp z with z | z
      · exact na z
      · exact nb z
theorem call_reprV (mods : ∃ mm, X.base.Ns sysModules mm) (quiet : Quiet X.A) (units : X.A.units + 64 < cLine) : CallR X (.builtin "repr")
    (fun xs H Q => ∃ v d n dp, xs = [v] ∧ Dv X.K H v d ∧ Sm n dp d ∧ n ≤ 300000 ∧ dp ≤ 60 ∧ Q (.str d.shown) H) := by
  intro pins s σ H xs us Q I r h
  obtain ⟨v, d, n, dp, rfl, hd, sm, hn, hdp, q⟩ := h
  obtain ⟨u, rfl, ru⟩ := vals1 r
  have fits := sm.fits hn
  have flat := sm.flat
  obtain ⟨as, rd, off⟩ := Dv.reads I mods hd _ ru
  cases hd with
  | non =>
    cases ru
    exact PySem.P.repr_of_none ⟨.str _, H, I.tok _, ⟨_, rfl⟩, q⟩
  | bl b =>
    cases ru
    exact PySem.P.repr_of_bool ⟨.str _, H, I.tok _, ⟨_, rfl⟩, q⟩
  | int i =>
    obtain ⟨t, rfl⟩ := ru
    exact PySem.P.repr_of_int (of_decide_eq_true sm.shows) ⟨.str _, H, I.tok _, ⟨_, rfl⟩, q⟩
  | str x =>
    obtain ⟨t, rfl⟩ := ru
    exact PySem.P.repr_of_str ⟨.str _, H, I.tok _, ⟨_, rfl⟩, q⟩ fits
  | _ =>
    cases ru
    exact repr_of_reads' rd sm.shows (fun _ => off) quiet (by omega) (fun _ _ e => e) (fun h' t tk more => ⟨.str _, H, I.kept more, ⟨_, rfl⟩, q⟩) fits
end
theorem Dp.noDict {K : PySem.W.Frag} {H : Hp} {v : V} {d : PyData} (h : Dp K H v d) : d.hasDict = false := by
  refine Dp.rec (K := K) (H := H) (motive_1 := fun v d _ => d.hasDict = false) (motive_2 := fun vs ds _ => PyData.hasDictAll ds = false) ?_ ?_ ?_ ?_ ?_ ?_ ?_ ?_ h
  all_goals intros
  all_goals simp_all [PyData.hasDict, PyData.hasDictAll]
section
variable {X : Cx}
theorem call_reprD (quiet : Quiet X.A) (units : X.A.units + 64 < cLine) : CallR X (.builtin "repr")
    (fun xs H Q => ∃ v d n dp, xs = [v] ∧ Dp X.K H v d ∧ Sm n dp d ∧ n ≤ 300000 ∧ dp ≤ 60 ∧ Q (.str d.shown) H) := by
  intro pins s σ H xs us Q I r h
  obtain ⟨v, d, n, dp, rfl, hd, sm, hn, hdp, q⟩ := h
  obtain ⟨u, rfl, ru⟩ := vals1 r
  have fits := sm.fits hn
  have flat := sm.flat
  obtain ⟨as, rd⟩ := Dp.reads I d v u hd ru
  cases hd with
  | non =>
    cases ru
    exact PySem.P.repr_of_none ⟨.str _, H, I.tok _, ⟨_, rfl⟩, q⟩
  | bl b =>
    cases ru
    exact PySem.P.repr_of_bool ⟨.str _, H, I.tok _, ⟨_, rfl⟩, q⟩
  | int i =>
    obtain ⟨t, rfl⟩ := ru
    exact PySem.P.repr_of_int (of_decide_eq_true sm.shows) ⟨.str _, H, I.tok _, ⟨_, rfl⟩, q⟩
  | str x =>
    obtain ⟨t, rfl⟩ := ru
    exact PySem.P.repr_of_str ⟨.str _, H, I.tok _, ⟨_, rfl⟩, q⟩ fits
  | lst h1 h2 =>
    cases ru
    exact repr_of_reads' rd sm.shows (PyData.noDict_hsm (Dp.noDict (Dp.lst h1 h2))) quiet (by omega) (fun _ _ e => e) (fun h' t tk more => ⟨.str _, H, I.kept more, ⟨_, rfl⟩, q⟩) fits
  | tup h1 h2 =>
    cases ru
    exact repr_of_reads' rd sm.shows (PyData.noDict_hsm (Dp.noDict (Dp.tup h1 h2))) quiet (by omega) (fun _ _ e => e) (fun h' t tk more => ⟨.str _, H, I.kept more, ⟨_, rfl⟩, q⟩) fits
end
/-! ### the end of a law row whose def is of the quiet kind -/
theorem quiet_law {P : Program} {w : World} {K : PySem.W.Frag} {mg mb : Str → Option Value} {k : Nat} {fa a : Addr} {fd : FuncData} {x : Str} {sp : Sp} {s₁ : Shared} {vs : List Value} {ns : List Int}
    (inK : K.In s₁.heap) (glob : s₁.heap.Ns mainGlobals mg) (blt : s₁.heap.Ns builtinsNs mb) (bltIs : ∀ y : Str, y ≠ "__name__" → mb y = bootBuiltins y) (lim : s₁.heap.NoLimit) (gens : s₁.gens = #[]) (mods : ∃ mm, s₁.heap.Ns sysModules mm)
    (here : s₁.heap.get? a = some { cls := .type "list", data := .seq vs.toArray }) (whole : IntsAre vs ns) (few : ns.length ≤ sizeLine) (room : Room k callerA)
    (F : ∀ base : Heap, K.In base → base.Ns mainGlobals mg → (∃ mm, base.Ns sysModules mm) → FnG P w K mg base k fa fd [x] sp) (bind : ∀ (s : Shared) (u : Value), BindsTo s fd ⟨[u], []⟩ [(x, u)])
    (want : ∀ H : Hp, Only H → SqL K H a (ns.map V.int) → sp [.ref a] H (fun v _ => v = .bl true) E0) :
    codeAny (model P w) callerA (.call (.ref fa) ⟨[.ref a], []⟩) (fun r s' => r = .ok (.ret (.bool true)) ∧ OldK s₁.heap s'.heap ∧ s'.os = s₁.os ∧ AllBare s'.gens) s₁ := by
  have rel := vals_ints whole
  -- H: the script alone, or nothing
  have main : ∀ H : Hp, Only H → SqL K H a (ns.map V.int) → HOk P w H s₁.heap → (∀ b u, H b = some u → b = a ∧ K.lookup b = none) →
      codeAny (model P w) callerA (.call (.ref fa) ⟨[.ref a], []⟩) (fun r s' => r = .ok (.ret (.bool true)) ∧ OldK s₁.heap s'.heap ∧ s'.os = s₁.os ∧ AllBare s'.gens) s₁ := by
    intro H only sq ok apart
    have untold : ∀ {b o}, s₁.heap.get? b = some o → (b = a → False) → H b = none := by
      intro b o e ne
      cases q : H b with
      | none => rfl
      | some u => exact (ne (apart b u q).1).elim
    have ns1 : ∀ {b m}, s₁.heap.Ns b m → (hidT s₁.heap H).Ns b m := by
      rintro b m ⟨o, es, ep, e, d, r⟩
      refine ⟨o, es, ep, hidT_get e (untold e fun z => ?_), d, r⟩
      subst z
      rw [here] at e
      cases e
      cases d
    have kIn : K.In (hidT s₁.heap H) := by
      intro b o e
      apply hidT_get (inK b o e)
      cases q : H b with
      | none => rfl
      | some u =>
        have z := (apart b u q).2
        rw [e] at z
        cases z
    have lim1 : (hidT s₁.heap H).NoLimit := by
      obtain ⟨mc, h1, h2⟩ := lim
      exact ⟨mc, ns1 h1, h2⟩
    have e0 : Env0 P w K mg (hidT s₁.heap H) callerA [] s₁ H := {
      frames := rfl, mod := ⟨kIn, ns1 glob, ⟨mb, ns1 blt, bltIs⟩, lim1⟩, bs := fun _ _ e => of_hidT e, bsz := Nat.le_of_eq (hidT_size _ _), funs := True.intro, frf := (fun _ hb => nomatch hb), hok := ok, bare := .of_eq gens }
    apply codeAny_mono ((F _ kIn (ns1 glob) (mods.elim fun mm h => ⟨mm, ns1 h⟩)).go (us := [.ref a]) (vs := [.ref a]) room rfl e0 (bind s₁ _) (.cons rfl .nil) (want H only sq))
    intro r s' hr
    match r, hr with
    | .error _, hr => exact hr.elim
    | .ok .next, hr => exact False.elim hr
    | .ok .brk, hr => exact False.elim hr
    | .ok .cont, hr => exact False.elim hr
    | .ok (.ret u), hr =>
      obtain ⟨v, H', os, bare, un, ok', rv, q⟩ := hr
      cases (show v = V.bl true from q)
      cases (show u = Value.bool true from rv)
      refine ⟨rfl, OldK.of_keep ?_, os, bare⟩
      intro b o e
      cases only b with
      | inl n => exact un.keep b o e n (fun z => nomatch z) (fun z => nomatch z)
      | inr n =>
        obtain ⟨ob, xs, z⟩ := n
        have e1 := (ok b _ z).1
        have e2 := (ok' b _ (un.frzs b ob _ z)).1
        rw [e] at e1
        cases e1
        exact e2
  have small : (ns.map V.int).length ≤ sizeLine := by rw [List.length_map]; exact few
  cases known : K.lookup a with
  | some o =>
    have e := inK a o known
    rw [here] at e
    cases e
    have sz : vs.length ≤ sizeLine := by rw [← rel.length]; exact small
    exact main (fun _ => none) (fun _ => .inl rfl) (.inr ⟨_, vs.toArray, _, known, rfl, rfl, rfl, by simpa using sz, by simpa using rel⟩) (fun _ _ z => nomatch z) (fun _ _ z => nomatch z)
  | none =>
    have at1 : ∀ {b u}, (if b = a then some (HO.frz { cls := .type "list", data := .seq vs.toArray } (.lst (ns.map V.int))) else none) = some u → b = a := by
      intro b u z
      by_cases hb : b = a
      · exact hb
      · rw [if_neg hb] at z
        cases z
    refine main (fun b => if b = a then some (.frz { cls := .type "list", data := .seq vs.toArray } (.lst (ns.map V.int))) else none) (fun b => ?_) (.inl (.inr ⟨{ cls := .type "list", data := .seq vs.toArray }, if_pos rfl⟩)) (fun b u z => ?_) (fun b u z => ?_)
    · by_cases hb : b = a
      · exact .inr ⟨_, _, if_pos hb⟩
      · exact .inl (if_neg hb)
    · have hb := at1 z
      subst hb
      have z2 := (if_pos rfl).symm.trans z
      cases z2
      exact ⟨here, small, vs, _, rel, here⟩
    · have hb := at1 z
      subst hb
      exact ⟨rfl, known⟩
theorem quiet_walk {l : PySem.W.OpenLaw} {n k : Nat} {q : Program} {loose : List Str} {XP : (Str → Option Value) → Heap → Prop} {YP : World → Heap → Prop} {d : DefRec} {K : Params → PySem.W.Frag} {sp : World → Sp} {x : Str}
    (noImport : importsNone q = true) (most : l.most = some n) (n2 : n ≤ sizeLine) (defaults : d.params.defaults = []) (room : Room k callerA) (hY : ∀ (w : World) (h : Heap), YP w h → (K w.params).In h)
    (F : ∀ (w : World) (mg : Str → Option Value) (fa : Addr) (h : Heap), (K w.params).In h → h.Ns mainGlobals mg → mg d.name = some (.ref fa) →
      ∃ fd : FuncData, (∀ (s : Shared) (u : Value), BindsTo s fd ⟨[u], []⟩ [(x, u)]) ∧ ∀ base : Heap, (K w.params).In base → base.Ns mainGlobals mg → (∃ mm, base.Ns sysModules mm) → FnG l.prog w (K w.params) mg base k fa fd [x] (sp w))
    (want : ∀ (w : World) (H : Hp) (a : Addr) (ns : List Int), ns.length ≤ n → Only H → SqL (K w.params) H a (ns.map V.int) → sp w [.ref a] H (fun v _ => v = .bl true) E0) :
    PySem.W.WalkO q loose XP YP l.row.toRowW d [] (fun f vs => PySem.call f vs) := by
  apply Att.attach_call most defaults
  intro w s₀ s₁ mg mb fa o pm cd doc a vs ns G Y ho hd hcd hmg hobj hints hlen hg
  obtain ⟨fd, hb, hF⟩ := F w mg fa _ (hY w _ Y) G.T.g hmg
  exact quiet_law (hY w _ Y) G.T.g G.T.b G.T.builtins G.T.nolimit hg ((G.T.seer noImport).mods.elim fun mm h => ⟨mm, h.1⟩) hobj hints (Nat.le_trans hlen n2) room hF hb fun H o1 s1 => want w H a ns hlen o1 s1

/-! ### a op1 b op2 c op3 .. : chains of any length -/
section
variable {X : Cx}
structure PCh (X : Cx) (ops : List CmpOp) (es : List Expr) (t : V → TE) : Prop where
  run : ∀ (pos : Pos) (pins : List (Addr × Obj)) (s : Shared) (σ : L2.St) (H : Hp) (Q : VK) (x : V) (v : Value), Inv X pins σ H s → RelV x v → t x σ H Q → wpAny (model X.prog X.w) X.A (compareChain pos v ops (evalEach es X.env)) (EP X pins σ Q) X.xe s
structure PChT (X : Cx) (ops : List CmpOp) (es : List Expr) (t : V → TE) : Prop where
  run : ∀ (pos : Pos) (pins : List (Addr × Obj)) (s : Shared) (σ : L2.St) (H : Hp) (Q : Bool → Hp → Prop) (x : V) (v : Value), Inv X pins σ H s → RelV x v → (t x σ H fun y H' => ∃ k, y = .bl k ∧ Q k H') → wpAny (model X.prog X.w) X.A (testChain pos v ops (evalEach es X.env)) (TP X pins σ Q) X.xe s
def tLast (r : R2) (tb : TE) : V → TE := fun x σ H Q => tb σ H fun y H2 => r x y H2 Q
def tLink (r : R2) (tb : TE) (rest : V → TE) : V → TE := fun x σ H Q => tb σ H fun y H2 => r x y H2 fun z H3 => ∃ k, z = .bl k ∧ (if k = true then rest y σ H3 Q else Q (.bl false) H3)
def tCh (ta : TE) (rest : V → TE) : TE := fun σ H Q => ta σ H fun x H1 => rest x σ H1 Q
theorem pch_last {op : CmpOp} {r : R2} {b : Expr} {tb : TE} (ho : OpR X (compareOp op) r) (hb : PE X b tb) : PCh X [op] [b] (tLast r tb) :=
  ⟨fun pos pins s σ H Q x v I rx h => chain_last (thn (hb.run pins s σ H _ I h) fun u s2 ⟨y, H2, I2, r2, q2⟩ => ho pins s2 σ H2 x y v u Q I2 rx r2 q2)⟩
theorem pch_link {op op' : CmpOp} {ops : List CmpOp} {r : R2} {b b' : Expr} {bs : List Expr} {tb : TE} {rest : V → TE} (ho : OpR X (compareOp op) r) (hb : PE X b tb) (hr : PCh X (op' :: ops) (b' :: bs) rest) : PCh X (op :: op' :: ops) (b :: b' :: bs) (tLink r tb rest) := by
  refine ⟨fun pos pins s σ H Q x v I rx h => ?_⟩
  refine chain_link (thn (hb.run pins s σ H _ I h) fun u s2 ⟨y, H2, I2, r2, q2⟩ => thn (ho pins s2 σ H2 x y v u _ I2 rx r2 q2) fun d s3 ⟨z, H3, I3, r3, k, e, q3⟩ => ?_)
  subst e
  cases r3
  refine wpAny_truthy_bool ?_
  cases k with
  | false => exact ite_ff ⟨.bl false, H3, I3, rfl, q3⟩
  | true => exact ite_tt (hr.run pos pins s3 σ H3 Q y u I3 r2 q3)
theorem pe_chN {op op' : CmpOp} {ops : List CmpOp} {a b b' : Expr} {bs : List Expr} {pos : Pos} {ta : TE} {rest : V → TE} (ha : PE X a ta) (hr : PCh X (op :: op' :: ops) (b :: b' :: bs) rest)
    (hm : lastMarks (op :: op' :: ops) (b :: b' :: bs) = false := by with_unfolding_all rfl) : PE X (.Compare a (op :: op' :: ops) (b :: b' :: bs) pos) (tCh ta rest) :=
  ⟨fun pins s σ H Q I h => Compare_chain (thn (ha.run pins s σ H _ I h) fun v s1 ⟨x, H1, I1, r1, q1⟩ => hr.run pos pins s1 σ H1 Q x v I1 r1 q1) hm⟩
theorem pchT_last {op : CmpOp} {r : R2} {b : Expr} {tb : TE} (ho : OpR X (compareOp op) r) (hb : PE X b tb) : PChT X [op] [b] (tLast r tb) := by
  refine ⟨fun pos pins s σ H Q x v I rx h => ?_⟩
  refine test_last (thn (hb.run pins s σ H _ I h) fun u s2 ⟨y, H2, I2, r2, q2⟩ => thn (ho pins s2 σ H2 x y v u _ I2 rx r2 q2) fun d s3 ⟨z, H3, I3, r3, k, e, q3⟩ => ?_)
  subst e
  cases r3
  exact wpAny_truthy_bool ⟨H3, I3, q3⟩
theorem pchT_link {op op' : CmpOp} {ops : List CmpOp} {r : R2} {b b' : Expr} {bs : List Expr} {tb : TE} {rest : V → TE} (ho : OpR X (compareOp op) r) (hb : PE X b tb) (hr : PChT X (op' :: ops) (b' :: bs) rest) : PChT X (op :: op' :: ops) (b :: b' :: bs) (tLink r tb rest) := by
  refine ⟨fun pos pins s σ H Q x v I rx h => ?_⟩
  refine test_link (thn (hb.run pins s σ H _ I h) fun u s2 ⟨y, H2, I2, r2, q2⟩ => thn (ho pins s2 σ H2 x y v u _ I2 rx r2 q2) fun d s3 ⟨z, H3, I3, r3, k, e, q3⟩ => ?_)
  subst e
  cases r3
  refine wpAny_truthy_bool ?_
  cases k with
  | false =>
    obtain ⟨k', e', q'⟩ := q3
    cases e'
    exact ite_ff ⟨H3, I3, q'⟩
  | true => exact ite_tt (hr.run pos pins s3 σ H3 Q y u I3 r2 q3)
theorem pt_chN {op op' : CmpOp} {ops : List CmpOp} {a b b' : Expr} {bs : List Expr} {pos : Pos} {ta : TE} {rest : V → TE} (ha : PE X a ta) (hr : PChT X (op :: op' :: ops) (b :: b' :: bs) rest)
    (hm : lastMarks (op :: op' :: ops) (b :: b' :: bs) = false := by with_unfolding_all rfl) : PT X (.Compare a (op :: op' :: ops) (b :: b' :: bs) pos) (tTest (tCh ta rest)) :=
  ⟨fun pins s σ H Q I h => isTrue_chain (thn (ha.run pins s σ H _ I h) fun v s1 ⟨x, H1, I1, r1, q1⟩ => hr.run pos pins s1 σ H1 Q x v I1 r1 q1) hm⟩
end

/-! ### t[::-1] of a tuple; xs == [], xs != [] of a list that may hold anything -/
section
open HT
variable {prog : Program} {w : World} {A : Around} {E : Value → Shared → Prop} {s : Shared}
theorem adjust_rev (n : Nat) : Builtin.Slice.sliceAdjust none none (-1) (n : Int) = ((n : Int) - 1, -1) := by
  unfold Builtin.Slice.sliceAdjust
  have h1 : (-1 : Int) < 0 := by decide
  simp only [h1, if_true]
theorem places_rev (n : Nat) : Builtin.Slice.slicePlaces ((n : Int) - 1) (-1) (-1) = n := by
  unfold Builtin.Slice.slicePlaces
  have h1 : ¬ ((-1 : Int) > 0) := by decide
  simp only [h1, if_false]
  have h2 : (-(-1) : Int) = 1 := by decide
  rw [h2, Int.ediv_one]
  split <;> omega
theorem sliceApplied_rev {sl : Addr} {vl vu vs : Value} {n : Nat} {Q : Int × Int × Nat → Shared → Prop} (hs : s.heap.IsSliceOf sl vl vu vs) (pl : IsPart vl none) (pu : IsPart vu none) (pt : IsPart vs (some (-1)))
    (h : Q ((n : Int) - 1, -1, n) s) : wpAny (model prog w) A (Builtin.Slice.sliceApplied (.ref sl) (pure (n : Int))) Q E s := by
  obtain ⟨os, hos, hcs, hds⟩ := id hs
  unfold Builtin.Slice.sliceApplied Builtin.Slice.sliceFields
  refine wpAny_bind (wpAny_bind (wpAny_field hos hds (x := vl) rfl (wpAny_bind (wpAny_field hos hds (x := vu) rfl (wpAny_bind (wpAny_field hos hds (x := vs) rfl (wpAny_pure ?_)))))))
  refine wpAny_bind (slicePart_ pt ?_)
  show wpAny _ _ (if ((-1 : Int) == 0) = true then _ else _) _ _ s
  rw [if_neg (by decide)]
  refine wpAny_bind (slicePart_ pl (wpAny_bind (slicePart_ pu (wpAny_bind (wpAny_pure ?_)))))
  show wpAny _ _ (match Builtin.Slice.sliceAdjust none none (-1) (n : Int) with | (lo, hi) => pure (lo, (-1 : Int), Builtin.Slice.slicePlaces lo hi (-1))) _ _ s
  rw [adjust_rev]
  show wpAny _ _ (pure ((n : Int) - 1, (-1 : Int), Builtin.Slice.slicePlaces ((n : Int) - 1) (-1) (-1))) _ _ s
  rw [places_rev]
  exact wpAny_pure h
theorem pick_rev (xs : Array Value) : ((List.range xs.size).filterMap fun (k : Nat) => xs[((xs.size : Int) - 1 + (k : Int) * (-1)).toNat]?) = xs.toList.reverse := by
  have e : ∀ m : Nat, m ≤ xs.size → ((List.range m).filterMap fun (k : Nat) => xs[((xs.size : Int) - 1 + (k : Int) * (-1)).toNat]?) = xs.toList.reverse.take m := by
    intro m
    induction m with
    | zero => intro _; rfl
    | succ m ih =>
      intro hm
      rw [List.range_succ, List.filterMap_append, ih (by omega), List.take_add_one]
      congr 1
      have e1 : ((xs.size : Int) - 1 + (m : Int) * (-1)).toNat = xs.size - 1 - m := by omega
      have e2 : xs.toList.reverse[m]? = xs[xs.size - 1 - m]? := by
        rw [List.getElem?_reverse (by rw [Array.length_toList]; omega), Array.length_toList, Array.getElem?_toList]
      rw [e2]
      have lt : xs.size - 1 - m < xs.size := by omega
      simp only [List.filterMap_cons, List.filterMap_nil, e1]
      rw [Array.getElem?_eq_getElem lt]
      rfl
  rw [e _ (Nat.le_refl _), List.take_of_length_le (by rw [List.length_reverse, Array.length_toList]; exact Nat.le_refl _)]
theorem getItem_tuple_rev {t sl : Addr} {items : Array Value} {vl vu vs : Value} {Q : Value → Shared → Prop} (ht : IsTup s.heap t items) (hs : s.heap.IsSliceOf sl vl vu vs) (pl : IsPart vl none) (pu : IsPart vu none) (pt : IsPart vs (some (-1)))
    (h : Q (.ref s.heap.objs.size) { s with heap := s.heap.push { cls := .type "tuple", data := .seq items.toList.reverse.toArray } })
    (hsz : items.size ≤ sizeLine) : wpAny (model prog w) A (getItem (.ref t) (.ref sl)) Q E s := by
  have htake : sizeOk (.seq items.toList.reverse.toArray) := by
    show items.toList.reverse.toArray.size ≤ sizeLine
    rw [List.size_toArray, List.length_reverse, Array.length_toList]
    omega
  obtain ⟨os, hos, hcs, hds⟩ := id hs
  have hTs : s.TypeIs (.ref sl) "slice" := ⟨os, hos, hcs⟩
  unfold getItem
  try with_reducible refine wpAny_holding ?_
  first | refine wpAny_bind (wpAny_pure ?_) | skip
  refine wpAny_bind (wpAny_sequenceKey ht.typeIs (by decide) ?_)
  refine wpAny_bind (wpAny_callSpecial?_slot (name := Str.ofString "__getitem__") ht.typeIs PyProof.Rows.slot_tuple_getitem
    (wpAny_call_entry PyProof.Rows.slot_tuple_getitem ht.typeIs entry_tuple_getitem ?_ (args_tuple_getitem _ _)))
  show wpAny _ _ (Builtin.Tuple.tupleItemsOf (.ref t) >>= _) _ _ s
  refine wpAny_bind (tupleItemsOf_ ht ?_)
  refine wpAny_bind (wpAny_typeOf hTs ?_)
  rw [if_pos (by decide)]
  refine wpAny_bind (sliceApplied_rev hs pl pu pt ?_)
  have hno : ¬ ((((items.size : Int) - 1) == 0 && (-1 : Int) == 1 && items.size == items.size) = true) := by
    intro q
    rw [Bool.and_eq_true, Bool.and_eq_true] at q
    exact absurd q.1.2 (by decide)
  show wpAny _ _ (if (((items.size : Int) - 1) == 0 && (-1 : Int) == 1 && items.size == items.size) = true then _ else _) _ _ s
  rw [if_neg hno, pick_rev]
  first
    | exact wpAny_bind (m := Builtin.Tuple.tupleExact _) (wpAny_newObj_type (wpAny_pure ⟨_, rfl, wpAny_pure h⟩) htake)
    | exact wpAny_bind (m := Builtin.Tuple.tupleExact _) (wpAny_newObj_type (wpAny_bind (wpAny_pure (wpAny_pure ⟨_, rfl, wpAny_pure h⟩))) htake)
    | exact wpAny_bind (wpAny_bind (m := Builtin.Tuple.tupleExact _) (wpAny_newObj_type (wpAny_pure (wpAny_pure ⟨_, rfl, wpAny_pure h⟩)) htake))
    | exact wpAny_bind (wpAny_bind (m := Builtin.Tuple.tupleExact _) (wpAny_newObj_type (wpAny_pure ⟨_, rfl, wpAny_pure h⟩) htake))
end
section
variable {X : Cx}
def tRevT (K : PySem.W.Frag) (te : TE) : TE := fun σ H Q => te σ H fun x H1 => ∃ a xs, x = .ref a ∧ SqT K H1 a xs ∧ ∀ p, H1 p = none → Q (.ref p) (upd H1 p (.tup xs.reverse))
theorem pe_revT {e : Expr} {te : TE} {k : Nat} {p1 p2 p3 pos : Pos} (he : PE X e te) : PE X (.Subscript e (.Slice none none (some (.UnaryOp .USub (.Constant (.int 1) k p1) p2)) p3) pos) (tRevT X.K te) := by
  refine ⟨fun pins s σ H Q I h => ?_⟩
  refine Subscript_ (thn (he.run pins s σ H _ I h) fun v s1 ⟨x, H1, I1, r1, q1⟩ => ?_)
  obtain ⟨a, xs, ex, hx, q⟩ := q1
  subst ex
  cases r1
  have hst : PO X (some (.UnaryOp .USub (.Constant (.int 1) k p1) p2)) (tPart (tUn (rU fun i => .int (-i)) (tC (.int 1)))) := po_some (pe_un un_neg pe_int)
  refine wpAny_Slice (thn (po_none.run pins s1 σ H1 (fun o H2 => o = none ∧ H2 = H1) I1 ⟨rfl, rfl⟩) fun vl s2 ⟨l, H2, I2, pl, el, e2⟩ => ?_)
  subst el e2
  refine thn (po_none.run pins s2 σ H2 (fun o H3 => o = none ∧ H3 = H2) I2 ⟨rfl, rfl⟩) fun vu s3 ⟨u, H3, I3, pu, eu, e3⟩ => ?_
  subst eu e3
  refine thn (hst.run pins s3 σ H3 (fun o H4 => o = some (-1) ∧ H4 = H3) I3 ⟨1, rfl, -1, rfl, rfl, rfl⟩) fun vs s4 ⟨o, H4, I4, ps, eo, e4⟩ => ?_
  subst eo e4
  have I5 : Inv X pins σ H4 { s4 with heap := s4.heap.push { cls := .type "slice", data := .fields #[vl, vu, vs] } } := I4.kept (t' := s4.toks) fun b ob q => Heap.get?_push_of_some _ q
  obtain ⟨its, r, ht, hz⟩ := I5.tuple hx
  have hlen := r.length
  show wpAny (model X.prog X.w) X.A (subscriptTail e (.Slice none none (some (.UnaryOp .USub (.Constant (.int 1) k p1) p2)) p3) (.ref a) (.ref s4.heap.objs.size)) (EP X pins σ Q) X.xe { s4 with heap := s4.heap.push { cls := .type "slice", data := .fields #[vl, vu, vs] } }
  refine tail_any (ops := [.ref a, .ref s4.heap.objs.size]) ht.typeIs (PyProof.Rows.slot_tuple_getitem.lookup) ?_ (by with_unfolding_all rfl)
  refine getItem_tuple_rev ht (Heap.IsSliceOf.new _ vl vu vs) pl pu ps ?_ (by rw [List.size_toArray]; omega)
  refine ⟨.ref _, _, I5.laid (t' := s4.toks) (o := .tup xs.reverse) (fun b ob q => Heap.get?_push_of_some _ q) (Nat.le_refl _) ?_, rfl, q _ (I5.hok.fresh (Nat.le_refl _))⟩
  exact ⟨by rw [List.length_reverse]; exact hz, _, r.reverse, IsTup.new _ _⟩
def rEqL (K : PySem.W.Frag) : R2 := fun x y H Q => ∃ (a b : Addr) (xs : List V), x = .ref a ∧ y = .ref b ∧ SqL K H a xs ∧ SqL K H b [] ∧ Q (.bl xs.isEmpty) H
def rNeL (K : PySem.W.Frag) : R2 := fun x y H Q => ∃ (a b : Addr) (xs : List V), x = .ref a ∧ y = .ref b ∧ SqL K H a xs ∧ SqL K H b [] ∧ Q (.bl (!xs.isEmpty)) H
theorem op_eqL (units : X.A.units < cLine) : OpR X (compareOp .Eq) (rEqL X.K) := by
  intro pins s σ H x y v u Q I rx ry h
  obtain ⟨a, b, xs, rfl, rfl, ha, hb, q⟩ := h
  cases rx
  cases ry
  obtain ⟨its, r1, p1, _⟩ := I.list ha
  obtain ⟨its2, r2, p2, _⟩ := I.list hb
  cases r2
  cases r1 with
  | nil =>
    exact SeqAt.eq_listAt (e := fun _ => true) p1.isList p2.isList rfl units (fun j h1 h2 => absurd h2 (Nat.not_lt_zero j)) ⟨.bl true, H, I, rfl, q⟩
  | cons r t =>
    exact SeqAt.eq_list_lengthsAt p1.isList p2.isList (by simp) units ⟨.bl false, H, I, rfl, q⟩
theorem op_neL (units : X.A.units < cLine) : OpR X (compareOp .NotEq) (rNeL X.K) := by
  intro pins s σ H x y v u Q I rx ry h
  obtain ⟨a, b, xs, rfl, rfl, ha, hb, q⟩ := h
  cases rx
  cases ry
  obtain ⟨its, r1, p1, _⟩ := I.list ha
  obtain ⟨its2, r2, p2, _⟩ := I.list hb
  cases r2
  cases r1 with
  | nil =>
    exact SeqAt.RcNeAt.lists (e := fun _ => true) p1.isList p2.isList rfl units (fun j h1 h2 => absurd h2 (Nat.not_lt_zero j)) X.prog X.w X.xe (EP X pins σ Q) ⟨.bl false, H, I, rfl, q⟩
  | cons r t =>
    exact SeqAt.RcNeAt.lists_lengths p1.isList p2.isList (by simp) units X.prog X.w X.xe (EP X pins σ Q) ⟨.bl true, H, I, rfl, q⟩
end

/-! ### more of tuples: t == (), t >= u -/
section
variable {X : Cx}
def rEqE (K : PySem.W.Frag) : R2 := fun x y H Q => ∃ (a b : Addr) (xs : List V), x = .ref a ∧ y = .ref b ∧ SqT K H a xs ∧ SqT K H b [] ∧ Q (.bl xs.isEmpty) H
theorem op_eqE (units : X.A.units < cLine) : OpR X (compareOp .Eq) (rEqE X.K) := by
  intro pins s σ H x y v u Q I rx ry h
  obtain ⟨a, b, xs, rfl, rfl, ha, hb, q⟩ := h
  cases rx
  cases ry
  obtain ⟨its, r1, p1, _⟩ := I.tuple ha
  obtain ⟨its2, r2, p2, _⟩ := I.tuple hb
  cases r2
  apply SeqAt.eq_tupleAt (e := fun _ => true) (show s.heap.IsTuple a its.toArray from p1) (show s.heap.IsTuple b ([] : List Value).toArray from p2) units
  · intro j h1 h2
    exact absurd h2 (Nat.not_lt_zero j)
  · refine ⟨.bl xs.isEmpty, H, I, ?_, q⟩
    cases r1 with
    | nil => rfl
    | cons r t => rfl
def rGeT (K : PySem.W.Frag) : R2 := fun x y H Q => ∃ (a b : Addr) (ns ms : List Int), x = .ref a ∧ y = .ref b ∧ SqT K H a (ns.map V.int) ∧ SqT K H b (ms.map V.int) ∧
  Q (.bl (Ob.lexAt (fun j => decide (ns.getD j 0 = ms.getD j 0)) (fun j => decide (ms.getD j 0 ≤ ns.getD j 0)) (decide (ns.length ≥ ms.length)) 0 (min ns.length ms.length))) H
theorem op_geT (units : X.A.units < cLine) : OpR X (compareOp .GtE) (rGeT X.K) := by
  intro pins s σ H x y v u Q I rx ry h
  obtain ⟨a, b, ns, ms, rfl, rfl, ha, hb, q⟩ := h
  cases rx
  cases ry
  obtain ⟨us, r1, p1, _⟩ := I.tuple ha
  obtain ⟨ws, r2, p2, _⟩ := I.tuple hb
  have w1 : IntsAre us ns := Vals.ints r1
  have w2 : IntsAre ws ms := Vals.ints r2
  have l1 : us.toArray.size = ns.length := List.size_toArray.trans w1.length
  have l2 : ws.toArray.size = ms.length := List.size_toArray.trans w2.length
  have g1 : ∀ j (hj : j < us.toArray.size), ∃ t, us.toArray[j] = .int (ns.getD j 0) t := by
    intro j hj
    apply PyProof.Rows.IntsAre.int_at w1
    simp at hj
    simp [hj]
  have g2 : ∀ j (hj : j < ws.toArray.size), ∃ t, ws.toArray[j] = .int (ms.getD j 0) t := by
    intro j hj
    apply PyProof.Rows.IntsAre.int_at w2
    simp at hj
    simp [hj]
  have eqs : ∀ (i j : Int) (t u : Tok), SeqAt.EqAt X.A.in1 s (.int i t) (.int j u) (decide (i = j)) := by
    intro i j t u
    have z : (i == j) = decide (i = j) := by
      by_cases e : i = j
      · rw [decide_eq_true e]
        exact beq_iff_eq.mpr e
      · rw [decide_eq_false e]
        exact beq_eq_false_iff_ne.mpr e
    rw [← z]
    exact SeqAt.EqAt.int_int _ _ _ _
  have R := Ob.RcOp.tuples_ge (A := X.A) (s := s) (e := fun j => decide (ns.getD j 0 = ms.getD j 0)) (r := fun j => decide (ms.getD j 0 ≤ ns.getD j 0)) p1 p2 units
    (by
      intro j h1 h2
      obtain ⟨t, et⟩ := g1 j h1
      obtain ⟨t', et'⟩ := g2 j h2
      rw [et, et']
      exact eqs _ _ _ _)
    (by
      intro j h1 h2 _
      obtain ⟨t, et⟩ := g1 j h1
      obtain ⟨t', et'⟩ := g2 j h2
      rw [et, et']
      exact Ob.RcOp.ge_int _ _ _ _)
  rw [l1, l2] at R
  exact R X.prog X.w X.xe (EP X pins σ Q) ⟨.bl _, H, I, rfl, q⟩
end

/-! ### x in t, x not in t, for a tuple of data -/
theorem units65 {k : Nat} {A : Around} (r : Room k A) : A.units + 65 < cLine := by
  have := r.un
  omega
section
variable {X : Cx}
def rInT (K : PySem.W.Frag) : R2 := fun x y H Q => ∃ d ds, Dp K H x d ∧ Dp K H y (.tuple ds) ∧ SeqAt.shaped d = true ∧ SeqAt.shaped (.tuple ds) = true ∧ Q (.bl (ds.any fun z => PyData.eqv z d)) H
def rNotInT (K : PySem.W.Frag) : R2 := fun x y H Q => ∃ d ds, Dp K H x d ∧ Dp K H y (.tuple ds) ∧ SeqAt.shaped d = true ∧ SeqAt.shaped (.tuple ds) = true ∧ Q (.bl (!ds.any fun z => PyData.eqv z d)) H
theorem op_inT (units : X.A.units + 65 < cLine) : OpR X (compareOp .In) (rInT X.K) := by
  intro pins s σ H x y v u Q I rx ry ⟨d, ds, dx, dy, sx, sy, q⟩
  obtain ⟨_, r1⟩ := Dp.reads I d x v dx rx
  obtain ⟨_, r2⟩ := Dp.reads I (.tuple ds) y u dy ry
  have l2 : PyData.canLayAll0 ds = true := SeqAt.canLay_of_shaped sy
  exact SeqAt.in_tuple_reads r2 r1 l2 (SeqAt.canLay_of_shaped sx) (room_in_shaped sx units) (Exists.intro (V.bl _) ⟨H, I, rfl, q⟩)
theorem op_notInT (units : X.A.units + 65 < cLine) : OpR X (compareOp .NotIn) (rNotInT X.K) := by
  intro pins s σ H x y v u Q I rx ry ⟨d, ds, dx, dy, sx, sy, q⟩
  obtain ⟨_, r1⟩ := Dp.reads I d x v dx rx
  obtain ⟨_, r2⟩ := Dp.reads I (.tuple ds) y u dy ry
  have l2 : PyData.canLayAll0 ds = true := SeqAt.canLay_of_shaped sy
  exact SeqAt.notIn_tuple_reads r2 r1 l2 (SeqAt.canLay_of_shaped sx) (room_in_shaped sx units) (Exists.intro (V.bl _) ⟨H, I, rfl, q⟩)
end
theorem for_zipU {K : PySem.W.Frag} {a b : Addr} {xs ys : List V} {g : TG} {tb : TS} {D : Ends} {σ : L2.St} {H : Hp} (Pv : Nat → L2.St → Hp → Prop) (h0 : Pv 0 σ H) (hq : ∀ i σ H, Pv i σ H → SqT K H a xs ∧ SqT K H b ys)
    (hs : ∀ (i : Nat) (x y : V) (T : Addr) (σ : L2.St) (H : Hp), xs[i]? = some x → ys[i]? = some y → Pv i σ H → H T = none → g (.ref T) σ (upd H T (.tup [x, y])) fun σ2 H2 => tb { D with nx := Pv (i + 1), ct := Pv (i + 1), bk := D.nx } σ2 H2) (hd : ∀ i σ H, i ≤ xs.length → Pv i σ H → D.nx σ H) :
    ∃ W : Nat → Nat → L2.St → Hp → Prop, (∃ m, W 0 m σ H) ∧ ∀ i m σ H, W i m σ H →
      ((RZ.ItzT K a b).stop i H ∧ D.nx σ H) ∨ ((RZ.ItzT K a b).go i H ∧ ∃ N : L2.St → Hp → Prop, (∀ σ' H', N σ' H' → ∃ m', m' < m ∧ W (i + 1) m' σ' H') ∧ ∀ v H', (RZ.ItzT K a b).yld i H v H' → g v σ H' fun σ2 H2 => tb { D with nx := N, ct := N, bk := D.nx } σ2 H2) := by
  refine ⟨fun i m σ H => m = xs.length - i ∧ i ≤ xs.length ∧ Pv i σ H, ⟨_, rfl, Nat.zero_le _, h0⟩, ?_⟩
  rintro i m σ H ⟨rfl, hi, p⟩
  obtain ⟨q1, q2⟩ := hq i σ H p
  by_cases c : i < xs.length ∧ i < ys.length
  · refine .inr ⟨⟨xs, ys, xs[i]'c.1, ys[i]'c.2, q1, q2, List.getElem?_eq_getElem c.1, List.getElem?_eq_getElem c.2⟩, Pv (i + 1), fun σ' H' p' => ⟨xs.length - (i + 1), by omega, rfl, by omega, p'⟩, fun v H' hy => ?_⟩
    obtain ⟨T, x, y, rfl, nT, rfl, f1, f2⟩ := hy
    exact hs i x y T σ H (f1 xs q1) (f2 ys q2) p nT
  · exact .inl ⟨⟨xs, ys, q1, q2, by omega⟩, hd i σ H hi p⟩

/-! ### l.count(x): how many are equal -/
section
variable {X : Cx}
open PyProof in
def rCountD (K : PySem.W.Frag) : V → List V → Hp → VK → Prop := fun x xs H Q => ∃ (a : Addr) (y : V) (d : PyData) (ds : List PyData), x = V.ref a ∧ xs = [y] ∧ Dp K H (V.ref a) (.list ds) ∧ Dp K H y d ∧
  SeqAt.shaped (.list ds) = true ∧ SeqAt.shaped d = true ∧ Q (.int (ds.countP fun z => PyData.eqv z d : Nat)) H
theorem mt_countD (hu : X.A.units + 65 < cLine) : MtR X "list.count" (rCountD X.K) := by
  intro pins s σ H x xs v us Q I rx rxs h
  obtain ⟨a, y, d, ds, rfl, rfl, hl, hy, sl, sd, q⟩ := h
  cases rx
  cases rxs with
  | cons ry rt =>
    rename_i uy ut
    cases rt
    obtain ⟨bs, r1⟩ := Dp.reads I d y uy hy ry
    have hxs : PyData.canLayAll0 ds = true := SeqAt.canLay_of_shaped sl
    have hroom : X.A.units + 1 + min (PyData.depthAll ds) d.depth < cLine := room_in_shaped sd hu
    cases hl with
    | lst hs ha =>
      obtain ⟨its, rv, ⟨⟨cls, dd, data, sls⟩, n, ho, hc, hdn, hdt⟩, hlen⟩ := I.list hs
      simp only at hc hdt
      subst hc hdt
      obtain ⟨as, h4⟩ := Dp.readsAll I ds _ its ha rv
      have hmap : its.map (SeqAt.readOf s.heap) = ds := SeqAt.readsAll_map ds its as hxs h4
      refine call_meets PySem.F.slot_list_count ⟨_, ho, rfl⟩ PySem.F.entry_list_count (PySem.F.args_list_count_2 _ _)
        (SeqAt.list_countAt a its.toArray n dd sls uy (fun u => PyData.eqv (SeqAt.readOf s.heap u) d)) ⟨ho, SeqAt.items_eqAt (vs := its.toArray) (show ReadsAll s.heap its.toArray.toList ds as from h4) r1 hxs (SeqAt.canLay_of_shaped sd) hroom, ?_⟩
      have e : its.toArray.toList.countP (fun u => PyData.eqv (SeqAt.readOf s.heap u) d) = ds.countP fun z => PyData.eqv z d := by
        rw [← hmap, List.countP_map]
        rfl
      rw [e]
      exact ⟨.int _, H, I.tok _, ⟨_, rfl⟩, q⟩
end

def rLenS (K : PySem.W.Frag) : List V → Hp → VK → Prop := fun xs H Q => ∃ p ys, xs = [.ref p] ∧ (SqL K H p ys ∨ SqT K H p ys) ∧ Q (.int (ys.length : Nat)) H
theorem call_lenS {X : Cx} : CallR X (.builtin "len") (rLenS X.K) := call_len_seq
theorem pe_bmK {X : Cx} {K : PySem.W.Frag} {e : Expr} {T : String} {r : V → List V → Hp → VK → Prop} {to : TE} {t : TA} (hK : X.K = K) (h : PE X e (tBM X.K T r to t)) : PE X e (tBM K T r to t) := hK ▸ h

/-! ### own errors without own __init__: raised without arguments, out of a method; isinstance of a caught one -/
abbrev bmVE : List Value := [.type "ValueError", .type "Exception", .type "BaseException", .type "object"]
/-- a class that a clause or isinstance names -/
structure XcN (K : PySem.W.Frag) (mg : Str → Option Value) (x : Str) (C : Addr) : Prop where
  g : mg x = some (.ref C)
  ic : PySem.W.isClsIn K C = true
  ty : PySem.W.typeIn K (.ref C) = some (.type "type")
  ba : PySem.W.subIn K (.ref C) (.type "BaseException") = some true
/-- a class that is raised -/
structure XcR (K : PySem.W.Frag) (C : Addr) : Prop where
  xP : PySem.W.excIn K C bmVE "ValueError.__new__" = true
  kP : PySem.W.keepIn K (.ref C) = true
  ex : ExcC K C
section
variable {K : PySem.W.Frag} {mg : Str → Option Value}
theorem XcN.exm {x : Str} {D C : Addr} {b : Bool} (N : XcN K mg x C) (s : PySem.W.subIn K (.ref D) (.ref C) = some b) : PySem.W.exmOne K (.ref D) (.ref C) = some b := by
  have e1 : (PySem.W.subIn K (.ref C) (.type "BaseException") == some true) = true := by rw [N.ba] <;> rfl
  have e2 : ((PySem.W.clsIn K C).isSome && PySem.W.typeIn K (.ref C) == some (.type "type")) = true := by
    have h : (PySem.W.clsIn K C).isSome = true := N.ic
    rw [h, N.ty] <;> rfl
  show (if (PySem.W.subIn K (.ref C) (.type "BaseException") == some true) = true then (if ((PySem.W.clsIn K C).isSome && PySem.W.typeIn K (.ref C) == some (.type "type")) = true then PySem.W.subIn K (.ref D) (.ref C) else none) else none) = some b
  rw [if_pos e1, if_pos e2]
  exact s
theorem XcN.kit {x : Str} {D C : Addr} {b : Bool} (N : XcN K mg x C) (s : PySem.W.subIn K (.ref D) (.ref C) = some b) (ne : D ≠ C) : PySem.W.kitOne K (.ref D) (.ref C) = some b := by
  have e2 : ((PySem.W.clsIn K C).isSome && PySem.W.typeIn K (.ref C) == some (.type "type")) = true := by
    have h : (PySem.W.clsIn K C).isSome = true := N.ic
    rw [h, N.ty] <;> rfl
  have e0 : ¬ ((Value.ref D == Value.ref C) = true) := fun h => ne (Value.ref.inj (beq_iff_eq.mp h))
  show (if (Value.ref D == Value.ref C) = true then some true else (if ((PySem.W.clsIn K C).isSome && PySem.W.typeIn K (.ref C) == some (.type "type")) = true then PySem.W.subIn K (.ref D) (.ref C) else none)) = some b
  rw [if_neg e0, if_pos e2]
  exact s
theorem kit_self {D : Addr} : PySem.W.kitOne K (.ref D) (.ref D) = some true := by
  show (if (Value.ref D == Value.ref D) = true then some true else _) = some true
  rw [if_pos (beq_self_eq_true _)]
theorem kit_bltn {D : Addr} {T : String} {b : Bool} (m : PySem.W.kitMeta T = true) (s : PySem.W.subIn K (.ref D) (.type T) = some b) : PySem.W.kitOne K (.ref D) (.type T) = some b := by
  have e0 : ¬ ((Value.ref D == Value.type T) = true) := fun h => nomatch beq_iff_eq.mp h
  show (if (Value.ref D == Value.type T) = true then some true else (if PySem.W.kitMeta T = true then PySem.W.subIn K (.ref D) (.type T) else none)) = some b
  rw [if_neg e0, if_pos m]
  exact s
theorem exc_self {C : Addr} {bmB : List Value} {n : String} (q : PySem.W.excIn K C bmB n = true) : PySem.W.subIn K (.ref C) (.ref C) = some true := by
  unfold PySem.W.excIn at q
  split at q
  · rename_i dd cd sl ho
    split at q
    · rename_i C' bm k0 k1 k2 k3 n' k5 hm hs
      simp only [Bool.and_eq_true, beq_iff_eq] at q
      obtain ⟨⟨⟨⟨⟨rfl, _⟩, _⟩, _⟩, _⟩, _⟩ := q
      have hc : PySem.W.clsIn K C' = some cd := by
        unfold PySem.W.clsIn
        rw [ho] <;> rfl
      show PySem.W.mroIn K C' (.ref C') = some true
      unfold PySem.W.mroIn
      rw [hc]
      show (if cd.mro.isEmpty = true then none else some (cd.mro.contains (.ref C'))) = some true
      rw [hm, List.contains_cons, beq_self_eq_true]
      rfl
    · cases q
  · cases q
theorem XcR.ne {C D : Addr} (R : XcR K D) (h : PySem.W.subIn K (.ref D) (.ref C) = some false) : D ≠ C := fun e => by
  have z := exc_self R.xP
  rw [e] at z h
  rw [z] at h
  cases h
/-- no instance of any of these -/
theorem kit_none {D : Addr} (R : XcR K D) : ∀ {l : List (Str × Addr)}, (∀ p ∈ l, XcN K mg p.1 p.2 ∧ PySem.W.subIn K (.ref D) (.ref p.2) = some false) → PySem.W.kitAny K (.ref D) (l.map fun p => Value.ref p.2) = some false
  | [], _ => rfl
  | p :: l, h => kitAny_cons ((h p List.mem_cons_self).1.kit (h p List.mem_cons_self).2 (R.ne (h p List.mem_cons_self).2)) (fun _ => kit_none R fun q hq => h q (List.mem_cons_of_mem _ hq)) (fun z => nomatch z)
end
section
variable {X : Cx}
theorem pmk_own0 {C : Addr} {bmB : List Value} {B newId initId : String} {x : Str} {p pos : Pos} (F : ExcBaseFacts B newId initId bmB) (q : PySem.W.excIn X.K C bmB newId = true) (gC : X.mg x = some (.ref C)) (kC : PySem.W.keepIn X.K (.ref C) = true) (r : Raises X (.ref C)) (hg : Gl X x)
    (hdb : (x == ("__debug__" : Str)) = false := by decide) : PMk X (.Call (.Name x p) [] [] pos) (fun _ H Q => Q (.ref C) none H) := by
  intro pins s σ H Q I h
  refine wpAny_Call_Name_kw (ld_glob I hg gC ?_ hdb)
  refine PySem.W.callWith_K0 (first := []) I.kIn kC ?_
  show wpAny _ _ (call (.ref C) []) _ _ _
  obtain ⟨bm, N, nm, qn, bs, hdct, sn, sub, ab, col, dd, k0, k1, k2, k3, k5, mN, hC, hN, hni, T⟩ := exc_obj I.kIn q
  refine wpAny_call_exc_subT F T hC hN hni (fun h' e hm => ?_) (by show 0 ≤ sizeLine; decide)
  exact mk_of I hm r h (I.hok.gone hm.new)
/-- raise C() -/
theorem ps_raise0 {W : WX} {C : Addr} {x : Str} {p pos pos2 : Pos} (hc : X.calm = true) (tk : Takes X W) (N : XcN X.K X.mg x C) (R : XcR X.K C) (hg : Gl X x) (hdb : (x == ("__debug__" : Str)) = false := by decide) :
    PS X (.Raise (some (.Call (.Name x p) [] [] pos)) none pos2) (fun _ σ H => W (.ref C) none σ H) :=
  ps_raise hc tk (pmk_own0 PySem.F.excBase_ValueError R.xP N.g R.kP (raises_own N.ba N.ty) hg hdb)
variable {CX : CXT} {k : Nat} {f C : Addr} {fd : FuncData} {ps : List Str} {sp : Sp} {E : L2.St → XK} {x m : Str} {p pos apos : Pos} {e o : Expr} {es : List Expr} {ta : TE} {t : TA}
def tMethL (C : Addr) (m : Str) (sp : Sp) (E : L2.St → XK) (ta : TE) (t : TA) : TE := fun σ H Q => ta σ H fun x H1 => ∃ a dx fs, x = .ref a ∧ H1 a = some (.ins C dx fs) ∧ fs.lookup m = none ∧ t σ H1 fun vs H2 => sp (.ref a :: vs) H2 Q (E σ)
/-- o.m(), which may raise -/
theorem pe_methL0 {pl : Sem Bool} (he : PE X o ta) (c : Cls X.K C) (hm : Meth X.K C m f) (F : FnOk X.prog X.w X.K X.mg X.base CX k f fd ps sp) (hr : Room k X.A) (hb : Binds X.K fd ps []) (hx : ∀ σ, PassesAt CX X σ (E σ))
    (ht : eval (.Call (.Attribute o m apos) [] [] pos) X.env = (do
      let ov ← eval o X.env
      standAt apos.atName
      let (f, first) ← holding [ov] (getMethod ov m pl)
      callWith pos f first (backTo pos (starEach [] X.env)) (backToKw pos (keywordEach [] X.env))) := by rfl) :
    PE X (.Call (.Attribute o m apos) [] [] pos) (tMethL C m sp E ta tNil) := by
  refine ⟨fun pins s σ H Q I h => ?_⟩
  refine PySem.W.methodCall_KW (pl := pl) (thn (he.run pins s σ H _ I h) fun u s1 ⟨x, H1, I1, rx, a, dx, fs, ex, ea, l, q⟩ => ?_) ht
  subst ex
  obtain rfl : u = Value.ref a := rx
  refine getmeth_ok I1 ea c hm l ?_
  exact PySem.W.callWith_K0 (first := [.ref a]) I1.kIn hm.kp (run_fnS (us := [.ref a]) (vs := [.ref a]) F hr hb (hx σ) I1 (.cons rfl .nil) q)
/-- o.m(e, ..), which may raise -/
theorem pe_methL {pl : Sem Bool} (he : PE X o ta) (c : Cls X.K C) (hm : Meth X.K C m f) (F : FnOk X.prog X.w X.K X.mg X.base CX k f fd ps sp) (hr : Room k X.A) (hb : Binds X.K fd ps []) (hx : ∀ σ, PassesAt CX X σ (E σ)) (ha : PA X (e :: es) t)
    (hst : starEach (e :: es) X.env = (false, eval e X.env) :: starEach es X.env := by rfl) (hpl : (backTo pos (starEach es X.env)).any (·.1) = false := by rfl)
    (ht : eval (.Call (.Attribute o m apos) (e :: es) [] pos) X.env = (do
      let ov ← eval o X.env
      standAt apos.atName
      let (f, first) ← holding [ov] (getMethod ov m pl)
      callWith pos f first (backTo pos (starEach (e :: es) X.env)) (backToKw pos (keywordEach [] X.env))) := by rfl) :
    PE X (.Call (.Attribute o m apos) (e :: es) [] pos) (tMethL C m sp E ta t) := by
  refine ⟨fun pins s σ H Q I h => ?_⟩
  refine PySem.W.methodCall_KW (pl := pl) (thn (he.run pins s σ H _ I h) fun u s1 ⟨x, H1, I1, rx, a, dx, fs, ex, ea, l, q⟩ => ?_) ht
  subst ex
  obtain rfl : u = Value.ref a := rx
  refine getmeth_ok I1 ea c hm l ?_
  refine PySem.W.callWith_K (first := [.ref a]) (h₀ := X.base) I.ok.mod.kin hm.kp (thn (ha.run pos pins s1 σ H1 _ I1 q) fun us s2 ⟨vs, H2, I2, r, q2⟩ => ⟨I2.kIn, ?_⟩) hst hpl
  exact run_fnS (us := .ref a :: us) (vs := .ref a :: vs) F hr hb (hx σ) I2 (.cons rfl r) q2
/-- isinstance(e, c), e the exception (without a dict) that the suite holds -/
def rIsX (K : PySem.W.Frag) (a : Addr) (cls : Value) (d : Option Addr) : List V → Hp → VK → Prop := fun xs H Q => ∃ (D : Addr) (c : V) (cv : Value) (b : Bool), xs = [.ref a, c] ∧ cls = .ref D ∧ d = none ∧ ExcC K D ∧ ClsV c cv ∧ PySem.W.kitOne K (.ref D) cv = some b ∧ Q (.bl b) H
/-- isinstance(e, (c1, c2, ..)) -/
def rIsXT (K : PySem.W.Frag) (a : Addr) (cls : Value) (d : Option Addr) : List V → Hp → VK → Prop := fun xs H Q => ∃ (D tp : Addr) (cs : List V) (us : List Value) (b : Bool), xs = [.ref a, .ref tp] ∧ cls = .ref D ∧ d = none ∧ ExcC K D ∧ H tp = some (.tup cs) ∧ Paired ClsV cs us ∧ PySem.W.kitAny K (.ref D) us = some b ∧ Q (.bl b) H
theorem held_inst {a D : Addr} {oe : Obj} {pn pins : List (Addr × Obj)} {σ : L2.St} {H : Hp} {s : Shared} (I : Inv (X.suite a ((a, oe) :: pn)) pins σ H s) (hz : Zc (.ref D) none oe) (hf : ∃ vs, oe.data = .fields vs) : PySem.W.InstAt s.heap a oe D none := by
  obtain ⟨hget, _⟩ := I.pin (a, oe) (List.mem_append.mpr (.inl List.mem_cons_self))
  obtain ⟨vs, hv⟩ := hf
  obtain ⟨oc, od, oda, osl⟩ := oe
  obtain ⟨h1, h2⟩ := hz
  dsimp only at h1 h2 hv
  subst h1 h2 hv
  exact ⟨hget, rfl, rfl, trivial⟩
theorem call_isX {a : Addr} {cls : Value} {d : Option Addr} {oe : Obj} {pn : List (Addr × Obj)} (hz : Zc cls d oe) (hf : ∃ vs, oe.data = .fields vs) : CallR (X.suite a ((a, oe) :: pn)) (.builtin "isinstance") (rIsX X.K a cls d) := by
  intro pins s σ H xs us Q I r h
  obtain ⟨D, c, cv, b, rfl, rfl, rfl, C, hcv, e, q⟩ := h
  cases r with
  | cons rx rr =>
    cases rr with
    | cons rt rr =>
      cases rr
      cases rx
      have ec := hcv.eq rt
      subst ec
      exact PySem.W.kia_one (PySem.W.handS_kitx_exc C.hg C.hk C.hs C.hd C.ha C.hn C.ht C.hm) I.kIn (held_inst I hz hf) e (fun z => nomatch z) fun tk => ⟨.bl b, H, I.kept (t' := tk) fun _ _ z => z, rfl, q⟩
theorem call_isXT {a : Addr} {cls : Value} {d : Option Addr} {oe : Obj} {pn : List (Addr × Obj)} (hz : Zc cls d oe) (hf : ∃ vs, oe.data = .fields vs) : CallR (X.suite a ((a, oe) :: pn)) (.builtin "isinstance") (rIsXT X.K a cls d) := by
  intro pins s σ H xs us Q I r h
  obtain ⟨D, tp, cs, ws, b, rfl, rfl, rfl, C, hT, k, e, q⟩ := h
  cases r with
  | cons rx rr =>
    cases rr with
    | cons rt rr =>
      cases rr
      cases rx
      cases rt
      obtain ⟨_, its, rv, o, h1, h2, n, h3⟩ := (show ObjOk X.prog X.w H s.heap tp (.tup cs) from I.hok tp _ hT)
      have e3 := ClsV.all k rv
      subst e3
      obtain ⟨oc, od, dt, sl⟩ := o
      simp only at h2 h3
      subst h2 h3
      exact PySem.W.kia_tup (PySem.W.handS_kitx_exc C.hg C.hk C.hs C.hd C.ha C.hn C.ht C.hm) I.kIn (held_inst I hz hf) h1 e (fun z => nomatch z) fun tk => ⟨.bl b, H, I.tok tk, rfl, q⟩
end

/-! ### own errors with an own __init__ of one field: raised, asked for their class, their field read -/
section
open PySem.W
variable {prog : Program} {w : World} {A : Around} {E : Value → Shared → Prop} {K : Frag} {D x : Addr} {ox : Obj} {od : Option Obj} {s : Shared}
/-- e.__class__ of an error that has a dict (the library has it of one without) -/
theorem cls_of_dict {Q : Option Value → Shared → Prop} (C : ExcC K D) (X : K.In s.heap) (I : InstAt s.heap x ox D od) (h : Q (some (.ref D)) { s with toks := s.toks + 1 }) : wpAny (model prog w) A (getAttr? (.ref x) "__class__") Q E s := by
  have some_cls : (clsIn K D).isSome = true := by
    obtain ⟨cd, hc, _⟩ := any_some C.hd
    rw [hc]
    rfl
  have found := looks_find (M := model prog w) X I (findObj_dataE (od := od) some_cls C.ha C.hn C.ht)
  obtain ⟨hp, g, d, t, os⟩ := s
  have own := I.type (M := model prog w)
  have isE : Looks (model prog w) hp (isInstance (.ref x) (.type "BaseException")) true := own.andThen (looks_subIn X C.hs)
  have notObj : (Value.builtin "BaseException.__getattribute__" == Value.builtin "object.__getattribute__") = false := by decide +kernel
  unfold getAttr? getAttrBy? getAttrBy
  refine wpAny_bind (wpAny_mkText (wpAny_bind (wpAny_attempt (wpAny_holding (wpAny_bind (own.at (wpAny_bind ((looks_findIn X C.hg).at ?_))))))))
  show wpAny _ _ (if (onTheHeap (Value.ref D) && Value.builtin "BaseException.__getattribute__" == Value.builtin "object.__getattribute__") = true then _ else _) _ _ _
  rw [show (onTheHeap (Value.ref D) && Value.builtin "BaseException.__getattribute__" == Value.builtin "object.__getattribute__") = false by rw [notObj]; rfl, if_neg Bool.false_ne_true]
  unfold getAttrByItsOwn hookBefore
  refine wpAny_bind ?_
  rw [if_pos (show onTheHeap (Value.ref D) = true from rfl)]
  refine (looks_findIn X C.hk).at (wpAny_bind (wpAny_attempt (wpAny_holding ?_)))
  unfold callGetattribute
  rw [show (false && onTheHeap (Value.builtin "BaseException.__getattribute__")) = false from rfl, if_neg Bool.false_ne_true]
  unfold boundAndCalled
  rw [PySem.F.excAttr_ValueError.ga.bind (.ref x)]
  refine wpAny_bind (wpAny_pure ?_)
  show wpAny _ _ (call (.builtin "BaseException.__getattribute__") [.ref x, .str "__class__" t]) _ _ _
  refine wpAny_call (codeAny_call_builtin PySem.F.excAttr_ValueError.ga.plain PySem.F.entry_bexc_ga ?_)
  refine @check_slot (model prog w) _ _ ⟨hp, g, d, t + 1, os⟩ "BaseException.__getattribute__" "BaseException" "__getattribute__" (.ref x) [.str "__class__" t] [] _ (by decide +kernel) (by decide +kernel) isE (PySem.F.args_bexc_ga (.ref x) (.str "__class__" t)) ?_
  unfold Builtin.«object.__getattribute__»
  refine wpAny_bind (wpAny_of_eq (a := ((Value.ref x : Value), [Value.str "__class__" t])) (by first | rfl | (simp only [slotArgs]; rfl)) ?_)
  refine wpAny_bind (wpAny_pure (wpAny_bind (own.at (wpAny_bind (found.at ?_)))))
  show wpAny _ _ (holding [Value.builtin "object.__class__"] (call (.builtin "getset_descriptor.__get__") [.builtin "object.__class__", .ref x, .ref D]) >>= ret) _ _ _
  refine wpAny_bind (wpAny_holding (wpAny_call (class_get (s := ⟨hp, g, d, t + 1, os⟩) X I C.hm (wpAny_pure ?_))))
  show wpAny _ _ (handedOut (.ref D)) _ _ _
  rw [handedOut_of (v := .ref D) rfl]
  first
    | exact wpAny_pure (wpAny_pure h)
    | exact wpAny_pure h
    | exact wpAny_pure (wpAny_bind (wpAny_pure (wpAny_pure h)))
theorem kitx_dict (C : ExcC K D) : KitX K (.ref x) (.ref D) (fun h => InstAt h x ox D od) where
  ty := fun _ _ _ I => I.type
  it := fun _ _ X _ => by
    obtain ⟨cd, hc, _⟩ := any_some C.hd
    unfold clsIn at hc
    split at hc
    · rename_i ho
      intro A' Q' E' s' k q
      unfold isType loadHead
      exact wpAny_bind (wpAny_loadPart (k _ _ (X _ _ ho)) (wpAny_pure q))
    · cases hc
  ne := fun h tp dd its n sl X htp => by
    obtain ⟨cd, hc, _⟩ := any_some C.hd
    refine Bool.eq_false_iff.mpr fun q => ?_
    obtain rfl : D = tp := Value.ref.inj (beq_iff_eq.mp q)
    unfold clsIn at hc
    split at hc
    · rename_i ho
      have z := (X _ _ ho).symm.trans htp
      cases z
    · cases hc
  ca := fun X I k => cls_of_dict C X I k
end
/-- an error's dict, if it has one -/
def ExD (H : Hp) (d : Option Addr) : Prop := d = none ∨ ∃ dd fs, d = some dd ∧ H dd = some (.xd fs)
/-- what the written part says of a class with an own __init__ that sets the field f -/
structure XcI (K : PySem.W.Frag) (C fI : Addr) (f : Str) : Prop where
  ox : OexC K C
  iC : PySem.W.findIn K (.ref C) "__init__" = some (some (.ref fI))
  tI : PySem.W.typeIn K (.ref fI) = some (.type "function")
  no : PySem.W.findIn K (.ref C) f = some none
  ex : ExcC K C
theorem XcI.xf {K : PySem.W.Frag} {C fI : Addr} {f : Str} (I : XcI K C fI f) : XfC K C := ⟨I.ex.hg, I.ex.hk, I.ex.hs, I.ex.hd⟩
theorem oex_self {K : PySem.W.Frag} {C : Addr} (O : OexC K C) : PySem.W.subIn K (.ref C) (.ref C) = some true := by
  obtain ⟨nm, q, N, bs, bm, sn, sub, ab, col, dd, k0, k1, k2, k3, k5, h, _⟩ := O.cls
  show PySem.W.mroIn K C (.ref C) = some true
  unfold PySem.W.mroIn PySem.W.clsIn
  rw [h]
  show (if (Value.ref C :: bm).isEmpty = true then none else some ((Value.ref C :: bm).contains (.ref C))) = some true
  rw [List.contains_cons, beq_self_eq_true]
  rfl
theorem XcI.ne {K : PySem.W.Frag} {C D fI : Addr} {f : Str} (R : XcI K D fI f) (h : PySem.W.subIn K (.ref D) (.ref C) = some false) : D ≠ C := fun e => by
  have z := oex_self R.ox
  rw [e] at z h
  rw [z] at h
  cases h
theorem kit_noneI {K : PySem.W.Frag} {mg : Str → Option Value} {D fI : Addr} {f : Str} (R : XcI K D fI f) : ∀ {l : List (Str × Addr)}, (∀ p ∈ l, XcN K mg p.1 p.2 ∧ PySem.W.subIn K (.ref D) (.ref p.2) = some false) → PySem.W.kitAny K (.ref D) (l.map fun p => Value.ref p.2) = some false
  | [], _ => rfl
  | p :: l, h => kitAny_cons ((h p List.mem_cons_self).1.kit (h p List.mem_cons_self).2 (R.ne (h p List.mem_cons_self).2)) (fun _ => kit_noneI R fun q hq => h q (List.mem_cons_of_mem _ hq)) (fun z => nomatch z)
def sp_exc_init (K : PySem.W.Frag) (C : Addr) (f : Str) : Sp := fun vs H Q _ => ∃ (a : Addr) (v : V), vs = [.ref a, v] ∧ H a = some (exo a C none) ∧ ∀ dx, H dx = none → dx ≠ a → Q .non (upd (upd H dx (exd dx [(f, v)])) a (exo a C (some dx)))
section
variable {X : Cx}
/-- the args, with more said of them than is asked -/
def tMono (ta : TA) : TA := fun σ H R => ∃ S, ta σ H S ∧ ∀ vs H1, S vs H1 → R vs H1
theorem pa_mono {es : List Expr} {ta : TA} (h : PA X es ta) : PA X es (tMono ta) := ⟨fun pos pins s σ H Q I q => by
  obtain ⟨S, h1, h2⟩ := q
  refine thn (h.run pos pins s σ H S I h1) fun us s1 hh => ?_
  obtain ⟨vs, H1, I1, r, z⟩ := hh
  exact ⟨vs, H1, I1, r, h2 _ _ z⟩⟩
def tMk1 (C : Addr) (f : Str) (ta : TA) : L2.St → Hp → XK → Prop := fun σ H Q => ta σ H fun vs H1 => ∃ v, vs = [v] ∧ ∀ d, H1 d = none → Q (.ref C) (some d) (upd H1 d (.xd [(f, v)]))
theorem pmk_1 {x f : Str} {C fI : Addr} {k : Nat} {fd : FuncData} {ps : List Str} {p pos : Pos} {e : Expr} {ta : TA} (N : XcN X.K X.mg x C) (I : XcI X.K C fI f) (F1 : FnOk X.prog X.w X.K X.mg X.base CX0 k fI fd ps (sp_exc_init X.K C f)) (hr : Room (k + 1) X.A) (hb : Binds X.K fd ps [])
    (hg : Gl X x) (ha : PA X [e] ta) (hdb : (x == ("__debug__" : Str)) = false := by decide) (he : starEach (e :: []) X.env = (false, eval e X.env) :: starEach [] X.env := by rfl) (hpl : (backTo pos (starEach [] X.env)).any (·.1) = false := by rfl) :
    PMk X (.Call (.Name x p) [e] [] pos) (tMk1 C f ta) := by
  intro pins s σ H Q J h
  refine pmk_oex (dvs := []) I.ox I.iC I.tI F1 hr hb .nil (fun _ _ _ _ _ _ _ h => h.elim) hg N.g (pa_mono ha) hdb he hpl pins s σ H Q J ⟨_, h, fun vs H1 h1 => ?_⟩
  obtain ⟨v, rfl, q⟩ := h1
  refine ⟨by show 1 ≤ 1000; decide, fun a na => ⟨a, v, rfl, upd_same, fun dx nd ne => ⟨rfl, dx, [(f, v)], upd_same, ?_, ?_, ?_⟩⟩⟩
  · rw [upd_ne ne]
    exact upd_same
  · rw [upd_ne ne] at nd
    exact nd
  · have nd1 : H1 dx = none := by
      rw [upd_ne ne] at nd
      exact nd
    have z := q dx nd1
    have e2 : upd H1 dx (.xd [(f, v)]) = upd (del (upd (upd (upd H1 a (exo a C none)) dx (exd dx [(f, v)])) a (exo a C (some dx))) a) dx (.xd [(f, v)]) := by
      funext b
      by_cases hb : b = dx
      · rw [hb, upd_same, upd_same]
      · rw [upd_ne hb, upd_ne hb]
        by_cases ha : b = a
        · rw [ha, del_same, na]
        · rw [del_ne ha, upd_ne ha, upd_ne hb, upd_ne ha]
    rw [← e2]
    exact z
/-- raise C(e) -/
theorem ps_raise1 {W : WX} {x f : Str} {C fI : Addr} {k : Nat} {fd : FuncData} {ps : List Str} {p pos pos2 : Pos} {e : Expr} {ta : TA} (hc : X.calm = true) (tk : Takes X W) (N : XcN X.K X.mg x C) (I : XcI X.K C fI f) (F1 : FnOk X.prog X.w X.K X.mg X.base CX0 k fI fd ps (sp_exc_init X.K C f)) (hr : Room (k + 1) X.A) (hb : Binds X.K fd ps [])
    (hg : Gl X x) (ha : PA X [e] ta) (hdb : (x == ("__debug__" : Str)) = false := by decide) (he : starEach (e :: []) X.env = (false, eval e X.env) :: starEach [] X.env := by rfl) (hpl : (backTo pos (starEach [] X.env)).any (·.1) = false := by rfl) :
    PS X (.Raise (some (.Call (.Name x p) [e] [] pos)) none pos2) (fun _ σ H => tMk1 C f ta σ H fun cls d H' => W cls d σ H') := ps_raise hc tk (pmk_1 N I F1 hr hb hg ha hdb he hpl)
/-- isinstance(e, c), e the error that the suite holds, with a dict or without -/
def rIsY (K : PySem.W.Frag) (a : Addr) (cls : Value) (d : Option Addr) : List V → Hp → VK → Prop := fun xs H Q => ∃ (D : Addr) (c : V) (cv : Value) (b : Bool), xs = [.ref a, c] ∧ cls = .ref D ∧ ExD H d ∧ ExcC K D ∧ ClsV c cv ∧ PySem.W.kitOne K (.ref D) cv = some b ∧ Q (.bl b) H
def rIsYT (K : PySem.W.Frag) (a : Addr) (cls : Value) (d : Option Addr) : List V → Hp → VK → Prop := fun xs H Q => ∃ (D tp : Addr) (cs : List V) (us : List Value) (b : Bool), xs = [.ref a, .ref tp] ∧ cls = .ref D ∧ ExD H d ∧ ExcC K D ∧ H tp = some (.tup cs) ∧ Paired ClsV cs us ∧ PySem.W.kitAny K (.ref D) us = some b ∧ Q (.bl b) H
theorem held_instD {a D : Addr} {oe : Obj} {d : Option Addr} {pn pins : List (Addr × Obj)} {σ : L2.St} {H : Hp} {s : Shared} (I : Inv (X.suite a ((a, oe) :: pn)) pins σ H s) (hz : Zc (.ref D) d oe) (hf : ∃ vs, oe.data = .fields vs) (hd : ExD H d) : ∃ od, PySem.W.InstAt s.heap a oe D od := by
  rcases hd with rfl | ⟨dd, fs, rfl, e⟩
  · exact ⟨none, held_inst I hz hf⟩
  · obtain ⟨hget, _⟩ := I.pin (a, oe) (List.mem_append.mpr (.inl List.mem_cons_self))
    obtain ⟨vs, hv⟩ := hf
    obtain ⟨mA, hns, _⟩ := (show ObjOk X.prog X.w H s.heap dd (.xd fs) from I.hok dd _ e)
    obtain ⟨od, ho, _⟩ := lookIn_ns hns
    exact ⟨some od, hget, hz.1, by unfold PySem.W.notCls; rw [hv] <;> rfl, by rw [hz.2]; exact ho⟩
theorem call_isY {a : Addr} {cls : Value} {d : Option Addr} {oe : Obj} {pn : List (Addr × Obj)} (hz : Zc cls d oe) (hf : ∃ vs, oe.data = .fields vs) : CallR (X.suite a ((a, oe) :: pn)) (.builtin "isinstance") (rIsY X.K a cls d) := by
  intro pins s σ H xs us Q I r h
  obtain ⟨D, c, cv, b, rfl, rfl, hd, C, hcv, e, q⟩ := h
  obtain ⟨od, J⟩ := held_instD I hz hf hd
  cases r with
  | cons rx rr =>
    cases rr with
    | cons rt rr =>
      cases rr
      cases rx
      have ec := hcv.eq rt
      subst ec
      exact PySem.W.kia_one (kitx_dict C) I.kIn J e (fun z => nomatch z) fun tk => ⟨.bl b, H, I.kept (t' := tk) fun _ _ z => z, rfl, q⟩
theorem call_isYT {a : Addr} {cls : Value} {d : Option Addr} {oe : Obj} {pn : List (Addr × Obj)} (hz : Zc cls d oe) (hf : ∃ vs, oe.data = .fields vs) : CallR (X.suite a ((a, oe) :: pn)) (.builtin "isinstance") (rIsYT X.K a cls d) := by
  intro pins s σ H xs us Q I r h
  obtain ⟨D, tp, cs, ws, b, rfl, rfl, hd, C, hT, k, e, q⟩ := h
  obtain ⟨od, J⟩ := held_instD I hz hf hd
  cases r with
  | cons rx rr =>
    cases rr with
    | cons rt rr =>
      cases rr
      cases rx
      cases rt
      obtain ⟨_, its, rv, o, h1, h2, n, h3⟩ := (show ObjOk X.prog X.w H s.heap tp (.tup cs) from I.hok tp _ hT)
      have e3 := ClsV.all k rv
      subst e3
      obtain ⟨oc, oD, dt, sl⟩ := o
      simp only at h2 h3
      subst h2 h3
      exact PySem.W.kia_tup (kitx_dict C) I.kIn J h1 e (fun z => nomatch z) fun tk => ⟨.bl b, H, I.tok tk, rfl, q⟩
end

/-! ### two promises of one def; a class of the program whose __init__ may raise -/
section
variable {P : Program} {w : World} {K : PySem.W.Frag} {mg : Str → Option Value} {base : Heap} {k : Nat} {f : Addr} {fd : FuncData} {ps : List Str} {sp0 sp1 : Sp}
/-- what a def does where all is well (no error leaves it), and what it raises elsewhere, shown apart -/
theorem fn_or (F0 : FnOk P w K mg base CX0 k f fd ps sp0) (F1 : FnOk P w K mg base (L2.CX P w) k f fd ps sp1) : FnOk P w K mg base (L2.CX P w) k f fd ps (fun vs H Q E => sp0 vs H Q E ∨ sp1 vs H Q E) where
  len := fun vs H Q E h => h.elim (F0.len vs H Q E) (F1.len vs H Q E)
  run := fun A outer s H args us vs Q E hr he hb hv h => by
    rcases h with h | h
    · refine codeAny_mono (F0.run A outer s H args us vs Q E hr he hb hv h) fun r s' q => ?_
      cases r with
      | error e => exact False.elim q
      | ok fl => cases fl <;> exact q
    · exact F1.run A outer s H args us vs Q E hr he hb hv h
end
section
variable {X : Cx} {CX : CXT} {k : Nat} {f C : Addr} {fd : FuncData} {ps : List Str} {sp : Sp} {E : L2.St → XK} {x : Str} {p pos : Pos} {e : Expr} {es : List Expr} {t : TA} {dvs : List V} {ds : List Value}
def tMakeL (C : Addr) (sp : Sp) (dvs : List V) (E : L2.St → XK) (t : TA) : TE := fun σ H Q => t σ H fun vs H1 => ∀ x dx, H1 x = none → H1 dx = none → dx ≠ x → sp (.ref x :: (vs ++ dvs)) (upd (upd H1 dx (.own x)) x (.ins C dx [])) (fun v H2 => v = .non ∧ Q (.ref x) H2) (E σ)
theorem run_makeL {pins : List (Addr × Obj)} {σ : L2.St} {H : Hp} {s : Shared} {Q : VK} {us : List Value} {vs : List V} (M : Mk X.K C f) (F : FnOk X.prog X.w X.K X.mg X.base CX k f fd ps sp) (hr : Room (k + 1) X.A) (hb : Binds X.K fd ps ds) (hd : Vals dvs ds) (hx : PassesAt CX X σ (E σ))
    (I : Inv X pins σ H s) (r : Vals vs us) (h : ∀ x dx, H x = none → H dx = none → dx ≠ x → sp (.ref x :: (vs ++ dvs)) (upd (upd H dx (.own x)) x (.ins C dx [])) (fun v H2 => v = .non ∧ Q (.ref x) H2) (E σ)) :
    wpAny (model X.prog X.w) X.A (call (.ref C) us) (EP X pins σ Q) X.xe s := by
  have hq := h (s.heap.objs.size + 1) s.heap.objs.size (I.hok.fresh (Nat.le_succ _)) (I.hok.fresh (Nat.le_refl _)) (Nat.ne_of_lt (Nat.lt_succ_self _))
  have I2 := Inv.made (C := C) I
  have r2 : Vals (V.ref (s.heap.objs.size + 1) :: (vs ++ dvs)) (Value.ref (s.heap.objs.size + 1) :: (us ++ ds)) := .cons rfl (r.append hd)
  have hl : (Value.ref (s.heap.objs.size + 1) :: us ++ ds).length = ps.length := by
    have e := r2.length
    rw [F.len _ _ _ _ hq] at e
    exact e.symm
  refine wpAny_call (make_map (f := f) I.kIn M.makes M.init (beq_iff_eq.mp M.fn) (codeAny_mono (F.run _ X.stack _ _ ⟨Value.ref (s.heap.objs.size + 1) :: us, []⟩ (Value.ref (s.heap.objs.size + 1) :: (us ++ ds)) _ _ (E σ) (hr.make C us [])
    (I2.env0.make C us []) (hb _ (Value.ref (s.heap.objs.size + 1) :: us) I2.kIn hl) r2 hq) fun r s' hq' => ?_))
  cases r with
  | error e => exact hx pins _ _ e s' I2 hq'
  | ok fl =>
    cases fl with
    | ret u =>
      obtain ⟨v, H', I3, rv, ev, q3⟩ := I2.after hq'
      subst ev
      exact ⟨rv, ⟨V.ref (s.heap.objs.size + 1), H', I3, rfl, q3⟩⟩
    | next => exact False.elim hq'
    | brk => exact False.elim hq'
    | cont => exact False.elim hq'
/-- C(e, ..), whose __init__ may raise -/
theorem pe_makeL (M : Mk X.K C f) (F : FnOk X.prog X.w X.K X.mg X.base CX k f fd ps sp) (hr : Room (k + 1) X.A) (hg : Gl X x) (hm : X.mg x = some (.ref C)) (hb : Binds X.K fd ps ds) (hd : Vals dvs ds) (hx : ∀ σ, PassesAt CX X σ (E σ))
    (ha : PA X (e :: es) t) (hdb : (x == ("__debug__" : Str)) = false := by decide) (he : starEach (e :: es) X.env = (false, eval e X.env) :: starEach es X.env := by rfl) (hpl : (backTo pos (starEach es X.env)).any (·.1) = false := by rfl) :
    PE X (.Call (.Name x p) (e :: es) [] pos) (tMakeL C sp dvs E t) := by
  refine ⟨fun pins s σ H Q I h => ?_⟩
  refine wpAny_Call_Name_kw (ld_glob I hg hm ?_ hdb)
  refine PySem.W.callWith_K (h₀ := X.base) I.ok.mod.kin M.kp (thn (ha.run pos pins s σ H _ I h) fun us s1 ⟨vs, H1, I1, r, q⟩ => ⟨I1.kIn, ?_⟩) he hpl
  exact run_makeL M F hr hb hd (hx σ) I1 r q
end

/-! ### several except clauses, each with a name -/
def wAsM (K : PySem.W.Frag) (Wout : WX) (D : Ends) : List (Value × Nat × (Addr → Value → Option Addr → TS)) → WX
  | [] => Wout
  | (c, i, ts) :: r => fun cls d σ H => ∃ b, PySem.W.exmOne K cls c = some b ∧
    (b = true → ∀ a, H a = none → ts a cls d { nx := fun σ' H' => D.nx (σ'.set i none) H', rt := D.rt, bk := fun σ' H' => D.bk (σ'.set i none) H', ct := fun σ' H' => D.ct (σ'.set i none) H' } (σ.set i (some (.ref a))) H) ∧ (b = false → wAsM K Wout D r cls d σ H)
inductive HdsAs (X : Cx) : List ExceptHandler → List (Value × Nat × (Addr → Value → Option Addr → TS)) → Prop
  | nil : HdsAs X [] []
  | cons {x n : Str} {c : Value} {i : Nat} {ts : Addr → Value → Option Addr → TS} {b₀ : Stmt} {suite : List Stmt} {np pos' : Pos} {hds : List ExceptHandler} {l : List (Value × Nat × (Addr → Value → Option Addr → TS))} (hc : Names X x c) (hi : X.N[i]? = some n) (hln : X.env.kindOf n = some .local)
      (hsu : ∀ (a : Addr) (oe : Obj) (cls : Value) (d : Option Addr) (pn : List (Addr × Obj)), Zc cls d oe → (∃ vs, oe.data = .fields vs) → PSs (X.suite a ((a, oe) :: pn)) (b₀ :: suite) (ts a cls d)) (r : HdsAs X hds l) :
      HdsAs X (.ExceptHandler (some (.Name x np)) (some n) (b₀ :: suite) pos' :: hds) ((c, i, ts) :: l)
section
variable {X : Cx} {body : List Stmt} {h₀ : ExceptHandler} {hds : List ExceptHandler} {l : List (Value × Nat × (Addr → Value → Option Addr → TS))} {pos : Pos} {tb : WX → TS} {Wout : WX}
theorem ps_try_ases (hs : X.stack = X.env :: X.outer) (hf : X.env.frame = some X.env.locals) (hN : X.N.Nodup) (tk : Takes X Wout)
    (hb : ∀ (W : WX) (pn : List (Addr × Obj)) (xe : Value → Shared → Prop), Takes (X.tr pn xe) W → PassesOwn (model X.prog X.w) X.A X.env xe → PSs (X.tr pn xe) body (tb W))
    (hh : HdsAs X (h₀ :: hds) l) : PS X (.Try body (h₀ :: hds) [] [] pos) (fun D σ H => tb (wAsM X.K Wout D l) D σ H) := by
  refine ⟨fun pins s σ H D I h => ?_⟩
  have ok := I.ok
  have hfr : X.A.frames = some (X.env :: X.outer) := by rw [ok.frames, hs]
  refine wpAny_Try_except ?_
  refine wpAny_mono ((hb (wAsM X.K Wout D l) (X.pn ++ pins) (fun e s₁ => wpAny (model X.prog X.w) X.A (noteFrame e X.env) (fun _ s₂ => wpAny (model X.prog X.w) X.A (setFlight e none) (fun _ s₃ =>
    wpAny (model X.prog X.w) X.A (handleBy e X.env (h₀ :: hds)) (SP X pins D) X.xe s₃) X.xe s₂) X.xe s₁) (fun u s' xx => ?_) PassesOwn.looking).run [] s σ H D (I.toTry _) h) (fun f s1 hsp => ?_) (fun e s1 he => he)
  · obtain ⟨a, B, sI, pins', σ', H', cls, d, rfl, J', nb, up, sky, na, os, ag, w⟩ := xx
    have J : Inv X pins σ' H' sI := J'.ofTry ok
    have sky' : Sky B (X.env :: X.outer) a (Zc cls d) X.env.locals s'.heap := by rw [← hs]; exact sky
    show wpAny (model X.prog X.w) X.A (noteFrame (.ref a) X.env) _ _ _
    refine Sky.land Zc.steady hfr hf sky' fun h3 fl3 up3 => ?_
    have J3 : Inv X pins σ' H' { s' with heap := h3 } := J.landed nb fl3.1 (up.trans up3) os ag
    obtain ⟨oe3, vs3, he3, hz3, hd3⟩ := fl3.there
    have nfr : a ∉ frs (X.env :: X.outer) := fun hm => by
      obtain ⟨_, o', e', hnf⟩ := fl3.2.2.1.mem hm
      rw [he3] at e'
      cases e'
      exact hnf _ hd3
    have nL : a ≠ X.env.locals := fun z => nfr (List.mem_filterMap.mpr ⟨X.env, List.mem_cons_self, by rw [hf, z]⟩)
    have nF : a ∉ X.fs := fun hm => by
      obtain ⟨e, he, q⟩ := List.mem_filterMap.mp hm
      exact nfr (List.mem_filterMap.mpr ⟨e, List.mem_cons_of_mem _ he, q⟩)
    have S3 := J3.suite he3 hd3 na nL nF
    have go : ∀ {hds' : List ExceptHandler} {l' : List (Value × Nat × (Addr → Value → Option Addr → TS))}, HdsAs X hds' l' → wAsM X.K Wout D l' cls d σ' H' →
        wpAny (model X.prog X.w) X.A (handleBy (.ref a) X.env hds') (SP X pins D) X.xe { s' with heap := h3 } := by
      intro hds' l' hk
      induction hk with
      | nil =>
        intro w
        refine wpAny_handleBy_nil ?_
        obtain ⟨_, _, _, _, _, T, _, _, he, _, hd, h1, _⟩ := id fl3
        unfold PySem.passOn
        refine wpAny_bind (wpAny_field he hd h1 ?_)
        rw [if_neg (show ¬ ((Value.ref T == Value.none) = true) from by simp)]
        have fin : wpAny (model X.prog X.w) X.A (setFlight (.ref a) X.env.frame) (fun _ s4 => wpAny (model X.prog X.w) X.A (throw (.ref a) : Sem Flow) (SP X pins D) X.xe s4) X.xe { s' with heap := h3 } := by
          rw [hf]
          refine HandSPX.setFlight_upZ fl3 fun h4 hh4 up4 => wpAny_throw (tk _ _ ?_)
          exact ⟨a, B, sI, pins, σ', H', cls, d, rfl, J, nb, (up.trans up3).trans up4, .inr (.inr (by rw [hs]; exact hh4)), na, os, ag, w⟩
        first
          | exact wpAny_bind (wpAny_pure (wpAny_bind fin))
          | exact wpAny_bind fin
      | @cons x n c i ts b₀ suite np pos' hds2 l2 hc hi hln hsu r ih =>
        intro w
        obtain ⟨b, hb1, hyes, hno⟩ := w
        refine wpAny_handleBy_cons (codeAny_handlers_test ?_) (by intro q; cases q)
        have LM := PySem.W.exm_one (M := model X.prog X.w) (J3.kIn) (fun A Q E s k q => wpAny_typeOf_ref (k _ _ he3) (by rw [hz3.1]; exact q) : PySem.W.Looks (model X.prog X.w) h3 (typeOf (.ref a)) cls) hb1
        have test : ∀ {Q : Value → Shared → Prop} {E : Value → Shared → Prop}, Q c { s' with heap := h3 } → wpAny (model X.prog X.w) (X.A.mark (some (.ref a))) (eval (.Name x np) X.env) Q E { s' with heap := h3 } := fun {Q E} q => by
          obtain ⟨hg, hdbg, hm | ⟨hm, hv, hnn⟩⟩ := hc
          · exact ld_glob (X := X.suite a ((a, oe3) :: (X.pn ++ pins))) S3 hg hm q hdbg
          · exact ld_blt (X := X.suite a ((a, oe3) :: (X.pn ++ pins))) S3 hg hm hv q hnn hdbg
        refine test (LM.here ?_)
        cases b with
        | true =>
          refine codeAny_handlers_suite_as ?_
          refine HandSPX.lands_againZ fl3 fun h4 fl4 up4 => ?_
          have J4 : Inv X pins σ' H' { s' with heap := h4 } := J.landed nb fl4.1 ((up.trans up3).trans up4) os ag
          obtain ⟨oe4, vs4, he4, hz4, hd4⟩ := fl4.there
          have S4 := J4.suite he4 hd4 na nL nF
          refine store_ok (X := X.suite a ((a, oe4) :: (X.pn ++ pins))) (v := .ref a) S4 hN hi (.inl hln) rfl (fun s5 S5 => ?_) (.inr hln)
          refine wpAny_mono ((hsu a oe4 cls d (X.pn ++ pins) hz4 ⟨_, hd4⟩).run [] s5 _ H' _ S5 (hyes rfl a na)) (fun f s6 hsp => ?_) (fun _ _ z => False.elim z)
          have out : ∀ {σ6 : L2.St} {H6 : Hp} {Q : Shared → Prop}, Inv (X.suite a ((a, oe4) :: (X.pn ++ pins))) [] σ6 H6 s6 → (∀ s7, Inv X pins (σ6.set i none) H6 s7 → Q s7) →
              wpAny (model X.prog X.w) X.A (do bindName X.env n .none; unbindBehindTheSuite X.env n pos') (fun _ s7 => Q s7) X.xe s6 := fun {σ6 H6 Q} S6 hq => gone_ok (S6.unsuite ok) hN hi hln hq
          cases f with
          | next =>
            obtain ⟨σ6, H6, S6, q6⟩ := hsp
            exact out S6 fun s7 J7 => ⟨_, _, J7, q6⟩
          | brk =>
            obtain ⟨σ6, H6, S6, q6⟩ := hsp
            exact out S6 fun s7 J7 => ⟨_, _, J7, q6⟩
          | cont =>
            obtain ⟨σ6, H6, S6, q6⟩ := hsp
            exact out S6 fun s7 J7 => ⟨_, _, J7, q6⟩
          | ret u =>
            obtain ⟨v6, σ6, H6, S6, r6, q6⟩ := hsp
            exact out S6 fun s7 J7 => ⟨_, _, _, J7, r6, q6⟩
        | false => exact ih (hno rfl)
    exact go hh w
  · cases f with
    | next =>
      obtain ⟨σ', H', J', q⟩ := hsp
      exact wpAny_execs_nil ⟨σ', H', J'.ofTry ok, q⟩
    | brk =>
      obtain ⟨σ', H', J', q⟩ := hsp
      exact ⟨σ', H', J'.ofTry ok, q⟩
    | cont =>
      obtain ⟨σ', H', J', q⟩ := hsp
      exact ⟨σ', H', J'.ofTry ok, q⟩
    | ret u =>
      obtain ⟨v, σ', H', J', r, q⟩ := hsp
      exact ⟨v, σ', H', J'.ofTry ok, r, q⟩
end

/-! ### a def that is handed the exception a suite holds (it raises nothing) -/
section
variable {X : Cx}
theorem held_instP {p : Addr × Obj} {D : Addr} {d : Option Addr} {pins : List (Addr × Obj)} {σ : L2.St} {H : Hp} {s : Shared} (hp : p ∈ X.pn) (I : Inv X pins σ H s) (hz : Zc (.ref D) d p.2) (hf : ∃ vs, p.2.data = .fields vs) (hd : ExD H d) : ∃ od, PySem.W.InstAt s.heap p.1 p.2 D od := by
  obtain ⟨hget, _⟩ := I.pin p (List.mem_append.mpr (.inl hp))
  obtain ⟨vs, hv⟩ := hf
  rcases hd with rfl | ⟨dd, fs, rfl, e⟩
  · refine ⟨none, ?_⟩
    obtain ⟨a, oc, od, oda, osl⟩ := p
    obtain ⟨h1, h2⟩ := hz
    dsimp only at h1 h2 hv hget
    subst h1 h2 hv
    exact ⟨hget, rfl, rfl, trivial⟩
  · obtain ⟨mA, hns, _⟩ := (show ObjOk X.prog X.w H s.heap dd (.xd fs) from I.hok dd _ e)
    obtain ⟨od, ho, _⟩ := lookIn_ns hns
    exact ⟨some od, hget, hz.1, by unfold PySem.W.notCls; rw [hv] <;> rfl, by rw [hz.2]; exact ho⟩
theorem call_isYP {p : Addr × Obj} {cls : Value} {d : Option Addr} (hp : p ∈ X.pn) (hz : Zc cls d p.2) (hf : ∃ vs, p.2.data = .fields vs) : CallR X (.builtin "isinstance") (rIsY X.K p.1 cls d) := by
  intro pins s σ H xs us Q I r h
  obtain ⟨D, c, cv, b, rfl, rfl, hd, C, hcv, e, q⟩ := h
  obtain ⟨od, J⟩ := held_instP hp I hz hf hd
  cases r with
  | cons rx rr =>
    cases rr with
    | cons rt rr =>
      cases rr
      cases rx
      have ec := hcv.eq rt
      subst ec
      exact PySem.W.kia_one (kitx_dict C) I.kIn J e (fun z => nomatch z) fun tk => ⟨.bl b, H, I.kept (t' := tk) fun _ _ z => z, rfl, q⟩
theorem call_isYTP {p : Addr × Obj} {cls : Value} {d : Option Addr} (hp : p ∈ X.pn) (hz : Zc cls d p.2) (hf : ∃ vs, p.2.data = .fields vs) : CallR X (.builtin "isinstance") (rIsYT X.K p.1 cls d) := by
  intro pins s σ H xs us Q I r h
  obtain ⟨D, tp, cs, ws, b, rfl, rfl, hd, C, hT, k, e, q⟩ := h
  obtain ⟨od, J⟩ := held_instP hp I hz hf hd
  cases r with
  | cons rx rr =>
    cases rr with
    | cons rt rr =>
      cases rr
      cases rx
      cases rt
      obtain ⟨_, its, rv, o, h1, h2, n, h3⟩ := (show ObjOk X.prog X.w H s.heap tp (.tup cs) from I.hok tp _ hT)
      have e3 := ClsV.all k rv
      subst e3
      obtain ⟨oc, oD, dt, sl⟩ := o
      simp only at h2 h3
      subst h2 h3
      exact PySem.W.kia_tup (kitx_dict C) I.kIn J h1 e (fun z => nomatch z) fun tk => ⟨.bl b, H, I.tok tk, rfl, q⟩
end
structure FnP (P : Program) (w : World) (K : PySem.W.Frag) (mg : Str → Option Value) (base : Heap) (k : Nat) (f : Addr) (fd : FuncData) (ps : List Str) (sp : Addr → Value → Option Addr → Sp) : Prop where
  len : ∀ a c d vs H Q, sp a c d vs H Q E0 → vs.length = ps.length
  run : ∀ (A : Around) (outer : List Env) (s : Shared) (H : Hp) (args : Args) (us : List Value) (vs : List V) (Q : VK) (p : Addr × Obj) (cls : Value) (d : Option Addr), L2H.RoomH k A → Zc cls d p.2 → (∃ zs, p.2.data = .fields zs) → L2H.PinOk outer H s p → Env0 P w K mg base A outer s H → BindsTo s fd args (ps.zip us) → Vals vs us → sp p.1 cls d vs H Q E0 →
    codeAny (model P w) A (.call (.ref f) args) (CR CX0 outer P w H s Q E0) s
theorem FnP.of {P : Program} {w : World} {K : PySem.W.Frag} {mg : Str → Option Value} {base : Heap} {x qual : Str} {st : Stmt} {f : Addr} {fd : FuncData} {N ps : List Str} {k : Nat} {sp : Addr → Value → Option Addr → Sp} (F : Fun K x qual st f fd) (S : FnScope N ps (defScope st))
    (len : ∀ a c d vs H Q, sp a c d vs H Q E0 → vs.length = ps.length)
    (hbody : ∀ (cdv : Value) (A : Around) (outer : List Env) (s : Shared) (H : Hp) (vs : List V) (Q : VK) (p : Addr × Obj) (cls : Value) (d : Option Addr), L2H.RoomH k (A.deeper (envOfC qual (defScope st) s.heap.objs.size f cdv)) → Zc cls d p.2 → (∃ zs, p.2.data = .fields zs) → sp p.1 cls d vs H Q E0 →
      ∃ t, PSs (L2H.cxH CX0 P w K mg base N qual (defScope st) f cdv A outer s H E0 p) (defBody st) t ∧ t { nx := fun _ H' => Q .non H', rt := Q } (L2.start N vs) H) :
    FnP P w K mg base (k + 1) f fd ps sp := by
  obtain ⟨oc, od, kV, doc, pm, an, cdv, ct, osl, rfl, lk, hcd⟩ := F.ex
  refine ⟨len, fun A outer s H args us vs Q p cls d hr hz hf hpin e0 hb r hsp => ?_⟩
  have hl := len _ _ _ _ _ _ hsp
  have KX : K.In s.heap := e0.mod.kin.keeps fun b o e => (e0.bs b o e).1
  have lim : s.heap.NoLimit := e0.mod.nolimit.keeps fun b o e => (e0.bs b o e).1
  have hkind : ∀ y ∈ ps.zip us, (defScope st).names.lookup y.1 = some .local ∨ ((defScope st).names.lookup y.1 = some .cell ∧ ((cellsFrom (s.heap.objs.size + 1) (defScope st).names []).lookup y.1).isSome = true) := fun ⟨n, v⟩ hy => by
    rcases S.par n (List.of_mem_zip hy).1 with q | q
    · exact .inl q
    · exact .inr ⟨q, PySem.W.cellsFrom_some _ _ _ (.inl q)⟩
  refine codeAny_call_function hr.depth (KX _ _ lk) rfl S.co S.gen rfl (PySem.W.codeRec_of KX hcd) (hb _ _ _ _ ?_)
  refine wpAny_newFunctionEnv_cells S.kind hkind fun env he s1 x => ?_
  subst he
  refine ⟨lim.keeps x.toInCall.keep, codeAny_func ?_⟩
  obtain ⟨t, ht, hq⟩ := hbody cdv A outer s H vs Q p cls d (hr.deeper _) hz hf hsp
  have I : Inv (L2H.cxH CX0 P w K mg base N qual (defScope st) f cdv A outer s H E0 p) [] (L2.start N vs) H s1 := L2H.inv_startH S hpin e0 hl r x
  refine wpAny_mono (ht.run [] s1 (L2.start N vs) H _ I hq) (fun fl s' hs => ?_) fun e s' hs => hs
  have fin : ∀ {σ' : L2.St} {H' : Hp} {v : V} {u : Value}, Inv (L2H.cxH CX0 P w K mg base N qual (defScope st) f cdv A outer s H E0 p) [] σ' H' s' → RelV v u → Q v H' → CE outer P w H s Q u s' :=
    fun {σ' H' v u} J rv q => ⟨v, H', J.os, J.bare, J.base, J.hok, rv, q⟩
  cases fl with
  | ret u =>
    obtain ⟨v, σ', H', J, rv, q⟩ := hs
    exact fin J rv q
  | next =>
    obtain ⟨σ', H', J, q⟩ := hs
    exact fin (v := V.non) (u := Value.none) J rfl q
  | brk =>
    obtain ⟨_, _, _, q⟩ := hs
    exact False.elim q
  | cont =>
    obtain ⟨_, _, _, q⟩ := hs
    exact False.elim q
section
variable {X : Cx} {k j : Nat} {f : Addr} {fd : FuncData} {ps : List Str} {sp : Addr → Value → Option Addr → Sp} {x : Str} {q pos : Pos} {e : Expr} {es : List Expr} {t : TA} {a : Addr} {oe : Obj} {cls : Value} {d : Option Addr} {pn : List (Addr × Obj)}
def tCallP (sp : Addr → Value → Option Addr → Sp) (a : Addr) (cls : Value) (d : Option Addr) (t : TA) : TE := fun σ H Q => t σ H fun vs H1 => sp a cls d vs H1 Q E0
theorem pe_callP (F : FnP X.prog X.w X.K X.mg X.base k f fd ps sp) (hr : Room j X.A) (hkj : k ≤ j) (hz : Zc cls d oe) (hf : ∃ vs, oe.data = .fields vs) (hg : Gl (X.suite a ((a, oe) :: pn)) x) (hm : X.mg x = some (.ref f)) (hk : PySem.W.keepIn X.K (.ref f) = true) (hb : Binds X.K fd ps [])
    (ha : PA (X.suite a ((a, oe) :: pn)) (e :: es) t) (hdb : (x == ("__debug__" : Str)) = false := by decide) (he : starEach (e :: es) X.env = (false, eval e X.env) :: starEach es X.env := by rfl) (hpl : (backTo pos (starEach es X.env)).any (·.1) = false := by rfl) :
    PE (X.suite a ((a, oe) :: pn)) (.Call (.Name x q) (e :: es) [] pos) (tCallP sp a cls d t) := by
  refine ⟨fun pins s σ H Q I h => ?_⟩
  refine wpAny_Call_Name_kw (ld_glob I hg hm ?_ hdb)
  refine PySem.W.callWith_K (h₀ := X.base) I.ok.mod.kin hk (thn (ha.run pos pins s σ H _ I h) fun us s1 ⟨vs, H1, I1, r, q⟩ => ⟨I1.kIn, ?_⟩) he hpl
  have rh : L2H.RoomH k (X.suite a ((a, oe) :: pn)).A := ⟨by have := hr.dp; show X.A.depth + 3 * k + 5 < _; omega, by have := hr.un; show X.A.units + 16 * k + 200 < _; omega⟩
  have hl : us.length = ps.length := by rw [← r.length]; exact F.len _ _ _ _ _ _ q
  have b := hb s1 us I1.kIn (by rw [List.append_nil]; exact hl)
  rw [List.append_nil] at b
  have P1 := I1.pin (a, oe) (List.mem_append_left _ List.mem_cons_self)
  have hpin : L2H.PinOk (X.suite a ((a, oe) :: pn)).stack H1 s1 (a, oe) := ⟨P1.1, P1.2.1, fun hm => (List.mem_cons.mp (I1.stkSub a hm)).elim P1.2.2.1 P1.2.2.2.1, P1.2.2.2.2⟩
  refine wpAny_call (codeAny_mono (F.run (X.suite a ((a, oe) :: pn)).A (X.suite a ((a, oe) :: pn)).stack s1 H1 ⟨us, []⟩ us vs Q (a, oe) cls d rh hz hf hpin I1.env0 b r q) fun r s' hq => ?_)
  cases r with
  | error e => exact False.elim hq
  | ok fl =>
    cases fl with
    | ret u => exact I1.after hq
    | next => exact False.elim hq
    | brk => exact False.elim hq
    | cont => exact False.elim hq
end

def topS (i : Nat) : Stmt := PySem.Challenge.pw_fewspans_k47_transform_errors.main.body.getD i (.Pass ⟨0, 0, 0, 0⟩)
abbrev s_is_number : Stmt := topS 9
abbrev N_is_number : List Str := ["value"]
theorem sc_is_number : FnScope N_is_number ["value"] (defScope s_is_number) := ⟨rfl, rfl, rfl, by decide +kernel, rfl, by decide +kernel, by decide +kernel⟩
abbrev s_is_position : Stmt := topS 10
abbrev N_is_position : List Str := ["value"]
theorem sc_is_position : FnScope N_is_position ["value"] (defScope s_is_position) := ⟨rfl, rfl, rfl, by decide +kernel, rfl, by decide +kernel, by decide +kernel⟩
abbrev s_is_tuple_of : Stmt := topS 11
abbrev N_is_tuple_of : List Str := ["value", "length"]
theorem sc_is_tuple_of : FnScope N_is_tuple_of ["value", "length"] (defScope s_is_tuple_of) := ⟨rfl, rfl, rfl, by decide +kernel, rfl, by decide +kernel, by decide +kernel⟩
abbrev s_is_interval : Stmt := topS 12
abbrev N_is_interval : List Str := ["value", "low", "high"]
theorem sc_is_interval : FnScope N_is_interval ["value"] (defScope s_is_interval) := ⟨rfl, rfl, rfl, by decide +kernel, rfl, by decide +kernel, by decide +kernel⟩
abbrev s_require_positions : Stmt := topS 14
abbrev N_require_positions : List Str := ["intervals", "interval"]
theorem sc_require_positions : FnScope N_require_positions ["intervals"] (defScope s_require_positions) := ⟨rfl, rfl, rfl, by decide +kernel, rfl, by decide +kernel, by decide +kernel⟩
abbrev s_shift_targets : Stmt := topS 15
abbrev N_shift_targets : List Str := ["targets", "by", "low", "high"]
theorem sc_shift_targets : FnScope N_shift_targets ["targets", "by"] (defScope s_shift_targets) := ⟨rfl, rfl, rfl, by decide +kernel, rfl, by decide +kernel, by decide +kernel⟩
abbrev s_double_position : Stmt := topS 16
abbrev N_double_position : List Str := ["targets", "position", "moved", "low", "high"]
theorem sc_double_position : FnScope N_double_position ["targets", "position"] (defScope s_double_position) := ⟨rfl, rfl, rfl, by decide +kernel, rfl, by decide +kernel, by decide +kernel⟩
abbrev s_join_targets : Stmt := topS 17
abbrev N_join_targets : List Str := ["first", "second", "gap", "lowest", "low", "high", "highest"]
theorem sc_join_targets : FnScope N_join_targets ["first", "second", "gap"] (defScope s_join_targets) := ⟨rfl, rfl, rfl, by decide +kernel, rfl, by decide +kernel, by decide +kernel⟩
abbrev s_law_deck : Stmt := topS 19
abbrev N_law_deck : List Str := ["_law_script", "_law_cell"]
theorem sc_law_deck : FnScope N_law_deck ["_law_script"] (defScope s_law_deck) := ⟨rfl, rfl, rfl, by decide +kernel, rfl, by decide +kernel, by decide +kernel⟩
abbrev s_law_draw : Stmt := topS 20
abbrev N_law_draw : List Str := ["_law_deck_here", "_law_many", "_law_cell", "_law_place"]
theorem sc_law_draw : FnScope N_law_draw ["_law_deck_here", "_law_many"] (defScope s_law_draw) := ⟨rfl, rfl, rfl, by decide +kernel, rfl, by decide +kernel, by decide +kernel⟩
abbrev s_law_same : Stmt := topS 21
abbrev N_law_same : List Str := ["_law_found", "_law_due", "_law_one", "_law_other"]
theorem sc_law_same : FnScope N_law_same ["_law_found", "_law_due"] (defScope s_law_same) := ⟨rfl, rfl, rfl, by decide +kernel, rfl, by decide +kernel, by decide +kernel⟩
abbrev s_law_small : Stmt := topS 22
abbrev N_law_small : List Str := ["_law_deck_here", "_law_most", "_law_span", "_law_found", "_law_k", "_law_low"]
theorem sc_law_small : FnScope N_law_small ["_law_deck_here", "_law_most", "_law_span"] (defScope s_law_small) := ⟨rfl, rfl, rfl, by decide +kernel, rfl, by decide +kernel, by decide +kernel⟩
abbrev s_law_moved : Stmt := topS 23
abbrev N_law_moved : List Str := ["_law_intervals", "_law_by", "_law_low", "_law_high"]
theorem sc_law_moved : FnScope N_law_moved ["_law_intervals", "_law_by"] (defScope s_law_moved) := ⟨rfl, rfl, rfl, by decide +kernel, rfl, by decide +kernel, by decide +kernel⟩
abbrev s_law_error : Stmt := topS 24
abbrev N_law_error : List Str := ["_law_error_here", "_law_flags"]
theorem sc_law_error : FnScope N_law_error ["_law_error_here"] (defScope s_law_error) := ⟨rfl, rfl, rfl, by decide +kernel, rfl, by decide +kernel, by decide +kernel⟩
abbrev s_law_shift : Stmt := topS 25
abbrev N_law_shift : List Str := ["_law_targets", "_law_by", "_law_error_here"]
theorem sc_law_shift : FnScope N_law_shift ["_law_targets", "_law_by"] (defScope s_law_shift) := ⟨rfl, rfl, rfl, by decide +kernel, rfl, by decide +kernel, by decide +kernel⟩
abbrev s_law_double : Stmt := topS 26
abbrev N_law_double : List Str := ["_law_targets", "_law_position", "_law_error_here"]
theorem sc_law_double : FnScope N_law_double ["_law_targets", "_law_position"] (defScope s_law_double) := ⟨rfl, rfl, rfl, by decide +kernel, rfl, by decide +kernel, by decide +kernel⟩
abbrev s_law_join : Stmt := topS 27
abbrev N_law_join : List Str := ["_law_first", "_law_second", "_law_gap", "_law_error_here"]
theorem sc_law_join : FnScope N_law_join ["_law_first", "_law_second", "_law_gap"] (defScope s_law_join) := ⟨rfl, rfl, rfl, by decide +kernel, rfl, by decide +kernel, by decide +kernel⟩
abbrev s_law_in_range : Stmt := topS 28
abbrev N_law_in_range : List Str := ["_law_intervals", "_law_low", "_law_high"]
theorem sc_law_in_range : FnScope N_law_in_range ["_law_intervals"] (defScope s_law_in_range) := ⟨rfl, rfl, rfl, by decide +kernel, rfl, by decide +kernel, by decide +kernel⟩
abbrev s_law_ends_right : Stmt := topS 29
abbrev N_law_ends_right : List Str := ["_law_deck_here", "_law_targets", "_law_least", "_law_low", "_law_high", "_law_greatest", "_law_more", "_law_by", "_law_moved_here", "_law_far", "_law_position"]
theorem sc_law_ends_right : FnScope N_law_ends_right ["_law_deck_here", "_law_targets"] (defScope s_law_ends_right) := ⟨rfl, rfl, rfl, by decide +kernel, rfl, by decide +kernel, by decide +kernel⟩
abbrev s_law_joins_right : Stmt := topS 30
abbrev N_law_joins_right : List Str := ["_law_deck_here", "_law_some", "_law_k", "_law_few", "_law_rest", "_law_far", "_law_low", "_law_high", "_law_cases", "_law_first", "_law_second", "_law_due", "_law_gap"]
theorem sc_law_joins_right : FnScope N_law_joins_right ["_law_deck_here"] (defScope s_law_joins_right) := ⟨rfl, rfl, rfl, by decide +kernel, rfl, by decide +kernel, by decide +kernel⟩
abbrev s_law : Stmt := topS 31
abbrev N_law : List Str := ["_law_script", "_law_deck_here", "_law_turn", "_law_targets"]
theorem sc_law : FnScope N_law ["_law_script"] (defScope s_law) := ⟨rfl, rfl, rfl, by decide +kernel, rfl, by decide +kernel, by decide +kernel⟩
abbrev s_TooMany_init : Stmt := inClass (topS 6) 0
abbrev N_TooMany_init : List Str := ["self", "bound"]
theorem sc_TooMany_init : FnScope N_TooMany_init ["self", "bound"] (defScope s_TooMany_init) := ⟨rfl, rfl, rfl, by decide +kernel, rfl, by decide +kernel, by decide +kernel⟩
/-! ### the deck and its draws -/
structure Dk (H : Hp) (d c : Addr) (n : Int) : Prop where
  top : H d = some (.lst [.ref c, .int n])
  cells : ∃ xs : List Int, H c = some (.lst (xs.map V.int)) ∧ xs.length ≤ 63 ∧ ∀ x ∈ xs, 0 ≤ x
theorem Dk.ne {H : Hp} {d c : Addr} {n : Int} (h : Dk H d c n) : c ≠ d := by
  obtain ⟨xs, e, _⟩ := h.cells
  intro z
  subst z
  have q := e.symm.trans h.top
  cases xs with
  | nil => cases q
  | cons x r => cases q
/-- nothing but the deck has changed -/
def Kp (d c : Addr) (H H' : Hp) : Prop := ∀ b o, b ≠ d → b ≠ c → H b = some o → H' b = some o
theorem Kp.trans {d c : Addr} {H H1 H2 : Hp} (h1 : Kp d c H H1) (h2 : Kp d c H1 H2) : Kp d c H H2 := fun b o n1 n2 e => h2 b o n1 n2 (h1 b o n1 n2 e)
theorem Kp.same {d c : Addr} {H H1 : Hp} (h : Same H H1) : Kp d c H H1 := fun b o _ _ e => h b o e
theorem Kp.none {d c : Addr} {H H' : Hp} (k : Kp d c H H') {n m : Int} (h : Dk H d c n) (h' : Dk H' d c m) {t : Addr} (e : H' t = none) : H t = none := by
  by_cases e1 : t = d
  · rw [e1, h'.top] at e
    cases e
  · by_cases e2 : t = c
    · obtain ⟨xs, z, _⟩ := h'.cells
      rw [e2, z] at e
      cases e
    · cases q : H t with
      | none => rfl
      | some o =>
        rw [k t o e1 e2 q] at e
        cases e
theorem Dk.kept {H H' : Hp} {d c : Addr} {n : Int} (h : Dk H d c n) (s : Same H H') : Dk H' d c n :=
  let ⟨xs, e, a⟩ := h.cells
  ⟨s _ _ h.top, xs, s _ _ e, a⟩
theorem Dk.eq {H : Hp} {d c : Addr} {n m : Int} (h : Dk H d c n) (e : n = m) : Dk H d c m := e ▸ h
def sp_law_deck (K : PySem.W.Frag) : Sp := fun vs H Q _ => ∃ (a : Addr) (ns : List Int), vs = [.ref a] ∧ SqL K H a (ns.map V.int) ∧ ns.length ≤ 63 ∧
  ∀ H' d c, Same H H' → H d = none → H c = none → Dk H' d c 0 → Q (.ref d) H'
def sp_law_draw : Sp := fun vs H Q _ => ∃ (d c : Addr) (n lim : Int), vs = [.ref d, .int lim] ∧ Dk H d c n ∧ 0 ≤ n ∧ n < 1000000 ∧ 0 < lim ∧ lim < 2 ^ 63 ∧
  ∀ H' r, Kp d c H H' → Dk H' d c (n + 1) → 0 ≤ r → r < lim → Q (.int r) H'
theorem same_new {H : Hp} {p : Addr} {o : HO} (h : H p = none) : Same H (upd H p o) := fun b x e => by
  rw [upd_ne (ne_of_none e h)]
  exact e
theorem cutTo (xs : List V) (j : Nat) : cutV xs none (some (j : Int)) = xs.take j := by
  unfold cutV
  rw [HT.sIx_none, show HT.sIx xs.length xs.length (some (j : Int)) = min j xs.length from HT.sIx_nat xs.length xs.length j]
  rw [Nat.sub_zero, List.drop_zero]
  rcases Nat.le_total j xs.length with h | h
  · rw [Nat.min_eq_left h]
  · rw [Nat.min_eq_right h, List.take_length, List.take_of_length_le h]
section
structure Tx (K : PySem.W.Frag) (mg : Str → Option Value) (f_is_number f_is_position f_is_tuple_of f_is_interval f_require_positions f_shift_targets f_double_position f_join_targets f_law_deck f_law_draw f_law_same f_law_small f_law_moved f_law_error f_law_shift f_law_double f_law_join f_law_in_range f_law_ends_right f_law_joins_right f_law f_TooMany_init X_TooMany X_SpanError X_OutOfRange X_BadText X_TooWide : Addr) (d_is_number d_is_position d_is_tuple_of d_is_interval d_require_positions d_shift_targets d_double_position d_join_targets d_law_deck d_law_draw d_law_same d_law_small d_law_moved d_law_error d_law_shift d_law_double d_law_join d_law_in_range d_law_ends_right d_law_joins_right d_law d_TooMany_init : FuncData) (t_LAST_POSITION t_MAX_TARGETS : Tok) : Prop where
  F_is_number : Fun K "is_number" "is_number" s_is_number f_is_number d_is_number
  b_is_number : Binds K d_is_number ["value"] []
  g_is_number : mg "is_number" = some (.ref f_is_number)
  F_is_position : Fun K "is_position" "is_position" s_is_position f_is_position d_is_position
  b_is_position : Binds K d_is_position ["value"] []
  g_is_position : mg "is_position" = some (.ref f_is_position)
  F_is_tuple_of : Fun K "is_tuple_of" "is_tuple_of" s_is_tuple_of f_is_tuple_of d_is_tuple_of
  b_is_tuple_of : Binds K d_is_tuple_of ["value", "length"] []
  g_is_tuple_of : mg "is_tuple_of" = some (.ref f_is_tuple_of)
  F_is_interval : Fun K "is_interval" "is_interval" s_is_interval f_is_interval d_is_interval
  b_is_interval : Binds K d_is_interval ["value"] []
  g_is_interval : mg "is_interval" = some (.ref f_is_interval)
  F_require_positions : Fun K "require_positions" "require_positions" s_require_positions f_require_positions d_require_positions
  b_require_positions : Binds K d_require_positions ["intervals"] []
  g_require_positions : mg "require_positions" = some (.ref f_require_positions)
  F_shift_targets : Fun K "shift_targets" "shift_targets" s_shift_targets f_shift_targets d_shift_targets
  b_shift_targets : Binds K d_shift_targets ["targets", "by"] []
  g_shift_targets : mg "shift_targets" = some (.ref f_shift_targets)
  F_double_position : Fun K "double_position" "double_position" s_double_position f_double_position d_double_position
  b_double_position : Binds K d_double_position ["targets", "position"] []
  g_double_position : mg "double_position" = some (.ref f_double_position)
  F_join_targets : Fun K "join_targets" "join_targets" s_join_targets f_join_targets d_join_targets
  b_join_targets : Binds K d_join_targets ["first", "second", "gap"] []
  g_join_targets : mg "join_targets" = some (.ref f_join_targets)
  F_law_deck : Fun K "_law_deck" "_law_deck" s_law_deck f_law_deck d_law_deck
  b_law_deck : Binds K d_law_deck ["_law_script"] []
  g_law_deck : mg "_law_deck" = some (.ref f_law_deck)
  F_law_draw : Fun K "_law_draw" "_law_draw" s_law_draw f_law_draw d_law_draw
  b_law_draw : Binds K d_law_draw ["_law_deck_here", "_law_many"] []
  g_law_draw : mg "_law_draw" = some (.ref f_law_draw)
  F_law_same : Fun K "_law_same" "_law_same" s_law_same f_law_same d_law_same
  b_law_same : Binds K d_law_same ["_law_found", "_law_due"] []
  g_law_same : mg "_law_same" = some (.ref f_law_same)
  F_law_small : Fun K "_law_small" "_law_small" s_law_small f_law_small d_law_small
  b_law_small : Binds K d_law_small ["_law_deck_here", "_law_most", "_law_span"] []
  g_law_small : mg "_law_small" = some (.ref f_law_small)
  F_law_moved : Fun K "_law_moved" "_law_moved" s_law_moved f_law_moved d_law_moved
  b_law_moved : Binds K d_law_moved ["_law_intervals", "_law_by"] []
  g_law_moved : mg "_law_moved" = some (.ref f_law_moved)
  F_law_error : Fun K "_law_error" "_law_error" s_law_error f_law_error d_law_error
  b_law_error : Binds K d_law_error ["_law_error_here"] []
  g_law_error : mg "_law_error" = some (.ref f_law_error)
  F_law_shift : Fun K "_law_shift" "_law_shift" s_law_shift f_law_shift d_law_shift
  b_law_shift : Binds K d_law_shift ["_law_targets", "_law_by"] []
  g_law_shift : mg "_law_shift" = some (.ref f_law_shift)
  F_law_double : Fun K "_law_double" "_law_double" s_law_double f_law_double d_law_double
  b_law_double : Binds K d_law_double ["_law_targets", "_law_position"] []
  g_law_double : mg "_law_double" = some (.ref f_law_double)
  F_law_join : Fun K "_law_join" "_law_join" s_law_join f_law_join d_law_join
  b_law_join : Binds K d_law_join ["_law_first", "_law_second", "_law_gap"] []
  g_law_join : mg "_law_join" = some (.ref f_law_join)
  F_law_in_range : Fun K "_law_in_range" "_law_in_range" s_law_in_range f_law_in_range d_law_in_range
  b_law_in_range : Binds K d_law_in_range ["_law_intervals"] []
  g_law_in_range : mg "_law_in_range" = some (.ref f_law_in_range)
  F_law_ends_right : Fun K "_law_ends_right" "_law_ends_right" s_law_ends_right f_law_ends_right d_law_ends_right
  b_law_ends_right : Binds K d_law_ends_right ["_law_deck_here", "_law_targets"] []
  g_law_ends_right : mg "_law_ends_right" = some (.ref f_law_ends_right)
  F_law_joins_right : Fun K "_law_joins_right" "_law_joins_right" s_law_joins_right f_law_joins_right d_law_joins_right
  b_law_joins_right : Binds K d_law_joins_right ["_law_deck_here"] []
  g_law_joins_right : mg "_law_joins_right" = some (.ref f_law_joins_right)
  F_law : Fun K "law" "law" s_law f_law d_law
  b_law : Binds K d_law ["_law_script"] []
  g_law : mg "law" = some (.ref f_law)
  F_TooMany_init : Fun K "__init__" "TooMany.__init__" s_TooMany_init f_TooMany_init d_TooMany_init
  b_TooMany_init : Binds K d_TooMany_init ["self", "bound"] []
  c_LAST_POSITION : mg "LAST_POSITION" = some (.int 1000000000000 t_LAST_POSITION)
  c_MAX_TARGETS : mg "MAX_TARGETS" = some (.int 24 t_MAX_TARGETS)
  z_ValueError : mg "ValueError" = none
  z_abs : mg "abs" = none
  z_all : mg "all" = none
  z_bool : mg "bool" = none
  z_int : mg "int" = none
  z_isinstance : mg "isinstance" = none
  z_len : mg "len" = none
  z_max : mg "max" = none
  z_min : mg "min" = none
  z_range : mg "range" = none
  z_repr : mg "repr" = none
  z_set : mg "set" = none
  z_sorted : mg "sorted" = none
  z_str : mg "str" = none
  z_tuple : mg "tuple" = none
  z_zip : mg "zip" = none
  xn_TooMany : XcN K mg "TooMany" X_TooMany
  xn_SpanError : XcN K mg "SpanError" X_SpanError
  xn_OutOfRange : XcN K mg "OutOfRange" X_OutOfRange
  xn_BadText : XcN K mg "BadText" X_BadText
  xn_TooWide : XcN K mg "TooWide" X_TooWide
  xi_TooMany : XcI K X_TooMany f_TooMany_init "bound"
  xv_TooMany : PySem.W.subIn K (.ref X_TooMany) (.type "ValueError") = some true
  xl_TooMany : PySem.W.subIn K (.ref X_TooMany) (.type "LookupError") = some false
  xs_TooMany_SpanError : PySem.W.subIn K (.ref X_TooMany) (.ref X_SpanError) = some true
  xs_TooMany_OutOfRange : PySem.W.subIn K (.ref X_TooMany) (.ref X_OutOfRange) = some false
  xs_TooMany_BadText : PySem.W.subIn K (.ref X_TooMany) (.ref X_BadText) = some false
  xs_TooMany_TooWide : PySem.W.subIn K (.ref X_TooMany) (.ref X_TooWide) = some false
  xr_OutOfRange : XcR K X_OutOfRange
  xv_OutOfRange : PySem.W.subIn K (.ref X_OutOfRange) (.type "ValueError") = some true
  xs_OutOfRange_SpanError : PySem.W.subIn K (.ref X_OutOfRange) (.ref X_SpanError) = some true
  xs_OutOfRange_TooMany : PySem.W.subIn K (.ref X_OutOfRange) (.ref X_TooMany) = some false
  xs_OutOfRange_BadText : PySem.W.subIn K (.ref X_OutOfRange) (.ref X_BadText) = some false
  xs_OutOfRange_TooWide : PySem.W.subIn K (.ref X_OutOfRange) (.ref X_TooWide) = some false
variable {P : Program} {w : World} {K : PySem.W.Frag} {mg : Str → Option Value} {base : Heap} {f_is_number f_is_position f_is_tuple_of f_is_interval f_require_positions f_shift_targets f_double_position f_join_targets f_law_deck f_law_draw f_law_same f_law_small f_law_moved f_law_error f_law_shift f_law_double f_law_join f_law_in_range f_law_ends_right f_law_joins_right f_law f_TooMany_init X_TooMany X_SpanError X_OutOfRange X_BadText X_TooWide : Addr} {d_is_number d_is_position d_is_tuple_of d_is_interval d_require_positions d_shift_targets d_double_position d_join_targets d_law_deck d_law_draw d_law_same d_law_small d_law_moved d_law_error d_law_shift d_law_double d_law_join d_law_in_range d_law_ends_right d_law_joins_right d_law d_TooMany_init : FuncData} {t_LAST_POSITION t_MAX_TARGETS : Tok}
abbrev TxA (K : PySem.W.Frag) (mg : Str → Option Value) (f_is_number f_is_position f_is_tuple_of f_is_interval f_require_positions f_shift_targets f_double_position f_join_targets f_law_deck f_law_draw f_law_same f_law_small f_law_moved f_law_error f_law_shift f_law_double f_law_join f_law_in_range f_law_ends_right f_law_joins_right f_law f_TooMany_init X_TooMany X_SpanError X_OutOfRange X_BadText X_TooWide : Addr) (d_is_number d_is_position d_is_tuple_of d_is_interval d_require_positions d_shift_targets d_double_position d_join_targets d_law_deck d_law_draw d_law_same d_law_small d_law_moved d_law_error d_law_shift d_law_double d_law_join d_law_in_range d_law_ends_right d_law_joins_right d_law d_TooMany_init : FuncData) (t_LAST_POSITION t_MAX_TARGETS : Tok) := Tx K mg f_is_number f_is_position f_is_tuple_of f_is_interval f_require_positions f_shift_targets f_double_position f_join_targets f_law_deck f_law_draw f_law_same f_law_small f_law_moved f_law_error f_law_shift f_law_double f_law_join f_law_in_range f_law_ends_right f_law_joins_right f_law f_TooMany_init X_TooMany X_SpanError X_OutOfRange X_BadText X_TooWide d_is_number d_is_position d_is_tuple_of d_is_interval d_require_positions d_shift_targets d_double_position d_join_targets d_law_deck d_law_draw d_law_same d_law_small d_law_moved d_law_error d_law_shift d_law_double d_law_join d_law_in_range d_law_ends_right d_law_joins_right d_law d_TooMany_init t_LAST_POSITION t_MAX_TARGETS
theorem ok_law_deck (T : Tx K mg f_is_number f_is_position f_is_tuple_of f_is_interval f_require_positions f_shift_targets f_double_position f_join_targets f_law_deck f_law_draw f_law_same f_law_small f_law_moved f_law_error f_law_shift f_law_double f_law_join f_law_in_range f_law_ends_right f_law_joins_right f_law f_TooMany_init X_TooMany X_SpanError X_OutOfRange X_BadText X_TooWide d_is_number d_is_position d_is_tuple_of d_is_interval d_require_positions d_shift_targets d_double_position d_join_targets d_law_deck d_law_draw d_law_same d_law_small d_law_moved d_law_error d_law_shift d_law_double d_law_join d_law_in_range d_law_ends_right d_law_joins_right d_law d_TooMany_init t_LAST_POSITION t_MAX_TARGETS) : FnOk P w K mg base CX0 1 f_law_deck d_law_deck ["_law_script"] (sp_law_deck K) := by
  refine T.F_law_deck.ok sc_law_deck (fun vs H Q E h => ?_) (fun cdv A outer s H vs Q E hr h => ?_)
  · obtain ⟨a, ns, rfl, _⟩ := h
    rfl
  · obtain ⟨a, ns0, rfl, hS, hlen, q⟩ := h
    refine ⟨_, (pss_one (ps_ret (pe_lst (pa_cons (pe_lc (own := [("_law_cell", 1)]) (g := (gName 1)) (tt := tYes) (by rfl) sc_law_deck.nd (pi_list (pe_slice sl_list (pv 0) po_none (po_some pe_int))) (blkOk_by (own := [("_law_cell", 1)]) (N := N_law_deck) (sc := defScope s_law_deck) (by decide +kernel)) (fun _ _ _ _ _ => (pg_name (i := 1) sc_law_deck.nd rfl (Or.inl rfl))) (fun _ _ _ _ _ => pts_nil) (fun _ _ _ _ _ => (pe_callB call_abs (by rfl) T.z_abs (by decide +kernel) (pa_cons (pv 1) pa_nil)))) (pa_cons pe_int pa_nil))))), ?_⟩
    refine ⟨.ref a, rfl, 63, rfl, a, ns0.map V.int, rfl, hS, fun p np => ?_⟩
    rw [show cutV (ns0.map V.int) none (some 63) = (ns0.take 63).map V.int by rw [List.map_take]; exact cutTo _ 63]
    have hlen : (ns0.take 63).length ≤ 63 := Nat.le_trans (List.length_take_le' _ _) hlen
    generalize ns0.take 63 = ns at *
    have s1 : Same H (upd H p (.lst (ns.map V.int))) := same_new np
    refine ⟨p, rfl, ⟨_, SqL.of upd_same⟩, fun D nD => ?_⟩
    have nDp : D ≠ p := fun e => by
      rw [e, upd_same] at nD
      cases nD
    have nD0 : H D = none := by
      rw [upd_ne nDp] at nD
      exact nD
    refine lc_list (K := K) (a := p) (xs := ns.map V.int) (fun i H' => Same (upd H p (.lst (ns.map V.int))) H' ∧ H' D = some (.lst (((ns.take i).map fun (x : Int) => if x < 0 then -x else x).map V.int))) ⟨same_new nD, upd_same⟩ (fun i H' _ h => h.1.seq (SqL.of upd_same)) ?_ ?_
    · rintro i x H' hi ⟨sm, eD⟩
      rw [List.getElem?_map] at hi
      obtain ⟨n, en, rfl⟩ := Option.map_eq_some_iff.mp hi
      refine ⟨rfl, .int n, rfl, n, rfl, _, eD, ?_, ?_, ?_⟩
      · have : (List.take i ns).length ≤ ns.length := List.length_take_le' i ns
        simp only [List.length_map]
        exact small1000 (by omega)
      · intro b o e
        have nb : b ≠ D := ne_of_none e nD
        rw [upd_ne nb]
        exact sm b o e
      · rw [upd_same, List.take_add_one, en]
        simp
    · rintro H' ⟨sm, eD⟩
      rw [List.length_map, List.take_length] at eD
      refine ⟨by show 2 ≤ sizeLine; decide, fun d nd => ?_⟩
      have nDd : D ≠ d := ne_of_none eD nd
      have nd0 : H d = none := s1.free (sm.free nd)
      refine q _ d D (s1.trans (sm.trans (same_new nd))) nd0 nD0 ⟨upd_same, _, by rw [upd_ne nDd]; exact eD, by rw [List.length_map]; exact hlen, fun x hx => ?_⟩
      obtain ⟨y, _, rfl⟩ := List.mem_map.mp hx
      split <;> omega
theorem ok_law_draw (T : Tx K mg f_is_number f_is_position f_is_tuple_of f_is_interval f_require_positions f_shift_targets f_double_position f_join_targets f_law_deck f_law_draw f_law_same f_law_small f_law_moved f_law_error f_law_shift f_law_double f_law_join f_law_in_range f_law_ends_right f_law_joins_right f_law f_TooMany_init X_TooMany X_SpanError X_OutOfRange X_BadText X_TooWide d_is_number d_is_position d_is_tuple_of d_is_interval d_require_positions d_shift_targets d_double_position d_join_targets d_law_deck d_law_draw d_law_same d_law_small d_law_moved d_law_error d_law_shift d_law_double d_law_join d_law_in_range d_law_ends_right d_law_joins_right d_law d_TooMany_init t_LAST_POSITION t_MAX_TARGETS) : FnOk P w K mg base CX0 1 f_law_draw d_law_draw ["_law_deck_here", "_law_many"] sp_law_draw := by
  refine T.F_law_draw.ok sc_law_draw (fun vs H Q E h => ?_) (fun cdv A outer s H vs Q E hr h => ?_)
  · obtain ⟨d, c, n, lim, rfl, _⟩ := h
    rfl
  · obtain ⟨d, c, n, lim, rfl, dk, n0, n1, l0, l1, q⟩ := h
    obtain ⟨xs, ec, xl, xp⟩ := dk.cells
    have ncd := dk.ne
    have ed := dk.top
    have l64 : lim.natAbs < 2 ^ 64 := by omega
    have n64 : (n + 1).natAbs < 2 ^ 64 := by omega
    refine ⟨_, (pss_cons (ps_asg (pe_op op_add (pe_ix ix_list (pv 0) pe_int (fun _ _ => rfl)) pe_int) (pg_sub (pv 0) pe_int set_list))
      (pss_cons (ps_set (i := 2) sc_law_draw.nd rfl (Or.inl rfl) pe_int)
      (pss_cons (ps_set (i := 3) sc_law_draw.nd rfl (Or.inl rfl) (pe_un un_neg pe_int))
      (pss_cons (ps_if (pt_cmpR op_gt (pe_callB call_len_seq (by rfl) T.z_len PySem.boot_len (pa_cons (pe_ix ix_list (pv 0) pe_int (fun _ _ => rfl)) pa_nil)) pe_int (nomark _))
      (pss_cons (ps_set (i := 3) sc_law_draw.nd rfl (Or.inl rfl) (pe_op op_mod (pe_ix ix_list (pv 0) pe_int (fun _ _ => rfl)) (pe_callB call_len_seq (by rfl) T.z_len PySem.boot_len (pa_cons (pe_ix ix_list (pv 0) pe_int (fun _ _ => rfl)) pa_nil))))
      (pss_one (ps_set (i := 2) sc_law_draw.nd rfl (Or.inl rfl) (pe_ix ix_list (pe_ix ix_list (pv 0) pe_int (fun _ _ => rfl)) (pv 3) (fun _ _ => rfl)))))
      pss_nil)
      (pss_cons (ps_if (pt_cmpR op_ge (pv 2) (pe_op op_pow pe_int pe_int) (nomark _))
      (pss_cons (ps_asg (pe_op op_fdivW (pv 2) (pv 1)) (pg_sub (pe_ix ix_list (pv 0) pe_int (fun _ _ => rfl)) (pv 3) set_list))
      (pss_one (ps_ret (pe_op op_mod (pv 2) (pv 1)))))
      pss_nil)
      (pss_one (ps_ret (pe_op op_mod (pe_op op_mod (pe_op op_pow (pe_op op_add (pe_op op_add (pe_op op_mod (pv 2) pe_int) (pe_op op_mulW pe_int (pe_ix ix_list (pv 0) pe_int (fun _ _ => rfl)))) pe_int) pe_int) pe_int) (pv 1))))))))), ?_⟩
    refine ⟨.ref d, rfl, d, _, 1, .int n, rfl, rfl, SqL.of ed, rfl, n, 1, rfl, rfl, .ref d, rfl, d, _, 1, 1, rfl, rfl, ed, rfl, ?_⟩
    generalize eH : upd H d (.lst ([V.ref c, V.int n].set 1 (.int (n + 1)))) = H1
    have ed1 : H1 d = some (.lst [.ref c, .int (n + 1)]) := by
      rw [← eH, upd_same]
      rfl
    have ec1 : H1 c = some (.lst (xs.map V.int)) := by
      rw [← eH, upd_ne ncd]
      exact ec
    have kp1 : Kp d c H H1 := fun b o nb _ e => by
      rw [← eH, upd_ne nb]
      exact e
    have dk1 : Dk H1 d c (n + 1) := ⟨ed1, xs, ec1, xl, xp⟩
    refine ⟨1, rfl, ?_⟩
    refine ⟨.ref d, rfl, d, _, 0, .ref c, rfl, rfl, SqL.of ed1, rfl, c, _, rfl, .inl (SqL.of ec1), _, _, rfl, rfl, _, rfl, ite2 (fun e => ?_) (fun e => ?_)⟩
    · have e1 := of_decide_eq_true e
      rw [List.length_map] at e1
      have lp : (0 : Int) < (xs.map V.int).length := by rw [List.length_map]; exact e1
      have rem0 : 0 ≤ (n + 1) % ((xs.map V.int).length : Int) := Int.emod_nonneg _ (by omega)
      have rem1 : (n + 1) % ((xs.map V.int).length : Int) < (xs.map V.int).length := Int.emod_lt_of_pos _ lp
      obtain ⟨j, ej⟩ : ∃ j : Nat, (n + 1) % ((xs.map V.int).length : Int) = j := ⟨_, (Int.toNat_of_nonneg rem0).symm⟩
      have hj : j < xs.length := by
        rw [ej, List.length_map] at rem1
        omega
      have gj : (xs.map V.int)[j]? = some (.int xs[j]) := by
        rw [List.getElem?_map, List.getElem?_eq_getElem hj]
        rfl
      have x0 : 0 ≤ xs[j] := xp _ (List.getElem_mem hj)
      refine ⟨.ref d, rfl, d, _, 1, .int (n + 1), rfl, rfl, SqL.of ed1, rfl, .ref d, rfl, d, _, 0, .ref c, rfl, rfl, SqL.of ed1, rfl, c, _, rfl, .inl (SqL.of ec1), _, _, rfl, rfl, lp, ?_⟩
      refine ⟨.ref d, rfl, d, _, 0, .ref c, rfl, rfl, SqL.of ed1, rfl, .int _, rfl, c, _, _, .int xs[j], rfl, rfl, SqL.of ec1, (by rw [ej]; exact atI_nat gj), ?_⟩
      refine ⟨.int xs[j], rfl, 10, 18, rfl, rfl, ⟨by decide, by decide, by decide⟩, _, _, rfl, rfl, _, rfl, ite2 (fun e2 => ?_) (fun e2 => ?_)⟩
      · refine ⟨.int xs[j], rfl, .int lim, rfl, _, _, rfl, rfl, wide_div l0 l64 (by decide) (by decide), .ref d, rfl, d, _, 0, .ref c, rfl, rfl, SqL.of ed1, rfl, .int _, rfl, c, _, _, j, rfl, rfl, ec1, ?_, ?_⟩
        · rw [ej]
          unfold ixN
          rw [if_pos (by omega), if_pos (by rw [List.length_map]; omega)]
          rfl
        · refine ⟨.int xs[j], rfl, .int lim, rfl, _, _, rfl, rfl, l0, ?_⟩
          refine q _ _ ?_ ⟨?_, xs.set j (xs[j] / lim), ?_, ?_, ?_⟩ (Int.emod_nonneg _ (by omega)) (Int.emod_lt_of_pos _ l0)
          · intro b o nb nc e
            rw [upd_ne nc]
            exact kp1 b o nb nc e
          · rw [upd_ne ncd.symm]
            exact ed1
          · rw [upd_same, List.map_set]
          · rw [List.length_set]
            exact xl
          · intro x hx
            rcases List.mem_or_eq_of_mem_set hx with hm | he
            · exact xp x hm
            · rw [he]
              exact Int.ediv_nonneg x0 (by omega)
      · refine ⟨.int xs[j], rfl, _, _, rfl, rfl, (by show (0 : Int) < 2147483587; decide), .ref d, rfl, d, _, 1, .int (n + 1), rfl, rfl, SqL.of ed1, rfl, _, _, rfl, rfl, wide_mul (a := 13) (b := 64) (by decide) n64 (by decide) (by decide) (by decide), _, _, rfl, rfl, _, _, rfl, rfl, _, _, rfl, rfl, ⟨by decide, by decide, ?_⟩, _, _, rfl, rfl, (by show (0 : Int) < 2147483647; decide), .int lim, rfl, _, _, rfl, rfl, l0, ?_⟩
        · have a0 := Int.emod_nonneg xs[j] (show (2147483587 : Int) ≠ 0 by decide)
          have a1 := Int.emod_lt_of_pos xs[j] (show (0 : Int) < 2147483587 by decide)
          omega
        · exact q _ _ kp1 dk1 (Int.emod_nonneg _ (by omega)) (Int.emod_lt_of_pos _ l0)
    · refine ⟨.int 0, rfl, 10, 18, rfl, rfl, ⟨by decide, by decide, by decide⟩, _, _, rfl, rfl, _, rfl, ite2 (fun e2 => ?_) (fun e2 => ?_)⟩
      · exact absurd e2 (by decide)
      · refine ⟨.int 0, rfl, _, _, rfl, rfl, (by show (0 : Int) < 2147483587; decide), .ref d, rfl, d, _, 1, .int (n + 1), rfl, rfl, SqL.of ed1, rfl, _, _, rfl, rfl, wide_mul (a := 13) (b := 64) (by decide) n64 (by decide) (by decide) (by decide), _, _, rfl, rfl, _, _, rfl, rfl, _, _, rfl, rfl, ⟨by decide, by decide, ?_⟩, _, _, rfl, rfl, (by show (0 : Int) < 2147483647; decide), .int lim, rfl, _, _, rfl, rfl, l0, ?_⟩
        · have a0 := Int.emod_nonneg 0 (show (2147483587 : Int) ≠ 0 by decide)
          have a1 := Int.emod_lt_of_pos 0 (show (0 : Int) < 2147483587 by decide)
          omega
        · exact q _ _ kp1 dk1 (Int.emod_nonneg _ (by omega)) (Int.emod_lt_of_pos _ l0)
theorem Kp.keep {d c : Addr} {H H' : Hp} (k : Kp d c H H') {a : Addr} {o : HO} (n1 : a ≠ d ∧ a ≠ c) (h : H a = some o) : H' a = some o := k a o n1.1 n1.2 h
theorem Kp.tup {d c : Addr} {n : Int} {H H' : Hp} (k : Kp d c H H') (dk : Dk H d c n) {a : Addr} {xs : List V} (h : H a = some (.tup xs)) : H' a = some (.tup xs) := by
  obtain ⟨ys, e, _⟩ := dk.cells
  exact k a _ (ne_of h dk.top (fun z => by cases z)) (ne_of h e (fun z => by cases z)) h
theorem Dk.off {H : Hp} {d c : Addr} {n : Int} (h : Dk H d c n) {p : Addr} (e : H p = none) : p ≠ d ∧ p ≠ c := by
  obtain ⟨ys, z, _⟩ := h.cells
  exact ⟨(ne_of_none h.top e).symm, (ne_of_none z e).symm⟩
theorem Dk.upd {H : Hp} {d c : Addr} {n : Int} (h : Dk H d c n) {p : Addr} {o : HO} (off : p ≠ d ∧ p ≠ c) : Dk (upd H p o) d c n := by
  obtain ⟨ys, z, w⟩ := h.cells
  exact ⟨by rw [upd_ne off.1.symm]; exact h.top, ys, by rw [upd_ne off.2.symm]; exact z, w⟩

abbrev Off (d c p : Addr) : Prop := p ≠ d ∧ p ≠ c
/-! ### what stays when the heap grows, or the deck is drawn from -/
theorem rd_same {H H' : Hp} (s : Same H H') {a : Addr} {u : HO} (h : Rd H a u) : Rd H' a u := by
  rcases h with h | ⟨o, h⟩
  · exact .inl (s _ _ h)
  · exact .inr ⟨o, s _ _ h⟩
theorem sqT_same {K : PySem.W.Frag} {H H' : Hp} (s : Same H H') {a : Addr} {xs : List V} (h : SqT K H a xs) : SqT K H' a xs := by
  rcases h with h | h
  · exact .inl (rd_same s h)
  · exact .inr h
theorem dp_same {K : PySem.W.Frag} {H H' : Hp} (s : Same H H') {v : V} {d : PyData} (h : Dp K H v d) : Dp K H' v d := by
  refine Dp.rec (K := K) (H := H) (motive_1 := fun v d _ => Dp K H' v d) (motive_2 := fun vs ds _ => DpAll K H' vs ds) .non (fun b => .bl b) (fun i => .int i) (fun x => .str x) (fun hs _ q => .lst (s.seq hs) q) (fun hs _ q => .tup (sqT_same s hs) q) .nil (fun _ _ a b => .cons a b) h
theorem dp2 {K : PySem.W.Frag} {H : Hp} {t : Addr} {x y : Int} (h : H t = some (.tup [.int x, .int y])) : Dp K H (.ref t) (.tuple [.int x, .int y]) := .tup (SqT.of h) (.cons (.int x) (.cons (.int y) .nil))
theorem sm2 {x y : Int} (h1 : x.natAbs < 10 ^ 30) (h2 : y.natAbs < 10 ^ 30) : Sm 202 1 (.tuple [.int x, .int y]) := by
  have h := Sm.tup (n := 100) (dp := 0) (ds := [.int x, .int y]) (fun d hd => by
    rcases List.mem_cons.mp hd with rfl | hd
    · exact Sm.int h1
    · rcases List.mem_cons.mp hd with rfl | hd
      · exact Sm.int h2
      · cases hd)
  exact h
/-- an interval, or None -/
def optD : Option (Int × Int) → PyData
  | none => .none
  | some (x, y) => .tuple [.int x, .int y]
def OV (H : Hp) (v : V) : Option (Int × Int) → Prop
  | none => v = .non
  | some (x, y) => ∃ t, v = .ref t ∧ H t = some (.tup [.int x, .int y])
theorem OV.same {H H' : Hp} (s : Same H H') {v : V} {o : Option (Int × Int)} (h : OV H v o) : OV H' v o := by
  match o, h with
  | none, h => exact h
  | some (x, y), h =>
    obtain ⟨t, e, z⟩ := h
    exact ⟨t, e, s _ _ z⟩
theorem OV.kp {d c : Addr} {n : Int} {H H' : Hp} (k : Kp d c H H') (dk : Dk H d c n) {v : V} {o : Option (Int × Int)} (h : OV H v o) : OV H' v o := by
  match o, h with
  | none, h => exact h
  | some (x, y), h =>
    obtain ⟨t, e, z⟩ := h
    exact ⟨t, e, k.tup dk z⟩
theorem OV.dp {K : PySem.W.Frag} {H : Hp} {v : V} {o : Option (Int × Int)} (h : OV H v o) : Dp K H v (optD o) := by
  match o, h with
  | none, h =>
    cases h
    exact .non
  | some (x, y), h =>
    obtain ⟨t, e, z⟩ := h
    subst e
    exact dp2 z

/-! ### rows of intervals -/
inductive Ivs (H : Hp) : List V → List (Int × Int) → Prop
  | nil : Ivs H [] []
  | cons {a : Addr} {x y : Int} {vs : List V} {ps : List (Int × Int)} : H a = some (.tup [.int x, .int y]) → Ivs H vs ps → Ivs H (.ref a :: vs) ((x, y) :: ps)
theorem Ivs.length {H : Hp} {vs : List V} {ps : List (Int × Int)} (h : Ivs H vs ps) : vs.length = ps.length := by
  induction h with
  | nil => rfl
  | cons _ _ ih => rw [List.length_cons, List.length_cons, ih]
theorem Ivs.same {H H' : Hp} (s : Same H H') {vs : List V} {ps : List (Int × Int)} (h : Ivs H vs ps) : Ivs H' vs ps := by
  induction h with
  | nil => exact .nil
  | cons e _ ih => exact .cons (s _ _ e) ih
theorem Ivs.kp {d c : Addr} {n : Int} {H H' : Hp} (k : Kp d c H H') (dk : Dk H d c n) {vs : List V} {ps : List (Int × Int)} (h : Ivs H vs ps) : Ivs H' vs ps := by
  induction h with
  | nil => exact .nil
  | cons e _ ih => exact .cons (k.tup dk e) ih
theorem Ivs.get {H : Hp} {vs : List V} {ps : List (Int × Int)} (h : Ivs H vs ps) : ∀ {i : Nat} {v : V}, vs[i]? = some v → ∃ a x y, v = .ref a ∧ ps[i]? = some (x, y) ∧ H a = some (.tup [.int x, .int y]) := by
  induction h with
  | nil =>
    intro i v e
    simp at e
  | cons e _ ih =>
    intro i v q
    cases i with
    | zero =>
      cases q
      exact ⟨_, _, _, rfl, rfl, e⟩
    | succ i => exact ih q
theorem Ivs.snoc {H : Hp} {vs : List V} {ps : List (Int × Int)} {a : Addr} {x y : Int} (h : Ivs H vs ps) (e : H a = some (.tup [.int x, .int y])) : Ivs H (vs ++ [.ref a]) (ps ++ [(x, y)]) := by
  induction h with
  | nil => exact .cons e .nil
  | cons z _ ih => exact .cons z ih
def pairD (p : Int × Int) : PyData := .tuple [.int p.1, .int p.2]
theorem Ivs.dp {K : PySem.W.Frag} {H : Hp} {vs : List V} {ps : List (Int × Int)} (h : Ivs H vs ps) : DpAll K H vs (ps.map pairD) := by
  induction h with
  | nil => exact .nil
  | cons e _ ih => exact .cons (dp2 e) ih

/-! ### comprehensions that change nothing but make new objects -/
/-- the tuples stay -/
def Tps (H H' : Hp) : Prop := ∀ b xs, H b = some (.tup xs) → H' b = some (.tup xs)
theorem Tps.refl (H : Hp) : Tps H H := fun _ _ e => e
theorem Tps.trans {H H1 H2 : Hp} (h : Tps H H1) (h2 : Tps H1 H2) : Tps H H2 := fun b xs e => h2 b xs (h b xs e)
theorem Tps.same {H H1 : Hp} (h : Same H H1) : Tps H H1 := fun b xs e => h b _ e
theorem Kp.tps {d c : Addr} {n : Int} {H H' : Hp} (k : Kp d c H H') (dk : Dk H d c n) : Tps H H' := fun _ _ e => k.tup dk e
theorem Tps.lst {H : Hp} {D : Addr} {ws vs : List V} (e : H D = some (.lst ws)) : Tps H (upd H D (.lst vs)) := fun b xs h => by
  rw [upd_ne (ne_of h e (fun z => by cases z))]
  exact h
theorem same_off {H0 H : Hp} {D : Addr} {o : HO} (n : H0 D = none) (s : Same H0 H) : Same H0 (upd H D o) := fun b u e => by
  rw [upd_ne (ne_of_none e n)]
  exact s b u e
theorem few_line {n : Nat} (h : n < 1000) : n < sizeLine := by
  rw [show sizeLine = 16777216 by decide]
  omega
theorem lcL {K : PySem.W.Frag} {a : Addr} {xs : List V} {g : TG} {tt : TT} {te : TE} {vs : List Nat} {σ : L2.St} {H1 : Hp} {D : Addr} {Qd : Hp → Prop} (R : Nat → Hp → List V → Prop) (nD : H1 D = none) (hl : ∀ H', Same H1 H' → SqL K H' a xs) (few : xs.length < 1000)
    (mono : ∀ i H' H'' ws, Tps H' H'' → R i H' ws → R i H'' ws) (len : ∀ i H' ws, R i H' ws → ws.length ≤ i) (r0 : ∀ H', R 0 H' [])
    (hs : ∀ i x H' (N : Hp → Prop) acc, xs[i]? = some x → Same H1 H' → H' D = some (.lst acc) → acc.length < sizeLine → R i H' acc → (∀ H'', Same H' H'' → R (i + 1) H'' acc → N H'') → (∀ H'' y, Same H' H'' → R (i + 1) H'' (acc ++ [y]) → ∃ acc', H'' D = some (.lst acc') ∧ acc'.length < sizeLine ∧ N (upd H'' D (.lst (acc' ++ [y])))) →
      g x (wipe σ vs) H' fun σ2 H2 => wipe σ2 vs = wipe σ vs ∧ tt σ2 H2 fun b H3 => if b = true then te σ2 H3 fun y H4 => ∃ acc, H4 D = some (.lst acc) ∧ acc.length < sizeLine ∧ N (upd H4 D (.lst (acc ++ [y]))) else N H3)
    (hd : ∀ H' ws, Same H1 H' → H' D = some (.lst ws) → R xs.length H' ws → Qd H') :
    ∃ W : Nat → Nat → Hp → Prop, (∃ m, W 0 m (upd H1 D (.lst []))) ∧ ∀ i m H, W i m H →
      ((Itl K a).stop i H ∧ Qd H) ∨ ((Itl K a).go i H ∧ ∃ Nx : Hp → Prop, (∀ H', Nx H' → ∃ m', m' < m ∧ W (i + 1) m' H') ∧ ∀ x H', (Itl K a).yld i H x H' → g x (wipe σ vs) H' fun σ2 H2 => wipe σ2 vs = wipe σ vs ∧ tt σ2 H2 fun b H3 =>
        if b = true then te σ2 H3 fun y H4 => ∃ acc, H4 D = some (.lst acc) ∧ acc.length < sizeLine ∧ Nx (upd H4 D (.lst (acc ++ [y]))) else Nx H3) := by
  refine lc_list (K := K) (a := a) (xs := xs) (fun i H' => Same H1 H' ∧ ∃ ws, H' D = some (.lst ws) ∧ R i H' ws) ⟨same_new nD, [], upd_same, r0 _⟩ (fun i H' _ h => hl H' h.1) ?_ ?_
  · rintro i x H' hi ⟨sm, ws, eD, r⟩
    have lt := (List.getElem?_eq_some_iff.mp hi).1
    have lw := len i H' ws r
    have sz : ws.length < sizeLine := few_line (by omega)
    refine hs i x H' _ ws hi sm eD sz r (fun H'' s r2 => ⟨sm.trans s, ws, s _ _ eD, r2⟩) (fun H'' y s r2 => ?_)
    exact ⟨ws, s _ _ eD, sz, same_off nD (sm.trans s), _, upd_same, mono _ _ _ _ (Tps.lst (s _ _ eD)) r2⟩
  · rintro H' ⟨sm, ws, eD, r⟩
    exact hd H' ws sm eD r
theorem lcT {K : PySem.W.Frag} {a : Addr} {xs : List V} {g : TG} {tt : TT} {te : TE} {vs : List Nat} {σ : L2.St} {H1 : Hp} {D : Addr} {Qd : Hp → Prop} (R : Nat → Hp → List V → Prop) (nD : H1 D = none) (hl : ∀ H', Same H1 H' → SqT K H' a xs) (few : xs.length < 1000)
    (mono : ∀ i H' H'' ws, Tps H' H'' → R i H' ws → R i H'' ws) (len : ∀ i H' ws, R i H' ws → ws.length ≤ i) (r0 : ∀ H', R 0 H' [])
    (hs : ∀ i x H' (N : Hp → Prop) acc, xs[i]? = some x → Same H1 H' → H' D = some (.lst acc) → acc.length < sizeLine → R i H' acc → (∀ H'', Same H' H'' → R (i + 1) H'' acc → N H'') → (∀ H'' y, Same H' H'' → R (i + 1) H'' (acc ++ [y]) → ∃ acc', H'' D = some (.lst acc') ∧ acc'.length < sizeLine ∧ N (upd H'' D (.lst (acc' ++ [y])))) →
      g x (wipe σ vs) H' fun σ2 H2 => wipe σ2 vs = wipe σ vs ∧ tt σ2 H2 fun b H3 => if b = true then te σ2 H3 fun y H4 => ∃ acc, H4 D = some (.lst acc) ∧ acc.length < sizeLine ∧ N (upd H4 D (.lst (acc ++ [y]))) else N H3)
    (hd : ∀ H' ws, Same H1 H' → H' D = some (.lst ws) → R xs.length H' ws → Qd H') :
    ∃ W : Nat → Nat → Hp → Prop, (∃ m, W 0 m (upd H1 D (.lst []))) ∧ ∀ i m H, W i m H →
      ((Itt K a).stop i H ∧ Qd H) ∨ ((Itt K a).go i H ∧ ∃ Nx : Hp → Prop, (∀ H', Nx H' → ∃ m', m' < m ∧ W (i + 1) m' H') ∧ ∀ x H', (Itt K a).yld i H x H' → g x (wipe σ vs) H' fun σ2 H2 => wipe σ2 vs = wipe σ vs ∧ tt σ2 H2 fun b H3 =>
        if b = true then te σ2 H3 fun y H4 => ∃ acc, H4 D = some (.lst acc) ∧ acc.length < sizeLine ∧ Nx (upd H4 D (.lst (acc ++ [y]))) else Nx H3) := by
  refine lc_tup (K := K) (a := a) (xs := xs) (fun i H' => Same H1 H' ∧ ∃ ws, H' D = some (.lst ws) ∧ R i H' ws) ⟨same_new nD, [], upd_same, r0 _⟩ (fun i H' _ h => hl H' h.1) ?_ ?_
  · rintro i x H' hi ⟨sm, ws, eD, r⟩
    have lt := (List.getElem?_eq_some_iff.mp hi).1
    have lw := len i H' ws r
    have sz : ws.length < sizeLine := few_line (by omega)
    refine hs i x H' _ ws hi sm eD sz r (fun H'' s r2 => ⟨sm.trans s, ws, s _ _ eD, r2⟩) (fun H'' y s r2 => ?_)
    exact ⟨ws, s _ _ eD, sz, same_off nD (sm.trans s), _, upd_same, mono _ _ _ _ (Tps.lst (s _ _ eD)) r2⟩
  · rintro H' ⟨sm, ws, eD, r⟩
    exact hd H' ws sm eD r
theorem map_filter_len {α : Type} {ns : List α} {p : α → Bool} {f : α → V} (i : Nat) : (((ns.take i).filter p).map f).length ≤ i := by
  rw [List.length_map]
  exact Nat.le_trans (List.length_filter_le _ _) (List.length_take_le _ _)
theorem take_filter {α : Type} {ns : List α} {i : Nat} {n : α} {p : α → Bool} (h : ns[i]? = some n) : (ns.take (i + 1)).filter p = (ns.take i).filter p ++ (if p n = true then [n] else []) := by
  rw [List.take_add_one, h, List.filter_append]
  congr 1
  show List.filter p [n] = _
  rw [List.filter_cons]
  split <;> rfl
theorem nodup_le {α : Type} [DecidableEq α] : ∀ {l m : List α}, l.Nodup → (∀ x ∈ l, x ∈ m) → l.length ≤ m.length
  | [], _, _, _ => Nat.zero_le _
  | a :: l, m, h, hs => by
    have hm := hs a List.mem_cons_self
    have h' := List.nodup_cons.mp h
    have ih := nodup_le (l := l) (m := m.erase a) h'.2 (fun x hx => (List.mem_erase_of_ne (fun e => h'.1 (by rw [← e]; exact hx))).mpr (hs x (List.mem_cons_of_mem _ hx)))
    rw [List.length_erase_of_mem hm] at ih
    have := List.length_pos_of_mem hm
    rw [List.length_cons]
    omega

theorem Ivs.tps {H H' : Hp} (s : Tps H H') {vs : List V} {ps : List (Int × Int)} (h : Ivs H vs ps) : Ivs H' vs ps := by
  induction h with
  | nil => exact .nil
  | cons e _ ih => exact .cons (s _ _ e) ih
theorem Ivs.append {H : Hp} {vs us : List V} {ps qs : List (Int × Int)} (h : Ivs H vs ps) (h2 : Ivs H us qs) : Ivs H (vs ++ us) (ps ++ qs) := by
  induction h with
  | nil => exact h2
  | cons e _ ih => exact .cons e ih
theorem Ivs.isEmpty {H : Hp} {vs : List V} {ps : List (Int × Int)} (h : Ivs H vs ps) : vs.isEmpty = ps.isEmpty := by
  cases h <;> rfl

/-! ### sorted(set(pairs)) -/
def ltP (a b : Int × Int) : Prop := a.1 < b.1 ∨ (a.1 = b.1 ∧ a.2 < b.2)
def prL (q : Int × Int) : List Int := [q.1, q.2]
theorem prL_inj {a b : Int × Int} (h : prL a = prL b) : a = b := by
  unfold prL at h
  cases a
  cases b
  simp at h
  rw [h.1, h.2]
theorem mem_prL {q : Int × Int} {ps : List (Int × Int)} : prL q ∈ ps.map prL ↔ q ∈ ps := by
  rw [List.mem_map]
  exact ⟨fun ⟨a, ha, e⟩ => prL_inj e ▸ ha, fun h => ⟨q, h, rfl⟩⟩
theorem Ivs.keys {H : Hp} {us : List V} {ps : List (Int × Int)} (h : Ivs H us ps) : ∃ ks : List (Addr × List Int), us = ks.map (fun p => V.ref p.1) ∧ ks.map (·.2) = ps.map prL ∧ ∀ p ∈ ks, ∃ x y : Int, p.2 = [x, y] ∧ H p.1 = some (.tup [.int x, .int y]) := by
  induction h with
  | nil => exact ⟨[], rfl, rfl, fun p hp => nomatch hp⟩
  | cons e _ ih =>
    obtain ⟨ks, e1, e2, e3⟩ := ih
    refine ⟨(_, [_, _]) :: ks, by rw [List.map_cons, e1], by rw [List.map_cons, List.map_cons, e2]; rfl, fun p hp => ?_⟩
    rcases List.mem_cons.mp hp with rfl | hp
    · exact ⟨_, _, rfl, e⟩
    · exact e3 p hp
theorem Ivs.ofKeys {H : Hp} : ∀ {L : List (Addr × List Int)}, (∀ p ∈ L, ∃ x y : Int, p.2 = [x, y] ∧ H p.1 = some (.tup [.int x, .int y])) → ∃ ps, Ivs H (L.map fun p => V.ref p.1) ps ∧ L.map (·.2) = ps.map prL
  | [], _ => ⟨[], .nil, rfl⟩
  | p :: L, h => by
    obtain ⟨x, y, e, e1⟩ := h p List.mem_cons_self
    obtain ⟨ps, i, e2⟩ := Ivs.ofKeys (L := L) fun q hq => h q (List.mem_cons_of_mem _ hq)
    exact ⟨(x, y) :: ps, .cons e1 i, by rw [List.map_cons, List.map_cons, e2, e]; rfl⟩
theorem Ivs.tpsMem {H : Hp} {us : List V} {ps : List (Int × Int)} (h : Ivs H us ps) {q : Int × Int} (hq : q ∈ ps) : ∃ a, V.ref a ∈ us ∧ H a = some (.tup [.int q.1, .int q.2]) := by
  induction h with
  | nil => cases hq
  | cons e _ ih =>
    rcases List.mem_cons.mp hq with rfl | hq
    · exact ⟨_, List.mem_cons_self, e⟩
    · obtain ⟨a, h1, h2⟩ := ih hq
      exact ⟨a, List.mem_cons_of_mem _ h1, h2⟩
theorem sorted_keys {K : PySem.W.Frag} {P : Program} {w : World} {H : Hp} {ps : List (Int × Int)} {Q : VK} {ks L : List (Addr × List Int)} {a : Addr} (e2 : ks.map (·.2) = ps.map prL) (e3 : ∀ p ∈ ks, ∃ x y : Int, p.2 = [x, y] ∧ H p.1 = some (.tup [.int x, .int y])) (na : H a = none) (h1 : ∀ p ∈ L, p ∈ ks) (h2 : ∀ p ∈ ks, p.2 ∈ L.map (·.2)) (bd : ∀ q ∈ ps, (0 ≤ q.1 ∧ q.1 < 10 ^ 13) ∧ 0 ≤ q.2 ∧ q.2 < 10 ^ 13)
    (fin : ∀ H' p us' ps', Same H H' → H p = none → H' p = some (.lst us') → Ivs H' us' ps' → ps'.Pairwise ltP → (∀ q, q ∈ ps' ↔ q ∈ ps) → Q (.ref p) H') :
    rSortedT K P w [.ref a] (upd H a (SetTO P w a L)) Q := by
  have s1 : Same H (upd H a (SetTO P w a L)) := same_new na
  refine ⟨a, L, 2, 10 ^ 13, rfl, upd_same, fun p hp => ?_, by decide, fun p hp => ?_, fun L' p pm nd fw pw np => ?_⟩
  · obtain ⟨x, y, e, e1⟩ := e3 p (h1 p hp)
    rw [e]
    exact SqT.of (s1 _ _ e1)
  · have m : p.2 ∈ ks.map (·.2) := List.mem_map.mpr ⟨p, h1 p hp, rfl⟩
    rw [e2] at m
    obtain ⟨q, hq, e⟩ := List.mem_map.mp m
    have b := bd q hq
    rw [← e]
    refine ⟨rfl, fun m hm => ?_⟩
    unfold prL at hm
    rcases List.mem_cons.mp hm with rfl | hm
    · exact b.1
    · rw [List.mem_singleton.mp hm]
      exact b.2
  · have s2 : Same (upd H a (SetTO P w a L)) (upd (upd H a (SetTO P w a L)) p (.lst (L'.map fun q => V.ref q.1))) := same_new np
    obtain ⟨ps', i, e4⟩ := Ivs.ofKeys (H := H) (L := L') fun q hq => e3 q (h1 q (pm.mem_iff.mp hq))
    have mem : ∀ q, q ∈ ps' ↔ q ∈ ps := fun q => by
      rw [← mem_prL, ← e4, ← mem_prL (ps := ps), ← e2, (pm.map (·.2)).mem_iff]
      constructor
      · intro h
        obtain ⟨p, hp, e⟩ := List.mem_map.mp h
        exact List.mem_map.mpr ⟨p, h1 p hp, e⟩
      · intro h
        obtain ⟨p, hp, e⟩ := List.mem_map.mp h
        rw [← e]
        exact h2 p hp
    refine fin _ p _ ps' (s1.trans s2) (s1.free np) upd_same (i.same (s1.trans s2)) ?_ mem
    have pw2 : (L'.map (·.2)).Pairwise (fun q r => TS.code (10 ^ 13) q ≤ TS.code (10 ^ 13) r) := List.pairwise_map.mpr pw
    have both := pw2.and nd
    rw [e4] at both
    refine (List.pairwise_map.mp both).imp_of_mem fun {x y} hx hy h => ?_
    have bx := bd x ((mem x).mp hx)
    have bY := bd y ((mem y).mp hy)
    have tb : ∀ {z : Int × Int}, ((0 ≤ z.1 ∧ z.1 < 10 ^ 13) ∧ 0 ≤ z.2 ∧ z.2 < 10 ^ 13) → TS.Bd (10 ^ 13) [z.1, z.2] := fun b m hm => by
      rcases List.mem_cons.mp hm with rfl | hm
      · exact b.1
      · rw [List.mem_singleton.mp hm]
        exact b.2
    rcases code_lex (tb bx) (tb bY) h.1 with c | ⟨c1, c2⟩
    · exact .inl c
    · refine .inr ⟨c1, ?_⟩
      rcases Int.lt_or_eq_of_le c2 with z | z
      · exact z
      · exact absurd (show prL x = prL y by unfold prL; rw [c1, z]) h.2
theorem sorted_set_pairs {K : PySem.W.Frag} {P : Program} {w : World} {H : Hp} {l : Addr} {us : List V} {ps : List (Int × Int)} {Q : VK} (hl : SqL K H l us) (iv : Ivs H us ps) (few : ps.length < 64) (bd : ∀ q ∈ ps, (0 ≤ q.1 ∧ q.1 < 10 ^ 13) ∧ 0 ≤ q.2 ∧ q.2 < 10 ^ 13)
    (fin : ∀ H' p us' ps', Same H H' → H p = none → H' p = some (.lst us') → Ivs H' us' ps' → ps'.Pairwise ltP → (∀ q, q ∈ ps' ↔ q ∈ ps) → Q (.ref p) H') :
    rSetOfT K P w [.ref l] H (fun x H1 => rSortedT K P w [x] H1 Q) := by
  obtain ⟨ks, rfl, e2, e3⟩ := iv.keys
  have lk : ks.length = ps.length := by
    have z := congrArg List.length e2
    rw [List.length_map, List.length_map] at z
    exact z
  refine ⟨l, ks, rfl, hl, fun p hp => ?_, by omega, fun a L na h1 h2 => ?_⟩
  · obtain ⟨x, y, e, e1⟩ := e3 p hp
    rw [e]
    exact SqT.of e1
  exact sorted_keys e2 e3 na h1 h2 bd fin

/-! ### a comprehension over two tuples -/
theorem lcZ {K : PySem.W.Frag} {a b : Addr} {xs ys : List V} {g : TG} {tt : TT} {te : TE} {vs : List Nat} {σ : L2.St} {H1 : Hp} {D : Addr} {Qd : Hp → Prop} (R : Nat → Hp → List V → Prop) (nD : H1 D = none) (ha : ∀ H', Same H1 H' → SqT K H' a xs) (hb : ∀ H', Same H1 H' → SqT K H' b ys) (few : xs.length < 1000)
    (mono : ∀ i H' H'' ws, Tps H' H'' → R i H' ws → R i H'' ws) (len : ∀ i H' ws, R i H' ws → ws.length ≤ i) (r0 : ∀ H', R 0 H' [])
    (hs : ∀ i x y T H' (N : Hp → Prop) acc, xs[i]? = some x → ys[i]? = some y → Same H1 H' → H' T = some (.tup [x, y]) → H' D = some (.lst acc) → acc.length < sizeLine → R i H' acc → (∀ H'', Same H' H'' → R (i + 1) H'' acc → N H'') → (∀ H'' y, Same H' H'' → R (i + 1) H'' (acc ++ [y]) → ∃ acc', H'' D = some (.lst acc') ∧ acc'.length < sizeLine ∧ N (upd H'' D (.lst (acc' ++ [y])))) →
      g (.ref T) (wipe σ vs) H' fun σ2 H2 => wipe σ2 vs = wipe σ vs ∧ tt σ2 H2 fun b H3 => if b = true then te σ2 H3 fun y H4 => ∃ acc, H4 D = some (.lst acc) ∧ acc.length < sizeLine ∧ N (upd H4 D (.lst (acc ++ [y]))) else N H3)
    (hd : ∀ i H' ws, i ≤ xs.length → Same H1 H' → H' D = some (.lst ws) → R i H' ws → Qd H') :
    ∃ W : Nat → Nat → Hp → Prop, (∃ m, W 0 m (upd H1 D (.lst []))) ∧ ∀ i m H, W i m H →
      ((RZ.ItzT K a b).stop i H ∧ Qd H) ∨ ((RZ.ItzT K a b).go i H ∧ ∃ Nx : Hp → Prop, (∀ H', Nx H' → ∃ m', m' < m ∧ W (i + 1) m' H') ∧ ∀ x H', (RZ.ItzT K a b).yld i H x H' → g x (wipe σ vs) H' fun σ2 H2 => wipe σ2 vs = wipe σ vs ∧ tt σ2 H2 fun b H3 =>
        if b = true then te σ2 H3 fun y H4 => ∃ acc, H4 D = some (.lst acc) ∧ acc.length < sizeLine ∧ Nx (upd H4 D (.lst (acc ++ [y]))) else Nx H3) := by
  refine ⟨fun i m H => m = xs.length - i ∧ i ≤ xs.length ∧ Same H1 H ∧ ∃ ws, H D = some (.lst ws) ∧ R i H ws, ⟨_, rfl, Nat.zero_le _, same_new nD, [], upd_same, r0 _⟩, ?_⟩
  rintro i m H ⟨rfl, hi, sm, ws, eD, r⟩
  have q1 := ha H sm
  have q2 := hb H sm
  by_cases c : i < xs.length ∧ i < ys.length
  · refine .inr ⟨⟨xs, ys, xs[i]'c.1, ys[i]'c.2, q1, q2, List.getElem?_eq_getElem c.1, List.getElem?_eq_getElem c.2⟩, (fun H => i + 1 ≤ xs.length ∧ Same H1 H ∧ ∃ ws, H D = some (.lst ws) ∧ R (i + 1) H ws), fun H' p' => ⟨xs.length - (i + 1), by omega, rfl, p'⟩, fun v H' hy => ?_⟩
    obtain ⟨T, x, y, rfl, nT, rfl, f1, f2⟩ := hy
    have sT := same_new (o := .tup [x, y]) nT
    have lw := len i H ws r
    have sz : ws.length < sizeLine := few_line (by omega)
    refine hs i x y T _ _ ws (f1 xs q1) (f2 ys q2) (sm.trans sT) upd_same (sT _ _ eD) sz (mono _ _ _ _ (Tps.same sT) r) (fun H'' s r2 => ⟨c.1, sm.trans (sT.trans s), ws, s _ _ (sT _ _ eD), r2⟩) (fun H'' y s r2 => ?_)
    exact ⟨ws, s _ _ (sT _ _ eD), sz, c.1, same_off nD (sm.trans (sT.trans s)), _, upd_same, mono _ _ _ _ (Tps.lst (s _ _ (sT _ _ eD))) r2⟩
  · exact .inl ⟨⟨xs, ys, q1, q2, by omega⟩, hd i H ws hi sm eD r⟩
/-! ### the law's comparison: equal values are the same -/
def sp_same0 : Sp := fun _ _ _ _ => False
theorem ok_same0 {f : Addr} {fd : FuncData} {a b : Str} : FnOk P w K mg base CX0 0 f fd [a, b] sp_same0 := ⟨fun _ _ _ _ h => h.elim, fun _ _ _ _ _ _ _ _ _ _ _ _ _ h => h.elim⟩
def sp_same1 : Sp := fun vs H Q _ => ∃ i : Int, vs = [.int i, .int i] ∧ Q (.bl true) H
theorem ok_same1 (T : Tx K mg f_is_number f_is_position f_is_tuple_of f_is_interval f_require_positions f_shift_targets f_double_position f_join_targets f_law_deck f_law_draw f_law_same f_law_small f_law_moved f_law_error f_law_shift f_law_double f_law_join f_law_in_range f_law_ends_right f_law_joins_right f_law f_TooMany_init X_TooMany X_SpanError X_OutOfRange X_BadText X_TooWide d_is_number d_is_position d_is_tuple_of d_is_interval d_require_positions d_shift_targets d_double_position d_join_targets d_law_deck d_law_draw d_law_same d_law_small d_law_moved d_law_error d_law_shift d_law_double d_law_join d_law_in_range d_law_ends_right d_law_joins_right d_law d_TooMany_init t_LAST_POSITION t_MAX_TARGETS) : FnOk P w K mg base CX0 1 f_law_same d_law_same ["_law_found", "_law_due"] sp_same1 := by
  have ok_law_same : Tx K mg f_is_number f_is_position f_is_tuple_of f_is_interval f_require_positions f_shift_targets f_double_position f_join_targets f_law_deck f_law_draw f_law_same f_law_small f_law_moved f_law_error f_law_shift f_law_double f_law_join f_law_in_range f_law_ends_right f_law_joins_right f_law f_TooMany_init X_TooMany X_SpanError X_OutOfRange X_BadText X_TooWide d_is_number d_is_position d_is_tuple_of d_is_interval d_require_positions d_shift_targets d_double_position d_join_targets d_law_deck d_law_draw d_law_same d_law_small d_law_moved d_law_error d_law_shift d_law_double d_law_join d_law_in_range d_law_ends_right d_law_joins_right d_law d_TooMany_init t_LAST_POSITION t_MAX_TARGETS → FnOk P w K mg base CX0 0 f_law_same d_law_same ["_law_found", "_law_due"] sp_same0 := fun _ => ok_same0
  refine T.F_law_same.ok sc_law_same (fun vs H Q E h => ?_) (fun cdv A outer s H vs Q E hr h => ?_)
  · obtain ⟨i, rfl, _⟩ := h
    rfl
  · obtain ⟨i, rfl, q⟩ := h
    refine ⟨_, (pss_cons (ps_if (pt_val (pe_callB call_isi (by rfl) T.z_isinstance (by decide +kernel) (pa_cons (pv 1) (pa_cons (pe_bltn (v := .ty "tuple") (u := .type "tuple") (by rfl) T.z_tuple (by decide +kernel) rfl) pa_nil))))
      (pss_cons (ps_if (PW.pt (pw_or (pt_not (pt_val (pe_callB call_isi (by rfl) T.z_isinstance (by decide +kernel) (pa_cons (pv 0) (pa_cons (pe_bltn (v := .ty "tuple") (u := .type "tuple") (by rfl) T.z_tuple (by decide +kernel) rfl) pa_nil))))) (pw_or1 (pt_cmpR op_ne (pe_callB call_len_seq (by rfl) T.z_len PySem.boot_len (pa_cons (pv 0) pa_nil)) (pe_callB call_len_seq (by rfl) T.z_len PySem.boot_len (pa_cons (pv 1) pa_nil)) (nomark _)))))
      (pss_one (ps_ret pe_bl))
      pss_nil)
      (pss_one (ps_ret (pe_cmpR (op_eqL hr.units0) (pe_lc (own := [("_law_one", 2), ("_law_other", 3)]) (g := (gTup K 2 (gCons (gName 2) (gCons (gName 3) gNil)))) (by rfl) sc_law_same.nd (RZ.pi_zipA (by rfl) T.z_zip (pa_cons (pv 0) (pa_cons (pv 1) pa_nil))) (blkOk_by (own := [("_law_one", 2), ("_law_other", 3)]) (N := N_law_same) (sc := defScope s_law_same) (by decide +kernel)) (fun _ _ _ _ _ => (pg_tup rfl (pgs_cons (pg_name (i := 2) sc_law_same.nd rfl (Or.inl rfl)) (pgs_cons (pg_name (i := 3) sc_law_same.nd rfl (Or.inl rfl)) pgs_nil)))) (fun _ _ _ _ _ => pts_one (pt_not (pt_val (pe_call (ok_law_same T) (hr.mono (by decide)) (by rfl) T.g_law_same T.F_law_same.kp T.b_law_same .nil pass0 (pa_cons (pv 2) (pa_cons (pv 3) pa_nil)))))) (fun _ _ _ _ _ => pe_int)) (pe_lst pa_nil) (nomark _)))))
      pss_nil)
      (pss_cons (ps_if (pt_cmpR op_isN (pv 1) pe_non (nomark _))
      (pss_one (ps_ret (pe_cmpR op_isN (pv 0) pe_non (nomark _))))
      pss_nil)
      (pss_cons (ps_if (pt_val (pe_callB call_isi (by rfl) T.z_isinstance (by decide +kernel) (pa_cons (pv 1) (pa_cons (pe_bltn (v := .ty "str") (u := .type "str") (by rfl) T.z_str (by decide +kernel) rfl) pa_nil))))
      (pss_one (ps_ret (pe_and (pe_callB call_isi (by rfl) T.z_isinstance (by decide +kernel) (pa_cons (pv 0) (pa_cons (pe_bltn (v := .ty "str") (u := .type "str") (by rfl) T.z_str (by decide +kernel) rfl) pa_nil))) (pe_one (pe_cmpR op_eq (pv 0) (pv 1) (nomark _))))))
      pss_nil)
      (pss_one (ps_ret (pe_and (pe_callB call_isi (by rfl) T.z_isinstance (by decide +kernel) (pa_cons (pv 0) (pa_cons (pe_bltn (v := .ty "int") (u := .type "int") (by rfl) T.z_int (by decide +kernel) rfl) pa_nil))) (pe_and (pe_cmpR op_eq (pe_callB call_isi (by rfl) T.z_isinstance (by decide +kernel) (pa_cons (pv 0) (pa_cons (pe_bltn (v := .ty "bool") (u := .type "bool") (by rfl) T.z_bool (by decide +kernel) rfl) pa_nil))) (pe_callB call_isi (by rfl) T.z_isinstance (by decide +kernel) (pa_cons (pv 1) (pa_cons (pe_bltn (v := .ty "bool") (u := .type "bool") (by rfl) T.z_bool (by decide +kernel) rfl) pa_nil))) (nomark _)) (pe_one (pe_cmpR op_eq (pv 0) (pv 1) (nomark _)))))))))), ?_⟩
    refine ⟨.int i, rfl, .int i, .ty "tuple", _, _, _, rfl, .ty "tuple", .base (.int i), kit_ty (a := "int") (b := "tuple") (r := false) (by decide +kernel), _, rfl, iteF ?_⟩
    refine ⟨.int i, rfl, rfl, _, rfl, iteF ?_⟩
    refine ⟨.int i, rfl, .int i, .ty "str", _, _, _, rfl, .ty "str", .base (.int i), kit_ty (a := "int") (b := "str") (r := false) (by decide +kernel), _, rfl, iteF ?_⟩
    refine ⟨.int i, rfl, .int i, .ty "int", _, _, _, rfl, .ty "int", .base (.int i), kit_ty (a := "int") (b := "int") (r := true) (by decide +kernel), _, rfl, iteT ?_⟩
    refine ⟨.int i, rfl, .int i, .ty "bool", _, _, _, rfl, .ty "bool", .base (.int i), kit_ty (a := "int") (b := "bool") (r := false) (by decide +kernel), .int i, rfl, .int i, .ty "bool", _, _, _, rfl, .ty "bool", .base (.int i), kit_ty (a := "int") (b := "bool") (r := false) (by decide +kernel), rfl, _, rfl, iteT ?_⟩
    refine ⟨.int i, rfl, .int i, rfl, rfl, ?_⟩
    rw [decide_eq_true rfl]
    exact q
def sp_same2 : Sp := fun vs H Q _ => ∃ (a b : Addr) (x y : Int), vs = [.ref a, .ref b] ∧ H a = some (.tup [.int x, .int y]) ∧ H b = some (.tup [.int x, .int y]) ∧ ∀ H', Same H H' → Q (.bl true) H'
theorem ok_same2 (T : Tx K mg f_is_number f_is_position f_is_tuple_of f_is_interval f_require_positions f_shift_targets f_double_position f_join_targets f_law_deck f_law_draw f_law_same f_law_small f_law_moved f_law_error f_law_shift f_law_double f_law_join f_law_in_range f_law_ends_right f_law_joins_right f_law f_TooMany_init X_TooMany X_SpanError X_OutOfRange X_BadText X_TooWide d_is_number d_is_position d_is_tuple_of d_is_interval d_require_positions d_shift_targets d_double_position d_join_targets d_law_deck d_law_draw d_law_same d_law_small d_law_moved d_law_error d_law_shift d_law_double d_law_join d_law_in_range d_law_ends_right d_law_joins_right d_law d_TooMany_init t_LAST_POSITION t_MAX_TARGETS) : FnOk P w K mg base CX0 2 f_law_same d_law_same ["_law_found", "_law_due"] sp_same2 := by
  have ok_law_same := fun T : Tx K mg f_is_number f_is_position f_is_tuple_of f_is_interval f_require_positions f_shift_targets f_double_position f_join_targets f_law_deck f_law_draw f_law_same f_law_small f_law_moved f_law_error f_law_shift f_law_double f_law_join f_law_in_range f_law_ends_right f_law_joins_right f_law f_TooMany_init X_TooMany X_SpanError X_OutOfRange X_BadText X_TooWide d_is_number d_is_position d_is_tuple_of d_is_interval d_require_positions d_shift_targets d_double_position d_join_targets d_law_deck d_law_draw d_law_same d_law_small d_law_moved d_law_error d_law_shift d_law_double d_law_join d_law_in_range d_law_ends_right d_law_joins_right d_law d_TooMany_init t_LAST_POSITION t_MAX_TARGETS => ok_same1 (P := P) (w := w) (base := base) T
  refine T.F_law_same.ok sc_law_same (fun vs H Q E h => ?_) (fun cdv A outer s H vs Q E hr h => ?_)
  · obtain ⟨a, b, x, y, rfl, _⟩ := h
    rfl
  · obtain ⟨a, b, x, y, rfl, ha, hb, q⟩ := h
    refine ⟨_, (pss_cons (ps_if (pt_val (pe_callB call_isi (by rfl) T.z_isinstance (by decide +kernel) (pa_cons (pv 1) (pa_cons (pe_bltn (v := .ty "tuple") (u := .type "tuple") (by rfl) T.z_tuple (by decide +kernel) rfl) pa_nil))))
      (pss_cons (ps_if (PW.pt (pw_or (pt_not (pt_val (pe_callB call_isi (by rfl) T.z_isinstance (by decide +kernel) (pa_cons (pv 0) (pa_cons (pe_bltn (v := .ty "tuple") (u := .type "tuple") (by rfl) T.z_tuple (by decide +kernel) rfl) pa_nil))))) (pw_or1 (pt_cmpR op_ne (pe_callB call_len_seq (by rfl) T.z_len PySem.boot_len (pa_cons (pv 0) pa_nil)) (pe_callB call_len_seq (by rfl) T.z_len PySem.boot_len (pa_cons (pv 1) pa_nil)) (nomark _)))))
      (pss_one (ps_ret pe_bl))
      pss_nil)
      (pss_one (ps_ret (pe_cmpR (op_eqL hr.units0) (pe_lc (own := [("_law_one", 2), ("_law_other", 3)]) (g := (gTup K 2 (gCons (gName 2) (gCons (gName 3) gNil)))) (by rfl) sc_law_same.nd (RZ.pi_zipA (by rfl) T.z_zip (pa_cons (pv 0) (pa_cons (pv 1) pa_nil))) (blkOk_by (own := [("_law_one", 2), ("_law_other", 3)]) (N := N_law_same) (sc := defScope s_law_same) (by decide +kernel)) (fun _ _ _ _ _ => (pg_tup rfl (pgs_cons (pg_name (i := 2) sc_law_same.nd rfl (Or.inl rfl)) (pgs_cons (pg_name (i := 3) sc_law_same.nd rfl (Or.inl rfl)) pgs_nil)))) (fun _ _ _ _ _ => pts_one (pt_not (pt_val (pe_call (ok_law_same T) (hr.mono (by decide)) (by rfl) T.g_law_same T.F_law_same.kp T.b_law_same .nil pass0 (pa_cons (pv 2) (pa_cons (pv 3) pa_nil)))))) (fun _ _ _ _ _ => pe_int)) (pe_lst pa_nil) (nomark _)))))
      pss_nil)
      (pss_cons (ps_if (pt_cmpR op_isN (pv 1) pe_non (nomark _))
      (pss_one (ps_ret (pe_cmpR op_isN (pv 0) pe_non (nomark _))))
      pss_nil)
      (pss_cons (ps_if (pt_val (pe_callB call_isi (by rfl) T.z_isinstance (by decide +kernel) (pa_cons (pv 1) (pa_cons (pe_bltn (v := .ty "str") (u := .type "str") (by rfl) T.z_str (by decide +kernel) rfl) pa_nil))))
      (pss_one (ps_ret (pe_and (pe_callB call_isi (by rfl) T.z_isinstance (by decide +kernel) (pa_cons (pv 0) (pa_cons (pe_bltn (v := .ty "str") (u := .type "str") (by rfl) T.z_str (by decide +kernel) rfl) pa_nil))) (pe_one (pe_cmpR op_eq (pv 0) (pv 1) (nomark _))))))
      pss_nil)
      (pss_one (ps_ret (pe_and (pe_callB call_isi (by rfl) T.z_isinstance (by decide +kernel) (pa_cons (pv 0) (pa_cons (pe_bltn (v := .ty "int") (u := .type "int") (by rfl) T.z_int (by decide +kernel) rfl) pa_nil))) (pe_and (pe_cmpR op_eq (pe_callB call_isi (by rfl) T.z_isinstance (by decide +kernel) (pa_cons (pv 0) (pa_cons (pe_bltn (v := .ty "bool") (u := .type "bool") (by rfl) T.z_bool (by decide +kernel) rfl) pa_nil))) (pe_callB call_isi (by rfl) T.z_isinstance (by decide +kernel) (pa_cons (pv 1) (pa_cons (pe_bltn (v := .ty "bool") (u := .type "bool") (by rfl) T.z_bool (by decide +kernel) rfl) pa_nil))) (nomark _)) (pe_one (pe_cmpR op_eq (pv 0) (pv 1) (nomark _)))))))))), ?_⟩
    refine ⟨.ref b, rfl, .ref b, .ty "tuple", _, _, _, rfl, .ty "tuple", .base (.tup hb), kit_ty (a := "tuple") (b := "tuple") (r := true) (by decide +kernel), _, rfl, iteT ?_⟩
    refine ⟨.ref a, rfl, .ref a, .ty "tuple", _, _, _, rfl, .ty "tuple", .base (.tup ha), kit_ty (a := "tuple") (b := "tuple") (r := true) (by decide +kernel), _, rfl, iteF ?_⟩
    refine ⟨.ref a, rfl, a, _, rfl, .inr (SqT.of ha), .ref b, rfl, b, _, rfl, .inr (SqT.of hb), rfl, _, rfl, iteF ?_⟩
    refine ⟨.ref a, rfl, .ref b, rfl, a, b, _, _, rfl, .inr ⟨SqT.of ha, SqT.of hb, fun D nD => ?_⟩⟩
    refine lcZ (K := K) (a := a) (b := b) (xs := [.int x, .int y]) (ys := [.int x, .int y]) (fun j H' ws => ws = []) nD (fun H' s => SqT.of (s _ _ ha)) (fun H' s => SqT.of (s _ _ hb)) (by show 2 < 1000; decide) (fun _ _ _ _ _ h => h) (fun i H' ws h => by rw [h]; exact Nat.zero_le _) (fun _ => rfl) ?_ ?_
    · rintro j u v TT H' N acc hu hv sm eT eD sz r no yes
      have euv : ∃ k : Int, u = .int k ∧ v = .int k := by
        match j, hu, hv with
        | 0, hu, hv =>
          cases hu
          cases hv
          exact ⟨x, rfl, rfl⟩
        | 1, hu, hv =>
          cases hu
          cases hv
          exact ⟨y, rfl, rfl⟩
        | j + 2, hu, _ => simp at hu
      obtain ⟨k, rfl, rfl⟩ := euv
      refine ⟨TT, _, rfl, SqT.of eT, rfl, .int k, [.int k], rfl, .int k, [], rfl, rfl, rfl, .int k, rfl, .int k, rfl, k, rfl, _, rfl, iteF ?_⟩
      exact no H' (Same.refl _) r
    · rintro j H' ws jl sm eD r
      subst r
      refine ⟨by show 0 ≤ sizeLine; decide, fun z nz => ?_⟩
      have sz := same_new (o := .lst []) nz
      exact ⟨D, z, [], rfl, rfl, SqL.of (sz _ _ eD), SqL.of upd_same, q _ (sm.trans sz)⟩
def sp_law_sameT : Sp := fun vs H Q _ => ∃ (a b : Addr) (us ws : List V) (ps : List (Int × Int)), vs = [.ref a, .ref b] ∧ H a = some (.tup us) ∧ H b = some (.tup ws) ∧ Ivs H us ps ∧ Ivs H ws ps ∧ ps.length < 1000 ∧ ∀ H', Same H H' → Q (.bl true) H'
theorem ok_law_sameT (T : Tx K mg f_is_number f_is_position f_is_tuple_of f_is_interval f_require_positions f_shift_targets f_double_position f_join_targets f_law_deck f_law_draw f_law_same f_law_small f_law_moved f_law_error f_law_shift f_law_double f_law_join f_law_in_range f_law_ends_right f_law_joins_right f_law f_TooMany_init X_TooMany X_SpanError X_OutOfRange X_BadText X_TooWide d_is_number d_is_position d_is_tuple_of d_is_interval d_require_positions d_shift_targets d_double_position d_join_targets d_law_deck d_law_draw d_law_same d_law_small d_law_moved d_law_error d_law_shift d_law_double d_law_join d_law_in_range d_law_ends_right d_law_joins_right d_law d_TooMany_init t_LAST_POSITION t_MAX_TARGETS) : FnOk P w K mg base CX0 3 f_law_same d_law_same ["_law_found", "_law_due"] sp_law_sameT := by
  have ok_law_same := fun T : Tx K mg f_is_number f_is_position f_is_tuple_of f_is_interval f_require_positions f_shift_targets f_double_position f_join_targets f_law_deck f_law_draw f_law_same f_law_small f_law_moved f_law_error f_law_shift f_law_double f_law_join f_law_in_range f_law_ends_right f_law_joins_right f_law f_TooMany_init X_TooMany X_SpanError X_OutOfRange X_BadText X_TooWide d_is_number d_is_position d_is_tuple_of d_is_interval d_require_positions d_shift_targets d_double_position d_join_targets d_law_deck d_law_draw d_law_same d_law_small d_law_moved d_law_error d_law_shift d_law_double d_law_join d_law_in_range d_law_ends_right d_law_joins_right d_law d_TooMany_init t_LAST_POSITION t_MAX_TARGETS => ok_same2 (P := P) (w := w) (base := base) T
  refine T.F_law_same.ok sc_law_same (fun vs H Q E h => ?_) (fun cdv A outer s H vs Q E hr h => ?_)
  · obtain ⟨a, b, us, ws, ps, rfl, _⟩ := h
    rfl
  · obtain ⟨a, b, us, ws, ps, rfl, ha, hb, iv1, iv2, few, q⟩ := h
    have l1 := iv1.length
    have l2 := iv2.length
    refine ⟨_, (pss_cons (ps_if (pt_val (pe_callB call_isi (by rfl) T.z_isinstance (by decide +kernel) (pa_cons (pv 1) (pa_cons (pe_bltn (v := .ty "tuple") (u := .type "tuple") (by rfl) T.z_tuple (by decide +kernel) rfl) pa_nil))))
      (pss_cons (ps_if (PW.pt (pw_or (pt_not (pt_val (pe_callB call_isi (by rfl) T.z_isinstance (by decide +kernel) (pa_cons (pv 0) (pa_cons (pe_bltn (v := .ty "tuple") (u := .type "tuple") (by rfl) T.z_tuple (by decide +kernel) rfl) pa_nil))))) (pw_or1 (pt_cmpR op_ne (pe_callB call_len_seq (by rfl) T.z_len PySem.boot_len (pa_cons (pv 0) pa_nil)) (pe_callB call_len_seq (by rfl) T.z_len PySem.boot_len (pa_cons (pv 1) pa_nil)) (nomark _)))))
      (pss_one (ps_ret pe_bl))
      pss_nil)
      (pss_one (ps_ret (pe_cmpR (op_eqL hr.units0) (pe_lc (own := [("_law_one", 2), ("_law_other", 3)]) (g := (gTup K 2 (gCons (gName 2) (gCons (gName 3) gNil)))) (by rfl) sc_law_same.nd (RZ.pi_zipA (by rfl) T.z_zip (pa_cons (pv 0) (pa_cons (pv 1) pa_nil))) (blkOk_by (own := [("_law_one", 2), ("_law_other", 3)]) (N := N_law_same) (sc := defScope s_law_same) (by decide +kernel)) (fun _ _ _ _ _ => (pg_tup rfl (pgs_cons (pg_name (i := 2) sc_law_same.nd rfl (Or.inl rfl)) (pgs_cons (pg_name (i := 3) sc_law_same.nd rfl (Or.inl rfl)) pgs_nil)))) (fun _ _ _ _ _ => pts_one (pt_not (pt_val (pe_call (ok_law_same T) (hr.mono (by decide)) (by rfl) T.g_law_same T.F_law_same.kp T.b_law_same .nil pass0 (pa_cons (pv 2) (pa_cons (pv 3) pa_nil)))))) (fun _ _ _ _ _ => pe_int)) (pe_lst pa_nil) (nomark _)))))
      pss_nil)
      (pss_cons (ps_if (pt_cmpR op_isN (pv 1) pe_non (nomark _))
      (pss_one (ps_ret (pe_cmpR op_isN (pv 0) pe_non (nomark _))))
      pss_nil)
      (pss_cons (ps_if (pt_val (pe_callB call_isi (by rfl) T.z_isinstance (by decide +kernel) (pa_cons (pv 1) (pa_cons (pe_bltn (v := .ty "str") (u := .type "str") (by rfl) T.z_str (by decide +kernel) rfl) pa_nil))))
      (pss_one (ps_ret (pe_and (pe_callB call_isi (by rfl) T.z_isinstance (by decide +kernel) (pa_cons (pv 0) (pa_cons (pe_bltn (v := .ty "str") (u := .type "str") (by rfl) T.z_str (by decide +kernel) rfl) pa_nil))) (pe_one (pe_cmpR op_eq (pv 0) (pv 1) (nomark _))))))
      pss_nil)
      (pss_one (ps_ret (pe_and (pe_callB call_isi (by rfl) T.z_isinstance (by decide +kernel) (pa_cons (pv 0) (pa_cons (pe_bltn (v := .ty "int") (u := .type "int") (by rfl) T.z_int (by decide +kernel) rfl) pa_nil))) (pe_and (pe_cmpR op_eq (pe_callB call_isi (by rfl) T.z_isinstance (by decide +kernel) (pa_cons (pv 0) (pa_cons (pe_bltn (v := .ty "bool") (u := .type "bool") (by rfl) T.z_bool (by decide +kernel) rfl) pa_nil))) (pe_callB call_isi (by rfl) T.z_isinstance (by decide +kernel) (pa_cons (pv 1) (pa_cons (pe_bltn (v := .ty "bool") (u := .type "bool") (by rfl) T.z_bool (by decide +kernel) rfl) pa_nil))) (nomark _)) (pe_one (pe_cmpR op_eq (pv 0) (pv 1) (nomark _)))))))))), ?_⟩
    refine ⟨.ref b, rfl, .ref b, .ty "tuple", _, _, _, rfl, .ty "tuple", .base (.tup hb), kit_ty (a := "tuple") (b := "tuple") (r := true) (by decide +kernel), _, rfl, iteT ?_⟩
    refine ⟨.ref a, rfl, .ref a, .ty "tuple", _, _, _, rfl, .ty "tuple", .base (.tup ha), kit_ty (a := "tuple") (b := "tuple") (r := true) (by decide +kernel), _, rfl, iteF ?_⟩
    refine ⟨.ref a, rfl, a, _, rfl, .inr (SqT.of ha), .ref b, rfl, b, _, rfl, .inr (SqT.of hb), rfl, _, rfl, ?_⟩
    rw [l1, l2, decide_eq_true rfl]
    refine iteF ?_
    refine ⟨.ref a, rfl, .ref b, rfl, a, b, _, _, rfl, .inr ⟨SqT.of ha, SqT.of hb, fun D nD => ?_⟩⟩
    refine lcZ (K := K) (a := a) (b := b) (xs := us) (ys := ws) (fun j H' ws => ws = []) nD (fun H' s => SqT.of (s _ _ ha)) (fun H' s => SqT.of (s _ _ hb)) (by omega) (fun _ _ _ _ _ h => h) (fun i H' ws h => by rw [h]; exact Nat.zero_le _) (fun _ => rfl) ?_ ?_
    · rintro j u v TT H' N acc hu hv sm eT eD sz r no yes
      obtain ⟨b1, x1, y1, rfl, ep1, hb1⟩ := iv1.get hu
      obtain ⟨b2, x2, y2, rfl, ep2, hb2⟩ := iv2.get hv
      rw [ep1] at ep2
      cases ep2
      refine ⟨TT, _, rfl, SqT.of eT, rfl, .ref b1, [.ref b2], rfl, .ref b2, [], rfl, rfl, rfl, .ref b1, rfl, .ref b2, rfl, b1, b2, x1, y1, rfl, sm _ _ hb1, sm _ _ hb2, fun H2 s2 => ⟨_, rfl, iteF ?_⟩⟩
      exact no H2 s2 r
    · rintro j H' ws jl sm eD r
      subst r
      refine ⟨by show 0 ≤ sizeLine; decide, fun z nz => ?_⟩
      have sz := same_new (o := .lst []) nz
      exact ⟨D, z, [], rfl, rfl, SqL.of (sz _ _ eD), SqL.of upd_same, q _ (sm.trans sz)⟩
/-! ### drawn targets, moved targets -/
structure Sml (span : Int) (ps : List (Int × Int)) : Prop where
  asc : ps.Pairwise ltP
  ok : ∀ q ∈ ps, (0 ≤ q.1 ∧ q.1 ≤ q.2) ∧ q.2 < span
def sp_law_small : Sp := fun vs H Q _ => ∃ (d c : Addr) (n most span : Int), vs = [.ref d, .int most, .int span] ∧ Dk H d c n ∧ 0 ≤ n ∧ n < 999000 ∧ 0 ≤ most ∧ most ≤ 30 ∧ 1 ≤ span ∧ span ≤ 100 ∧
  ∀ H' t us ps m, Kp d c H H' → Dk H' d c m → n ≤ m → m ≤ n + 1 + 2 * most → H' t = some (.tup us) → Ivs H' us ps → Sml span ps → (ps.length : Int) ≤ most → Q (.ref t) H'
theorem ok_law_small (T : Tx K mg f_is_number f_is_position f_is_tuple_of f_is_interval f_require_positions f_shift_targets f_double_position f_join_targets f_law_deck f_law_draw f_law_same f_law_small f_law_moved f_law_error f_law_shift f_law_double f_law_join f_law_in_range f_law_ends_right f_law_joins_right f_law f_TooMany_init X_TooMany X_SpanError X_OutOfRange X_BadText X_TooWide d_is_number d_is_position d_is_tuple_of d_is_interval d_require_positions d_shift_targets d_double_position d_join_targets d_law_deck d_law_draw d_law_same d_law_small d_law_moved d_law_error d_law_shift d_law_double d_law_join d_law_in_range d_law_ends_right d_law_joins_right d_law d_TooMany_init t_LAST_POSITION t_MAX_TARGETS) : FnOk P w K mg base CX0 2 f_law_small d_law_small ["_law_deck_here", "_law_most", "_law_span"] sp_law_small := by
  refine T.F_law_small.ok sc_law_small (fun vs H Q E h => ?_) (fun cdv A outer s H vs Q E hr h => ?_)
  · obtain ⟨d, c, n, most, span, rfl, _⟩ := h
    rfl
  · obtain ⟨d, c, n, most, span, rfl, dk, n0, n1, m0, m1, s0, s1, q⟩ := h
    refine ⟨_, (pss_cons (ps_set (i := 3) sc_law_small.nd rfl (Or.inl rfl) (pe_lst pa_nil))
      (pss_cons (ps_for PassesOwn.never rfl (pi_range1 (by rfl) T.z_range (pa_cons (pe_call (ok_law_draw T) (hr.mono (by decide)) (by rfl) T.g_law_draw T.F_law_draw.kp T.b_law_draw .nil pass0 (pa_cons (pv 0) (pa_cons (pe_op op_add (pv 1) pe_int) pa_nil))) pa_nil)) (pg_name (i := 4) sc_law_small.nd rfl (Or.inl rfl))
      (pss_cons (ps_set (i := 5) sc_law_small.nd rfl (Or.inl rfl) (pe_call (ok_law_draw T) (hr.mono (by decide)) (by rfl) T.g_law_draw T.F_law_draw.kp T.b_law_draw .nil pass0 (pa_cons (pv 0) (pa_cons (pv 2) pa_nil))))
      (pss_one (ps_expr (pe_bm PySem.F.plainAttrs_list PySem.F.slot_list_append PySem.F.type_list_append mt_append (pv 3) (pa_cons (pe_tup (pa_cons (pv 5) (pa_cons (pe_op op_add (pv 5) (pe_call (ok_law_draw T) (hr.mono (by decide)) (by rfl) T.g_law_draw T.F_law_draw.kp T.b_law_draw .nil pass0 (pa_cons (pv 0) (pa_cons (pe_op op_sub (pv 2) (pv 5)) pa_nil)))) pa_nil))) pa_nil))))))
      (pss_one (ps_ret (pe_callTy call_tuple_of (by rfl) T.z_tuple (by decide +kernel) (pa_cons (pe_callB (cr_sortedT rfl) (by rfl) T.z_sorted (by decide +kernel) (pa_cons (pe_callTy (cr_setOfT rfl hr.units) (by rfl) T.z_set (by decide +kernel) (pa_cons (pv 3) pa_nil)) pa_nil)) pa_nil)))))), ?_⟩
    refine ⟨by show 0 ≤ sizeLine; decide, fun l nl => ?_⟩
    have offl := dk.off nl
    have sl := same_new (o := .lst []) nl
    have el := upd_same (H := H) (a := l) (o := .lst [])
    have dkl := dk.kept sl
    generalize upd H l (.lst []) = Hl at *
    refine ⟨.ref d, rfl, .int most, rfl, _, _, rfl, rfl, d, c, n, most + 1, rfl, dkl, n0, by omega, by omega, by omega, fun H1 r kp1 dk1 r0 r1 => ?_⟩
    have kpA : Kp d c H H1 := (Kp.same sl).trans kp1
    refine ⟨r, rfl, by omega, by omega, for_range (n := r.toNat) (D := ⟨_, _, fun _ _ => True, fun _ _ => True⟩) (fun i σ H' => (Kp d c H H' ∧ Dk H' d c (n + 1 + 2 * i)) ∧ (∃ ws ps, H' l = some (.lst ws) ∧ Ivs H' ws ps ∧ ps.length = i ∧ ∀ q ∈ ps, (0 ≤ q.1 ∧ q.1 ≤ q.2) ∧ q.2 < span) ∧ ∃ y4 y5, σ = [some (.ref d), some (.int most), some (.int span), some (.ref l), y4, y5])
      ⟨⟨kpA, dk1.eq (by simp)⟩, ⟨[], [], kp1.keep offl el, .nil, rfl, fun q hq => nomatch hq⟩, _, _, rfl⟩ ?_ ?_⟩
    · rintro i σ H2 hi ⟨⟨kp2, dk2⟩, ⟨ws, ps, el2, iv, pl, ok⟩, y4, y5, rfl⟩
      refine ⟨.ref d, rfl, .int span, rfl, d, c, _, span, rfl, dk2, by omega, by omega, by omega, by omega, fun H3 lo kp3 dk3 lo0 lo1 => ?_⟩
      have el3 := kp3.keep offl el2
      refine ⟨.ref l, rfl, .inl ⟨rfl, _, SqL.of el3⟩, .int lo, rfl, .int lo, rfl, .ref d, rfl, .int span, rfl, .int lo, rfl, _, _, rfl, rfl, d, c, _, span - lo, rfl, dk3, by omega, by omega, by omega, by omega, fun H4 r4 kp4 dk4 r40 r41 => ?_⟩
      refine ⟨_, _, rfl, rfl, by show 2 ≤ sizeLine; decide, fun t nt => ?_⟩
      have st := same_new (o := .tup [.int lo, .int (lo + r4)]) nt
      have et := upd_same (H := H4) (a := t) (o := .tup [.int lo, .int (lo + r4)])
      have el5 := st _ _ (kp4.keep offl el3)
      have dk5 := dk4.kept st
      have t25 : Tps H2 (upd H4 t (.tup [.int lo, .int (lo + r4)])) := (kp3.tps dk2).trans ((kp4.tps dk3).trans (Tps.same st))
      have kp25 : Kp d c H (upd H4 t (.tup [.int lo, .int (lo + r4)])) := kp2.trans (kp3.trans (kp4.trans (Kp.same st)))
      generalize upd H4 t (.tup [.int lo, .int (lo + r4)]) = H5 at *
      refine ⟨l, _, _, rfl, rfl, el5, few_line (by rw [iv.length]; omega), ⟨fun b o n1 n2 e => ?_, (dk5.upd offl).eq (by omega)⟩, ⟨_, ps ++ [(lo, lo + r4)], upd_same, ((iv.tps t25).snoc et).tps (Tps.lst el5), by rw [List.length_append, pl]; rfl, fun q hq => ?_⟩, _, _, rfl⟩
      · rw [upd_ne (ne_of_none e nl)]
        exact kp25 b o n1 n2 e
      · rcases List.mem_append.mp hq with hq | hq
        · exact ok q hq
        · rw [List.mem_singleton.mp hq]
          exact ⟨⟨lo0, by show lo ≤ lo + r4; omega⟩, by show lo + r4 < span; omega⟩
    · rintro σ H6 ⟨⟨kp6, dk6⟩, ⟨ws, ps, el6, iv, pl, ok⟩, y4, y5, rfl⟩
      refine ⟨.ref l, rfl, ?_⟩
      dsimp only [tNil]
      refine sorted_set_pairs (SqL.of el6) iv (by omega) (fun q hq => by have := ok q hq; omega) (fun H7 p us' ps' s7 np ep iv' asc mem => ?_)
      refine ⟨p, us', rfl, .inl ⟨SqL.of ep, fun t nt => ?_⟩⟩
      have s8 := same_new (o := .tup us') nt
      have nd : ps'.length ≤ ps.length := by
        have ndp : ps'.Nodup := asc.imp fun {a b} h e => by
          subst e
          rcases h with h | h <;> omega
        exact nodup_le ndp fun x hx => (mem x).mp hx
      exact q _ t us' ps' _ (kp6.trans (Kp.same (s7.trans s8))) (dk6.kept (s7.trans s8)) (by omega) (by omega) upd_same (iv'.same s8) ⟨asc, fun q hq => ok q ((mem q).mp hq)⟩ (by omega)
def mvI (b : Int) (q : Int × Int) : Int × Int := (q.1 + b, q.2 + b)
def sp_law_moved : Sp := fun vs H Q _ => ∃ (a : Addr) (b : Int) (us : List V) (ps : List (Int × Int)), vs = [.ref a, .int b] ∧ H a = some (.tup us) ∧ Ivs H us ps ∧ ps.length < 1000 ∧
  ∀ H' p ws, Same H H' → H' p = some (.tup ws) → Ivs H' ws (ps.map (mvI b)) → Q (.ref p) H'
theorem map_take_snoc {α β : Type} {ns : List α} {i : Nat} {n : α} {f : α → β} (h : ns[i]? = some n) : (ns.take (i + 1)).map f = (ns.take i).map f ++ [f n] := by
  rw [List.take_add_one, h, List.map_append]
  rfl
theorem ok_law_moved (T : Tx K mg f_is_number f_is_position f_is_tuple_of f_is_interval f_require_positions f_shift_targets f_double_position f_join_targets f_law_deck f_law_draw f_law_same f_law_small f_law_moved f_law_error f_law_shift f_law_double f_law_join f_law_in_range f_law_ends_right f_law_joins_right f_law f_TooMany_init X_TooMany X_SpanError X_OutOfRange X_BadText X_TooWide d_is_number d_is_position d_is_tuple_of d_is_interval d_require_positions d_shift_targets d_double_position d_join_targets d_law_deck d_law_draw d_law_same d_law_small d_law_moved d_law_error d_law_shift d_law_double d_law_join d_law_in_range d_law_ends_right d_law_joins_right d_law d_TooMany_init t_LAST_POSITION t_MAX_TARGETS) : FnOk P w K mg base CX0 1 f_law_moved d_law_moved ["_law_intervals", "_law_by"] sp_law_moved := by
  refine T.F_law_moved.ok sc_law_moved (fun vs H Q E h => ?_) (fun cdv A outer s H vs Q E hr h => ?_)
  · obtain ⟨a, b, us, ps, rfl, _⟩ := h
    rfl
  · obtain ⟨a, b, us, ps, rfl, ha, iv, few, q⟩ := h
    refine ⟨_, (pss_one (ps_ret (pe_callTy call_tuple_of (by rfl) T.z_tuple (by decide +kernel) (pa_cons (pe_lc (own := [("_law_low", 2), ("_law_high", 3)]) (g := (gTup K 2 (gCons (gName 2) (gCons (gName 3) gNil)))) (tt := tYes) (by rfl) sc_law_moved.nd (pi_tup (pv 0)) (blkOk_by (own := [("_law_low", 2), ("_law_high", 3)]) (N := N_law_moved) (sc := defScope s_law_moved) (by decide +kernel)) (fun _ _ _ _ _ => (pg_tup rfl (pgs_cons (pg_name (i := 2) sc_law_moved.nd rfl (Or.inl rfl)) (pgs_cons (pg_name (i := 3) sc_law_moved.nd rfl (Or.inl rfl)) pgs_nil)))) (fun _ _ _ _ _ => pts_nil) (fun _ _ _ _ _ => (pe_tup (pa_cons (pe_op op_add (pv 2) (pv 1)) (pa_cons (pe_op op_add (pv 3) (pv 1)) pa_nil))))) pa_nil)))), ?_⟩
    refine ⟨.ref a, rfl, a, rfl, ⟨_, SqT.of ha⟩, fun D nD => ?_⟩
    refine lcT (K := K) (a := a) (xs := us) (fun j H' ws => Ivs H' ws ((ps.take j).map (mvI b)) ∧ ws.length ≤ j) nD (fun H' s => SqT.of (s _ _ ha)) (by rw [iv.length]; omega) (fun _ _ _ _ t h => ⟨h.1.tps t, h.2⟩) (fun j H' ws h => h.2) (fun _ => ⟨.nil, Nat.le_refl _⟩) ?_ ?_
    · rintro j v H' N acc hj sm eA sz ⟨r, rl⟩ no yes
      obtain ⟨bb, x, y, rfl, ep, hb⟩ := iv.get hj
      refine ⟨bb, _, rfl, SqT.of (sm _ _ hb), rfl, .int x, [.int y], rfl, .int y, [], rfl, rfl, rfl, .int x, rfl, .int b, rfl, _, _, rfl, rfl, .int y, rfl, .int b, rfl, _, _, rfl, rfl, by show 2 ≤ sizeLine; decide, fun t nt => yes _ _ (same_new nt) ⟨?_, by rw [List.length_append]; show acc.length + 1 ≤ _; omega⟩⟩
      rw [map_take_snoc ep]
      exact (r.same (same_new nt)).snoc upd_same
    · rintro H' ws sm eD ⟨r, rl⟩
      rw [iv.length, List.take_length] at r
      refine ⟨D, ws, rfl, .inl ⟨SqL.of eD, fun l nl => ?_⟩⟩
      exact q _ l ws (sm.trans (same_new nl)) upd_same (r.same (same_new nl))
theorem sm_rowT {ps : List (Int × Int)} {n : Nat} (h : ∀ p ∈ ps, p.1.natAbs < 10 ^ 30 ∧ p.2.natAbs < 10 ^ 30) (hn : ps.length ≤ n) : Sm (n * 203) 2 (.tuple (ps.map pairD)) := by
  have z := Sm.tup (n := 202) (dp := 1) (ds := ps.map pairD) (fun d hd => by
    obtain ⟨p, hp, rfl⟩ := List.mem_map.mp hd
    exact sm2 (h p hp).1 (h p hp).2)
  rw [List.length_map] at z
  exact z.mono (Nat.mul_le_mul_right _ hn) (Nat.le_refl _)
/-- a row of pairs, as one opaque value that repr shows -/
theorem row_data {K : PySem.W.Frag} {ps : List (Int × Int)} (h : ∀ p ∈ ps, p.1.natAbs < 10 ^ 30 ∧ p.2.natAbs < 10 ^ 30) (hn : ps.length ≤ 60) : ∃ dd : PyData, Sm (60 * 203) 2 dd ∧ ∀ (H : Hp) (a : Addr) (us : List V), H a = some (.tup us) → Ivs H us ps → Dp K H (.ref a) dd :=
  ⟨_, sm_rowT h hn, fun _ _ _ e iv => .tup (SqT.of e) iv.dp⟩

/-! ### sorted(list of pairs) -/
theorem Ivs.perm {H : Hp} {xs ys : List V} (pm : ys.Perm xs) : ∀ {ps : List (Int × Int)}, Ivs H xs ps → ∃ ps', Ivs H ys ps' ∧ ps'.Perm ps := by
  induction pm with
  | nil =>
    intro ps h
    exact ⟨ps, h, .refl _⟩
  | cons x _ ih =>
    intro ps h
    cases h with
    | cons e h =>
      obtain ⟨ps', h', p'⟩ := ih h
      exact ⟨_ :: ps', .cons e h', p'.cons _⟩
  | swap x y l =>
    intro ps h
    cases h with
    | cons e h =>
      cases h with
      | cons e2 h => exact ⟨_, .cons e2 (.cons e h), .swap _ _ _⟩
  | trans _ _ ih1 ih2 =>
    intro ps h
    obtain ⟨p2, h2, q2⟩ := ih2 h
    obtain ⟨p1, h1, q1⟩ := ih1 h2
    exact ⟨p1, h1, q1.trans q2⟩
theorem Ivs.pair {H : Hp} {R : V → V → Prop} {S : Int × Int → Int × Int → Prop} (rs : ∀ a b x y u v, H a = some (.tup [.int x, .int y]) → H b = some (.tup [.int u, .int v]) → R (.ref a) (.ref b) → S (x, y) (u, v)) {vs : List V} {ps : List (Int × Int)} (h : Ivs H vs ps) (pw : vs.Pairwise R) : ps.Pairwise S := by
  induction h with
  | nil => exact .nil
  | cons e h ih =>
    have p := List.pairwise_cons.mp pw
    refine List.pairwise_cons.mpr ⟨fun q hq => ?_, ih p.2⟩
    obtain ⟨b, hb, eb⟩ := h.tpsMem hq
    exact rs _ b _ _ q.1 q.2 e eb (p.1 _ hb)
theorem Ivs.mem {H : Hp} {vs : List V} {ps : List (Int × Int)} (h : Ivs H vs ps) {v : V} (hv : v ∈ vs) : ∃ a q, q ∈ ps ∧ v = .ref a ∧ H a = some (.tup [.int q.1, .int q.2]) := by
  obtain ⟨i, ei⟩ := List.getElem?_of_mem hv
  obtain ⟨a, x, y, e, ep, ea⟩ := h.get ei
  exact ⟨a, (x, y), List.mem_of_getElem? ep, e, ea⟩
def leP (a b : Int × Int) : Prop := a.1 < b.1 ∨ (a.1 = b.1 ∧ a.2 ≤ b.2)
theorem leP_of_lt {ps : List (Int × Int)} (h : ps.Pairwise ltP) : ps.Pairwise leP := h.imp fun {a b} h => by
  rcases h with h | h
  · exact .inl h
  · exact .inr ⟨h.1, by omega⟩
theorem leP_uniq {ps qs : List (Int × Int)} (h1 : ps.Pairwise leP) (h2 : qs.Pairwise leP) (pm : ps.Perm qs) : ps = qs := by
  refine pm.eq_of_pairwise (le := leP) (fun a b _ _ x y => ?_) h1 h2
  have : a.1 = b.1 ∧ a.2 = b.2 := by
    unfold leP at x y
    omega
  exact Prod.ext this.1 this.2
theorem bd2 {z : Int × Int} (b : (0 ≤ z.1 ∧ z.1 < 10 ^ 13) ∧ 0 ≤ z.2 ∧ z.2 < 10 ^ 13) : TS.Bd (10 ^ 13) [z.1, z.2] := fun m hm => by
  rcases List.mem_cons.mp hm with rfl | hm
  · exact b.1
  · rw [List.mem_singleton.mp hm]
    exact b.2
theorem sort_pairs {K : PySem.W.Frag} {H : Hp} {l : Addr} {us : List V} {ps : List (Int × Int)} {Q : VK} (hl : SqL K H l us) (iv : Ivs H us ps) (few : ps.length < 64) (bd : ∀ q ∈ ps, (0 ≤ q.1 ∧ q.1 < 10 ^ 13) ∧ 0 ≤ q.2 ∧ q.2 < 10 ^ 13)
    (fin : ∀ H' p us' ps', Same H H' → H p = none → H' p = some (.lst us') → Ivs H' us' ps' → ps'.Pairwise leP → ps'.Perm ps → Q (.ref p) H') :
    rSortU K 2 (10 ^ 13) [.ref l] H Q := by
  refine ⟨l, us, rfl, hl, by rw [iv.length]; exact few, fun x hx => ?_, fun ys p2 pm pw np2 => ?_⟩
  · obtain ⟨b, qq, hqq, e, eb⟩ := iv.mem hx
    exact ⟨[qq.1, qq.2], ⟨b, e, SqT.of eb⟩, rfl, bd2 (bd qq hqq)⟩
  obtain ⟨gs, ivg, pmg⟩ := Ivs.perm pm iv
  have z : gs.Pairwise (fun a b => TS.code (10 ^ 13) [a.1, a.2] ≤ TS.code (10 ^ 13) [b.1, b.2]) := Ivs.pair (S := fun a b => TS.code (10 ^ 13) [a.1, a.2] ≤ TS.code (10 ^ 13) [b.1, b.2]) (fun a b x y u v ea eb h => h [x, y] [u, v] ⟨a, rfl, SqT.of ea⟩ ⟨b, rfl, SqT.of eb⟩) ivg pw
  have s2 := same_new (o := .lst ys) np2
  refine fin _ p2 ys gs s2 np2 upd_same (ivg.same s2) (z.imp_of_mem fun {x y} hx hy h => ?_) pmg
  exact code_lex (bd2 (bd x (pmg.mem_iff.mp hx))) (bd2 (bd y (pmg.mem_iff.mp hy))) h

/-! ### comprehensions over a range that change nothing but make new objects -/
theorem lcR {lo : Int} {n : Nat} {g : TG} {tt : TT} {te : TE} {vs : List Nat} {σ : L2.St} {H1 : Hp} {D : Addr} {Qd : Hp → Prop} (R : Nat → Hp → List V → Prop) (nD : H1 D = none) (few : n < 1000)
    (mono : ∀ i H' H'' ws, Tps H' H'' → R i H' ws → R i H'' ws) (len : ∀ i H' ws, R i H' ws → ws.length ≤ i) (r0 : ∀ H', R 0 H' [])
    (hs : ∀ i H' (N : Hp → Prop) acc, i < n → Same H1 H' → H' D = some (.lst acc) → acc.length < sizeLine → R i H' acc → (∀ H'', Same H' H'' → R (i + 1) H'' acc → N H'') → (∀ H'' y, Same H' H'' → R (i + 1) H'' (acc ++ [y]) → ∃ acc', H'' D = some (.lst acc') ∧ acc'.length < sizeLine ∧ N (upd H'' D (.lst (acc' ++ [y])))) →
      g (.int (lo + i)) (wipe σ vs) H' fun σ2 H2 => wipe σ2 vs = wipe σ vs ∧ tt σ2 H2 fun b H3 => if b = true then te σ2 H3 fun y H4 => ∃ acc, H4 D = some (.lst acc) ∧ acc.length < sizeLine ∧ N (upd H4 D (.lst (acc ++ [y]))) else N H3)
    (hd : ∀ H' ws, Same H1 H' → H' D = some (.lst ws) → R n H' ws → Qd H') :
    ∃ W : Nat → Nat → Hp → Prop, (∃ m, W 0 m (upd H1 D (.lst []))) ∧ ∀ i m H, W i m H →
      ((Itr lo n).stop i H ∧ Qd H) ∨ ((Itr lo n).go i H ∧ ∃ Nx : Hp → Prop, (∀ H', Nx H' → ∃ m', m' < m ∧ W (i + 1) m' H') ∧ ∀ x H', (Itr lo n).yld i H x H' → g x (wipe σ vs) H' fun σ2 H2 => wipe σ2 vs = wipe σ vs ∧ tt σ2 H2 fun b H3 =>
        if b = true then te σ2 H3 fun y H4 => ∃ acc, H4 D = some (.lst acc) ∧ acc.length < sizeLine ∧ Nx (upd H4 D (.lst (acc ++ [y]))) else Nx H3) := by
  refine lc_range (lo := lo) (n := n) (fun i H' => Same H1 H' ∧ ∃ ws, H' D = some (.lst ws) ∧ R i H' ws) ⟨same_new nD, [], upd_same, r0 _⟩ ?_ ?_
  · rintro i H' hi ⟨sm, ws, eD, r⟩
    have lw := len i H' ws r
    have sz : ws.length < sizeLine := few_line (by omega)
    refine hs i H' _ ws hi sm eD sz r (fun H'' s r2 => ⟨sm.trans s, ws, s _ _ eD, r2⟩) (fun H'' y s r2 => ?_)
    exact ⟨ws, s _ _ eD, sz, same_off nD (sm.trans s), _, upd_same, mono _ _ _ _ (Tps.lst (s _ _ eD)) r2⟩
  · rintro H' ⟨sm, ws, eD, r⟩
    exact hd H' ws sm eD r

theorem ltP_nodup {ps : List (Int × Int)} (h : ps.Pairwise ltP) : ps.Nodup := h.imp fun {a b} h e => by
  subst e
  rcases h with h | h <;> omega
theorem ltP_uniq {ps qs : List (Int × Int)} (h1 : ps.Pairwise ltP) (h2 : qs.Pairwise ltP) (m : ∀ q, q ∈ ps ↔ q ∈ qs) : ps = qs :=
  leP_uniq (leP_of_lt h1) (leP_of_lt h2) ((List.perm_ext_iff_of_nodup (ltP_nodup h1) (ltP_nodup h2)).mpr m)
theorem mv_ltP {B : Int} {ps : List (Int × Int)} (h : ps.Pairwise ltP) : (ps.map (mvI B)).Pairwise ltP := List.pairwise_map.mpr (h.imp fun {a b} h => by
  unfold ltP at h
  unfold mvI ltP
  show a.1 + B < b.1 + B ∨ a.1 + B = b.1 + B ∧ a.2 + B < b.2 + B
  omega)
theorem mv_inj {B : Int} {a b : Int × Int} (h : mvI B a = mvI B b) : a = b := by
  unfold mvI at h
  have h1 := congrArg Prod.fst h
  have h2 := congrArg Prod.snd h
  simp only at h1 h2
  exact Prod.ext (by omega) (by omega)
theorem at3 {α : Type} {r : Int} (h0 : 0 ≤ r) (h1 : r < 3) (x y z : α) : ∃ v, atI [x, y, z] r = some v ∧ (v = x ∨ v = y ∨ v = z) := by
  have : r = 0 ∨ r = 1 ∨ r = 2 := by omega
  rcases this with rfl | rfl | rfl
  · exact ⟨x, rfl, .inl rfl⟩
  · exact ⟨y, rfl, .inr (.inl rfl)⟩
  · exact ⟨z, rfl, .inr (.inr rfl)⟩
theorem eqv_pair (x y u v : Int) : PyData.eqv (.tuple [.int x, .int y]) (.tuple [.int u, .int v]) = decide ((x, y) = (u, v)) := by
  show ((x == u) && ((y == v) && true)) = _
  rw [Bool.and_true]
  by_cases h : (x, y) = (u, v)
  · cases h
    simp
  · rw [decide_eq_false h]
    simp at h ⊢
    exact h

/-! ### tuples joined and cut, whichever object comes out -/
theorem catA_any {K : PySem.W.Frag} {H : Hp} {a b : Addr} {xs ys : List V} {Q : VK} (h1 : H a = some (.tup xs)) (h2 : H b = some (.tup ys)) (sz : xs.length + ys.length ≤ sizeLine) (k : ∀ H' p, Same H H' → H' p = some (.tup (xs ++ ys)) → Q (.ref p) H') : rCatA K (.ref a) (.ref b) H Q := by
  refine ⟨a, b, xs, ys, rfl, rfl, SqT.of h1, SqT.of h2, sz, fun e => k H b (Same.refl _) ?_, fun _ e => k H a (Same.refl _) ?_, fun _ _ p np => k _ p (same_new np) upd_same⟩
  · rw [e]
    exact h2
  · rw [e, List.append_nil]
    exact h1
theorem slA_any {K : PySem.W.Frag} {H : Hp} {a : Addr} {xs : List V} {lo hi : Option Int} {Q : VK} (h1 : H a = some (.tup xs)) (k : ∀ H' p, Same H H' → H' p = some (.tup (cutV xs lo hi)) → Q (.ref p) H') : rSlA K (.ref a) lo hi H Q := by
  refine ⟨a, xs, rfl, SqT.of h1, fun e => k H a (Same.refl _) ?_, fun _ p np => k _ p (same_new np) upd_same⟩
  have e2 : cutV xs lo hi = xs := by
    unfold cutV
    rw [e.1, e.2]
    simp
  rw [e2]
  exact h1
theorem Ivs.take {H : Hp} {vs : List V} {ps : List (Int × Int)} (h : Ivs H vs ps) : ∀ n : Nat, Ivs H (vs.take n) (ps.take n) := by
  induction h with
  | nil =>
    intro n
    rw [List.take_nil, List.take_nil]
    exact .nil
  | cons e _ ih =>
    intro n
    cases n with
    | zero => exact .nil
    | succ n => exact .cons e (ih n)

theorem atI_end {xs : List V} {v : V} (h : xs[xs.length - 1]? = some v) : atI xs (-1) = some v := by
  have ne : xs ≠ [] := fun e => by
    rw [e] at h
    cases h
  have e := List.dropLast_concat_getLast ne
  rw [List.getLast_eq_getElem] at e
  rw [List.getElem?_eq_getElem (by have := List.length_pos_iff.mpr ne; omega)] at h
  rw [Option.some.inj h] at e
  rw [← e]
  exact atI_last _ _

theorem shaped_pairs (ps : List (Int × Int)) : SeqAt.shaped (.tuple (ps.map pairD)) = true := by
  have h1 : ∀ ps : List (Int × Int), PyData.canLayAll0 (ps.map pairD) = true := by
    intro ps
    induction ps with
    | nil => rfl
    | cons n r ih => exact ih
  have h2 : ∀ ps : List (Int × Int), PyData.depthAll (ps.map pairD) ≤ 1 := by
    intro ps
    induction ps with
    | nil => exact Nat.zero_le _
    | cons n r ih =>
      show max 1 (PyData.depthAll (r.map pairD)) ≤ 1
      omega
  unfold SeqAt.shaped
  rw [show PyData.canLay0 (.tuple (ps.map pairD)) = PyData.canLayAll0 (ps.map pairD) from rfl, h1 ps]
  show decide (PyData.depthAll (ps.map pairD) + 1 ≤ 64) = true
  exact decide_eq_true (by have := h2 ps; omega)
theorem eqv_self (ps : List (Int × Int)) : PyData.eqv (.tuple (ps.map pairD)) (.tuple (ps.map pairD)) = true := by
  show PyData.eqvAll (ps.map pairD) (ps.map pairD) = true
  induction ps with
  | nil => rfl
  | cons q r ih =>
    show (((q.1 == q.1) && ((q.2 == q.2) && true)) && PyData.eqvAll (r.map pairD) (r.map pairD)) = true
    rw [ih, beq_self_eq_true, beq_self_eq_true]
    rfl

/-! ### comprehensions over a range that draw -/
theorem lcK {d c : Addr} {n0 per : Int} {lo : Int} {n : Nat} {g : TG} {tt : TT} {te : TE} {vs : List Nat} {σ : L2.St} {H1 : Hp} {D : Addr} {Qd : Hp → Prop} (R : Nat → Hp → List V → Prop) (nD : H1 D = none) (dk : Dk H1 d c n0) (few : n < 1000)
    (mono : ∀ i H' H'' ws, Tps H' H'' → R i H' ws → R i H'' ws) (len : ∀ i H' ws, R i H' ws → ws.length ≤ i) (r0 : ∀ H', R 0 H' [])
    (hs : ∀ i H' (N : Hp → Prop) acc, i < n → Kp d c H1 H' → Dk H' d c (n0 + per * i) → H' D = some (.lst acc) → R i H' acc → (∀ H'' y, Kp d c H' H'' → Dk H'' d c (n0 + per * i + per) → R (i + 1) H'' (acc ++ [y]) → ∃ acc', H'' D = some (.lst acc') ∧ acc'.length < sizeLine ∧ N (upd H'' D (.lst (acc' ++ [y])))) →
      g (.int (lo + i)) (wipe σ vs) H' fun σ2 H2 => wipe σ2 vs = wipe σ vs ∧ tt σ2 H2 fun b H3 => if b = true then te σ2 H3 fun y H4 => ∃ acc, H4 D = some (.lst acc) ∧ acc.length < sizeLine ∧ N (upd H4 D (.lst (acc ++ [y]))) else N H3)
    (hd : ∀ H' ws, Kp d c H1 H' → Dk H' d c (n0 + per * n) → H' D = some (.lst ws) → R n H' ws → Qd H') :
    ∃ W : Nat → Nat → Hp → Prop, (∃ m, W 0 m (upd H1 D (.lst []))) ∧ ∀ i m H, W i m H →
      ((Itr lo n).stop i H ∧ Qd H) ∨ ((Itr lo n).go i H ∧ ∃ Nx : Hp → Prop, (∀ H', Nx H' → ∃ m', m' < m ∧ W (i + 1) m' H') ∧ ∀ x H', (Itr lo n).yld i H x H' → g x (wipe σ vs) H' fun σ2 H2 => wipe σ2 vs = wipe σ vs ∧ tt σ2 H2 fun b H3 =>
        if b = true then te σ2 H3 fun y H4 => ∃ acc, H4 D = some (.lst acc) ∧ acc.length < sizeLine ∧ Nx (upd H4 D (.lst (acc ++ [y]))) else Nx H3) := by
  have off := dk.off nD
  refine lc_range (lo := lo) (n := n) (fun i H' => Kp d c H1 H' ∧ Dk H' d c (n0 + per * i) ∧ ∃ ws, H' D = some (.lst ws) ∧ R i H' ws) ⟨Kp.same (same_new nD), (dk.upd off).eq (by simp), [], upd_same, r0 _⟩ ?_ ?_
  · rintro i H' hi ⟨kp, dk', ws, eD, r⟩
    have lw := len i H' ws r
    have sz : ws.length < sizeLine := few_line (by omega)
    refine hs i H' _ ws hi kp dk' eD r (fun H'' y kp2 dk2 r2 => ?_)
    have eD2 := kp2.keep off eD
    refine ⟨ws, eD2, sz, fun b o n1 n2 e => ?_, (dk2.upd off).eq ?_, _, upd_same, mono _ _ _ _ (Tps.lst eD2) r2⟩
    · rw [upd_ne (ne_of_none e nD)]
      exact kp2 b o n1 n2 (kp b o n1 n2 e)
    · rw [Int.natCast_succ, Int.mul_add, Int.mul_one]
      omega
  · rintro H' ⟨kp, dk', ws, eD, r⟩
    exact hd H' ws kp dk' eD r

/-! ### the program's checks of any pair of ints -/
def okB (q : Int × Int) : Bool := decide ((0 ≤ q.1 ∧ q.1 ≤ q.2) ∧ q.2 ≤ 1000000000000)
def Vld (ps : List (Int × Int)) : Prop := ∀ q ∈ ps, (0 ≤ q.1 ∧ q.1 ≤ q.2) ∧ q.2 ≤ 1000000000000
theorem all_okB (ps : List (Int × Int)) : (ps.map okB).all id = true ↔ Vld ps := by
  rw [List.all_eq_true]
  constructor
  · intro h q hq
    exact of_decide_eq_true (h (okB q) (List.mem_map.mpr ⟨q, hq, rfl⟩))
  · intro h b hb
    obtain ⟨q, hq, rfl⟩ := List.mem_map.mp hb
    exact decide_eq_true (h q hq)
def sp_is_number : Sp := fun vs H Q _ => ∃ i : Int, vs = [.int i] ∧ Q (.bl true) H
theorem ok_is_number (T : Tx K mg f_is_number f_is_position f_is_tuple_of f_is_interval f_require_positions f_shift_targets f_double_position f_join_targets f_law_deck f_law_draw f_law_same f_law_small f_law_moved f_law_error f_law_shift f_law_double f_law_join f_law_in_range f_law_ends_right f_law_joins_right f_law f_TooMany_init X_TooMany X_SpanError X_OutOfRange X_BadText X_TooWide d_is_number d_is_position d_is_tuple_of d_is_interval d_require_positions d_shift_targets d_double_position d_join_targets d_law_deck d_law_draw d_law_same d_law_small d_law_moved d_law_error d_law_shift d_law_double d_law_join d_law_in_range d_law_ends_right d_law_joins_right d_law d_TooMany_init t_LAST_POSITION t_MAX_TARGETS) : FnOk P w K mg base CX0 1 f_is_number d_is_number ["value"] sp_is_number := by
  refine T.F_is_number.ok sc_is_number (fun vs H Q E h => ?_) (fun cdv A outer s H vs Q E hr h => ?_)
  · obtain ⟨i, rfl, _⟩ := h
    rfl
  · obtain ⟨i, rfl, q⟩ := h
    refine ⟨_, (pss_one (ps_ret (pe_and (pe_callB call_isi (by rfl) T.z_isinstance (by decide +kernel) (pa_cons (pv 0) (pa_cons (pe_bltn (v := .ty "int") (u := .type "int") (by rfl) T.z_int (by decide +kernel) rfl) pa_nil))) (pe_one (pe_not (pe_callB call_isi (by rfl) T.z_isinstance (by decide +kernel) (pa_cons (pv 0) (pa_cons (pe_bltn (v := .ty "bool") (u := .type "bool") (by rfl) T.z_bool (by decide +kernel) rfl) pa_nil)))))))), ?_⟩
    refine ⟨.int i, rfl, .int i, .ty "int", _, _, _, rfl, .ty "int", .base (.int i), kit_ty (a := "int") (b := "int") (r := true) (by decide +kernel), _, rfl, iteT ?_⟩
    exact ⟨.int i, rfl, .int i, .ty "bool", _, _, _, rfl, .ty "bool", .base (.int i), kit_ty (a := "int") (b := "bool") (r := false) (by decide +kernel), _, rfl, q⟩
def sp_is_position : Sp := fun vs H Q _ => ∃ i : Int, vs = [.int i] ∧ Q (.bl (decide (0 ≤ i ∧ i ≤ 1000000000000))) H
theorem ok_is_position (T : Tx K mg f_is_number f_is_position f_is_tuple_of f_is_interval f_require_positions f_shift_targets f_double_position f_join_targets f_law_deck f_law_draw f_law_same f_law_small f_law_moved f_law_error f_law_shift f_law_double f_law_join f_law_in_range f_law_ends_right f_law_joins_right f_law f_TooMany_init X_TooMany X_SpanError X_OutOfRange X_BadText X_TooWide d_is_number d_is_position d_is_tuple_of d_is_interval d_require_positions d_shift_targets d_double_position d_join_targets d_law_deck d_law_draw d_law_same d_law_small d_law_moved d_law_error d_law_shift d_law_double d_law_join d_law_in_range d_law_ends_right d_law_joins_right d_law d_TooMany_init t_LAST_POSITION t_MAX_TARGETS) : FnOk P w K mg base CX0 2 f_is_position d_is_position ["value"] sp_is_position := by
  refine T.F_is_position.ok sc_is_position (fun vs H Q E h => ?_) (fun cdv A outer s H vs Q E hr h => ?_)
  · obtain ⟨i, rfl, _⟩ := h
    rfl
  · obtain ⟨i, rfl, q⟩ := h
    refine ⟨_, (pss_one (ps_ret (pe_and (pe_call (ok_is_number T) (hr.mono (by decide)) (by rfl) T.g_is_number T.F_is_number.kp T.b_is_number .nil pass0 (pa_cons (pv 0) pa_nil)) (pe_one (pe_chain op_le op_le pe_int (pv 0) (pe_glob (v := .int 1000000000000) (by rfl) T.c_LAST_POSITION ⟨_, rfl⟩)))))), ?_⟩
    refine ⟨.int i, rfl, i, rfl, _, rfl, iteT ?_⟩
    refine ⟨.int i, rfl, _, _, rfl, rfl, _, rfl, ite2 (fun c => ?_) (fun c => ?_)⟩
    · refine ⟨_, _, rfl, rfl, ?_⟩
      have c := of_decide_eq_true c
      rw [show decide (0 ≤ i ∧ i ≤ 1000000000000) = decide (i ≤ 1000000000000) by rw [Bool.eq_iff_iff, decide_eq_true_iff, decide_eq_true_iff]; omega] at q
      exact q
    · have c : ¬ 0 ≤ i := fun z => c (decide_eq_true z)
      rw [decide_eq_false (by omega)] at q
      exact q
def sp_is_tuple_of : Sp := fun vs H Q _ => ∃ (a : Addr) (x y : Int), vs = [.ref a, .int 2] ∧ H a = some (.tup [.int x, .int y]) ∧ Q (.bl true) H
theorem ok_is_tuple_of (T : Tx K mg f_is_number f_is_position f_is_tuple_of f_is_interval f_require_positions f_shift_targets f_double_position f_join_targets f_law_deck f_law_draw f_law_same f_law_small f_law_moved f_law_error f_law_shift f_law_double f_law_join f_law_in_range f_law_ends_right f_law_joins_right f_law f_TooMany_init X_TooMany X_SpanError X_OutOfRange X_BadText X_TooWide d_is_number d_is_position d_is_tuple_of d_is_interval d_require_positions d_shift_targets d_double_position d_join_targets d_law_deck d_law_draw d_law_same d_law_small d_law_moved d_law_error d_law_shift d_law_double d_law_join d_law_in_range d_law_ends_right d_law_joins_right d_law d_TooMany_init t_LAST_POSITION t_MAX_TARGETS) : FnOk P w K mg base CX0 1 f_is_tuple_of d_is_tuple_of ["value", "length"] sp_is_tuple_of := by
  refine T.F_is_tuple_of.ok sc_is_tuple_of (fun vs H Q E h => ?_) (fun cdv A outer s H vs Q E hr h => ?_)
  · obtain ⟨a, x, y, rfl, _⟩ := h
    rfl
  · obtain ⟨a, x, y, rfl, ha, q⟩ := h
    refine ⟨_, (pss_one (ps_ret (pe_and (pe_callB call_isi (by rfl) T.z_isinstance (by decide +kernel) (pa_cons (pv 0) (pa_cons (pe_bltn (v := .ty "tuple") (u := .type "tuple") (by rfl) T.z_tuple (by decide +kernel) rfl) pa_nil))) (pe_one (pe_cmpR op_eq (pe_callB call_len_seq (by rfl) T.z_len PySem.boot_len (pa_cons (pv 0) pa_nil)) (pv 1) (nomark _)))))), ?_⟩
    refine ⟨.ref a, rfl, .ref a, .ty "tuple", _, _, _, rfl, .ty "tuple", .base (.tup ha), kit_ty (a := "tuple") (b := "tuple") (r := true) (by decide +kernel), _, rfl, iteT ?_⟩
    exact ⟨.ref a, rfl, a, _, rfl, .inr (SqT.of ha), .int 2, rfl, rfl, q⟩
def sp_is_interval : Sp := fun vs H Q _ => ∃ (a : Addr) (p : Int × Int), vs = [.ref a] ∧ H a = some (.tup [.int p.1, .int p.2]) ∧ Q (.bl (okB p)) H
theorem ok_is_interval (T : Tx K mg f_is_number f_is_position f_is_tuple_of f_is_interval f_require_positions f_shift_targets f_double_position f_join_targets f_law_deck f_law_draw f_law_same f_law_small f_law_moved f_law_error f_law_shift f_law_double f_law_join f_law_in_range f_law_ends_right f_law_joins_right f_law f_TooMany_init X_TooMany X_SpanError X_OutOfRange X_BadText X_TooWide d_is_number d_is_position d_is_tuple_of d_is_interval d_require_positions d_shift_targets d_double_position d_join_targets d_law_deck d_law_draw d_law_same d_law_small d_law_moved d_law_error d_law_shift d_law_double d_law_join d_law_in_range d_law_ends_right d_law_joins_right d_law d_TooMany_init t_LAST_POSITION t_MAX_TARGETS) : FnOk P w K mg base CX0 3 f_is_interval d_is_interval ["value"] sp_is_interval := by
  refine T.F_is_interval.ok sc_is_interval (fun vs H Q E h => ?_) (fun cdv A outer s H vs Q E hr h => ?_)
  · obtain ⟨a, p, rfl, _⟩ := h
    rfl
  · obtain ⟨a, p, rfl, ha, q⟩ := h
    refine ⟨_, (pss_cons (ps_if (pt_not (pt_val (pe_call (ok_is_tuple_of T) (hr.mono (by decide)) (by rfl) T.g_is_tuple_of T.F_is_tuple_of.kp T.b_is_tuple_of .nil pass0 (pa_cons (pv 0) (pa_cons pe_int pa_nil)))))
      (pss_one (ps_ret pe_bl))
      pss_nil)
      (pss_cons (ps_asg (pv 0) (pg_tup rfl (pgs_cons (pg_name (i := 1) sc_is_interval.nd rfl (Or.inl rfl)) (pgs_cons (pg_name (i := 2) sc_is_interval.nd rfl (Or.inl rfl)) pgs_nil))))
      (pss_one (ps_ret (pe_and (pe_call (ok_is_position T) (hr.mono (by decide)) (by rfl) T.g_is_position T.F_is_position.kp T.b_is_position .nil pass0 (pa_cons (pv 1) pa_nil)) (pe_and (pe_call (ok_is_position T) (hr.mono (by decide)) (by rfl) T.g_is_position T.F_is_position.kp T.b_is_position .nil pass0 (pa_cons (pv 2) pa_nil)) (pe_one (pe_cmpR op_le (pv 1) (pv 2) (nomark _))))))))), ?_⟩
    obtain ⟨x, y⟩ := p
    refine ⟨.ref a, rfl, a, x, y, rfl, ha, _, rfl, iteF ?_⟩
    refine ⟨.ref a, rfl, a, _, rfl, SqT.of ha, rfl, .int x, [.int y], rfl, .int y, [], rfl, rfl, ?_⟩
    refine ⟨.int x, rfl, x, rfl, _, rfl, ite2 (fun c => ?_) (fun c => ?_)⟩
    · have c := of_decide_eq_true c
      refine ⟨.int y, rfl, y, rfl, _, rfl, ite2 (fun c2 => ?_) (fun c2 => ?_)⟩
      · have c2 := of_decide_eq_true c2
        refine ⟨.int x, rfl, .int y, rfl, _, _, rfl, rfl, ?_⟩
        rw [show okB (x, y) = decide (x ≤ y) by unfold okB; rw [Bool.eq_iff_iff, decide_eq_true_iff, decide_eq_true_iff]; show ((0 ≤ x ∧ x ≤ y) ∧ y ≤ 1000000000000) ↔ _; omega] at q
        exact q
      · have c2 : ¬ (0 ≤ y ∧ y ≤ 1000000000000) := fun z => c2 (decide_eq_true z)
        rw [show okB (x, y) = decide (0 ≤ y ∧ y ≤ 1000000000000) by unfold okB; rw [Bool.eq_iff_iff, decide_eq_true_iff, decide_eq_true_iff]; show ((0 ≤ x ∧ x ≤ y) ∧ y ≤ 1000000000000) ↔ _; omega, decide_eq_false c2] at q
        exact q
    · have c : ¬ (0 ≤ x ∧ x ≤ 1000000000000) := fun z => c (decide_eq_true z)
      rw [show okB (x, y) = decide (0 ≤ x ∧ x ≤ 1000000000000) by unfold okB; rw [Bool.eq_iff_iff, decide_eq_true_iff, decide_eq_true_iff]; show ((0 ≤ x ∧ x ≤ y) ∧ y ≤ 1000000000000) ↔ _; omega, decide_eq_false c] at q
      exact q
theorem ok_TooMany_init (T : Tx K mg f_is_number f_is_position f_is_tuple_of f_is_interval f_require_positions f_shift_targets f_double_position f_join_targets f_law_deck f_law_draw f_law_same f_law_small f_law_moved f_law_error f_law_shift f_law_double f_law_join f_law_in_range f_law_ends_right f_law_joins_right f_law f_TooMany_init X_TooMany X_SpanError X_OutOfRange X_BadText X_TooWide d_is_number d_is_position d_is_tuple_of d_is_interval d_require_positions d_shift_targets d_double_position d_join_targets d_law_deck d_law_draw d_law_same d_law_small d_law_moved d_law_error d_law_shift d_law_double d_law_join d_law_in_range d_law_ends_right d_law_joins_right d_law d_TooMany_init t_LAST_POSITION t_MAX_TARGETS) : FnOk P w K mg base CX0 1 f_TooMany_init d_TooMany_init ["self", "bound"] (sp_exc_init K X_TooMany "bound") := by
  refine T.F_TooMany_init.ok sc_TooMany_init (fun vs H Q E h => ?_) (fun cdv A outer s H vs Q E hr h => ?_)
  · obtain ⟨a, v, rfl, _⟩ := h
    rfl
  · obtain ⟨a, v, rfl, ha, q⟩ := h
    refine ⟨_, (pss_one (ps_ost (pv 0) (pv 1))), ?_⟩
    exact ⟨v, rfl, .ref a, rfl, a, X_TooMany, rfl, T.xi_TooMany.ox, T.xi_TooMany.no, .inl ⟨ha, fun dx nd ne => q dx nd ne⟩⟩
def sp_require_positions (XO : Addr) : Sp := fun vs H Q E => ∃ (a : Addr) (us : List V) (ps : List (Int × Int)), vs = [.ref a] ∧ H a = some (.tup us) ∧ Ivs H us ps ∧ ps.length < 1000 ∧
  (Vld ps → ∀ H', Same H H' → Q (.ref a) H') ∧ (¬ Vld ps → ∀ H', Same H H' → E (.ref XO) none H')
theorem ok_require_positions (T : Tx K mg f_is_number f_is_position f_is_tuple_of f_is_interval f_require_positions f_shift_targets f_double_position f_join_targets f_law_deck f_law_draw f_law_same f_law_small f_law_moved f_law_error f_law_shift f_law_double f_law_join f_law_in_range f_law_ends_right f_law_joins_right f_law f_TooMany_init X_TooMany X_SpanError X_OutOfRange X_BadText X_TooWide d_is_number d_is_position d_is_tuple_of d_is_interval d_require_positions d_shift_targets d_double_position d_join_targets d_law_deck d_law_draw d_law_same d_law_small d_law_moved d_law_error d_law_shift d_law_double d_law_join d_law_in_range d_law_ends_right d_law_joins_right d_law d_TooMany_init t_LAST_POSITION t_MAX_TARGETS) : FnOk P w K mg base (L2.CX P w) 4 f_require_positions d_require_positions ["intervals"] (sp_require_positions X_OutOfRange) := by
  refine T.F_require_positions.okX sc_require_positions (fun vs H Q E h => ?_) (fun cdv A outer s H vs Q E hr h => ?_)
  · obtain ⟨a, us, ps, rfl, _⟩ := h
    rfl
  · obtain ⟨a, us, ps, rfl, ha, iv, few, good, bad⟩ := h
    refine ⟨_, (pss_cons (ps_if (pt_not (pt_val (pe_callB (cr_all rfl) (by rfl) T.z_all (by decide +kernel) (pa_cons (pe_lc (own := [("interval", 1)]) (g := (gName 1)) (tt := tYes) (by rfl) sc_require_positions.nd (pi_tup (pv 0)) (blkOk_by (own := [("interval", 1)]) (N := N_require_positions) (sc := defScope s_require_positions) (by decide +kernel)) (fun _ _ _ _ _ => (pg_name (i := 1) sc_require_positions.nd rfl (Or.inl rfl))) (fun _ _ _ _ _ => pts_nil) (fun _ _ _ _ _ => (pe_call (ok_is_interval T) (hr.mono (by decide)) (by rfl) T.g_is_interval T.F_is_interval.kp T.b_is_interval .nil pass0 (pa_cons (pv 1) pa_nil)))) pa_nil))))
      (pss_one (ps_raise0 rfl (takes_of rfl rfl rfl rfl) T.xn_OutOfRange T.xr_OutOfRange (by rfl)))
      pss_nil) (PSs.nox (pss_one (ps_ret (pv 0))))), ?_⟩
    have lu := iv.length
    refine ⟨.ref a, rfl, a, rfl, ⟨_, SqT.of ha⟩, fun D nD => ?_⟩
    refine lcT (K := K) (a := a) (xs := us) (fun j H' ws => ws = ((ps.take j).map okB).map V.bl) nD (fun H' s => SqT.of (s _ _ ha)) (by omega) (fun _ _ _ _ _ h => h) (fun j H' ws h => by rw [h, List.length_map, List.length_map, List.length_take]; omega) (fun _ => rfl) ?_ ?_
    · rintro j v H' N acc hj sm eA sz r no yes
      obtain ⟨bb, x, y, rfl, ep, hb⟩ := iv.get hj
      refine ⟨rfl, .ref bb, rfl, bb, (x, y), rfl, sm _ _ hb, yes _ _ (Same.refl _) ?_⟩
      rw [r, map_take_snoc ep, List.map_append]
      rfl
    · rintro H1 ws s1 eD r
      rw [lu, List.take_length] at r
      subst r
      refine ⟨D, _, rfl, SqL.of eD, _, rfl, ?_⟩
      by_cases v : Vld ps
      · rw [(all_okB ps).mpr v]
        exact iteF ⟨.ref a, rfl, good v H1 s1⟩
      · have z : (ps.map okB).all id = false := by
          rw [← Bool.not_eq_true]
          exact fun z => v ((all_okB ps).mp z)
        rw [z]
        exact iteT (bad v H1 s1)
def sp_shift_targets (XO : Addr) : Sp := fun vs H Q E => ∃ (a : Addr) (b : Int) (us : List V) (ps : List (Int × Int)), vs = [.ref a, .int b] ∧ H a = some (.tup us) ∧ Ivs H us ps ∧ ps.length < 1000 ∧
  (Vld (ps.map (mvI b)) → ∀ H' p ws, Same H H' → H' p = some (.tup ws) → Ivs H' ws (ps.map (mvI b)) → Q (.ref p) H') ∧ (¬ Vld (ps.map (mvI b)) → ∀ H', Same H H' → E (.ref XO) none H')
theorem ok_shift_targets (T : Tx K mg f_is_number f_is_position f_is_tuple_of f_is_interval f_require_positions f_shift_targets f_double_position f_join_targets f_law_deck f_law_draw f_law_same f_law_small f_law_moved f_law_error f_law_shift f_law_double f_law_join f_law_in_range f_law_ends_right f_law_joins_right f_law f_TooMany_init X_TooMany X_SpanError X_OutOfRange X_BadText X_TooWide d_is_number d_is_position d_is_tuple_of d_is_interval d_require_positions d_shift_targets d_double_position d_join_targets d_law_deck d_law_draw d_law_same d_law_small d_law_moved d_law_error d_law_shift d_law_double d_law_join d_law_in_range d_law_ends_right d_law_joins_right d_law d_TooMany_init t_LAST_POSITION t_MAX_TARGETS) : FnOk P w K mg base (L2.CX P w) 5 f_shift_targets d_shift_targets ["targets", "by"] (sp_shift_targets X_OutOfRange) := by
  refine T.F_shift_targets.okX sc_shift_targets (fun vs H Q E h => ?_) (fun cdv A outer s H vs Q E hr h => ?_)
  · obtain ⟨a, b, us, ps, rfl, _⟩ := h
    rfl
  · obtain ⟨a, b, us, ps, rfl, ha, iv, few, good, bad⟩ := h
    refine ⟨_, (pss_one (ps_ret (pe_callS (ok_require_positions T) (hr.mono (by decide)) (by rfl) T.g_require_positions T.F_require_positions.kp T.b_require_positions (fun σ => passAt (takes_of rfl rfl rfl rfl) σ) (pa_cons (pe_callTy call_tuple_of (by rfl) T.z_tuple (by decide +kernel) (pa_cons (pe_lc (own := [("low", 2), ("high", 3)]) (g := (gTup K 2 (gCons (gName 2) (gCons (gName 3) gNil)))) (tt := tYes) (by rfl) sc_shift_targets.nd (pi_tup (pv 0)) (blkOk_by (own := [("low", 2), ("high", 3)]) (N := N_shift_targets) (sc := defScope s_shift_targets) (by decide +kernel)) (fun _ _ _ _ _ => (pg_tup rfl (pgs_cons (pg_name (i := 2) sc_shift_targets.nd rfl (Or.inl rfl)) (pgs_cons (pg_name (i := 3) sc_shift_targets.nd rfl (Or.inl rfl)) pgs_nil)))) (fun _ _ _ _ _ => pts_nil) (fun _ _ _ _ _ => (pe_tup (pa_cons (pe_op op_add (pv 2) (pv 1)) (pa_cons (pe_op op_add (pv 3) (pv 1)) pa_nil))))) pa_nil)) pa_nil)))), ?_⟩
    refine ⟨.ref a, rfl, a, rfl, ⟨_, SqT.of ha⟩, fun D nD => ?_⟩
    refine lcT (K := K) (a := a) (xs := us) (fun j H' ws => Ivs H' ws ((ps.take j).map (mvI b)) ∧ ws.length ≤ j) nD (fun H' s => SqT.of (s _ _ ha)) (by rw [iv.length]; omega) (fun _ _ _ _ t h => ⟨h.1.tps t, h.2⟩) (fun j H' ws h => h.2) (fun _ => ⟨.nil, Nat.le_refl _⟩) ?_ ?_
    · rintro j v H' N acc hj sm eA sz ⟨r, rl⟩ no yes
      obtain ⟨bb, x, y, rfl, ep, hb⟩ := iv.get hj
      refine ⟨bb, _, rfl, SqT.of (sm _ _ hb), rfl, .int x, [.int y], rfl, .int y, [], rfl, rfl, rfl, .int x, rfl, .int b, rfl, _, _, rfl, rfl, .int y, rfl, .int b, rfl, _, _, rfl, rfl, by show 2 ≤ sizeLine; decide, fun t nt => yes _ _ (same_new nt) ⟨?_, by rw [List.length_append]; show acc.length + 1 ≤ _; omega⟩⟩
      rw [map_take_snoc ep]
      exact (r.same (same_new nt)).snoc upd_same
    · rintro H' ws sm eD ⟨r, rl⟩
      rw [iv.length, List.take_length] at r
      refine ⟨D, ws, rfl, .inl ⟨SqL.of eD, fun l nl => ?_⟩⟩
      have s2 := same_new (o := .tup ws) nl
      have e2 := upd_same (H := H') (a := l) (o := .tup ws)
      generalize upd H' l (.tup ws) = H2 at *
      have r2 := r.same s2
      exact ⟨l, ws, _, rfl, e2, r2, by rw [List.length_map]; exact few, fun v H3 s3 => good v _ l ws (sm.trans (s2.trans s3)) (s3 _ _ e2) (r2.same s3), fun v H3 s3 => bad v _ (sm.trans (s2.trans s3))⟩
def dbI (p : Int) (q : Int × Int) : Int × Int := (if q.1 > p then q.1 + 1 else q.1, if q.2 ≥ p then q.2 + 1 else q.2)
def sp_double_position (XO : Addr) : Sp := fun vs H Q E => ∃ (a : Addr) (p : Int) (us : List V) (ps : List (Int × Int)), vs = [.ref a, .int p] ∧ H a = some (.tup us) ∧ Ivs H us ps ∧ ps.length < 64 ∧
  (Vld (ps.map (dbI p)) → ∀ H' t ws, Same H H' → H' t = some (.tup ws) → Ivs H' ws (ps.map (dbI p)) → Q (.ref t) H') ∧ (¬ Vld (ps.map (dbI p)) → ∀ H', Same H H' → E (.ref XO) none H')
theorem ok_double_position (T : Tx K mg f_is_number f_is_position f_is_tuple_of f_is_interval f_require_positions f_shift_targets f_double_position f_join_targets f_law_deck f_law_draw f_law_same f_law_small f_law_moved f_law_error f_law_shift f_law_double f_law_join f_law_in_range f_law_ends_right f_law_joins_right f_law f_TooMany_init X_TooMany X_SpanError X_OutOfRange X_BadText X_TooWide d_is_number d_is_position d_is_tuple_of d_is_interval d_require_positions d_shift_targets d_double_position d_join_targets d_law_deck d_law_draw d_law_same d_law_small d_law_moved d_law_error d_law_shift d_law_double d_law_join d_law_in_range d_law_ends_right d_law_joins_right d_law d_TooMany_init t_LAST_POSITION t_MAX_TARGETS) : FnOk P w K mg base (L2.CX P w) 5 f_double_position d_double_position ["targets", "position"] (sp_double_position X_OutOfRange) := by
  refine T.F_double_position.okX sc_double_position (fun vs H Q E h => ?_) (fun cdv A outer s H vs Q E hr h => ?_)
  · obtain ⟨a, p, us, ps, rfl, _⟩ := h
    rfl
  · obtain ⟨a, p, us, ps, rfl, ha, iv, few, good, bad⟩ := h
    refine ⟨_, (pss_cons (ps_setLc (i := 2) (own := [("low", 3), ("high", 4)]) (g := (gTup K 2 (gCons (gName 3) (gCons (gName 4) gNil)))) (tt := tYes) (by rfl) sc_double_position.nd rfl rfl (sw_true rfl rfl rfl (by decide +kernel)) (pi_tup (pv 0)) (blkOk_by (own := [("low", 3), ("high", 4)]) (N := N_double_position) (sc := defScope s_double_position) (by decide +kernel)) (fun _ _ _ _ _ => (pg_tup rfl (pgs_cons (pg_name (i := 3) sc_double_position.nd rfl (Or.inl rfl)) (pgs_cons (pg_name (i := 4) sc_double_position.nd rfl (Or.inl rfl)) pgs_nil)))) (fun _ _ _ _ _ => pts_nil) (fun _ _ _ _ _ => (pe_tup (pa_cons (pe_ifExp (pt_cmpR op_gt (pv 3) (pv 1) (nomark _)) (pe_op op_add (pv 3) pe_int) (pv 3)) (pa_cons (pe_ifExp (pt_cmpR op_ge (pv 4) (pv 1) (nomark _)) (pe_op op_add (pv 4) pe_int) (pv 4)) pa_nil)))))
      (pss_one (ps_ret (pe_callS (ok_require_positions T) (hr.mono (by decide)) (by rfl) T.g_require_positions T.F_require_positions.kp T.b_require_positions (fun σ => passAt (takes_of rfl rfl rfl rfl) σ) (pa_cons (pe_callTy call_tuple_of (by rfl) T.z_tuple (by decide +kernel) (pa_cons (pv 2) pa_nil)) pa_nil))))), ?_⟩
    have lu := iv.length
    refine ⟨.ref a, rfl, a, rfl, ⟨_, SqT.of ha⟩, fun D nD => ?_⟩
    refine lcT (K := K) (a := a) (xs := us) (fun j H' us => Ivs H' us ((ps.take j).map (dbI p)) ∧ us.length ≤ j) nD (fun H' s => SqT.of (s _ _ ha)) (by omega) (fun _ _ _ _ t h => ⟨h.1.tps t, h.2⟩) (fun j H' ws h => h.2) (fun _ => ⟨.nil, Nat.le_refl _⟩) ?_ ?_
    · rintro j v H' N acc hj sm eA sz ⟨r2, rl⟩ no yes
      obtain ⟨bb, x, y, rfl, ep, hb⟩ := iv.get hj
      have leaf : ∀ x' y' : Int, dbI p (x, y) = (x', y') → ∀ t, H' t = none → ∃ acc', (upd H' t (.tup [.int x', .int y'])) D = some (.lst acc') ∧ acc'.length < sizeLine ∧ N (upd (upd H' t (.tup [.int x', .int y'])) D (.lst (acc' ++ [.ref t]))) := fun x' y' e t nt => yes _ _ (same_new nt) ⟨by
          rw [map_take_snoc ep, e]
          exact (r2.same (same_new nt)).snoc upd_same, by rw [List.length_append]; show acc.length + 1 ≤ _; omega⟩
      refine ⟨bb, _, rfl, SqT.of (sm _ _ hb), rfl, .int x, [.int y], rfl, .int y, [], rfl, rfl, rfl, .int x, rfl, .int p, rfl, _, _, rfl, rfl, _, rfl, ite2 (fun c1 => ?_) (fun c1 => ?_)⟩
      · refine ⟨.int x, rfl, _, _, rfl, rfl, .int y, rfl, .int p, rfl, _, _, rfl, rfl, _, rfl, ite2 (fun c2 => ?_) (fun c2 => ?_)⟩
        · refine ⟨.int y, rfl, _, _, rfl, rfl, by show 2 ≤ sizeLine; decide, fun t nt => leaf _ _ ?_ t nt⟩
          unfold dbI
          rw [if_pos (of_decide_eq_true c1), if_pos (of_decide_eq_true c2)]
        · refine ⟨.int y, rfl, by show 2 ≤ sizeLine; decide, fun t nt => leaf _ _ ?_ t nt⟩
          unfold dbI
          rw [if_pos (of_decide_eq_true c1), if_neg (fun z => c2 (decide_eq_true z))]
      · refine ⟨.int x, rfl, .int y, rfl, .int p, rfl, _, _, rfl, rfl, _, rfl, ite2 (fun c2 => ?_) (fun c2 => ?_)⟩
        · refine ⟨.int y, rfl, _, _, rfl, rfl, by show 2 ≤ sizeLine; decide, fun t nt => leaf _ _ ?_ t nt⟩
          unfold dbI
          rw [if_neg (fun z => c1 (decide_eq_true z)), if_pos (of_decide_eq_true c2)]
        · refine ⟨.int y, rfl, by show 2 ≤ sizeLine; decide, fun t nt => leaf _ _ ?_ t nt⟩
          unfold dbI
          rw [if_neg (fun z => c1 (decide_eq_true z)), if_neg (fun z => c2 (decide_eq_true z))]
    rintro H1 ws s1 eD ⟨r, _⟩
    rw [lu, List.take_length] at r
    refine ⟨.ref D, rfl, D, ws, rfl, .inl ⟨SqL.of eD, fun l nl => ?_⟩⟩
    have s2 := same_new (o := .tup ws) nl
    have e2 := upd_same (H := H1) (a := l) (o := .tup ws)
    generalize upd H1 l (.tup ws) = H2 at *
    have r2 := r.same s2
    exact ⟨l, ws, _, rfl, e2, r2, by rw [List.length_map]; omega, fun v H3 s3 => good v _ l ws (s1.trans (s2.trans s3)) (s3 _ _ e2) (r2.same s3), fun v H3 s3 => bad v _ (s1.trans (s2.trans s3))⟩
/-! ### join_targets -/
def IsHi (ps : List (Int × Int)) (hi : Int) : Prop := hi ∈ ps.map (fun q : Int × Int => q.2) ∧ ∀ y ∈ ps.map (fun q : Int × Int => q.2), y ≤ hi
def IsLo (ps : List (Int × Int)) (lo : Int) : Prop := lo ∈ ps.map (fun q : Int × Int => q.1) ∧ ∀ y ∈ ps.map (fun q : Int × Int => q.1), lo ≤ y
def sp_join_targets (XO XT : Addr) : Sp := fun vs H Q E => ∃ (a b : Addr) (g : Int) (us ws : List V) (ps qs : List (Int × Int)), vs = [.ref a, .ref b, .int g] ∧ H a = some (.tup us) ∧ H b = some (.tup ws) ∧ Ivs H us ps ∧ Ivs H ws qs ∧ ps.length ≤ 24 ∧ qs.length ≤ 24 ∧
  (ps = [] → Q (.ref b) H) ∧ (ps ≠ [] → qs = [] → Q (.ref a) H) ∧
  (ps ≠ [] → qs ≠ [] → 24 < ps.length + qs.length → ∀ d, H d = none → E (.ref XT) (some d) (upd H d (.xd [("bound", .int 24)]))) ∧
  (ps ≠ [] → qs ≠ [] → ps.length + qs.length ≤ 24 → ∀ hi lo, IsHi ps hi → IsLo qs lo →
    (Vld (qs.map (mvI (hi + g - lo))) → ∀ H' p zs, Same H H' → H' p = some (.tup zs) → Ivs H' zs (ps ++ qs.map (mvI (hi + g - lo))) → Q (.ref p) H') ∧ (¬ Vld (qs.map (mvI (hi + g - lo))) → ∀ H', Same H H' → E (.ref XO) none H'))
theorem ok_join_targets (T : Tx K mg f_is_number f_is_position f_is_tuple_of f_is_interval f_require_positions f_shift_targets f_double_position f_join_targets f_law_deck f_law_draw f_law_same f_law_small f_law_moved f_law_error f_law_shift f_law_double f_law_join f_law_in_range f_law_ends_right f_law_joins_right f_law f_TooMany_init X_TooMany X_SpanError X_OutOfRange X_BadText X_TooWide d_is_number d_is_position d_is_tuple_of d_is_interval d_require_positions d_shift_targets d_double_position d_join_targets d_law_deck d_law_draw d_law_same d_law_small d_law_moved d_law_error d_law_shift d_law_double d_law_join d_law_in_range d_law_ends_right d_law_joins_right d_law d_TooMany_init t_LAST_POSITION t_MAX_TARGETS) : FnOk P w K mg base (L2.CX P w) 6 f_join_targets d_join_targets ["first", "second", "gap"] (sp_join_targets X_OutOfRange X_TooMany) := by
  refine T.F_join_targets.okX sc_join_targets (fun vs H Q E h => ?_) (fun cdv A outer s H vs Q E hr h => ?_)
  · obtain ⟨a, b, g, us, ws, ps, qs, rfl, _⟩ := h
    rfl
  · obtain ⟨a, b, g, us, ws, ps, qs, rfl, ha, hb, ivp, ivq, lp, lq, e1, e2, many, good⟩ := h
    refine ⟨_, (pss_cons (ps_if (PW.pt (pw_or (pt_not (pt_truth (pv 0) (by intro _; rfl))) (pw_or1 (pt_not (pt_truth (pv 1) (by intro _; rfl))))))
      (PSs.nox (pss_one (ps_ret (pe_orT (pv 0) (pe_one (pv 1))))))
      pss_nil)
      (pss_cons (ps_if (pt_cmpR op_gt (pe_op op_add (pe_callB call_len_seq (by rfl) T.z_len PySem.boot_len (pa_cons (pv 0) pa_nil)) (pe_callB call_len_seq (by rfl) T.z_len PySem.boot_len (pa_cons (pv 1) pa_nil))) (pe_glob (v := .int 24) (by rfl) T.c_MAX_TARGETS ⟨_, rfl⟩) (nomark _))
      (pss_one (ps_raise1 rfl (takes_of rfl rfl rfl rfl) T.xn_TooMany T.xi_TooMany (ok_TooMany_init T) (hr.mono (by decide)) T.b_TooMany_init (by rfl) (pa_cons (pe_glob (v := .int 24) (by rfl) T.c_MAX_TARGETS ⟨_, rfl⟩) pa_nil)))
      pss_nil)
      (pss_cons (ps_set (i := 3) sc_join_targets.nd rfl (Or.inl rfl) (pe_callB (cr_min rfl) (by rfl) T.z_min (by decide +kernel) (pa_cons (pe_lc (own := [("low", 4), ("high", 5)]) (g := (gTup K 2 (gCons (gName 4) (gCons (gName 5) gNil)))) (tt := tYes) (by rfl) sc_join_targets.nd (pi_tup (pv 1)) (blkOk_by (own := [("low", 4), ("high", 5)]) (N := N_join_targets) (sc := defScope s_join_targets) (by decide +kernel)) (fun _ _ _ _ _ => (pg_tup rfl (pgs_cons (pg_name (i := 4) sc_join_targets.nd rfl (Or.inl rfl)) (pgs_cons (pg_name (i := 5) sc_join_targets.nd rfl (Or.inl rfl)) pgs_nil)))) (fun _ _ _ _ _ => pts_nil) (fun _ _ _ _ _ => (pv 4))) pa_nil)))
      (pss_cons (ps_set (i := 6) sc_join_targets.nd rfl (Or.inl rfl) (pe_callB (cr_max rfl) (by rfl) T.z_max (by decide +kernel) (pa_cons (pe_lc (own := [("low", 4), ("high", 5)]) (g := (gTup K 2 (gCons (gName 4) (gCons (gName 5) gNil)))) (tt := tYes) (by rfl) sc_join_targets.nd (pi_tup (pv 0)) (blkOk_by (own := [("low", 4), ("high", 5)]) (N := N_join_targets) (sc := defScope s_join_targets) (by decide +kernel)) (fun _ _ _ _ _ => (pg_tup rfl (pgs_cons (pg_name (i := 4) sc_join_targets.nd rfl (Or.inl rfl)) (pgs_cons (pg_name (i := 5) sc_join_targets.nd rfl (Or.inl rfl)) pgs_nil)))) (fun _ _ _ _ _ => pts_nil) (fun _ _ _ _ _ => (pv 5))) pa_nil)))
      (pss_one (ps_ret (pe_op op_catA (pv 0) (pe_callS (ok_shift_targets T) (hr.mono (by decide)) (by rfl) T.g_shift_targets T.F_shift_targets.kp T.b_shift_targets (fun σ => passAt (takes_of rfl rfl rfl rfl) σ) (pa_cons (pv 1) (pa_cons (pe_op op_sub (pe_op op_add (pv 6) (pv 2)) (pv 3)) pa_nil)))))))))), ?_⟩
    have lu := ivp.length
    have lw := ivq.length
    have ep := ivp.isEmpty
    have eq := ivq.isEmpty
    refine ⟨.ref a, rfl, _, .inr (.inl ⟨us, SqT.of ha, rfl⟩), ?_⟩
    rw [ep]
    by_cases c1 : ps = []
    · subst c1
      refine iteT (iteT ⟨.ref a, rfl, _, .inr (.inl ⟨us, SqT.of ha, rfl⟩), ?_⟩)
      rw [ep]
      exact iteF ⟨.ref b, rfl, e1 rfl⟩
    have n1 : ps.isEmpty = false := by
      cases ps with
      | nil => exact absurd rfl c1
      | cons x r => rfl
    rw [n1]
    refine iteF ⟨.ref b, rfl, _, .inr (.inl ⟨ws, SqT.of hb, rfl⟩), ?_⟩
    rw [eq]
    by_cases c2 : qs = []
    · subst c2
      refine iteT ⟨.ref a, rfl, _, .inr (.inl ⟨us, SqT.of ha, rfl⟩), ?_⟩
      rw [ep, n1]
      exact iteT (e2 c1 rfl)
    have n2 : qs.isEmpty = false := by
      cases qs with
      | nil => exact absurd rfl c2
      | cons x r => rfl
    rw [n2]
    refine iteF ?_
    have p1 : 0 < ps.length := List.length_pos_iff.mpr c1
    have p2 : 0 < qs.length := List.length_pos_iff.mpr c2
    refine ⟨.ref a, rfl, a, us, rfl, .inr (SqT.of ha), .ref b, rfl, b, ws, rfl, .inr (SqT.of hb), _, _, rfl, rfl, _, _, rfl, rfl, _, rfl, ite2 (fun c => ?_) (fun c => ?_)⟩
    · have c := of_decide_eq_true c
      rw [lu, lw] at c
      exact ⟨_, rfl, fun d nd => many c1 c2 (by omega) d nd⟩
    have c : ps.length + qs.length ≤ 24 := by
      have c' : ¬ _ := fun z => c (decide_eq_true z)
      rw [lu, lw] at c'
      omega
    -- lowest
    refine ⟨.ref b, rfl, b, rfl, ⟨_, SqT.of hb⟩, fun D nD => ?_⟩
    refine lcT (K := K) (a := b) (xs := ws) (fun j H' zs => zs = ((qs.take j).map (fun q : Int × Int => q.1)).map V.int) nD (fun H' s => SqT.of (s _ _ hb)) (by omega) (fun _ _ _ _ _ h => h) (fun j H' ws h => by rw [h, List.length_map, List.length_map]; exact List.length_take_le _ _) (fun _ => rfl) ?_ ?_
    · rintro j v H' N acc hj sm eA sz r no yes
      obtain ⟨bb, x, y, rfl, ep, hb⟩ := ivq.get hj
      refine ⟨bb, _, rfl, SqT.of (sm _ _ hb), rfl, .int x, [.int y], rfl, .int y, [], rfl, rfl, rfl, .int x, rfl, yes _ _ (Same.refl _) ?_⟩
      rw [map_take_snoc ep, List.map_append, r]
      rfl
    rintro H1 zs s1 eD r
    rw [lw, List.take_length] at r
    subst r
    refine ⟨D, qs.map (fun q : Int × Int => q.1), rfl, SqL.of eD, by rw [List.length_map]; exact p2, fun lo hl bot => ?_⟩
    have ha1 := s1 _ _ ha
    -- highest
    refine ⟨.ref a, rfl, a, rfl, ⟨_, SqT.of ha1⟩, fun D2 nD2 => ?_⟩
    have ivp1 := ivp.same s1
    refine lcT (K := K) (a := a) (xs := us) (fun j H' zs => zs = ((ps.take j).map (fun q : Int × Int => q.2)).map V.int) nD2 (fun H' s => SqT.of (s _ _ ha1)) (by omega) (fun _ _ _ _ _ h => h) (fun j H' ws h => by rw [h, List.length_map, List.length_map]; exact List.length_take_le _ _) (fun _ => rfl) ?_ ?_
    · rintro j v H' N acc hj sm eA sz r no yes
      obtain ⟨bb, x, y, rfl, ep, hb⟩ := ivp1.get hj
      refine ⟨bb, _, rfl, SqT.of (sm _ _ hb), rfl, .int x, [.int y], rfl, .int y, [], rfl, rfl, rfl, .int y, rfl, yes _ _ (Same.refl _) ?_⟩
      rw [map_take_snoc ep, List.map_append, r]
      rfl
    rintro H2 zs s2 eD2 r
    rw [lu, List.take_length] at r
    subst r
    refine ⟨D2, ps.map (fun q : Int × Int => q.2), rfl, SqL.of eD2, by rw [List.length_map]; exact p1, fun hi hh top => ?_⟩
    obtain ⟨gd, bd⟩ := good c1 c2 c hi lo ⟨hh, top⟩ ⟨hl, bot⟩
    have s12 := s1.trans s2
    refine ⟨.ref a, rfl, .ref b, rfl, .int hi, rfl, .int g, rfl, _, _, rfl, rfl, .int lo, rfl, _, _, rfl, rfl, b, _, ws, qs, rfl, s12 _ _ hb, ivq.same s12, by omega, fun v H3 p zs s3 e3 iv3 => ?_, fun v H3 s3 => bd v _ (s12.trans s3)⟩
    have s13 := s12.trans s3
    have lz := iv3.length
    rw [List.length_map] at lz
    refine catA_any (s13 _ _ ha) e3 (by rw [show sizeLine = 16777216 by decide]; omega) (fun H4 p4 s4 e4 => ?_)
    exact gd v H4 p4 _ (s13.trans s4) e4 ((ivp.same (s13.trans s4)).append (iv3.same s4))
/-! ### what the law makes of an error -/
def sp_law_error (XO XT : Addr) : Addr → Value → Option Addr → Sp := fun a cls d vs H Q _ => vs = [.ref a] ∧ ((cls = .ref XO ∧ d = none ∧ ∀ H', Same H H' → Q (.str "OutOfRange") H') ∨ (cls = .ref XT ∧ (∃ dd fs, d = some dd ∧ H dd = some (.xd fs)) ∧ ∀ H', Same H H' → Q (.str "TooMany") H'))
theorem XcN.kitY {K : PySem.W.Frag} {mg : Str → Option Value} {x : Str} {D C : Addr} (N : XcN K mg x C) (s : PySem.W.subIn K (.ref D) (.ref C) = some true) : PySem.W.kitOne K (.ref D) (.ref C) = some true := by
  by_cases e : D = C
  · subst e
    exact kit_self
  · exact N.kit s e
theorem u65H {k : Nat} {A : Around} (r : L2H.RoomH k A) : A.units + 65 < cLine := by
  have := r.un
  omega
theorem okP_law_error (T : Tx K mg f_is_number f_is_position f_is_tuple_of f_is_interval f_require_positions f_shift_targets f_double_position f_join_targets f_law_deck f_law_draw f_law_same f_law_small f_law_moved f_law_error f_law_shift f_law_double f_law_join f_law_in_range f_law_ends_right f_law_joins_right f_law f_TooMany_init X_TooMany X_SpanError X_OutOfRange X_BadText X_TooWide d_is_number d_is_position d_is_tuple_of d_is_interval d_require_positions d_shift_targets d_double_position d_join_targets d_law_deck d_law_draw d_law_same d_law_small d_law_moved d_law_error d_law_shift d_law_double d_law_join d_law_in_range d_law_ends_right d_law_joins_right d_law d_TooMany_init t_LAST_POSITION t_MAX_TARGETS) : FnP P w K mg base 1 f_law_error d_law_error ["_law_error_here"] (sp_law_error X_OutOfRange X_TooMany) := by
  refine FnP.of T.F_law_error sc_law_error (fun a c d vs H Q h => ?_) (fun cdv A outer s H vs Q p cls d hr hz hf h => ?_)
  · obtain ⟨rfl, _⟩ := h
    rfl
  · obtain ⟨rfl, h⟩ := h
    refine ⟨_, (pss_cons (ps_set (i := 1) sc_law_error.nd rfl (Or.inl rfl) (pe_lst (pa_cons (pe_callB (call_isYP List.mem_cons_self hz hf) (by rfl) T.z_isinstance (by decide +kernel) (pa_cons (pv 0) (pa_cons (pe_glob (v := .ref X_OutOfRange) (by rfl) T.xn_OutOfRange.g rfl) pa_nil))) (pa_cons (pe_callB (call_isYP List.mem_cons_self hz hf) (by rfl) T.z_isinstance (by decide +kernel) (pa_cons (pv 0) (pa_cons (pe_glob (v := .ref X_TooMany) (by rfl) T.xn_TooMany.g rfl) pa_nil))) (pa_cons (pe_callB (call_isYTP List.mem_cons_self hz hf) (by rfl) T.z_isinstance (by decide +kernel) (pa_cons (pv 0) (pa_cons (pe_tup (pa_cons (pe_glob (v := .ref X_BadText) (by rfl) T.xn_BadText.g rfl) (pa_cons (pe_glob (v := .ref X_TooWide) (by rfl) T.xn_TooWide.g rfl) pa_nil))) pa_nil))) pa_nil)))))
      (pss_cons (ps_if (PW.pt (pw_or (pt_cmpR op_ne (pe_bm PySem.F.plainAttrs_list PySem.F.slot_list_count PySem.F.type_list_count (mt_countD (u65H hr)) (pv 1) (pa_cons pe_bl pa_nil)) pe_int (nomark _)) (pw_or (pt_not (pt_val (pe_callB (call_isYP List.mem_cons_self hz hf) (by rfl) T.z_isinstance (by decide +kernel) (pa_cons (pv 0) (pa_cons (pe_glob (v := .ref X_SpanError) (by rfl) T.xn_SpanError.g rfl) pa_nil))))) (pw_or1 (pt_not (pt_val (pe_callB (call_isYP List.mem_cons_self hz hf) (by rfl) T.z_isinstance (by decide +kernel) (pa_cons (pv 0) (pa_cons (pe_bltn (v := .ty "ValueError") (u := .type "ValueError") (by rfl) T.z_ValueError (by decide +kernel) rfl) pa_nil)))))))))
      (pss_one (ps_ret pe_str))
      pss_nil)
      (pss_one (ps_ret (pe_ix ix_list (pe_lst (pa_cons pe_str (pa_cons pe_str (pa_cons pe_str pa_nil)))) (pe_bm PySem.F.plainAttrs_list PySem.F.slot_list_index PySem.F.type_list_index mt_index (pv 1) (pa_cons pe_bl pa_nil)) (fun _ _ => rfl)))))), ?_⟩
    rcases h with ⟨rfl, rfl, q⟩ | ⟨rfl, ⟨dd, fs, rfl, ed⟩, q⟩
    · refine ⟨.ref p.1, rfl, X_OutOfRange, .ref X_OutOfRange, _, true, rfl, rfl, .inl rfl, T.xr_OutOfRange.ex, .own _, kit_self, ?_⟩
      refine ⟨.ref p.1, rfl, X_OutOfRange, .ref X_TooMany, _, false, rfl, rfl, .inl rfl, T.xr_OutOfRange.ex, .own _, T.xn_TooMany.kit T.xs_OutOfRange_TooMany (T.xr_OutOfRange.ne T.xs_OutOfRange_TooMany), ?_⟩
      refine ⟨.ref p.1, rfl, by show 2 ≤ sizeLine; decide, fun t nt => ?_⟩
      have s1 := same_new (o := .tup [V.ref X_BadText, .ref X_TooWide]) nt
      have et := upd_same (H := H) (a := t) (o := .tup [V.ref X_BadText, .ref X_TooWide])
      generalize upd H t (.tup [V.ref X_BadText, .ref X_TooWide]) = H1 at *
      refine ⟨X_OutOfRange, t, _, _, false, rfl, rfl, .inl rfl, T.xr_OutOfRange.ex, et, .cons (.own _) (.cons (.own _) .nil), kit_none (mg := mg) T.xr_OutOfRange (l := [("BadText", X_BadText), ("TooWide", X_TooWide)]) (fun q hq => ?_), by show 3 ≤ sizeLine; decide, fun l nl => ?_⟩
      · rcases List.mem_cons.mp hq with rfl | hq
        · exact ⟨T.xn_BadText, T.xs_OutOfRange_BadText⟩
        rw [List.mem_singleton.mp hq]
        exact ⟨T.xn_TooWide, T.xs_OutOfRange_TooWide⟩
      have s2 := same_new (o := .lst [V.bl true, .bl false, .bl false]) nl
      have el := upd_same (H := H1) (a := l) (o := .lst [V.bl true, .bl false, .bl false])
      generalize upd H1 l (.lst [V.bl true, .bl false, .bl false]) = H2 at *
      have s12 := s1.trans s2
      refine ⟨.ref l, rfl, .inl ⟨rfl, _, SqL.of el⟩, l, .bl true, .bool true, [.bool true, .bool false, .bool false], rfl, rfl, .lst (SqL.of el) (.cons (.bl _) (.cons (.bl _) (.cons (.bl _) .nil))), .bl true, rfl, rfl, rfl, _, rfl, iteNS rfl ?_⟩
      refine ⟨.ref p.1, rfl, X_OutOfRange, .ref X_SpanError, _, true, rfl, rfl, .inl rfl, T.xr_OutOfRange.ex, .own _, T.xn_SpanError.kitY T.xs_OutOfRange_SpanError, _, rfl, iteF ?_⟩
      refine ⟨.ref p.1, rfl, X_OutOfRange, .ty "ValueError", _, true, rfl, rfl, .inl rfl, T.xr_OutOfRange.ex, .ty _, kit_bltn (by decide +kernel) T.xv_OutOfRange, _, rfl, iteF ?_⟩
      refine ⟨by show 3 ≤ sizeLine; decide, fun l2 nl2 => ?_⟩
      have s3 := same_new (o := .lst [V.str "OutOfRange", .str "TooMany", .str "other"]) nl2
      have el2 := upd_same (H := H2) (a := l2) (o := .lst [V.str "OutOfRange", .str "TooMany", .str "other"])
      generalize upd H2 l2 (.lst [V.str "OutOfRange", .str "TooMany", .str "other"]) = H3 at *
      refine ⟨.ref l, rfl, .inl ⟨rfl, _, SqL.of (s3 _ _ el)⟩, l, _, .bl true, 0, .bl true, rfl, rfl, SqL.of (s3 _ _ el), rfl, rfl, rfl, rfl, fun m z hm => absurd hm (Nat.not_lt_zero m), l2, _, 0, .str "OutOfRange", rfl, rfl, SqL.of el2, rfl, ?_⟩
      exact q _ (s12.trans s3)
    · refine ⟨.ref p.1, rfl, X_TooMany, .ref X_OutOfRange, _, false, rfl, rfl, .inr ⟨dd, fs, rfl, (Same.refl _ : Same H _) _ _ ed⟩, T.xi_TooMany.ex, .own _, T.xn_OutOfRange.kit T.xs_TooMany_OutOfRange (T.xi_TooMany.ne T.xs_TooMany_OutOfRange), ?_⟩
      refine ⟨.ref p.1, rfl, X_TooMany, .ref X_TooMany, _, true, rfl, rfl, .inr ⟨dd, fs, rfl, (Same.refl _ : Same H _) _ _ ed⟩, T.xi_TooMany.ex, .own _, kit_self, ?_⟩
      refine ⟨.ref p.1, rfl, by show 2 ≤ sizeLine; decide, fun t nt => ?_⟩
      have s1 := same_new (o := .tup [V.ref X_BadText, .ref X_TooWide]) nt
      have et := upd_same (H := H) (a := t) (o := .tup [V.ref X_BadText, .ref X_TooWide])
      generalize upd H t (.tup [V.ref X_BadText, .ref X_TooWide]) = H1 at *
      refine ⟨X_TooMany, t, _, _, false, rfl, rfl, .inr ⟨dd, fs, rfl, (s1 : Same H _) _ _ ed⟩, T.xi_TooMany.ex, et, .cons (.own _) (.cons (.own _) .nil), kit_noneI (mg := mg) T.xi_TooMany (l := [("BadText", X_BadText), ("TooWide", X_TooWide)]) (fun q hq => ?_), by show 3 ≤ sizeLine; decide, fun l nl => ?_⟩
      · rcases List.mem_cons.mp hq with rfl | hq
        · exact ⟨T.xn_BadText, T.xs_TooMany_BadText⟩
        rw [List.mem_singleton.mp hq]
        exact ⟨T.xn_TooWide, T.xs_TooMany_TooWide⟩
      have s2 := same_new (o := .lst [V.bl false, .bl true, .bl false]) nl
      have el := upd_same (H := H1) (a := l) (o := .lst [V.bl false, .bl true, .bl false])
      generalize upd H1 l (.lst [V.bl false, .bl true, .bl false]) = H2 at *
      have s12 := s1.trans s2
      refine ⟨.ref l, rfl, .inl ⟨rfl, _, SqL.of el⟩, l, .bl true, .bool true, [.bool false, .bool true, .bool false], rfl, rfl, .lst (SqL.of el) (.cons (.bl _) (.cons (.bl _) (.cons (.bl _) .nil))), .bl true, rfl, rfl, rfl, _, rfl, iteNS rfl ?_⟩
      refine ⟨.ref p.1, rfl, X_TooMany, .ref X_SpanError, _, true, rfl, rfl, .inr ⟨dd, fs, rfl, (s12 : Same H _) _ _ ed⟩, T.xi_TooMany.ex, .own _, T.xn_SpanError.kitY T.xs_TooMany_SpanError, _, rfl, iteF ?_⟩
      refine ⟨.ref p.1, rfl, X_TooMany, .ty "ValueError", _, true, rfl, rfl, .inr ⟨dd, fs, rfl, (s12 : Same H _) _ _ ed⟩, T.xi_TooMany.ex, .ty _, kit_bltn (by decide +kernel) T.xv_TooMany, _, rfl, iteF ?_⟩
      refine ⟨by show 3 ≤ sizeLine; decide, fun l2 nl2 => ?_⟩
      have s3 := same_new (o := .lst [V.str "OutOfRange", .str "TooMany", .str "other"]) nl2
      have el2 := upd_same (H := H2) (a := l2) (o := .lst [V.str "OutOfRange", .str "TooMany", .str "other"])
      generalize upd H2 l2 (.lst [V.str "OutOfRange", .str "TooMany", .str "other"]) = H3 at *
      refine ⟨.ref l, rfl, .inl ⟨rfl, _, SqL.of (s3 _ _ el)⟩, l, _, .bl true, 1, .bl true, rfl, rfl, SqL.of (s3 _ _ el), rfl, rfl, rfl, rfl, fun m z hm e => by
        rw [show m = 0 by omega] at e
        cases e
        rfl, l2, _, 1, .str "TooMany", rfl, rfl, SqL.of el2, rfl, ?_⟩
      exact q _ (s12.trans s3)
/-! ### what the law does, with its errors -/
def sp_law_shift : Sp := fun vs H Q _ => ∃ (a : Addr) (b : Int) (us : List V) (ps : List (Int × Int)), vs = [.ref a, .int b] ∧ H a = some (.tup us) ∧ Ivs H us ps ∧ ps.length < 1000 ∧
  (Vld (ps.map (mvI b)) → ∀ H' p ws, Same H H' → H' p = some (.tup ws) → Ivs H' ws (ps.map (mvI b)) → Q (.ref p) H') ∧ (¬ Vld (ps.map (mvI b)) → ∀ H', Same H H' → Q (.str "OutOfRange") H')
theorem ok_law_shift (T : Tx K mg f_is_number f_is_position f_is_tuple_of f_is_interval f_require_positions f_shift_targets f_double_position f_join_targets f_law_deck f_law_draw f_law_same f_law_small f_law_moved f_law_error f_law_shift f_law_double f_law_join f_law_in_range f_law_ends_right f_law_joins_right f_law f_TooMany_init X_TooMany X_SpanError X_OutOfRange X_BadText X_TooWide d_is_number d_is_position d_is_tuple_of d_is_interval d_require_positions d_shift_targets d_double_position d_join_targets d_law_deck d_law_draw d_law_same d_law_small d_law_moved d_law_error d_law_shift d_law_double d_law_join d_law_in_range d_law_ends_right d_law_joins_right d_law d_TooMany_init t_LAST_POSITION t_MAX_TARGETS) : FnOk P w K mg base CX0 6 f_law_shift d_law_shift ["_law_targets", "_law_by"] sp_law_shift := by
  refine T.F_law_shift.ok sc_law_shift (fun vs H Q E h => ?_) (fun cdv A outer s H vs Q E hr h => ?_)
  · obtain ⟨a, b, us, ps, rfl, _⟩ := h
    rfl
  · obtain ⟨a, b, us, ps, rfl, ha, iv, few, good, bad⟩ := h
    refine ⟨_, (pss_one (ps_try_as (i := 2)  (Wout := fun _ _ _ _ => False) rfl rfl sc_law_shift.nd rfl rfl ⟨rfl, by decide, .inl T.xn_SpanError.g⟩ takes0
      (fun W pn xe tk _ => (pss_one (ps_ret (pe_callS (ok_shift_targets T) (hr.mono (by decide)) (by rfl) T.g_shift_targets T.F_shift_targets.kp T.b_shift_targets (fun σ => passAt tk σ) (pa_cons (pv 0) (pa_cons (pv 1) pa_nil))))))
      (fun ea oe cls ed pn hz hf => (pss_one (ps_ret (pe_callP (okP_law_error T) hr (by decide) hz hf (by rfl) T.g_law_error T.F_law_error.kp T.b_law_error (pa_cons (pv 2) pa_nil))))))), ?_⟩
    refine ⟨.ref a, rfl, .int b, rfl, a, b, us, ps, rfl, ha, iv, few, good, fun v H1 s1 => ?_⟩
    refine ⟨true, T.xn_SpanError.exm T.xs_OutOfRange_SpanError, fun _ ea na => ?_, fun z => nomatch z⟩
    exact ⟨.ref ea, rfl, rfl, .inl ⟨rfl, rfl, fun H2 s2 => bad v _ (s1.trans s2)⟩⟩
def sp_law_double : Sp := fun vs H Q _ => ∃ (a : Addr) (p : Int) (us : List V) (ps : List (Int × Int)), vs = [.ref a, .int p] ∧ H a = some (.tup us) ∧ Ivs H us ps ∧ ps.length < 64 ∧
  (Vld (ps.map (dbI p)) → ∀ H' t ws, Same H H' → H' t = some (.tup ws) → Ivs H' ws (ps.map (dbI p)) → Q (.ref t) H') ∧ (¬ Vld (ps.map (dbI p)) → ∀ H', Same H H' → Q (.str "OutOfRange") H')
theorem ok_law_double (T : Tx K mg f_is_number f_is_position f_is_tuple_of f_is_interval f_require_positions f_shift_targets f_double_position f_join_targets f_law_deck f_law_draw f_law_same f_law_small f_law_moved f_law_error f_law_shift f_law_double f_law_join f_law_in_range f_law_ends_right f_law_joins_right f_law f_TooMany_init X_TooMany X_SpanError X_OutOfRange X_BadText X_TooWide d_is_number d_is_position d_is_tuple_of d_is_interval d_require_positions d_shift_targets d_double_position d_join_targets d_law_deck d_law_draw d_law_same d_law_small d_law_moved d_law_error d_law_shift d_law_double d_law_join d_law_in_range d_law_ends_right d_law_joins_right d_law d_TooMany_init t_LAST_POSITION t_MAX_TARGETS) : FnOk P w K mg base CX0 6 f_law_double d_law_double ["_law_targets", "_law_position"] sp_law_double := by
  refine T.F_law_double.ok sc_law_double (fun vs H Q E h => ?_) (fun cdv A outer s H vs Q E hr h => ?_)
  · obtain ⟨a, p, us, ps, rfl, _⟩ := h
    rfl
  · obtain ⟨a, p, us, ps, rfl, ha, iv, few, good, bad⟩ := h
    refine ⟨_, (pss_one (ps_try_as (i := 2)  (Wout := fun _ _ _ _ => False) rfl rfl sc_law_double.nd rfl rfl ⟨rfl, by decide, .inl T.xn_SpanError.g⟩ takes0
      (fun W pn xe tk _ => (pss_one (ps_ret (pe_callS (ok_double_position T) (hr.mono (by decide)) (by rfl) T.g_double_position T.F_double_position.kp T.b_double_position (fun σ => passAt tk σ) (pa_cons (pv 0) (pa_cons (pv 1) pa_nil))))))
      (fun ea oe cls ed pn hz hf => (pss_one (ps_ret (pe_callP (okP_law_error T) hr (by decide) hz hf (by rfl) T.g_law_error T.F_law_error.kp T.b_law_error (pa_cons (pv 2) pa_nil))))))), ?_⟩
    refine ⟨.ref a, rfl, .int p, rfl, a, p, us, ps, rfl, ha, iv, few, good, fun v H1 s1 => ?_⟩
    refine ⟨true, T.xn_SpanError.exm T.xs_OutOfRange_SpanError, fun _ ea na => ?_, fun z => nomatch z⟩
    exact ⟨.ref ea, rfl, rfl, .inl ⟨rfl, rfl, fun H2 s2 => bad v _ (s1.trans s2)⟩⟩
def JRes (ps qs : List (Int × Int)) (g : Int) (d : PyData) : Prop :=
  (ps = [] ∧ d = .int qs.length) ∨ (ps ≠ [] ∧ qs = [] ∧ d = .int ps.length) ∨ ((ps ≠ [] ∧ qs ≠ []) ∧ 24 < ps.length + qs.length ∧ d = .list [.str "TooMany", .int 24]) ∨
  ((ps ≠ [] ∧ qs ≠ []) ∧ ps.length + qs.length ≤ 24 ∧ ∃ hi lo, IsHi ps hi ∧ IsLo qs lo ∧ ((Vld (qs.map (mvI (hi + g - lo))) ∧ d = .int ((ps.length + qs.length : Nat) : Int)) ∨ (¬ Vld (qs.map (mvI (hi + g - lo))) ∧ d = .str "OutOfRange")))
def sp_law_join (K : PySem.W.Frag) : Sp := fun vs H Q _ => ∃ (a b : Addr) (g : Int) (us ws : List V) (ps qs : List (Int × Int)), vs = [.ref a, .ref b, .int g] ∧ H a = some (.tup us) ∧ H b = some (.tup ws) ∧ Ivs H us ps ∧ Ivs H ws qs ∧ ps.length ≤ 24 ∧ qs.length ≤ 24 ∧
  ∀ H' v d, Same H H' → Dp K H' v d → JRes ps qs g d → Q v H'
theorem ok_law_join (T : Tx K mg f_is_number f_is_position f_is_tuple_of f_is_interval f_require_positions f_shift_targets f_double_position f_join_targets f_law_deck f_law_draw f_law_same f_law_small f_law_moved f_law_error f_law_shift f_law_double f_law_join f_law_in_range f_law_ends_right f_law_joins_right f_law f_TooMany_init X_TooMany X_SpanError X_OutOfRange X_BadText X_TooWide d_is_number d_is_position d_is_tuple_of d_is_interval d_require_positions d_shift_targets d_double_position d_join_targets d_law_deck d_law_draw d_law_same d_law_small d_law_moved d_law_error d_law_shift d_law_double d_law_join d_law_in_range d_law_ends_right d_law_joins_right d_law d_TooMany_init t_LAST_POSITION t_MAX_TARGETS) : FnOk P w K mg base CX0 7 f_law_join d_law_join ["_law_first", "_law_second", "_law_gap"] (sp_law_join K) := by
  refine T.F_law_join.ok sc_law_join (fun vs H Q E h => ?_) (fun cdv A outer s H vs Q E hr h => ?_)
  · obtain ⟨a, b, g, us, ws, ps, qs, rfl, _⟩ := h
    rfl
  · obtain ⟨a, b, g, us, ws, ps, qs, rfl, ha, hb, ivp, ivq, lp, lq, q⟩ := h
    refine ⟨_, (pss_one (ps_try_ases (Wout := fun _ _ _ _ => False) rfl rfl sc_law_join.nd takes0
      (fun W pn xe tk _ => (pss_one (ps_ret (pe_callB (show CallR _ (.builtin "len") (rLenS K) from call_lenS) (by rfl) T.z_len PySem.boot_len (pa_cons (pe_callS (ok_join_targets T) (hr.mono (by decide)) (by rfl) T.g_join_targets T.F_join_targets.kp T.b_join_targets (fun σ => passAt tk σ) (pa_cons (pv 0) (pa_cons (pv 1) (pa_cons (pv 2) pa_nil)))) pa_nil)))))
      (.cons (i := 3) ⟨rfl, by decide, .inl T.xn_TooMany.g⟩ rfl rfl (fun ea oe cls ed pn hz hf => (pss_one (ps_ret (pe_lst (pa_cons (pe_callP (okP_law_error T) hr (by decide) hz hf (by rfl) T.g_law_error T.F_law_error.kp T.b_law_error (pa_cons (pv 3) pa_nil)) (pa_cons (pe_xf T.xi_TooMany.xf T.xi_TooMany.no hz hf (pv 3)) pa_nil)))))) (.cons (i := 3) ⟨rfl, by decide, .inl T.xn_SpanError.g⟩ rfl rfl (fun ea oe cls ed pn hz hf => (pss_one (ps_ret (pe_callP (okP_law_error T) hr (by decide) hz hf (by rfl) T.g_law_error T.F_law_error.kp T.b_law_error (pa_cons (pv 3) pa_nil))))) .nil)))), ?_⟩
    have lu := ivp.length
    have lw := ivq.length
    refine ⟨.ref a, rfl, .ref b, rfl, .int g, rfl, a, b, g, us, ws, ps, qs, rfl, ha, hb, ivp, ivq, lp, lq, fun z => ?_, fun z y => ?_, fun z y x d nd => ?_, fun z y x hi lo hhi hlo => ⟨fun v H1 p zs s1 ep iv => ?_, fun v H1 s1 => ?_⟩⟩
    · refine ⟨b, ws, rfl, .inr (SqT.of hb), ?_⟩
      rw [lw]
      exact q H _ _ (Same.refl _) (.int _) (.inl ⟨z, rfl⟩)
    · refine ⟨a, us, rfl, .inr (SqT.of ha), ?_⟩
      rw [lu]
      exact q H _ _ (Same.refl _) (.int _) (.inr (.inl ⟨z, y, rfl⟩))
    · refine ⟨true, T.xn_TooMany.exm (oex_self T.xi_TooMany.ox), fun _ ea na => ?_, fun z => nomatch z⟩
      have s1 := same_new (o := .xd [("bound", .int 24)]) nd
      have ed := upd_same (H := H) (a := d) (o := .xd [("bound", .int 24)])
      generalize upd H d (.xd [("bound", .int 24)]) = H1 at *
      refine ⟨.ref ea, rfl, rfl, .inr ⟨rfl, ⟨d, _, rfl, ed⟩, fun H2 s2 => ?_⟩⟩
      refine ⟨.ref ea, rfl, rfl, rfl, d, _, .int 24, rfl, s2 _ _ ed, rfl, by show 2 ≤ sizeLine; decide, fun L nL => ?_⟩
      exact q _ _ _ (s1.trans (s2.trans (same_new nL))) (.lst (SqL.of upd_same) (.cons (.str _) (.cons (.int _) .nil))) (.inr (.inr (.inl ⟨⟨z, y⟩, x, rfl⟩)))
    · refine ⟨p, zs, rfl, .inr (SqT.of ep), ?_⟩
      have lz := iv.length
      rw [List.length_append, List.length_map] at lz
      rw [lz]
      exact q _ _ _ s1 (.int _) (.inr (.inr (.inr ⟨⟨z, y⟩, x, hi, lo, hhi, hlo, .inl ⟨v, rfl⟩⟩)))
    · refine ⟨false, T.xn_TooMany.exm T.xs_OutOfRange_TooMany, (fun z => nomatch z), fun _ => ⟨true, T.xn_SpanError.exm T.xs_OutOfRange_SpanError, fun _ ea na => ?_, fun z => nomatch z⟩⟩
      exact ⟨.ref ea, rfl, rfl, .inl ⟨rfl, rfl, fun H2 s2 => q _ _ _ (s1.trans s2) (.str _) (.inr (.inr (.inr ⟨⟨z, y⟩, x, hi, lo, hhi, hlo, .inr ⟨v, rfl⟩⟩)))⟩⟩

/-! ### the law's comparison, of texts too -/
theorem FnOk.or0 {P : Program} {w : World} {K : PySem.W.Frag} {mg : Str → Option Value} {base : Heap} {CX : CXT} {k : Nat} {f : Addr} {fd : FuncData} {ps : List Str} {sp0 sp1 : Sp} (F0 : FnOk P w K mg base CX k f fd ps sp0) (F1 : FnOk P w K mg base CX k f fd ps sp1) : FnOk P w K mg base CX k f fd ps (fun vs H Q E => sp0 vs H Q E ∨ sp1 vs H Q E) where
  len := fun vs H Q E h => h.elim (F0.len vs H Q E) (F1.len vs H Q E)
  run := fun A outer s H args us vs Q E hr he hb hv h => h.elim (F0.run A outer s H args us vs Q E hr he hb hv) (F1.run A outer s H args us vs Q E hr he hb hv)
def sp_law_sameS : Sp := fun vs H Q _ => ∃ s : Str, vs = [.str s, .str s] ∧ Q (.bl true) H
theorem ok_law_sameS (T : Tx K mg f_is_number f_is_position f_is_tuple_of f_is_interval f_require_positions f_shift_targets f_double_position f_join_targets f_law_deck f_law_draw f_law_same f_law_small f_law_moved f_law_error f_law_shift f_law_double f_law_join f_law_in_range f_law_ends_right f_law_joins_right f_law f_TooMany_init X_TooMany X_SpanError X_OutOfRange X_BadText X_TooWide d_is_number d_is_position d_is_tuple_of d_is_interval d_require_positions d_shift_targets d_double_position d_join_targets d_law_deck d_law_draw d_law_same d_law_small d_law_moved d_law_error d_law_shift d_law_double d_law_join d_law_in_range d_law_ends_right d_law_joins_right d_law d_TooMany_init t_LAST_POSITION t_MAX_TARGETS) : FnOk P w K mg base CX0 3 f_law_same d_law_same ["_law_found", "_law_due"] sp_law_sameS := by
  have ok_law_same := fun T : Tx K mg f_is_number f_is_position f_is_tuple_of f_is_interval f_require_positions f_shift_targets f_double_position f_join_targets f_law_deck f_law_draw f_law_same f_law_small f_law_moved f_law_error f_law_shift f_law_double f_law_join f_law_in_range f_law_ends_right f_law_joins_right f_law f_TooMany_init X_TooMany X_SpanError X_OutOfRange X_BadText X_TooWide d_is_number d_is_position d_is_tuple_of d_is_interval d_require_positions d_shift_targets d_double_position d_join_targets d_law_deck d_law_draw d_law_same d_law_small d_law_moved d_law_error d_law_shift d_law_double d_law_join d_law_in_range d_law_ends_right d_law_joins_right d_law d_TooMany_init t_LAST_POSITION t_MAX_TARGETS => ok_same2 (P := P) (w := w) (base := base) T
  refine T.F_law_same.ok sc_law_same (fun vs H Q E h => ?_) (fun cdv A outer s H vs Q E hr h => ?_)
  · obtain ⟨i, rfl, _⟩ := h
    rfl
  · obtain ⟨i, rfl, q⟩ := h
    refine ⟨_, (pss_cons (ps_if (pt_val (pe_callB call_isi (by rfl) T.z_isinstance (by decide +kernel) (pa_cons (pv 1) (pa_cons (pe_bltn (v := .ty "tuple") (u := .type "tuple") (by rfl) T.z_tuple (by decide +kernel) rfl) pa_nil))))
      (pss_cons (ps_if (PW.pt (pw_or (pt_not (pt_val (pe_callB call_isi (by rfl) T.z_isinstance (by decide +kernel) (pa_cons (pv 0) (pa_cons (pe_bltn (v := .ty "tuple") (u := .type "tuple") (by rfl) T.z_tuple (by decide +kernel) rfl) pa_nil))))) (pw_or1 (pt_cmpR op_ne (pe_callB call_len_seq (by rfl) T.z_len PySem.boot_len (pa_cons (pv 0) pa_nil)) (pe_callB call_len_seq (by rfl) T.z_len PySem.boot_len (pa_cons (pv 1) pa_nil)) (nomark _)))))
      (pss_one (ps_ret pe_bl))
      pss_nil)
      (pss_one (ps_ret (pe_cmpR (op_eqL hr.units0) (pe_lc (own := [("_law_one", 2), ("_law_other", 3)]) (g := (gTup K 2 (gCons (gName 2) (gCons (gName 3) gNil)))) (by rfl) sc_law_same.nd (RZ.pi_zipA (by rfl) T.z_zip (pa_cons (pv 0) (pa_cons (pv 1) pa_nil))) (blkOk_by (own := [("_law_one", 2), ("_law_other", 3)]) (N := N_law_same) (sc := defScope s_law_same) (by decide +kernel)) (fun _ _ _ _ _ => (pg_tup rfl (pgs_cons (pg_name (i := 2) sc_law_same.nd rfl (Or.inl rfl)) (pgs_cons (pg_name (i := 3) sc_law_same.nd rfl (Or.inl rfl)) pgs_nil)))) (fun _ _ _ _ _ => pts_one (pt_not (pt_val (pe_call (ok_law_same T) (hr.mono (by decide)) (by rfl) T.g_law_same T.F_law_same.kp T.b_law_same .nil pass0 (pa_cons (pv 2) (pa_cons (pv 3) pa_nil)))))) (fun _ _ _ _ _ => pe_int)) (pe_lst pa_nil) (nomark _)))))
      pss_nil)
      (pss_cons (ps_if (pt_cmpR op_isN (pv 1) pe_non (nomark _))
      (pss_one (ps_ret (pe_cmpR op_isN (pv 0) pe_non (nomark _))))
      pss_nil)
      (pss_cons (ps_if (pt_val (pe_callB call_isi (by rfl) T.z_isinstance (by decide +kernel) (pa_cons (pv 1) (pa_cons (pe_bltn (v := .ty "str") (u := .type "str") (by rfl) T.z_str (by decide +kernel) rfl) pa_nil))))
      (pss_one (ps_ret (pe_and (pe_callB call_isi (by rfl) T.z_isinstance (by decide +kernel) (pa_cons (pv 0) (pa_cons (pe_bltn (v := .ty "str") (u := .type "str") (by rfl) T.z_str (by decide +kernel) rfl) pa_nil))) (pe_one (pe_cmpR op_eq (pv 0) (pv 1) (nomark _))))))
      pss_nil)
      (pss_one (ps_ret (pe_and (pe_callB call_isi (by rfl) T.z_isinstance (by decide +kernel) (pa_cons (pv 0) (pa_cons (pe_bltn (v := .ty "int") (u := .type "int") (by rfl) T.z_int (by decide +kernel) rfl) pa_nil))) (pe_and (pe_cmpR op_eq (pe_callB call_isi (by rfl) T.z_isinstance (by decide +kernel) (pa_cons (pv 0) (pa_cons (pe_bltn (v := .ty "bool") (u := .type "bool") (by rfl) T.z_bool (by decide +kernel) rfl) pa_nil))) (pe_callB call_isi (by rfl) T.z_isinstance (by decide +kernel) (pa_cons (pv 1) (pa_cons (pe_bltn (v := .ty "bool") (u := .type "bool") (by rfl) T.z_bool (by decide +kernel) rfl) pa_nil))) (nomark _)) (pe_one (pe_cmpR op_eq (pv 0) (pv 1) (nomark _)))))))))), ?_⟩
    refine ⟨.str i, rfl, .str i, .ty "tuple", _, _, _, rfl, .ty "tuple", .base (.str i), kit_ty (a := "str") (b := "tuple") (r := false) (by decide +kernel), _, rfl, iteF ?_⟩
    refine ⟨.str i, rfl, rfl, _, rfl, iteF ?_⟩
    refine ⟨.str i, rfl, .str i, .ty "str", _, _, _, rfl, .ty "str", .base (.str i), kit_ty (a := "str") (b := "str") (r := true) (by decide +kernel), _, rfl, iteT ?_⟩
    refine ⟨.str i, rfl, .str i, .ty "str", _, _, _, rfl, .ty "str", .base (.str i), kit_ty (a := "str") (b := "str") (r := true) (by decide +kernel), _, rfl, iteT ?_⟩
    refine ⟨.str i, rfl, .str i, rfl, rfl, ?_⟩
    rw [decide_eq_true rfl]
    exact q
def sp_law_same : Sp := fun vs H Q E => sp_law_sameT vs H Q E ∨ sp_law_sameS vs H Q E
theorem ok_law_same (T : Tx K mg f_is_number f_is_position f_is_tuple_of f_is_interval f_require_positions f_shift_targets f_double_position f_join_targets f_law_deck f_law_draw f_law_same f_law_small f_law_moved f_law_error f_law_shift f_law_double f_law_join f_law_in_range f_law_ends_right f_law_joins_right f_law f_TooMany_init X_TooMany X_SpanError X_OutOfRange X_BadText X_TooWide d_is_number d_is_position d_is_tuple_of d_is_interval d_require_positions d_shift_targets d_double_position d_join_targets d_law_deck d_law_draw d_law_same d_law_small d_law_moved d_law_error d_law_shift d_law_double d_law_join d_law_in_range d_law_ends_right d_law_joins_right d_law d_TooMany_init t_LAST_POSITION t_MAX_TARGETS) : FnOk P w K mg base CX0 3 f_law_same d_law_same ["_law_found", "_law_due"] sp_law_same := FnOk.or0 (ok_law_sameT T) (ok_law_sameS T)
/-! ### are all in range -/
def badI (q : Int × Int) : Bool := decide (q.1 < 0 ∨ q.2 > 1000000000000)
def inR (ps : List (Int × Int)) : Bool := (ps.filter badI).isEmpty
theorem inR_iff {ps : List (Int × Int)} (h : ∀ q ∈ ps, q.1 ≤ q.2) : inR ps = true ↔ Vld ps := by
  unfold inR
  rw [List.isEmpty_iff, List.filter_eq_nil_iff]
  constructor
  · intro k q hq
    have a := k q hq
    unfold badI at a
    rw [decide_eq_true_iff] at a
    have b := h q hq
    omega
  · intro k q hq
    have a := k q hq
    unfold badI
    rw [decide_eq_true_iff]
    omega
def sp_law_in_range : Sp := fun vs H Q _ => ∃ (a : Addr) (us : List V) (ps : List (Int × Int)), vs = [.ref a] ∧ H a = some (.tup us) ∧ Ivs H us ps ∧ ps.length < 1000 ∧ ∀ H', Same H H' → Q (.bl (inR ps)) H'
theorem ok_law_in_range (T : Tx K mg f_is_number f_is_position f_is_tuple_of f_is_interval f_require_positions f_shift_targets f_double_position f_join_targets f_law_deck f_law_draw f_law_same f_law_small f_law_moved f_law_error f_law_shift f_law_double f_law_join f_law_in_range f_law_ends_right f_law_joins_right f_law f_TooMany_init X_TooMany X_SpanError X_OutOfRange X_BadText X_TooWide d_is_number d_is_position d_is_tuple_of d_is_interval d_require_positions d_shift_targets d_double_position d_join_targets d_law_deck d_law_draw d_law_same d_law_small d_law_moved d_law_error d_law_shift d_law_double d_law_join d_law_in_range d_law_ends_right d_law_joins_right d_law d_TooMany_init t_LAST_POSITION t_MAX_TARGETS) : FnOk P w K mg base CX0 1 f_law_in_range d_law_in_range ["_law_intervals"] sp_law_in_range := by
  refine T.F_law_in_range.ok sc_law_in_range (fun vs H Q E h => ?_) (fun cdv A outer s H vs Q E hr h => ?_)
  · obtain ⟨a, us, ps, rfl, _⟩ := h
    rfl
  · obtain ⟨a, us, ps, rfl, ha, iv, few, q⟩ := h
    refine ⟨_, (pss_one (ps_ret (pe_cmpR (op_eqL hr.units0) (pe_lc (own := [("_law_low", 1), ("_law_high", 2)]) (g := (gTup K 2 (gCons (gName 1) (gCons (gName 2) gNil)))) (by rfl) sc_law_in_range.nd (pi_tup (pv 0)) (blkOk_by (own := [("_law_low", 1), ("_law_high", 2)]) (N := N_law_in_range) (sc := defScope s_law_in_range) (by decide +kernel)) (fun _ _ _ _ _ => (pg_tup rfl (pgs_cons (pg_name (i := 1) sc_law_in_range.nd rfl (Or.inl rfl)) (pgs_cons (pg_name (i := 2) sc_law_in_range.nd rfl (Or.inl rfl)) pgs_nil)))) (fun _ _ _ _ _ => pts_one (PW.pt (pw_or (pt_cmpR op_lt (pv 1) pe_int (nomark _)) (pw_or1 (pt_cmpR op_gt (pv 2) (pe_glob (v := .int 1000000000000) (by rfl) T.c_LAST_POSITION ⟨_, rfl⟩) (nomark _)))))) (fun _ _ _ _ _ => pe_int)) (pe_lst pa_nil) (nomark _)))), ?_⟩
    refine ⟨.ref a, rfl, a, rfl, ⟨_, SqT.of ha⟩, fun D nD => ?_⟩
    refine lcT (K := K) (a := a) (xs := us) (fun j H' ws => ws = ((ps.take j).filter badI).map fun _ => V.int 1) nD (fun H' s => SqT.of (s _ _ ha)) (by rw [iv.length]; omega) (fun _ _ _ _ _ h => h) (fun j H' ws h => by rw [h, List.length_map]; have := List.length_filter_le badI (ps.take j); rw [List.length_take] at this; omega) (fun _ => rfl) ?_ ?_
    · rintro j v H' N acc hj sm eA sz r no yes
      obtain ⟨bb, x, y, rfl, ep, hb⟩ := iv.get hj
      have tk : (ps.take (j + 1)).filter badI = (ps.take j).filter badI ++ [(x, y)].filter badI := by
        rw [List.take_add_one, ep, List.filter_append]
        rfl
      refine ⟨bb, _, rfl, SqT.of (sm _ _ hb), rfl, .int x, [.int y], rfl, .int y, [], rfl, rfl, rfl, ?_⟩
      refine ⟨.int x, rfl, _, _, rfl, rfl, _, rfl, ite2 (fun c => ?_) (fun c => ?_)⟩
      · have c : x < 0 := of_decide_eq_true c
        refine iteT (yes _ _ (Same.refl _) ?_)
        rw [tk, show [(x, y)].filter badI = [(x, y)] by rw [List.filter_cons_of_pos (by show badI (x, y) = true; unfold badI; exact decide_eq_true (.inl c))]; rfl, List.map_append, r]
        rfl
      · have c : ¬ x < 0 := fun z => c (decide_eq_true z)
        refine ⟨.int y, rfl, _, _, rfl, rfl, _, rfl, ite2 (fun c2 => ?_) (fun c2 => ?_)⟩
        · have c2 : 1000000000000 < y := of_decide_eq_true c2
          refine (yes _ _ (Same.refl _) ?_)
          rw [tk, show [(x, y)].filter badI = [(x, y)] by rw [List.filter_cons_of_pos (by show badI (x, y) = true; unfold badI; exact decide_eq_true (.inr c2))]; rfl, List.map_append, r]
          rfl
        · have c2 : ¬ 1000000000000 < y := fun z => c2 (decide_eq_true z)
          refine (no _ (Same.refl _) ?_)
          rw [tk, show [(x, y)].filter badI = [] by rw [List.filter_cons_of_neg (by show ¬ badI (x, y) = true; unfold badI; rw [decide_eq_true_iff]; show ¬ (x < 0 ∨ y > 1000000000000); omega)]; rfl, List.append_nil, r]
    · rintro H1 ws s1 eD r
      rw [iv.length, List.take_length] at r
      subst r
      refine ⟨by show 0 ≤ sizeLine; decide, fun z nz => ?_⟩
      have sz := same_new (o := .lst []) nz
      refine ⟨D, z, _, rfl, rfl, SqL.of (sz _ _ eD), SqL.of upd_same, ?_⟩
      rw [List.isEmpty_map]
      exact q _ (s1.trans sz)

def sp_law_ends_right : Sp := fun vs H Q _ => ∃ (d c a : Addr) (n : Int) (us : List V) (ps : List (Int × Int)), vs = [.ref d, .ref a] ∧ Dk H d c n ∧ 0 ≤ n ∧ n < 990000 ∧ H a = some (.tup us) ∧ Ivs H us ps ∧ ps ≠ [] ∧ ps.length ≤ 20 ∧ (∀ q ∈ ps, (0 ≤ q.1 ∧ q.1 ≤ q.2) ∧ q.2 ≤ 100) ∧
  ∀ H', Kp d c H H' → Dk H' d c (n + 1) → Q (.bl true) H'
theorem ok_law_ends_right (T : Tx K mg f_is_number f_is_position f_is_tuple_of f_is_interval f_require_positions f_shift_targets f_double_position f_join_targets f_law_deck f_law_draw f_law_same f_law_small f_law_moved f_law_error f_law_shift f_law_double f_law_join f_law_in_range f_law_ends_right f_law_joins_right f_law f_TooMany_init X_TooMany X_SpanError X_OutOfRange X_BadText X_TooWide d_is_number d_is_position d_is_tuple_of d_is_interval d_require_positions d_shift_targets d_double_position d_join_targets d_law_deck d_law_draw d_law_same d_law_small d_law_moved d_law_error d_law_shift d_law_double d_law_join d_law_in_range d_law_ends_right d_law_joins_right d_law d_TooMany_init t_LAST_POSITION t_MAX_TARGETS) : FnOk P w K mg base CX0 8 f_law_ends_right d_law_ends_right ["_law_deck_here", "_law_targets"] sp_law_ends_right := by
  refine T.F_law_ends_right.ok sc_law_ends_right (fun vs H Q E h => ?_) (fun cdv A outer s H vs Q E hr h => ?_)
  · obtain ⟨d, c, a, n, us, ps, rfl, _⟩ := h
    rfl
  · obtain ⟨d, c, a, n, us, ps, rfl, dk, n0, n1, ha, iv, ne, few, ok, q⟩ := h
    refine ⟨_, (pss_cons (ps_set (i := 2) sc_law_ends_right.nd rfl (Or.inl rfl) (pe_callB (cr_min rfl) (by rfl) T.z_min (by decide +kernel) (pa_cons (pe_lc (own := [("_law_low", 3), ("_law_high", 4)]) (g := (gTup K 2 (gCons (gName 3) (gCons (gName 4) gNil)))) (tt := tYes) (by rfl) sc_law_ends_right.nd (pi_tup (pv 1)) (blkOk_by (own := [("_law_low", 3), ("_law_high", 4)]) (N := N_law_ends_right) (sc := defScope s_law_ends_right) (by decide +kernel)) (fun _ _ _ _ _ => (pg_tup rfl (pgs_cons (pg_name (i := 3) sc_law_ends_right.nd rfl (Or.inl rfl)) (pgs_cons (pg_name (i := 4) sc_law_ends_right.nd rfl (Or.inl rfl)) pgs_nil)))) (fun _ _ _ _ _ => pts_nil) (fun _ _ _ _ _ => (pv 3))) pa_nil)))
      (pss_cons (ps_set (i := 5) sc_law_ends_right.nd rfl (Or.inl rfl) (pe_callB (cr_max rfl) (by rfl) T.z_max (by decide +kernel) (pa_cons (pe_lc (own := [("_law_low", 3), ("_law_high", 4)]) (g := (gTup K 2 (gCons (gName 3) (gCons (gName 4) gNil)))) (tt := tYes) (by rfl) sc_law_ends_right.nd (pi_tup (pv 1)) (blkOk_by (own := [("_law_low", 3), ("_law_high", 4)]) (N := N_law_ends_right) (sc := defScope s_law_ends_right) (by decide +kernel)) (fun _ _ _ _ _ => (pg_tup rfl (pgs_cons (pg_name (i := 3) sc_law_ends_right.nd rfl (Or.inl rfl)) (pgs_cons (pg_name (i := 4) sc_law_ends_right.nd rfl (Or.inl rfl)) pgs_nil)))) (fun _ _ _ _ _ => pts_nil) (fun _ _ _ _ _ => (pv 4))) pa_nil)))
      (pss_cons (ps_set (i := 6) sc_law_ends_right.nd rfl (Or.inl rfl) (pe_op op_sub (pe_glob (v := .int 1000000000000) (by rfl) T.c_LAST_POSITION ⟨_, rfl⟩) (pv 5)))
      (pss_cons (ps_for PassesOwn.never rfl (pi_list (pe_lst (pa_cons (pv 6) (pa_cons (pe_op op_add (pv 6) pe_int) (pa_cons (pe_op op_sub pe_int (pv 2)) (pa_cons (pe_op op_sub (pe_op op_sub pe_int (pv 2)) pe_int) (pa_cons (pe_op op_pow pe_int pe_int) (pa_cons (pe_op op_sub pe_int (pe_op op_pow pe_int pe_int)) pa_nil)))))))) (pg_name (i := 7) sc_law_ends_right.nd rfl (Or.inl rfl))
      (pss_cons (ps_set (i := 8) sc_law_ends_right.nd rfl (Or.inl rfl) (pe_call (ok_law_moved T) (hr.mono (by decide)) (by rfl) T.g_law_moved T.F_law_moved.kp T.b_law_moved .nil pass0 (pa_cons (pv 1) (pa_cons (pv 7) pa_nil))))
      (pss_one (ps_if (pt_not (pt_val (pe_call (ok_law_same T) (hr.mono (by decide)) (by rfl) T.g_law_same T.F_law_same.kp T.b_law_same .nil pass0 (pa_cons (pe_call (ok_law_shift T) (hr.mono (by decide)) (by rfl) T.g_law_shift T.F_law_shift.kp T.b_law_shift .nil pass0 (pa_cons (pv 1) (pa_cons (pv 7) pa_nil))) (pa_cons (pe_ix ix_list (pe_lst (pa_cons pe_str (pa_cons (pv 8) pa_nil))) (pe_callTy call_int1 (by rfl) T.z_int (by decide +kernel) (pa_cons (pe_call (ok_law_in_range T) (hr.mono (by decide)) (by rfl) T.g_law_in_range T.F_law_in_range.kp T.b_law_in_range .nil pass0 (pa_cons (pv 8) pa_nil)) pa_nil)) (fun _ _ => rfl)) pa_nil)))))
      (pss_one (ps_ret pe_bl))
      pss_nil))))
      (pss_cons (ps_set (i := 9) sc_law_ends_right.nd rfl (Or.inl rfl) (pe_call (ok_law_moved T) (hr.mono (by decide)) (by rfl) T.g_law_moved T.F_law_moved.kp T.b_law_moved .nil pass0 (pa_cons (pv 1) (pa_cons (pv 6) pa_nil))))
      (pss_cons (ps_for PassesOwn.never rfl (pi_list (pe_lst (pa_cons pe_int (pa_cons (pe_op op_add (pv 2) (pv 6)) (pa_cons (pe_op op_sub (pe_glob (v := .int 1000000000000) (by rfl) T.c_LAST_POSITION ⟨_, rfl⟩) (pe_call (ok_law_draw T) (hr.mono (by decide)) (by rfl) T.g_law_draw T.F_law_draw.kp T.b_law_draw .nil pass0 (pa_cons (pv 0) (pa_cons pe_int pa_nil)))) (pa_cons (pe_glob (v := .int 1000000000000) (by rfl) T.c_LAST_POSITION ⟨_, rfl⟩) pa_nil)))))) (pg_name (i := 10) sc_law_ends_right.nd rfl (Or.inl rfl))
      (pss_one (ps_if (pt_not (pt_val (pe_call (ok_law_same T) (hr.mono (by decide)) (by rfl) T.g_law_same T.F_law_same.kp T.b_law_same .nil pass0 (pa_cons (pe_call (ok_law_double T) (hr.mono (by decide)) (by rfl) T.g_law_double T.F_law_double.kp T.b_law_double .nil pass0 (pa_cons (pv 9) (pa_cons (pv 10) pa_nil))) (pa_cons pe_str pa_nil)))))
      (pss_one (ps_ret pe_bl))
      pss_nil)))
      (pss_one (ps_ret (pe_callB call_isi (by rfl) T.z_isinstance (by decide +kernel) (pa_cons (pe_call (ok_law_double T) (hr.mono (by decide)) (by rfl) T.g_law_double T.F_law_double.kp T.b_law_double .nil pass0 (pa_cons (pe_call (ok_law_moved T) (hr.mono (by decide)) (by rfl) T.g_law_moved T.F_law_moved.kp T.b_law_moved .nil pass0 (pa_cons (pv 9) (pa_cons (pe_un un_neg pe_int) pa_nil))) (pa_cons (pe_glob (v := .int 1000000000000) (by rfl) T.c_LAST_POSITION ⟨_, rfl⟩) pa_nil))) (pa_cons (pe_bltn (v := .ty "tuple") (u := .type "tuple") (by rfl) T.z_tuple (by decide +kernel) rfl) pa_nil))))))))))), ?_⟩
    have lu := iv.length
    have pos : 0 < ps.length := List.length_pos_iff.mpr ne
    have hle : ∀ q ∈ ps, q.1 ≤ q.2 := fun q h => (ok q h).1.2
    -- least
    refine ⟨.ref a, rfl, a, rfl, ⟨_, SqT.of ha⟩, fun D nD => ?_⟩
    refine lcT (K := K) (a := a) (xs := us) (fun j H' zs => zs = ((ps.take j).map (fun q : Int × Int => q.1)).map V.int) nD (fun H' s => SqT.of (s _ _ ha)) (by omega) (fun _ _ _ _ _ h => h) (fun j H' ws h => by rw [h, List.length_map, List.length_map]; exact List.length_take_le _ _) (fun _ => rfl) ?_ ?_
    · rintro j v H' N acc hj sm eA sz r no yes
      obtain ⟨bb, x, y, rfl, ep, hb⟩ := iv.get hj
      refine ⟨bb, _, rfl, SqT.of (sm _ _ hb), rfl, .int x, [.int y], rfl, .int y, [], rfl, rfl, rfl, .int x, rfl, yes _ _ (Same.refl _) ?_⟩
      rw [map_take_snoc ep, List.map_append, r]
      rfl
    rintro H1 zs s1 eD r
    rw [lu, List.take_length] at r
    subst r
    refine ⟨D, ps.map (fun q : Int × Int => q.1), rfl, SqL.of eD, by rw [List.length_map]; exact pos, fun lo hl bot => ?_⟩
    have ha1 := s1 _ _ ha
    have iv1 := iv.same s1
    -- greatest
    refine ⟨.ref a, rfl, a, rfl, ⟨_, SqT.of ha1⟩, fun D2 nD2 => ?_⟩
    refine lcT (K := K) (a := a) (xs := us) (fun j H' zs => zs = ((ps.take j).map (fun q : Int × Int => q.2)).map V.int) nD2 (fun H' s => SqT.of (s _ _ ha1)) (by omega) (fun _ _ _ _ _ h => h) (fun j H' ws h => by rw [h, List.length_map, List.length_map]; exact List.length_take_le _ _) (fun _ => rfl) ?_ ?_
    · rintro j v H' N acc hj sm eA sz r no yes
      obtain ⟨bb, x, y, rfl, ep, hb⟩ := iv1.get hj
      refine ⟨bb, _, rfl, SqT.of (sm _ _ hb), rfl, .int x, [.int y], rfl, .int y, [], rfl, rfl, rfl, .int y, rfl, yes _ _ (Same.refl _) ?_⟩
      rw [map_take_snoc ep, List.map_append, r]
      rfl
    rintro H2 zs s2 eD2 r
    rw [lu, List.take_length] at r
    subst r
    refine ⟨D2, ps.map (fun q : Int × Int => q.2), rfl, SqL.of eD2, by rw [List.length_map]; exact pos, fun hi hh top => ?_⟩
    obtain ⟨qh, hqh, eqh⟩ := List.mem_map.mp hh
    obtain ⟨ql, hql, eql⟩ := List.mem_map.mp hl
    have okh := ok qh hqh
    have okl := ok ql hql
    have lh : lo ≤ hi := Int.le_trans (bot _ (List.mem_map.mpr ⟨qh, hqh, rfl⟩)) (by omega)
    refine ⟨.int hi, rfl, _, _, rfl, rfl, ?_⟩
    obtain ⟨M, eM⟩ : ∃ M : Int, 1000000000000 - hi = M := ⟨_, rfl⟩
    show gName 6 (V.int (1000000000000 - hi)) _ _ _
    rw [eM]
    have s12 := s1.trans s2
    have ha2 := s12 _ _ ha
    have iv2 := iv.same s12
    -- any shift
    refine ⟨.int M, rfl, .int M, rfl, _, _, rfl, rfl, .int lo, rfl, _, _, rfl, rfl, .int lo, rfl, _, _, rfl, rfl, _, _, rfl, rfl, 10, 29, rfl, rfl, ⟨by decide, by decide, by decide⟩, 10, 29, rfl, rfl, ⟨by decide, by decide, by decide⟩, _, _, rfl, rfl, by show 6 ≤ sizeLine; decide, fun bl nbl => ?_⟩
    obtain ⟨bs, ebs, ibs⟩ : ∃ bs, bs = [V.int M, .int (M + 1), .int (0 - lo), .int (0 - lo - 1), .int ((10 : Int) ^ (29 : Int).toNat), .int (0 - (10 : Int) ^ (29 : Int).toNat)] ∧ ∀ x ∈ bs, ∃ i, x = V.int i := by
      refine ⟨_, rfl, fun x hx => ?_⟩
      simp only [List.mem_cons, List.not_mem_nil, or_false] at hx
      rcases hx with rfl | rfl | rfl | rfl | rfl | rfl <;> exact ⟨_, rfl⟩
    have s3 := same_new (o := .lst [V.int M, .int (M + 1), .int (0 - lo), .int (0 - lo - 1), .int ((10 : Int) ^ (29 : Int).toNat), .int (0 - (10 : Int) ^ (29 : Int).toNat)]) nbl
    have ebl := upd_same (H := H2) (a := bl) (o := .lst [V.int M, .int (M + 1), .int (0 - lo), .int (0 - lo - 1), .int ((10 : Int) ^ (29 : Int).toNat), .int (0 - (10 : Int) ^ (29 : Int).toNat)])
    generalize upd H2 bl (.lst [V.int M, .int (M + 1), .int (0 - lo), .int (0 - lo - 1), .int ((10 : Int) ^ (29 : Int).toNat), .int (0 - (10 : Int) ^ (29 : Int).toNat)]) = H3 at *
    rw [← ebs] at ebl
    have ha3 := s3 _ _ ha2
    have iv3 := iv2.same s3
    refine ⟨bl, rfl, ⟨_, SqL.of ebl⟩, for_list (D := ⟨_, _, fun _ _ => True, fun _ _ => True⟩) (K := K) (a := bl) (xs := bs) (fun j σ H' => Same H3 H' ∧ ∃ y3 y4 y7 y8 y9 y10, σ = [some (.ref d), some (.ref a), some (.int lo), y3, y4, some (.int hi), some (.int M), y7, y8, y9, y10])
      ⟨Same.refl _, _, _, _, _, _, _, rfl⟩ (fun j σ H' hj h => SqL.of (h.1 _ _ ebl)) ?_ ?_⟩
    · rintro j x σ G0 hx ⟨sm, y3, y4, y7, y8, y9, y10, rfl⟩
      obtain ⟨b, rfl⟩ := ibs x (List.mem_of_getElem? hx)
      have haG := sm _ _ ha3
      have ivG := iv3.same sm
      refine ⟨.ref a, rfl, .int b, rfl, a, b, us, ps, rfl, haG, ivG, by omega, fun G1 t ws u1 et ivw => ?_⟩
      have lw := ivw.length
      rw [List.length_map] at lw
      have mle : ∀ q ∈ ps.map (mvI b), q.1 ≤ q.2 := fun q hq => by
        obtain ⟨z, hz, rfl⟩ := List.mem_map.mp hq
        have := hle z hz
        show z.1 + b ≤ z.2 + b
        omega
      refine ⟨.ref a, rfl, .int b, rfl, a, b, us, ps, rfl, u1 _ _ haG, ivG.same u1, by omega, fun v G2 p ws2 u2 ep ivp => ?_, fun v G2 u2 => ?_⟩
      · refine ⟨.ref t, rfl, by show 2 ≤ sizeLine; decide, fun l nl => ?_⟩
        have u3 := same_new (o := .lst [V.str "OutOfRange", .ref t]) nl
        have el := upd_same (H := G2) (a := l) (o := .lst [V.str "OutOfRange", .ref t])
        generalize upd G2 l (.lst [V.str "OutOfRange", .ref t]) = G3 at *
        refine ⟨.ref t, rfl, t, ws, _, rfl, (u2.trans u3) _ _ et, ivw.same (u2.trans u3), by rw [List.length_map]; omega, fun G4 u4 => .inr ⟨_, rfl, ?_⟩⟩
        rw [(inR_iff mle).mpr v]
        refine ⟨l, _, 1, .ref t, rfl, rfl, SqL.of (u4 _ _ el), rfl, ?_⟩
        have u24 := u2.trans (u3.trans u4)
        refine .inl ⟨p, t, ws2, ws, _, rfl, (u3.trans u4) _ _ ep, u24 _ _ et, ivp.same (u3.trans u4), ivw.same u24, by rw [List.length_map]; omega, fun G5 u5 => ⟨_, rfl, iteF ?_⟩⟩
        exact ⟨sm.trans (u1.trans (u24.trans u5)), _, _, _, _, _, _, rfl⟩
      · refine ⟨.ref t, rfl, by show 2 ≤ sizeLine; decide, fun l nl => ?_⟩
        have u3 := same_new (o := .lst [V.str "OutOfRange", .ref t]) nl
        have el := upd_same (H := G2) (a := l) (o := .lst [V.str "OutOfRange", .ref t])
        generalize upd G2 l (.lst [V.str "OutOfRange", .ref t]) = G3 at *
        refine ⟨.ref t, rfl, t, ws, _, rfl, (u2.trans u3) _ _ et, ivw.same (u2.trans u3), by rw [List.length_map]; omega, fun G4 u4 => .inr ⟨_, rfl, ?_⟩⟩
        have nf : inR (ps.map (mvI b)) = false := by
          rw [← Bool.not_eq_true]
          exact fun z => v ((inR_iff mle).mp z)
        rw [nf]
        refine ⟨l, _, 0, .str "OutOfRange", rfl, rfl, SqL.of (u4 _ _ el), rfl, ?_⟩
        refine .inr ⟨_, rfl, _, rfl, iteF ?_⟩
        exact ⟨sm.trans (u1.trans (u2.trans (u3.trans u4))), _, _, _, _, _, _, rfl⟩
    rintro σ F0 ⟨sm, y3, y4, y7, y8, y9, y10, rfl⟩
    have s0F := s12.trans (s3.trans sm)
    refine ⟨.ref a, rfl, .int M, rfl, a, M, us, ps, rfl, s0F _ _ ha, iv.same s0F, by omega, fun F1 f fus w1 ef ivf => ?_⟩
    have dkF := dk.kept (s0F.trans w1)
    refine ⟨.int lo, rfl, .int M, rfl, _, _, rfl, rfl, .ref d, rfl, d, c, n, 12, rfl, dkF, n0, by omega, by decide, by decide, fun F2 r kp dk2 r0 r1 => ⟨_, _, rfl, rfl, by show 4 ≤ sizeLine; decide, fun cl ncl => ?_⟩⟩
    obtain ⟨cs, ecs, ics⟩ : ∃ cs, cs = [V.int 0, .int (lo + M), .int (1000000000000 - r), .int 1000000000000] ∧ ∀ x ∈ cs, ∃ i, x = V.int i ∧ i ≤ 1000000000000 := by
      refine ⟨_, rfl, fun x hx => ?_⟩
      simp only [List.mem_cons, List.not_mem_nil, or_false] at hx
      rcases hx with rfl | rfl | rfl | rfl
      · exact ⟨_, rfl, by decide⟩
      · exact ⟨_, rfl, by omega⟩
      · exact ⟨_, rfl, by omega⟩
      · exact ⟨_, rfl, by decide⟩
    have w3 := same_new (o := .lst [V.int 0, .int (lo + M), .int (1000000000000 - r), .int 1000000000000]) ncl
    have ecl := upd_same (H := F2) (a := cl) (o := .lst [V.int 0, .int (lo + M), .int (1000000000000 - r), .int 1000000000000])
    generalize upd F2 cl (.lst [V.int 0, .int (lo + M), .int (1000000000000 - r), .int 1000000000000]) = F3 at *
    rw [← ecs] at ecl
    have efF := w3 _ _ (kp.tup dkF ef)
    have ivF := (ivf.tps (kp.tps dkF)).same w3
    have rle : ∀ q ∈ ps.map (mvI M), (0 ≤ q.1 ∧ q.1 ≤ q.2) ∧ q.2 ≤ 1000000000000 ∧ 1 ≤ q.1 := fun q hq => by
      obtain ⟨z, hz, rfl⟩ := List.mem_map.mp hq
      have a1 := ok z hz
      have a2 := top _ (List.mem_map.mpr ⟨z, hz, rfl⟩)
      show (0 ≤ z.1 + M ∧ z.1 + M ≤ z.2 + M) ∧ z.2 + M ≤ 1000000000000 ∧ 1 ≤ z.1 + M
      omega
    refine ⟨cl, rfl, ⟨_, SqL.of ecl⟩, for_list (D := ⟨_, _, fun _ _ => True, fun _ _ => True⟩) (K := K) (a := cl) (xs := cs) (fun j σ H' => Same F3 H' ∧ ∃ y3 y4 y7 y8 y10, σ = [some (.ref d), some (.ref a), some (.int lo), y3, y4, some (.int hi), some (.int M), y7, y8, some (.ref f), y10])
      ⟨Same.refl _, _, _, _, _, _, rfl⟩ (fun j σ H' hj h => SqL.of (h.1 _ _ ecl)) ?_ ?_⟩
    · rintro j x σ G0 hx ⟨sm2, y3, y4, y7, y8, y10, rfl⟩
      obtain ⟨b, rfl, ble⟩ := ics x (List.mem_of_getElem? hx)
      refine ⟨.ref f, rfl, .int b, rfl, f, b, fus, _, rfl, sm2 _ _ efF, ivF.same sm2, by rw [List.length_map]; omega, fun v => ?_, fun v G1 u1 => ?_⟩
      · exfalso
        have z := v (dbI b (mvI M qh)) (List.mem_map.mpr ⟨mvI M qh, List.mem_map.mpr ⟨qh, hqh, rfl⟩, rfl⟩)
        have z2 := z.2
        unfold dbI mvI at z2
        have e2 : qh.2 + M = 1000000000000 := by omega
        have z3 : (if qh.2 + M ≥ b then qh.2 + M + 1 else qh.2 + M) ≤ 1000000000000 := z2
        rw [if_pos (by omega)] at z3
        omega
      · exact .inr ⟨_, rfl, _, rfl, iteF ⟨sm2.trans u1, _, _, _, _, _, rfl⟩⟩
    rintro σ E0 ⟨sm2, y3, y4, y7, y8, y10, rfl⟩
    refine ⟨.ref f, rfl, 1, rfl, f, -1, fus, _, rfl, sm2 _ _ efF, ivF.same sm2, by rw [List.length_map]; omega, fun E1 g gus x1 eg ivg => ?_⟩
    refine ⟨g, 1000000000000, gus, _, rfl, eg, ivg, by rw [List.length_map, List.length_map]; omega, fun v E2 t ws x2 et ivt => ?_, fun v => ?_⟩
    · refine ⟨.ref t, .ty "tuple", _, _, _, rfl, .ty "tuple", .base (.tup et), kit_ty (a := "tuple") (b := "tuple") (r := true) (by decide +kernel), ?_⟩
      exact q E2 ((Kp.same (s0F.trans w1)).trans (kp.trans (Kp.same (w3.trans (sm2.trans (x1.trans x2)))))) (dk2.kept (w3.trans (sm2.trans (x1.trans x2))))
    · exfalso
      refine v fun q hq => ?_
      obtain ⟨z, hz, rfl⟩ := List.mem_map.mp hq
      obtain ⟨y, hy, rfl⟩ := List.mem_map.mp hz
      have a1 := rle y hy
      show (0 ≤ (if y.1 + -1 > 1000000000000 then y.1 + -1 + 1 else y.1 + -1) ∧ (if y.1 + -1 > 1000000000000 then y.1 + -1 + 1 else y.1 + -1) ≤ (if y.2 + -1 ≥ 1000000000000 then y.2 + -1 + 1 else y.2 + -1)) ∧ (if y.2 + -1 ≥ 1000000000000 then y.2 + -1 + 1 else y.2 + -1) ≤ 1000000000000
      rw [if_neg (by omega), if_neg (by omega)]
      omega
/-! ### the rows that are joined -/
structure A24 (ss : List (Int × Int)) : Prop where
  len : ss.length = 24
  at_ : ∀ (j : Nat) (q : Int × Int), ss[j]? = some q → q.1 = j ∧ q.1 ≤ q.2 ∧ q.2 ≤ q.1 + 2
theorem A24.mem {ss : List (Int × Int)} (h : A24 ss) {q : Int × Int} (hq : q ∈ ss) : (0 ≤ q.1 ∧ q.1 ≤ q.2) ∧ q.2 ≤ 25 := by
  obtain ⟨j, hj, ej⟩ := List.mem_iff_getElem.mp hq
  have a := h.at_ j q (by rw [← ej]; exact List.getElem?_eq_getElem hj)
  have := h.len
  omega
theorem A24.memt {ss : List (Int × Int)} (h : A24 ss) {f : Nat} {q : Int × Int} (hq : q ∈ ss.take f) : (0 ≤ q.1 ∧ q.1 ≤ q.2) ∧ q.2 ≤ 25 := h.mem (List.mem_of_mem_take hq)
theorem A24.has {ss : List (Int × Int)} (h : A24 ss) {f j : Nat} (hj : j < f) (h2 : j < 24) : ∃ q ∈ ss.take f, q.1 = j := by
  have l : j < ss.length := by rw [h.len]; exact h2
  refine ⟨ss[j], ?_, (h.at_ j _ (List.getElem?_eq_getElem l)).1⟩
  refine List.mem_of_getElem? (i := j) ?_
  rw [List.getElem?_take_of_lt hj]
  exact List.getElem?_eq_getElem l
theorem IsHi.mem {ps : List (Int × Int)} {hi : Int} (h : IsHi ps hi) : ∃ q ∈ ps, q.2 = hi := by
  obtain ⟨q, hq, e⟩ := List.mem_map.mp h.1
  exact ⟨q, hq, e⟩
theorem IsLo.mem {ps : List (Int × Int)} {lo : Int} (h : IsLo ps lo) : ∃ q ∈ ps, q.1 = lo := by
  obtain ⟨q, hq, e⟩ := List.mem_map.mp h.1
  exact ⟨q, hq, e⟩
theorem IsLo.le {ps : List (Int × Int)} {lo : Int} (h : IsLo ps lo) {q : Int × Int} (hq : q ∈ ps) : lo ≤ q.1 := h.2 _ (List.mem_map.mpr ⟨q, hq, rfl⟩)
theorem IsHi.ge {ps : List (Int × Int)} {hi : Int} (h : IsHi ps hi) {q : Int × Int} (hq : q ∈ ps) : q.2 ≤ hi := h.2 _ (List.mem_map.mpr ⟨q, hq, rfl⟩)
section
variable {ss : List (Int × Int)} {f : Nat} (h : A24 ss) (f1 : 1 ≤ f) (f2 : f ≤ 12) {g : Int} {d : PyData}
include h f1 f2
theorem lenF : (ss.take f).length = f ∧ (ss.take (24 - f)).length = 24 - f := by
  rw [List.length_take, List.length_take, h.len]
  omega
theorem neF : ss.take f ≠ [] ∧ ss.take (24 - f) ≠ [] := by
  have a := lenF h f1 f2
  constructor
  · intro z
    rw [z] at a
    have := a.1
    simp at this
    omega
  · intro z
    rw [z] at a
    have := a.2
    simp at this
    omega
theorem JA (g1 : 1 ≤ g) (g2 : g ≤ 101) (r : JRes (ss.take f) (ss.take (24 - f)) g d) : d = .int 24 := by
  have a := lenF h f1 f2
  have n := neF h f1 f2
  rcases r with r | r | r | ⟨_, _, hi, lo, hhi, hlo, r⟩
  · exact absurd r.1 n.1
  · exact absurd r.2.1 n.2
  · have := r.2.1
    omega
  · obtain ⟨qh, mh, eh⟩ := hhi.mem
    obtain ⟨ql, ml, el⟩ := hlo.mem
    have bh := h.memt mh
    have bl := h.memt ml
    rcases r with ⟨_, e⟩ | ⟨v, _⟩
    · rw [e, a.1, a.2]
      exact congrArg PyData.int (by omega)
    · refine absurd (fun q hq => ?_) v
      obtain ⟨z, hz, rfl⟩ := List.mem_map.mp hq
      have bz := h.memt hz
      have lz := hlo.le hz
      show (0 ≤ z.1 + (hi + g - lo) ∧ z.1 + (hi + g - lo) ≤ z.2 + (hi + g - lo)) ∧ z.2 + (hi + g - lo) ≤ 1000000000000
      omega
theorem JH (r : JRes (ss.take f) (ss.take (24 - f)) 1000000000000 d) : d = .str "OutOfRange" := by
  have a := lenF h f1 f2
  have n := neF h f1 f2
  rcases r with r | r | r | ⟨_, _, hi, lo, hhi, hlo, r⟩
  · exact absurd r.1 n.1
  · exact absurd r.2.1 n.2
  · have := r.2.1
    omega
  · obtain ⟨qh, mh, eh⟩ := hhi.mem
    have bh := h.memt mh
    obtain ⟨q0, m0, e0⟩ := h.has (f := 24 - f) (j := 0) (by omega) (by omega)
    obtain ⟨q1, m1, e1⟩ := h.has (f := 24 - f) (j := 11) (by omega) (by omega)
    have l0 := hlo.le m0
    have b1 := h.memt m1
    rcases r with ⟨v, _⟩ | ⟨_, e⟩
    · exfalso
      have z := v (mvI (hi + 1000000000000 - lo) q1) (List.mem_map.mpr ⟨q1, m1, rfl⟩)
      have z' : (0 ≤ q1.1 + (hi + 1000000000000 - lo) ∧ q1.1 + (hi + 1000000000000 - lo) ≤ q1.2 + (hi + 1000000000000 - lo)) ∧ q1.2 + (hi + 1000000000000 - lo) ≤ 1000000000000 := z
      omega
    · exact e
theorem JB (r : JRes (ss.take f) ss g d) : d = .list [.str "TooMany", .int 24] := by
  have a := lenF h f1 f2
  have n := neF h f1 f2
  have l := h.len
  rcases r with r | r | r | r
  · exact absurd r.1 n.1
  · have := r.2.1
    rw [this] at l
    cases l
  · exact r.2.2
  · have := r.2.1
    omega
variable {hi : Int} (hh : IsHi (ss.take f) hi)
include hh
theorem farHi {hi' : Int} (h' : IsHi ((ss.take f).map (mvI (1000000000000 - hi))) hi') : hi' = 1000000000000 := by
  obtain ⟨q, hq, e⟩ := hh.mem
  have a := h'.ge (List.mem_map.mpr ⟨q, hq, rfl⟩)
  have a' : q.2 + (1000000000000 - hi) ≤ hi' := a
  obtain ⟨q', hq', e'⟩ := h'.mem
  obtain ⟨z, hz, rfl⟩ := List.mem_map.mp hq'
  have b := hh.ge hz
  have e2 : z.2 + (1000000000000 - hi) = hi' := e'
  omega
theorem JC (r : JRes ((ss.take f).map (mvI (1000000000000 - hi))) ss g d) : d = .list [.str "TooMany", .int 24] := by
  have a := lenF h f1 f2
  have n := neF h f1 f2
  have l := h.len
  rcases r with r | r | r | r
  · exact absurd (List.map_eq_nil_iff.mp r.1) n.1
  · have := r.2.1
    rw [this] at l
    cases l
  · exact r.2.2
  · have := r.2.1
    rw [List.length_map] at this
    omega
theorem JD (g1 : 1 ≤ g) (r : JRes ((ss.take f).map (mvI (1000000000000 - hi))) (ss.take (24 - f)) g d) : d = .str "OutOfRange" := by
  have a := lenF h f1 f2
  have n := neF h f1 f2
  rcases r with r | r | r | ⟨_, _, hi', lo, hhi, hlo, r⟩
  · exact absurd (List.map_eq_nil_iff.mp r.1) n.1
  · exact absurd r.2.1 n.2
  · have := r.2.1
    rw [List.length_map] at this
    omega
  · have e' := farHi h f1 f2 hh hhi
    obtain ⟨ql, ml, el⟩ := hlo.mem
    have bl := h.memt ml
    rcases r with ⟨v, _⟩ | ⟨_, e⟩
    · exfalso
      have z := v (mvI (hi' + g - lo) ql) (List.mem_map.mpr ⟨ql, ml, rfl⟩)
      have z' : (0 ≤ ql.1 + (hi' + g - lo) ∧ ql.1 + (hi' + g - lo) ≤ ql.2 + (hi' + g - lo)) ∧ ql.2 + (hi' + g - lo) ≤ 1000000000000 := z
      omega
    · exact e
end
theorem JE {ss : List (Int × Int)} {g : Int} {d : PyData} (n : ss ≠ []) (r : JRes ss [] g d) : d = .int ss.length := by
  rcases r with r | r | r | r
  · exact absurd r.1 n
  · exact r.2.2
  · exact absurd rfl r.1.2
  · exact absurd rfl r.1.2
theorem JF {ss : List (Int × Int)} {g : Int} {d : PyData} (r : JRes [] ss g d) : d = .int ss.length := by
  rcases r with r | r | r | r
  · exact r.2
  · exact absurd rfl r.1
  · exact absurd rfl r.1.1
  · exact absurd rfl r.1.1
/-- what is due, off the deck -/
def DueAt (H : Hp) (d c : Addr) (v : V) (dd : PyData) : Prop := (∃ n : Int, v = .int n ∧ dd = .int n ∧ n.natAbs < 10 ^ 30) ∨ (v = .str "OutOfRange" ∧ dd = .str "OutOfRange") ∨ ∃ l, v = .ref l ∧ Off d c l ∧ H l = some (.lst [.str "TooMany", .int 24]) ∧ dd = .list [.str "TooMany", .int 24]
theorem DueAt.kp {H H' : Hp} {d c : Addr} {v : V} {dd : PyData} (h : DueAt H d c v dd) (k : Kp d c H H') : DueAt H' d c v dd := by
  rcases h with h | h | ⟨l, e, o, hl, e2⟩
  · exact .inl h
  · exact .inr (.inl h)
  · exact .inr (.inr ⟨l, e, o, k.keep o hl, e2⟩)
theorem DueAt.dp {K : PySem.W.Frag} {H : Hp} {d c : Addr} {v : V} {dd : PyData} (h : DueAt H d c v dd) : Dp K H v dd := by
  rcases h with ⟨n, rfl, rfl, _⟩ | ⟨rfl, rfl⟩ | ⟨l, rfl, o, hl, rfl⟩
  · exact .int n
  · exact .str _
  · exact .lst (SqL.of hl) (.cons (.str _) (.cons (.int _) .nil))
theorem DueAt.sm {H : Hp} {d c : Addr} {v : V} {dd : PyData} (h : DueAt H d c v dd) : Sm 3000 2 dd := by
  rcases h with ⟨n, rfl, rfl, b⟩ | ⟨rfl, rfl⟩ | ⟨l, rfl, o, hl, rfl⟩
  · exact (Sm.int b).mono (by decide) (by decide)
  · exact ⟨rfl, by decide +kernel, by decide +kernel, by decide⟩
  · exact ⟨rfl, by decide +kernel, by decide +kernel, by decide +kernel⟩
structure It47 (H : Hp) (d c : Addr) (v : V) : Prop where
  ex : ∃ (t a b : Addr) (due : V) (us ws : List V) (ps qs : List (Int × Int)) (dd : PyData), v = .ref t ∧ H t = some (.tup [.ref a, .ref b, due]) ∧ (H a = some (.tup us) ∧ Ivs H us ps ∧ ps.length ≤ 24) ∧ (H b = some (.tup ws) ∧ Ivs H ws qs ∧ qs.length ≤ 24) ∧ DueAt H d c due dd ∧ ∀ g, 1 ≤ g → g ≤ 101 → ∀ e, JRes ps qs g e → e = dd
theorem It47.kp {H H' : Hp} {d c : Addr} {n : Int} {v : V} (h : It47 H d c v) (k : Kp d c H H') (dk : Dk H d c n) : It47 H' d c v := by
  obtain ⟨t, a, b, due, us, ws, ps, qs, dd, e, et, ⟨ea, ia, la⟩, ⟨eb, ib, lb⟩, du, j⟩ := h.ex
  exact ⟨t, a, b, due, us, ws, ps, qs, dd, e, k.tup dk et, ⟨k.tup dk ea, ia.tps (k.tps dk), la⟩, ⟨k.tup dk eb, ib.tps (k.tps dk), lb⟩, du.kp k, j⟩
theorem cut_take {xs : List V} {k : Nat} : cutV xs none (some (k : Int)) = xs.take k := by
  unfold cutV
  rw [HT.sIx_none, show HT.sIx xs.length xs.length (some (k : Int)) = min k xs.length from HT.sIx_nat xs.length xs.length k, Nat.sub_zero, List.drop_zero, List.take_eq_take_iff]
  omega
def sp_law_joins_right : Sp := fun vs H Q _ => ∃ (d c : Addr) (n : Int), vs = [.ref d] ∧ Dk H d c n ∧ 0 ≤ n ∧ n < 990000 ∧
  ∀ H' m, Kp d c H H' → Dk H' d c m → n ≤ m → m ≤ n + 60 → Q (.bl true) H'
theorem ok_law_joins_right (T : Tx K mg f_is_number f_is_position f_is_tuple_of f_is_interval f_require_positions f_shift_targets f_double_position f_join_targets f_law_deck f_law_draw f_law_same f_law_small f_law_moved f_law_error f_law_shift f_law_double f_law_join f_law_in_range f_law_ends_right f_law_joins_right f_law f_TooMany_init X_TooMany X_SpanError X_OutOfRange X_BadText X_TooWide d_is_number d_is_position d_is_tuple_of d_is_interval d_require_positions d_shift_targets d_double_position d_join_targets d_law_deck d_law_draw d_law_same d_law_small d_law_moved d_law_error d_law_shift d_law_double d_law_join d_law_in_range d_law_ends_right d_law_joins_right d_law d_TooMany_init t_LAST_POSITION t_MAX_TARGETS) : FnG P w K mg base 8 f_law_joins_right d_law_joins_right ["_law_deck_here"] sp_law_joins_right := by
  refine FnG.of T.F_law_joins_right sc_law_joins_right (fun {vs H Q} h => ?_) (fun cdv A outer s H vs Q hr hq h => ?_)
  · obtain ⟨d, c, n, rfl, _⟩ := h
    rfl
  · obtain ⟨d, c, n, rfl, dk, n0, n1, q⟩ := h
    refine ⟨_, (pss_cons (ps_set (i := 1) sc_law_joins_right.nd rfl (Or.inl rfl) (pe_callTy call_tuple_of (by rfl) T.z_tuple (by decide +kernel) (pa_cons (pe_lc (own := [("_law_k", 2)]) (g := (gName 2)) (tt := tYes) (by rfl) sc_law_joins_right.nd (pi_range1 (by rfl) T.z_range (pa_cons (pe_glob (v := .int 24) (by rfl) T.c_MAX_TARGETS ⟨_, rfl⟩) pa_nil)) (blkOk_by (own := [("_law_k", 2)]) (N := N_law_joins_right) (sc := defScope s_law_joins_right) (by decide +kernel)) (fun _ _ _ _ _ => (pg_name (i := 2) sc_law_joins_right.nd rfl (Or.inl rfl))) (fun _ _ _ _ _ => pts_nil) (fun _ _ _ _ _ => (pe_tup (pa_cons (pv 2) (pa_cons (pe_op op_add (pv 2) (pe_call (ok_law_draw T) (hr.mono (by decide)) (by rfl) T.g_law_draw T.F_law_draw.kp T.b_law_draw .nil pass0 (pa_cons (pv 0) (pa_cons pe_int pa_nil)))) pa_nil))))) pa_nil)))
      (pss_cons (ps_set (i := 3) sc_law_joins_right.nd rfl (Or.inl rfl) (pe_slice sl_tupA (pv 1) po_none (po_some (pe_op op_add pe_int (pe_call (ok_law_draw T) (hr.mono (by decide)) (by rfl) T.g_law_draw T.F_law_draw.kp T.b_law_draw .nil pass0 (pa_cons (pv 0) (pa_cons pe_int pa_nil)))))))
      (pss_cons (ps_set (i := 4) sc_law_joins_right.nd rfl (Or.inl rfl) (pe_slice sl_tupA (pv 1) po_none (po_some (pe_op op_sub (pe_glob (v := .int 24) (by rfl) T.c_MAX_TARGETS ⟨_, rfl⟩) (pe_callB call_len_seq (by rfl) T.z_len PySem.boot_len (pa_cons (pv 3) pa_nil))))))
      (pss_cons (ps_set (i := 5) sc_law_joins_right.nd rfl (Or.inl rfl) (pe_call (ok_law_moved T) (hr.mono (by decide)) (by rfl) T.g_law_moved T.F_law_moved.kp T.b_law_moved .nil pass0 (pa_cons (pv 3) (pa_cons (pe_op op_sub (pe_glob (v := .int 1000000000000) (by rfl) T.c_LAST_POSITION ⟨_, rfl⟩) (pe_callB (cr_max rfl) (by rfl) T.z_max (by decide +kernel) (pa_cons (pe_lc (own := [("_law_low", 6), ("_law_high", 7)]) (g := (gTup K 2 (gCons (gName 6) (gCons (gName 7) gNil)))) (tt := tYes) (by rfl) sc_law_joins_right.nd (pi_tup (pv 3)) (blkOk_by (own := [("_law_low", 6), ("_law_high", 7)]) (N := N_law_joins_right) (sc := defScope s_law_joins_right) (by decide +kernel)) (fun _ _ _ _ _ => (pg_tup rfl (pgs_cons (pg_name (i := 6) sc_law_joins_right.nd rfl (Or.inl rfl)) (pgs_cons (pg_name (i := 7) sc_law_joins_right.nd rfl (Or.inl rfl)) pgs_nil)))) (fun _ _ _ _ _ => pts_nil) (fun _ _ _ _ _ => (pv 7))) pa_nil))) pa_nil))))
      (pss_cons (ps_set (i := 8) sc_law_joins_right.nd rfl (Or.inl rfl) (pe_lst (pa_cons (pe_tup (pa_cons (pv 3) (pa_cons (pv 4) (pa_cons pe_int pa_nil)))) (pa_cons (pe_tup (pa_cons (pv 3) (pa_cons (pv 1) (pa_cons (pe_lst (pa_cons pe_str (pa_cons pe_int pa_nil))) pa_nil)))) (pa_cons (pe_tup (pa_cons (pv 5) (pa_cons (pv 1) (pa_cons (pe_lst (pa_cons pe_str (pa_cons pe_int pa_nil))) pa_nil)))) (pa_cons (pe_tup (pa_cons (pv 5) (pa_cons (pv 4) (pa_cons pe_str pa_nil)))) pa_nil))))))
      (pss_cons (ps_for PassesOwn.never rfl (pi_list (pe_op op_cat (pv 8) (pe_lst (pa_cons (pe_tup (pa_cons (pv 1) (pa_cons (pe_tup pa_nil) (pa_cons pe_int pa_nil)))) (pa_cons (pe_tup (pa_cons (pe_tup pa_nil) (pa_cons (pv 1) (pa_cons pe_int pa_nil)))) (pa_cons (pe_tup (pa_cons (pv 5) (pa_cons (pe_tup pa_nil) (pa_cons (pe_callB call_len_seq (by rfl) T.z_len PySem.boot_len (pa_cons (pv 5) pa_nil)) pa_nil)))) pa_nil)))))) (pg_tup rfl (pgs_cons (pg_name (i := 9) sc_law_joins_right.nd rfl (Or.inl rfl)) (pgs_cons (pg_name (i := 10) sc_law_joins_right.nd rfl (Or.inl rfl)) (pgs_cons (pg_name (i := 11) sc_law_joins_right.nd rfl (Or.inl rfl)) pgs_nil))))
      (pss_cons (ps_set (i := 12) sc_law_joins_right.nd rfl (Or.inl rfl) (pe_ix ix_list (pe_lst (pa_cons pe_int (pa_cons (pe_op op_add pe_int (pe_call (ok_law_draw T) (hr.mono (by decide)) (by rfl) T.g_law_draw T.F_law_draw.kp T.b_law_draw .nil pass0 (pa_cons (pv 0) (pa_cons pe_int pa_nil)))) pa_nil))) (pe_call (ok_law_draw T) (hr.mono (by decide)) (by rfl) T.g_law_draw T.F_law_draw.kp T.b_law_draw .nil pass0 (pa_cons (pv 0) (pa_cons pe_int pa_nil))) (fun _ _ => rfl)))
      (pss_one (ps_if (pt_cmpR op_ne (pe_callB (call_reprD hq hr.units) (by rfl) T.z_repr (by decide +kernel) (pa_cons (pe_call (ok_law_join T) (hr.mono (by decide)) (by rfl) T.g_law_join T.F_law_join.kp T.b_law_join .nil pass0 (pa_cons (pv 9) (pa_cons (pv 10) (pa_cons (pv 12) pa_nil)))) pa_nil)) (pe_callB (call_reprD hq hr.units) (by rfl) T.z_repr (by decide +kernel) (pa_cons (pv 11) pa_nil)) (nomark _))
      (pss_one (ps_ret pe_bl))
      pss_nil))))
      (pss_one (ps_ret (pe_cmpR op_eq (pe_call (ok_law_join T) (hr.mono (by decide)) (by rfl) T.g_law_join T.F_law_join.kp T.b_law_join .nil pass0 (pa_cons (pv 3) (pa_cons (pv 4) (pa_cons (pe_op op_pow pe_int pe_int) pa_nil)))) pe_str (nomark _)))))))))), ?_⟩
    have sz3 : sizeLine = 16777216 := by decide
    -- the rows
    refine ⟨24, rfl, by decide, by decide, fun D nD => ?_⟩
    refine lcK (n := 24) (per := 1) (fun i H' ws => ∃ zs, Ivs H' ws zs ∧ zs.length = i ∧ ∀ (j : Nat) (q : Int × Int), zs[j]? = some q → q.1 = j ∧ q.1 ≤ q.2 ∧ q.2 ≤ q.1 + 2) nD dk (by decide) (fun _ _ _ _ t h => by
      obtain ⟨zs, iv, r⟩ := h
      exact ⟨zs, iv.tps t, r⟩) (fun i H' ws h => by
      obtain ⟨zs, iv, r, _⟩ := h
      rw [iv.length, r]
      exact Nat.le_refl _) (fun _ => ⟨[], .nil, rfl, fun j q h => by simp at h⟩) ?_ ?_
    · rintro i H' N acc hi kp dk eA ⟨zs, iv, lz, at_⟩ yes
      refine ⟨rfl, .int (0 + (i : Int)), rfl, .int (0 + (i : Int)), rfl, .ref d, rfl, d, c, _, 3, rfl, dk, by omega, by omega, by decide, by decide, fun H'' r k2 dk2 r0 r1 => ?_⟩
      refine ⟨_, _, rfl, rfl, by show 2 ≤ sizeLine; decide, fun t nt => ?_⟩
      refine yes _ _ (k2.trans (Kp.same (same_new nt))) ((dk2.kept (same_new nt)).eq (by omega)) ⟨zs ++ [(0 + (i : Int), 0 + (i : Int) + r)], (iv.tps ((k2.tps dk).trans (Tps.same (same_new nt)))).snoc upd_same, by rw [List.length_append, lz]; rfl, fun j q hq => ?_⟩
      by_cases cj : j < i
      · rw [List.getElem?_append_left (by omega)] at hq
        exact at_ j q hq
      · have lt := (List.getElem?_eq_some_iff.mp hq).1
        rw [List.length_append] at lt
        have ej : j = i := by
          have : [(0 + (i : Int), 0 + (i : Int) + r)].length = 1 := rfl
          omega
        subst ej
        rw [List.getElem?_append_right (by omega), show j - zs.length = 0 by omega] at hq
        cases hq
        show 0 + (j : Int) = j ∧ 0 + (j : Int) ≤ 0 + (j : Int) + r ∧ 0 + (j : Int) + r ≤ 0 + (j : Int) + 2
        omega
    rintro H1 ws k1 dk1 eD ⟨ss, iv, lz, at_⟩
    have A : A24 ss := ⟨lz, at_⟩
    have lws := iv.length
    refine ⟨D, ws, rfl, .inl ⟨SqL.of eD, fun sa nsa => ?_⟩⟩
    have s2 := same_new (o := .tup ws) nsa
    have esa := upd_same (H := H1) (a := sa) (o := .tup ws)
    generalize upd H1 sa (.tup ws) = H2 at *
    have iv2 := iv.same s2
    -- few
    refine ⟨.ref sa, rfl, .ref d, rfl, d, c, _, 12, rfl, dk1.kept s2, by omega, by omega, by decide, by decide, fun H3 r k3 dk3 r0 r1 => ⟨_, _, rfl, rfl, ?_⟩⟩
    obtain ⟨f, ef⟩ : ∃ f : Nat, 1 + r = (f : Int) := ⟨(1 + r).toNat, by omega⟩
    have f1 : 1 ≤ f := by omega
    have f2 : f ≤ 12 := by omega
    obtain ⟨lenf, lenr⟩ := lenF A f1 f2
    have esa3 := k3.tup (dk1.kept s2) esa
    have iv3 := iv2.tps (k3.tps (dk1.kept s2))
    refine ⟨(f : Int), by show V.int (1 + r) = _; rw [ef], slA_any esa3 (fun H4 fa s4 efa => ?_)⟩
    rw [cut_take] at efa
    have ivf := (iv3.same s4).take f
    have lfa := ivf.length
    -- rest
    refine ⟨.ref sa, rfl, .ref fa, rfl, fa, _, rfl, .inr (SqT.of efa), _, _, rfl, rfl, ((24 - f : Nat) : Int), ?_, slA_any (s4 _ _ esa3) (fun H5 ra s5 era => ?_)⟩
    · show V.int (24 - ((ws.take f).length : Int)) = V.int ((24 - f : Nat) : Int)
      rw [lfa, lenf]
      exact congrArg V.int (by omega)
    rw [cut_take] at era
    have s45 := s4.trans s5
    have ivr := (iv3.same s45).take (24 - f)
    -- far
    have efa5 := s5 _ _ efa
    have ivf5 := ivf.same s5
    refine ⟨.ref fa, rfl, .ref fa, rfl, fa, rfl, ⟨_, SqT.of efa5⟩, fun D2 nD2 => ?_⟩
    refine lcT (K := K) (a := fa) (xs := ws.take f) (fun j H' zs => zs = (((ss.take f).take j).map (fun q : Int × Int => q.2)).map V.int) nD2 (fun H' s => SqT.of (s _ _ efa5)) (by omega) (fun _ _ _ _ _ h => h) (fun j H' ws h => by rw [h, List.length_map, List.length_map]; exact List.length_take_le _ _) (fun _ => rfl) ?_ ?_
    · rintro j v H' N acc hj sm eA sz r no yes
      obtain ⟨bb, x, y, rfl, ep, hb⟩ := ivf5.get hj
      refine ⟨bb, _, rfl, SqT.of (sm _ _ hb), rfl, .int x, [.int y], rfl, .int y, [], rfl, rfl, rfl, .int y, rfl, yes _ _ (Same.refl _) ?_⟩
      rw [map_take_snoc ep, List.map_append, r]
      rfl
    rintro H6 zs s6 eD2 r
    rw [lfa, List.take_length] at r
    subst r
    refine ⟨D2, (ss.take f).map (fun q : Int × Int => q.2), rfl, SqL.of eD2, by rw [List.length_map]; omega, fun hi hm top => ⟨_, _, rfl, rfl, ?_⟩⟩
    have hh : IsHi (ss.take f) hi := ⟨hm, top⟩
    refine ⟨fa, 1000000000000 - hi, _, _, rfl, s6 _ _ efa5, ivf5.same s6, by omega, fun H7 xa xus s7 exa ivx => ?_⟩
    have s67 := s6.trans s7
    have s37 := s45.trans s67
    have lx := ivx.length
    have lxm : ((ss.take f).map (mvI (1000000000000 - hi))).length = f := by rw [List.length_map, lenf]
    have dk7 := dk3.kept s37
    have esa7 := s37 _ _ esa3
    have efa7 := s67 _ _ efa5
    have era7 := s67 _ _ era
    have ivs7 := iv3.same s37
    have ivf7 := ivf5.same s67
    have ivr7 := ivr.same s67
    -- the cases
    refine ⟨.ref fa, rfl, .ref ra, rfl, by show 3 ≤ sizeLine; decide, fun t1 nt1 => ?_⟩
    have u1 := same_new (o := .tup [V.ref fa, .ref ra, .int 24]) nt1
    have et1 := upd_same (H := H7) (a := t1) (o := .tup [V.ref fa, .ref ra, .int 24])
    generalize upd H7 t1 (.tup [V.ref fa, .ref ra, .int 24]) = G1 at *
    refine ⟨.ref fa, rfl, .ref sa, rfl, by show 2 ≤ sizeLine; decide, fun l2 nl2 => ?_⟩
    have ol2 := (dk7.kept u1).off nl2
    have u2 := same_new (o := .lst [V.str "TooMany", .int 24]) nl2
    have el2 := upd_same (H := G1) (a := l2) (o := .lst [V.str "TooMany", .int 24])
    generalize upd G1 l2 (.lst [V.str "TooMany", .int 24]) = G2 at *
    refine ⟨by show 3 ≤ sizeLine; decide, fun t2 nt2 => ?_⟩
    have u3 := same_new (o := .tup [V.ref fa, .ref sa, .ref l2]) nt2
    have et2 := upd_same (H := G2) (a := t2) (o := .tup [V.ref fa, .ref sa, .ref l2])
    generalize upd G2 t2 (.tup [V.ref fa, .ref sa, .ref l2]) = G3 at *
    have u13 := u1.trans (u2.trans u3)
    refine ⟨.ref xa, rfl, .ref sa, rfl, by show 2 ≤ sizeLine; decide, fun l3 nl3 => ?_⟩
    have ol3 := (dk7.kept u13).off nl3
    have u4 := same_new (o := .lst [V.str "TooMany", .int 24]) nl3
    have el3 := upd_same (H := G3) (a := l3) (o := .lst [V.str "TooMany", .int 24])
    generalize upd G3 l3 (.lst [V.str "TooMany", .int 24]) = G4 at *
    refine ⟨by show 3 ≤ sizeLine; decide, fun t3 nt3 => ?_⟩
    have u5 := same_new (o := .tup [V.ref xa, .ref sa, .ref l3]) nt3
    have et3 := upd_same (H := G4) (a := t3) (o := .tup [V.ref xa, .ref sa, .ref l3])
    generalize upd G4 t3 (.tup [V.ref xa, .ref sa, .ref l3]) = G5 at *
    refine ⟨.ref xa, rfl, .ref ra, rfl, by show 3 ≤ sizeLine; decide, fun t4 nt4 => ?_⟩
    have u6 := same_new (o := .tup [V.ref xa, .ref ra, .str "OutOfRange"]) nt4
    have et4 := upd_same (H := G5) (a := t4) (o := .tup [V.ref xa, .ref ra, .str "OutOfRange"])
    generalize upd G5 t4 (.tup [V.ref xa, .ref ra, .str "OutOfRange"]) = G6 at *
    refine ⟨by show 4 ≤ sizeLine; decide, fun cl ncl => ?_⟩
    have u7 := same_new (o := .lst [V.ref t1, .ref t2, .ref t3, .ref t4]) ncl
    have ecl := upd_same (H := G6) (a := cl) (o := .lst [V.ref t1, .ref t2, .ref t3, .ref t4])
    generalize upd G6 cl (.lst [V.ref t1, .ref t2, .ref t3, .ref t4]) = G7 at *
    have u17 := u13.trans (u4.trans (u5.trans (u6.trans u7)))
    refine ⟨.ref cl, rfl, .ref sa, rfl, by show 0 ≤ sizeLine; decide, fun e1 ne1 => ?_⟩
    have v1 := same_new (o := .tup ([] : List V)) ne1
    have ee1 := upd_same (H := G7) (a := e1) (o := .tup ([] : List V))
    generalize upd G7 e1 (.tup ([] : List V)) = E1 at *
    refine ⟨by show 3 ≤ sizeLine; decide, fun t5 nt5 => ?_⟩
    have v2 := same_new (o := .tup [V.ref sa, .ref e1, .int 24]) nt5
    have et5 := upd_same (H := E1) (a := t5) (o := .tup [V.ref sa, .ref e1, .int 24])
    generalize upd E1 t5 (.tup [V.ref sa, .ref e1, .int 24]) = E2 at *
    refine ⟨by show 0 ≤ sizeLine; decide, fun e2 ne2 => ?_⟩
    have v3 := same_new (o := .tup ([] : List V)) ne2
    have ee2 := upd_same (H := E2) (a := e2) (o := .tup ([] : List V))
    generalize upd E2 e2 (.tup ([] : List V)) = E3 at *
    refine ⟨.ref sa, rfl, by show 3 ≤ sizeLine; decide, fun t6 nt6 => ?_⟩
    have v4 := same_new (o := .tup [V.ref e2, .ref sa, .int 24]) nt6
    have et6 := upd_same (H := E3) (a := t6) (o := .tup [V.ref e2, .ref sa, .int 24])
    generalize upd E3 t6 (.tup [V.ref e2, .ref sa, .int 24]) = E4 at *
    refine ⟨.ref xa, rfl, by show 0 ≤ sizeLine; decide, fun e3 ne3 => ?_⟩
    have v5 := same_new (o := .tup ([] : List V)) ne3
    have ee3 := upd_same (H := E4) (a := e3) (o := .tup ([] : List V))
    generalize upd E4 e3 (.tup ([] : List V)) = E5 at *
    have v15 := v1.trans (v2.trans (v3.trans (v4.trans v5)))
    have exa5 := v15 _ _ (u17 _ _ exa)
    refine ⟨.ref xa, rfl, xa, xus, rfl, .inr (SqT.of exa5), by show 3 ≤ sizeLine; decide, fun t7 nt7 => ?_⟩
    have v6 := same_new (o := .tup [V.ref xa, .ref e3, .int (xus.length : Nat)]) nt7
    have et7 := upd_same (H := E5) (a := t7) (o := .tup [V.ref xa, .ref e3, .int (xus.length : Nat)])
    generalize upd E5 t7 (.tup [V.ref xa, .ref e3, .int (xus.length : Nat)]) = E6 at *
    refine ⟨by show 3 ≤ sizeLine; decide, fun c2 nc2 => ?_⟩
    have v7 := same_new (o := .lst [V.ref t5, .ref t6, .ref t7]) nc2
    have ec2 := upd_same (H := E6) (a := c2) (o := .lst [V.ref t5, .ref t6, .ref t7])
    generalize upd E6 c2 (.lst [V.ref t5, .ref t6, .ref t7]) = E7 at *
    have v17 := v15.trans (v6.trans v7)
    refine ⟨cl, c2, _, _, rfl, rfl, v17 _ _ ecl, ec2, by show 4 + 3 ≤ sizeLine; decide, fun gl ngl => ?_⟩
    have all := u17.trans v17
    have ogl := (dk7.kept all).off ngl
    have v8 := same_new (o := .lst ([V.ref t1, .ref t2, .ref t3, .ref t4] ++ [V.ref t5, .ref t6, .ref t7])) ngl
    have egl := upd_same (H := E7) (a := gl) (o := .lst ([V.ref t1, .ref t2, .ref t3, .ref t4] ++ [V.ref t5, .ref t6, .ref t7]))
    generalize upd E7 gl (.lst ([V.ref t1, .ref t2, .ref t3, .ref t4] ++ [V.ref t5, .ref t6, .ref t7])) = E8 at *
    have toE := all.trans v8
    have dkE := dk7.kept toE
    have z7 := v7.trans v8
    have z6 := v6.trans z7
    have z5 := v5.trans z6
    have z4 := v4.trans z5
    have z3 := v3.trans z4
    have z2 := v2.trans z3
    have z1 := v1.trans z2
    have y7 := u7.trans z1
    have y6 := u6.trans y7
    have y5 := u5.trans y6
    have y4 := u4.trans y5
    have y3 := u3.trans y4
    have y2 := u2.trans y3
    have SA : E8 sa = some (.tup ws) ∧ Ivs E8 ws ss ∧ ss.length ≤ 24 := ⟨toE _ _ esa7, ivs7.same toE, by omega⟩
    have FA : E8 fa = some (.tup (ws.take f)) ∧ Ivs E8 (ws.take f) (ss.take f) ∧ (ss.take f).length ≤ 24 := ⟨toE _ _ efa7, ivf7.same toE, by omega⟩
    have RA : E8 ra = some (.tup (ws.take (24 - f))) ∧ Ivs E8 (ws.take (24 - f)) (ss.take (24 - f)) ∧ (ss.take (24 - f)).length ≤ 24 := ⟨toE _ _ era7, ivr7.same toE, by omega⟩
    have XA : E8 xa = some (.tup xus) ∧ Ivs E8 xus ((ss.take f).map (mvI (1000000000000 - hi))) ∧ ((ss.take f).map (mvI (1000000000000 - hi))).length ≤ 24 := ⟨toE _ _ exa, ivx.same toE, by omega⟩
    have nss : ss ≠ [] := fun z => by
      rw [z] at lz
      cases lz
    have items : ∀ v ∈ [V.ref t1, .ref t2, .ref t3, .ref t4] ++ [V.ref t5, .ref t6, .ref t7], It47 E8 d c v := by
      intro v hv
      simp only [List.cons_append, List.nil_append, List.mem_cons, List.not_mem_nil, or_false] at hv
      rcases hv with rfl | rfl | rfl | rfl | rfl | rfl | rfl
      · exact ⟨_, _, _, _, _, _, _, _, _, rfl, y2 _ _ et1, FA, RA, .inl ⟨24, rfl, rfl, by decide⟩, fun g g1 g2 e r => JA A f1 f2 g1 g2 r⟩
      · exact ⟨_, _, _, _, _, _, _, _, _, rfl, y4 _ _ et2, FA, SA, .inr (.inr ⟨l2, rfl, ol2, y3 _ _ el2, rfl⟩), fun g g1 g2 e r => JB A f1 f2 r⟩
      · exact ⟨_, _, _, _, _, _, _, _, _, rfl, y6 _ _ et3, XA, SA, .inr (.inr ⟨l3, rfl, ol3, y5 _ _ el3, rfl⟩), fun g g1 g2 e r => JC A f1 f2 hh r⟩
      · exact ⟨_, _, _, _, _, _, _, _, _, rfl, y7 _ _ et4, XA, RA, .inr (.inl ⟨rfl, rfl⟩), fun g g1 g2 e r => JD A f1 f2 hh g1 r⟩
      · exact ⟨_, _, _, _, _, _, _, _, _, rfl, z3 _ _ et5, SA, ⟨z2 _ _ ee1, .nil, Nat.zero_le _⟩, .inl ⟨24, rfl, rfl, by decide⟩, fun g g1 g2 e r => by rw [JE nss r, lz]; rfl⟩
      · exact ⟨_, _, _, _, _, _, _, _, _, rfl, z5 _ _ et6, ⟨z4 _ _ ee2, .nil, Nat.zero_le _⟩, SA, .inl ⟨24, rfl, rfl, by decide⟩, fun g g1 g2 e r => by rw [JF r, lz]; rfl⟩
      · exact ⟨_, _, _, _, _, _, _, _, _, rfl, z7 _ _ et7, XA, ⟨z6 _ _ ee3, .nil, Nat.zero_le _⟩, .inl ⟨_, rfl, rfl, by rw [lx, lxm]; omega⟩, fun g g1 g2 e r => by rw [JE (fun z => (neF A f1 f2).1 (List.map_eq_nil_iff.mp z)) r, lx]⟩
    refine ⟨gl, rfl, ⟨_, SqL.of egl⟩, for_list (D := ⟨_, _, fun _ _ => True, fun _ _ => True⟩) (K := K) (a := gl) (xs := [V.ref t1, .ref t2, .ref t3, .ref t4] ++ [V.ref t5, .ref t6, .ref t7]) (fun j σ H' => (Kp d c E8 H' ∧ Dk H' d c (n + 1 * ((24 : Nat) : Int) + 1 + 2 * j)) ∧ ∃ y2 y6 y7 y9 y10 y11 y12, σ = [some (.ref d), some (.ref sa), y2, some (.ref fa), some (.ref ra), some (.ref xa), y6, y7, some (.ref cl), y9, y10, y11, y12])
      ⟨⟨Kp.same (Same.refl _), dkE.eq (by omega)⟩, _, _, _, _, _, _, _, rfl⟩ (fun j σ H' hj h => SqL.of (h.1.1.keep ogl egl)) ?_ ?_⟩
    · rintro j x σ B0 hx ⟨⟨kp, dkB⟩, y2', y6', y7', y9, y10, y11, y12, rfl⟩
      have hj : j < 7 := (List.getElem?_eq_some_iff.mp hx).1
      obtain ⟨t, a, b, due, us, vs, ps, qs, dd, rfl, et, ⟨ea, ia, la⟩, ⟨eb, ib, lb⟩, du, jj⟩ := ((items x (List.mem_of_getElem? hx)).kp kp dkE).ex
      refine ⟨t, _, rfl, SqT.of et, rfl, .ref a, [.ref b, due], rfl, .ref b, [due], rfl, due, [], rfl, rfl, ?_⟩
      refine ⟨.ref d, rfl, d, c, _, 100, rfl, dkB, by omega, by omega, by decide, by decide, fun B1 r1 q1 db1 r10 r11 => ⟨_, _, rfl, rfl, by show 2 ≤ sizeLine; decide, fun bl nbl => ?_⟩⟩
      have obl := db1.off nbl
      have w1 := same_new (o := .lst [V.int 1, .int (1 + r1)]) nbl
      have ebl := upd_same (H := B1) (a := bl) (o := .lst [V.int 1, .int (1 + r1)])
      generalize upd B1 bl (.lst [V.int 1, .int (1 + r1)]) = B2 at *
      refine ⟨.ref d, rfl, d, c, _, 2, rfl, db1.kept w1, by omega, by omega, by decide, by decide, fun B3 r3 q3 db3 r30 r31 => ?_⟩
      obtain ⟨g, eg, g1, g2⟩ : ∃ g : Int, atI [V.int 1, .int (1 + r1)] r3 = some (.int g) ∧ 1 ≤ g ∧ g ≤ 101 := by
        obtain ⟨m, rfl⟩ : ∃ m : Nat, r3 = (m : Int) := ⟨r3.toNat, by omega⟩
        match m, (by omega : m < 2) with
        | 0, _ => exact ⟨1, rfl, by decide, by decide⟩
        | 1, _ => exact ⟨1 + r1, rfl, by omega, by omega⟩
        | m + 2, h => omega
      refine ⟨bl, _, r3, .int g, rfl, rfl, SqL.of (q3.keep obl ebl), eg, ?_⟩
      have kA : Kp d c B0 B3 := q1.trans ((Kp.same w1).trans q3)
      have tA := kA.tps dkB
      refine ⟨.ref a, rfl, .ref b, rfl, .int g, rfl, a, b, g, us, vs, ps, qs, rfl, tA _ _ ea, tA _ _ eb, ia.tps tA, ib.tps tA, la, lb, fun B4 v e w4 dp jr => ?_⟩
      have ee := jj g g1 g2 e jr
      subst ee
      have du4 := (du.kp kA).kp (Kp.same w4)
      refine ⟨v, e, _, _, rfl, dp, du.sm, by decide, by decide, due, rfl, due, e, _, _, rfl, du4.dp, du.sm, by decide, by decide, rfl, _, rfl, iteNS rfl ?_⟩
      exact ⟨⟨kp.trans (kA.trans (Kp.same w4)), (db3.kept w4).eq (by rw [Int.natCast_succ]; omega)⟩, _, _, _, _, _, _, _, rfl⟩
    rintro σ B0 ⟨⟨kp, dkB⟩, y2', y6', y7', y9, y10, y11, y12, rfl⟩
    have tA := kp.tps dkE
    refine ⟨.ref fa, rfl, .ref ra, rfl, 10, 12, rfl, rfl, ⟨by decide, by decide, by decide⟩, fa, ra, 1000000000000, _, _, ss.take f, ss.take (24 - f), ?_, tA _ _ FA.1, tA _ _ RA.1, FA.2.1.tps tA, RA.2.1.tps tA, FA.2.2, RA.2.2, fun B4 v e w4 dp jr => ?_⟩
    · show [V.ref fa, .ref ra, .int ((10 : Int) ^ (12 : Int).toNat)] = _
      rw [show (10 : Int) ^ (12 : Int).toNat = 1000000000000 by decide +kernel]
    rw [JH A f1 f2 jr] at dp
    cases dp
    refine ⟨rfl, ?_⟩
    rw [decide_eq_true rfl]
    have len7 : (([V.ref t1, .ref t2, .ref t3, .ref t4] ++ [V.ref t5, .ref t6, .ref t7]).length : Int) = 7 := rfl
    refine q B4 _ (k1.trans ((Kp.same s2).trans (k3.trans ((Kp.same (s37.trans toE)).trans (kp.trans (Kp.same w4)))))) (dkB.kept w4) (by omega) (by omega)

/-- where it raises nothing -/
theorem fn_drop {P : Program} {w : World} {K : PySem.W.Frag} {mg : Str → Option Value} {base : Heap} {k : Nat} {f : Addr} {fd : FuncData} {ps : List Str} {sp : Sp} (F : FnOk P w K mg base (L2.CX P w) k f fd ps sp) : FnOk P w K mg base CX0 k f fd ps (fun vs H Q _ => sp vs H Q E0) where
  len := fun vs H Q E h => F.len vs H Q E0 h
  run := fun A outer s H args us vs Q E hr he hb hv h => codeAny_mono (F.run A outer s H args us vs Q E0 hr he hb hv h) fun r s' q => by
    cases r with
    | error e =>
      obtain ⟨_, _, _, _, _, _, _, _, _, _, _, _, h⟩ := q
      exact h
    | ok fl => cases fl <;> exact q
def sp_law (K : PySem.W.Frag) : Sp := fun vs H Q _ => ∃ (a : Addr) (ns : List Int), vs = [.ref a] ∧ SqL K H a (ns.map V.int) ∧ ns.length ≤ 63 ∧ ∀ H', Q (.bl true) H'
theorem ok_law (T : Tx K mg f_is_number f_is_position f_is_tuple_of f_is_interval f_require_positions f_shift_targets f_double_position f_join_targets f_law_deck f_law_draw f_law_same f_law_small f_law_moved f_law_error f_law_shift f_law_double f_law_join f_law_in_range f_law_ends_right f_law_joins_right f_law f_TooMany_init X_TooMany X_SpanError X_OutOfRange X_BadText X_TooWide d_is_number d_is_position d_is_tuple_of d_is_interval d_require_positions d_shift_targets d_double_position d_join_targets d_law_deck d_law_draw d_law_same d_law_small d_law_moved d_law_error d_law_shift d_law_double d_law_join d_law_in_range d_law_ends_right d_law_joins_right d_law d_TooMany_init t_LAST_POSITION t_MAX_TARGETS) : FnG P w K mg base 9 f_law d_law ["_law_script"] (sp_law K) := by
  refine FnG.of T.F_law sc_law (fun {vs H Q} h => ?_) (fun cdv A outer s H vs Q hr hq h => ?_)
  · obtain ⟨a, ns, rfl, _⟩ := h
    rfl
  · obtain ⟨a, ns, rfl, hS, hlen, q⟩ := h
    refine ⟨_, (pss_cons (ps_set (i := 1) sc_law.nd rfl (Or.inl rfl) (pe_call (ok_law_deck T) (hr.mono (by decide)) (by rfl) T.g_law_deck T.F_law_deck.kp T.b_law_deck .nil pass0 (pa_cons (pv 0) pa_nil)))
      (pss_cons (ps_for PassesOwn.never rfl (pi_range1 (by rfl) T.z_range (pa_cons pe_int pa_nil)) (pg_name (i := 2) sc_law.nd rfl (Or.inl rfl))
      (pss_cons (ps_set (i := 3) sc_law.nd rfl (Or.inl rfl) (pe_op op_catA (pe_call (ok_law_moved T) (hr.mono (by decide)) (by rfl) T.g_law_moved T.F_law_moved.kp T.b_law_moved .nil pass0 (pa_cons (pe_call (ok_law_small T) (hr.mono (by decide)) (by rfl) T.g_law_small T.F_law_small.kp T.b_law_small .nil pass0 (pa_cons (pv 1) (pa_cons pe_int (pa_cons pe_int pa_nil)))) (pa_cons (pe_call (ok_law_draw T) (hr.mono (by decide)) (by rfl) T.g_law_draw T.F_law_draw.kp T.b_law_draw .nil pass0 (pa_cons (pv 1) (pa_cons pe_int pa_nil))) pa_nil))) (pe_tup (pa_cons (pe_tup (pa_cons pe_int (pa_cons (pe_op op_add pe_int (pe_call (ok_law_draw T) (hr.mono (by decide)) (by rfl) T.g_law_draw T.F_law_draw.kp T.b_law_draw .nil pass0 (pa_cons (pv 1) (pa_cons pe_int pa_nil)))) pa_nil))) pa_nil))))
      (pss_one (ps_if (PW.pt (pw_or (pt_not (pt_val (pe_call (ok_law_ends_right T) (hr.mono (by decide)) (by rfl) T.g_law_ends_right T.F_law_ends_right.kp T.b_law_ends_right .nil pass0 (pa_cons (pv 1) (pa_cons (pv 3) pa_nil))))) (pw_or1 (pt_not (pt_val (pe_callG (ok_law_joins_right T) (hr.mono (by decide)) hq (by rfl) T.g_law_joins_right T.F_law_joins_right.kp T.b_law_joins_right (pa_cons (pv 1) pa_nil)))))))
      (pss_one (ps_ret pe_bl))
      pss_nil))))
      (pss_one (ps_ret (pe_callB call_isi (by rfl) T.z_isinstance (by decide +kernel) (pa_cons (pe_call (fn_drop (ok_shift_targets T)) (hr.mono (by decide)) (by rfl) T.g_shift_targets T.F_shift_targets.kp T.b_shift_targets .nil pass0 (pa_cons (pe_tup pa_nil) (pa_cons (pe_op op_sub pe_int (pe_op op_pow pe_int pe_int)) pa_nil))) (pa_cons (pe_bltn (v := .ty "tuple") (u := .type "tuple") (by rfl) T.z_tuple (by decide +kernel) rfl) pa_nil))))))), ?_⟩
    have sz3 : sizeLine = 16777216 := by decide
    refine ⟨.ref a, rfl, a, ns, rfl, hS, hlen, fun H1 d c s1 nd nc dk0 => ?_⟩
    refine ⟨3, rfl, by decide, by decide, for_range (D := ⟨_, _, fun _ _ => True, fun _ _ => True⟩) (n := 3) (fun i σ H' => (∃ n : Int, Dk H' d c n ∧ 0 ≤ n ∧ n ≤ 100 * i) ∧ ∃ y2 y3, σ = [some (.ref a), some (.ref d), y2, y3])
      ⟨⟨0, dk0, by decide, by decide⟩, _, _, rfl⟩ ?_ ?_⟩
    · rintro i σ G0 hi ⟨⟨n, dg0, n0, n1⟩, y2, y3, rfl⟩
      refine ⟨.ref d, rfl, d, c, n, 12, 12, rfl, dg0, n0, by omega, by decide, by decide, by decide, by decide, fun G1 t us ps m1 k1 dg1 m10 m11 et iv sml fw => ?_⟩
      refine ⟨.ref d, rfl, d, c, m1, 3, rfl, dg1, by omega, by omega, by decide, by decide, fun G2 r k2 dg2 r0 r1 => ?_⟩
      refine ⟨t, r, us, ps, rfl, k2.tup dg1 et, iv.tps (k2.tps dg1), by omega, fun G3 p ws s3 ep ivp => ?_⟩
      have dg3 := dg2.kept s3
      refine ⟨.ref d, rfl, d, c, m1 + 1, 3, rfl, dg3, by omega, by omega, by decide, by decide, fun G4 r2 k4 dg4 r20 r21 => ⟨_, _, rfl, rfl, by show 2 ≤ sizeLine; decide, fun b nb => ?_⟩⟩
      have ep4 := k4.tup dg3 ep
      have iv4 := ivp.tps (k4.tps dg3)
      have s5 := same_new (o := .tup [V.int 14, .int (15 + r2)]) nb
      have eb := upd_same (H := G4) (a := b) (o := .tup [V.int 14, .int (15 + r2)])
      generalize upd G4 b (.tup [V.int 14, .int (15 + r2)]) = G5 at *
      refine ⟨by show 1 ≤ sizeLine; decide, fun e ne => ?_⟩
      have s6 := same_new (o := .tup [V.ref b]) ne
      have ee := upd_same (H := G5) (a := e) (o := .tup [V.ref b])
      generalize upd G5 e (.tup [V.ref b]) = G6 at *
      have s56 := s5.trans s6
      have lp := iv4.length
      rw [List.length_map] at lp
      refine catA_any (s56 _ _ ep4) ee (by show _ + 1 ≤ _; omega) (fun G7 tt s7 ett => ?_)
      have iv7 : Ivs G7 (ws ++ [V.ref b]) (ps.map (mvI r) ++ [(14, 15 + r2)]) := ((iv4.same s56).same s7).append (.cons ((s6.trans s7) _ _ eb) .nil)
      have dg7 := dg4.kept (s56.trans s7)
      have okt : ∀ q ∈ ps.map (mvI r) ++ [((14 : Int), 15 + r2)], (0 ≤ q.1 ∧ q.1 ≤ q.2) ∧ q.2 ≤ 100 := fun q hq => by
        rcases List.mem_append.mp hq with hq | hq
        · obtain ⟨z, hz, rfl⟩ := List.mem_map.mp hq
          have := sml.ok z hz
          show (0 ≤ z.1 + r ∧ z.1 + r ≤ z.2 + r) ∧ z.2 + r ≤ 100
          omega
        · rw [List.mem_singleton.mp hq]
          show (0 ≤ (14 : Int) ∧ (14 : Int) ≤ 15 + r2) ∧ 15 + r2 ≤ 100
          omega
      refine ⟨.ref d, rfl, .ref tt, rfl, d, c, tt, _, _, _, rfl, dg7, by omega, by omega, ett, iv7, by simp, by rw [List.length_append, List.length_map]; show _ + 1 ≤ 20; omega, okt, fun G8 k8 dg8 => ?_⟩
      refine ⟨_, rfl, iteF ?_⟩
      refine ⟨.ref d, rfl, d, c, _, rfl, dg8, by omega, by omega, fun G9 m9 k9 dg9 m90 m91 => ?_⟩
      exact ⟨_, rfl, iteF ⟨⟨m9, dg9, by omega, by omega⟩, _, _, rfl⟩⟩
    rintro σ F0 ⟨⟨n, dg0, n0, n1⟩, y2, y3, rfl⟩
    refine ⟨by show 0 ≤ sizeLine; decide, fun e ne => ?_⟩
    have s1' := same_new (o := .tup ([] : List V)) ne
    have ee := upd_same (H := F0) (a := e) (o := .tup ([] : List V))
    generalize upd F0 e (.tup ([] : List V)) = F1 at *
    refine ⟨10, 20, rfl, rfl, ⟨by decide, by decide, by decide⟩, _, _, rfl, rfl, e, _, [], [], rfl, ee, .nil, by decide, fun v H' p ws s2 ep iv => ?_, fun v => absurd (fun q hq => nomatch hq) v⟩
    exact ⟨.ref p, .ty "tuple", _, _, _, rfl, .ty "tuple", .base (.tup ep), kit_ty (a := "tuple") (b := "tuple") (r := true) (by decide +kernel), q H'⟩

end
theorem all_mk {l : PySem.W.OpenLaw} {w : World} {K : PySem.W.Frag} {h : Heap} {mg : Str → Option Value} {fa f1 f2 f3 f4 f5 f6 f7 f8 f9 f10 f11 f12 f13 f14 f15 f16 f17 f18 f19 f20 f21 f22 X_TooMany X_SpanError X_OutOfRange X_BadText X_TooWide : Addr} (X : K.In h) (G : h.Ns mainGlobals mg) (hfa : mg "law" = some (.ref fa))
    {od1 an1 od2 an2 od3 an3 od4 an4 od5 an5 od6 an6 od7 an7 od8 an8 od9 an9 od10 an10 od11 an11 od12 an12 od13 an13 od14 an14 od15 an15 od16 an16 od17 an17 od18 an18 od19 an19 od20 an20 od21 an21 od22 an22 : Option Addr} {sl1 sl2 sl3 sl4 sl5 sl6 sl7 sl8 sl9 sl10 sl11 sl12 sl13 sl14 sl15 sl16 sl17 sl18 sl19 sl20 sl21 sl22 : Array (Option Value)} {oc1 kV1 dc1 pm1 cd1 ct1 oc2 kV2 dc2 pm2 cd2 ct2 oc3 kV3 dc3 pm3 cd3 ct3 oc4 kV4 dc4 pm4 cd4 ct4 oc5 kV5 dc5 pm5 cd5 ct5 oc6 kV6 dc6 pm6 cd6 ct6 oc7 kV7 dc7 pm7 cd7 ct7 oc8 kV8 dc8 pm8 cd8 ct8 oc9 kV9 dc9 pm9 cd9 ct9 oc10 kV10 dc10 pm10 cd10 ct10 oc11 kV11 dc11 pm11 cd11 ct11 oc12 kV12 dc12 pm12 cd12 ct12 oc13 kV13 dc13 pm13 cd13 ct13 oc14 kV14 dc14 pm14 cd14 ct14 oc15 kV15 dc15 pm15 cd15 ct15 oc16 kV16 dc16 pm16 cd16 ct16 oc17 kV17 dc17 pm17 cd17 ct17 oc18 kV18 dc18 pm18 cd18 ct18 oc19 kV19 dc19 pm19 cd19 ct19 oc20 kV20 dc20 pm20 cd20 ct20 oc21 kV21 dc21 pm21 cd21 ct21 oc22 kV22 dc22 pm22 cd22 ct22 : Value} {tk0 tk1 : Tok}
    (a1 : PySem.W.nsIn K mainGlobals "is_number" = some (some (.ref f1))) (l1 : K.lookup f1 = some ⟨oc1, od1, .func (PySem.W.fnOf "is_number" "is_number" (defArgs s_is_number) (defBody s_is_number) (defScope s_is_number) .none kV1 dc1 pm1 an1 cd1 ct1), sl1⟩) (c1 : PySem.W.codeIn K cd1 "is_number" = true) (k1 : PySem.W.keepIn K (.ref f1) = true)
    (a2 : PySem.W.nsIn K mainGlobals "is_position" = some (some (.ref f2))) (l2 : K.lookup f2 = some ⟨oc2, od2, .func (PySem.W.fnOf "is_position" "is_position" (defArgs s_is_position) (defBody s_is_position) (defScope s_is_position) .none kV2 dc2 pm2 an2 cd2 ct2), sl2⟩) (c2 : PySem.W.codeIn K cd2 "is_position" = true) (k2 : PySem.W.keepIn K (.ref f2) = true)
    (a3 : PySem.W.nsIn K mainGlobals "is_tuple_of" = some (some (.ref f3))) (l3 : K.lookup f3 = some ⟨oc3, od3, .func (PySem.W.fnOf "is_tuple_of" "is_tuple_of" (defArgs s_is_tuple_of) (defBody s_is_tuple_of) (defScope s_is_tuple_of) .none kV3 dc3 pm3 an3 cd3 ct3), sl3⟩) (c3 : PySem.W.codeIn K cd3 "is_tuple_of" = true) (k3 : PySem.W.keepIn K (.ref f3) = true)
    (a4 : PySem.W.nsIn K mainGlobals "is_interval" = some (some (.ref f4))) (l4 : K.lookup f4 = some ⟨oc4, od4, .func (PySem.W.fnOf "is_interval" "is_interval" (defArgs s_is_interval) (defBody s_is_interval) (defScope s_is_interval) .none kV4 dc4 pm4 an4 cd4 ct4), sl4⟩) (c4 : PySem.W.codeIn K cd4 "is_interval" = true) (k4 : PySem.W.keepIn K (.ref f4) = true)
    (a5 : PySem.W.nsIn K mainGlobals "require_positions" = some (some (.ref f5))) (l5 : K.lookup f5 = some ⟨oc5, od5, .func (PySem.W.fnOf "require_positions" "require_positions" (defArgs s_require_positions) (defBody s_require_positions) (defScope s_require_positions) .none kV5 dc5 pm5 an5 cd5 ct5), sl5⟩) (c5 : PySem.W.codeIn K cd5 "require_positions" = true) (k5 : PySem.W.keepIn K (.ref f5) = true)
    (a6 : PySem.W.nsIn K mainGlobals "shift_targets" = some (some (.ref f6))) (l6 : K.lookup f6 = some ⟨oc6, od6, .func (PySem.W.fnOf "shift_targets" "shift_targets" (defArgs s_shift_targets) (defBody s_shift_targets) (defScope s_shift_targets) .none kV6 dc6 pm6 an6 cd6 ct6), sl6⟩) (c6 : PySem.W.codeIn K cd6 "shift_targets" = true) (k6 : PySem.W.keepIn K (.ref f6) = true)
    (a7 : PySem.W.nsIn K mainGlobals "double_position" = some (some (.ref f7))) (l7 : K.lookup f7 = some ⟨oc7, od7, .func (PySem.W.fnOf "double_position" "double_position" (defArgs s_double_position) (defBody s_double_position) (defScope s_double_position) .none kV7 dc7 pm7 an7 cd7 ct7), sl7⟩) (c7 : PySem.W.codeIn K cd7 "double_position" = true) (k7 : PySem.W.keepIn K (.ref f7) = true)
    (a8 : PySem.W.nsIn K mainGlobals "join_targets" = some (some (.ref f8))) (l8 : K.lookup f8 = some ⟨oc8, od8, .func (PySem.W.fnOf "join_targets" "join_targets" (defArgs s_join_targets) (defBody s_join_targets) (defScope s_join_targets) .none kV8 dc8 pm8 an8 cd8 ct8), sl8⟩) (c8 : PySem.W.codeIn K cd8 "join_targets" = true) (k8 : PySem.W.keepIn K (.ref f8) = true)
    (a9 : PySem.W.nsIn K mainGlobals "_law_deck" = some (some (.ref f9))) (l9 : K.lookup f9 = some ⟨oc9, od9, .func (PySem.W.fnOf "_law_deck" "_law_deck" (defArgs s_law_deck) (defBody s_law_deck) (defScope s_law_deck) .none kV9 dc9 pm9 an9 cd9 ct9), sl9⟩) (c9 : PySem.W.codeIn K cd9 "_law_deck" = true) (k9 : PySem.W.keepIn K (.ref f9) = true)
    (a10 : PySem.W.nsIn K mainGlobals "_law_draw" = some (some (.ref f10))) (l10 : K.lookup f10 = some ⟨oc10, od10, .func (PySem.W.fnOf "_law_draw" "_law_draw" (defArgs s_law_draw) (defBody s_law_draw) (defScope s_law_draw) .none kV10 dc10 pm10 an10 cd10 ct10), sl10⟩) (c10 : PySem.W.codeIn K cd10 "_law_draw" = true) (k10 : PySem.W.keepIn K (.ref f10) = true)
    (a11 : PySem.W.nsIn K mainGlobals "_law_same" = some (some (.ref f11))) (l11 : K.lookup f11 = some ⟨oc11, od11, .func (PySem.W.fnOf "_law_same" "_law_same" (defArgs s_law_same) (defBody s_law_same) (defScope s_law_same) .none kV11 dc11 pm11 an11 cd11 ct11), sl11⟩) (c11 : PySem.W.codeIn K cd11 "_law_same" = true) (k11 : PySem.W.keepIn K (.ref f11) = true)
    (a12 : PySem.W.nsIn K mainGlobals "_law_small" = some (some (.ref f12))) (l12 : K.lookup f12 = some ⟨oc12, od12, .func (PySem.W.fnOf "_law_small" "_law_small" (defArgs s_law_small) (defBody s_law_small) (defScope s_law_small) .none kV12 dc12 pm12 an12 cd12 ct12), sl12⟩) (c12 : PySem.W.codeIn K cd12 "_law_small" = true) (k12 : PySem.W.keepIn K (.ref f12) = true)
    (a13 : PySem.W.nsIn K mainGlobals "_law_moved" = some (some (.ref f13))) (l13 : K.lookup f13 = some ⟨oc13, od13, .func (PySem.W.fnOf "_law_moved" "_law_moved" (defArgs s_law_moved) (defBody s_law_moved) (defScope s_law_moved) .none kV13 dc13 pm13 an13 cd13 ct13), sl13⟩) (c13 : PySem.W.codeIn K cd13 "_law_moved" = true) (k13 : PySem.W.keepIn K (.ref f13) = true)
    (a14 : PySem.W.nsIn K mainGlobals "_law_error" = some (some (.ref f14))) (l14 : K.lookup f14 = some ⟨oc14, od14, .func (PySem.W.fnOf "_law_error" "_law_error" (defArgs s_law_error) (defBody s_law_error) (defScope s_law_error) .none kV14 dc14 pm14 an14 cd14 ct14), sl14⟩) (c14 : PySem.W.codeIn K cd14 "_law_error" = true) (k14 : PySem.W.keepIn K (.ref f14) = true)
    (a15 : PySem.W.nsIn K mainGlobals "_law_shift" = some (some (.ref f15))) (l15 : K.lookup f15 = some ⟨oc15, od15, .func (PySem.W.fnOf "_law_shift" "_law_shift" (defArgs s_law_shift) (defBody s_law_shift) (defScope s_law_shift) .none kV15 dc15 pm15 an15 cd15 ct15), sl15⟩) (c15 : PySem.W.codeIn K cd15 "_law_shift" = true) (k15 : PySem.W.keepIn K (.ref f15) = true)
    (a16 : PySem.W.nsIn K mainGlobals "_law_double" = some (some (.ref f16))) (l16 : K.lookup f16 = some ⟨oc16, od16, .func (PySem.W.fnOf "_law_double" "_law_double" (defArgs s_law_double) (defBody s_law_double) (defScope s_law_double) .none kV16 dc16 pm16 an16 cd16 ct16), sl16⟩) (c16 : PySem.W.codeIn K cd16 "_law_double" = true) (k16 : PySem.W.keepIn K (.ref f16) = true)
    (a17 : PySem.W.nsIn K mainGlobals "_law_join" = some (some (.ref f17))) (l17 : K.lookup f17 = some ⟨oc17, od17, .func (PySem.W.fnOf "_law_join" "_law_join" (defArgs s_law_join) (defBody s_law_join) (defScope s_law_join) .none kV17 dc17 pm17 an17 cd17 ct17), sl17⟩) (c17 : PySem.W.codeIn K cd17 "_law_join" = true) (k17 : PySem.W.keepIn K (.ref f17) = true)
    (a18 : PySem.W.nsIn K mainGlobals "_law_in_range" = some (some (.ref f18))) (l18 : K.lookup f18 = some ⟨oc18, od18, .func (PySem.W.fnOf "_law_in_range" "_law_in_range" (defArgs s_law_in_range) (defBody s_law_in_range) (defScope s_law_in_range) .none kV18 dc18 pm18 an18 cd18 ct18), sl18⟩) (c18 : PySem.W.codeIn K cd18 "_law_in_range" = true) (k18 : PySem.W.keepIn K (.ref f18) = true)
    (a19 : PySem.W.nsIn K mainGlobals "_law_ends_right" = some (some (.ref f19))) (l19 : K.lookup f19 = some ⟨oc19, od19, .func (PySem.W.fnOf "_law_ends_right" "_law_ends_right" (defArgs s_law_ends_right) (defBody s_law_ends_right) (defScope s_law_ends_right) .none kV19 dc19 pm19 an19 cd19 ct19), sl19⟩) (c19 : PySem.W.codeIn K cd19 "_law_ends_right" = true) (k19 : PySem.W.keepIn K (.ref f19) = true)
    (a20 : PySem.W.nsIn K mainGlobals "_law_joins_right" = some (some (.ref f20))) (l20 : K.lookup f20 = some ⟨oc20, od20, .func (PySem.W.fnOf "_law_joins_right" "_law_joins_right" (defArgs s_law_joins_right) (defBody s_law_joins_right) (defScope s_law_joins_right) .none kV20 dc20 pm20 an20 cd20 ct20), sl20⟩) (c20 : PySem.W.codeIn K cd20 "_law_joins_right" = true) (k20 : PySem.W.keepIn K (.ref f20) = true)
    (a21 : PySem.W.nsIn K mainGlobals "law" = some (some (.ref f21))) (l21 : K.lookup f21 = some ⟨oc21, od21, .func (PySem.W.fnOf "law" "law" (defArgs s_law) (defBody s_law) (defScope s_law) .none kV21 dc21 pm21 an21 cd21 ct21), sl21⟩) (c21 : PySem.W.codeIn K cd21 "law" = true) (k21 : PySem.W.keepIn K (.ref f21) = true)
    (a22 : PySem.W.findIn K (.ref X_TooMany) "__init__" = some (some (.ref f22))) (i22 : PySem.W.isFn K (.ref f22) = true) (l22 : K.lookup f22 = some ⟨oc22, od22, .func (PySem.W.fnOf "__init__" "TooMany.__init__" (defArgs s_TooMany_init) (defBody s_TooMany_init) (defScope s_TooMany_init) .none kV22 dc22 pm22 an22 cd22 ct22), sl22⟩) (c22 : PySem.W.codeIn K cd22 "TooMany.__init__" = true) (k22 : PySem.W.keepIn K (.ref f22) = true)
    {nm_TooMany qn_TooMany : Str} {N_TooMany : Addr} {bs_TooMany bm_TooMany sb_TooMany : List Value} {sn_TooMany : List Str} {ab_TooMany : Bool} {co_TooMany : Option Bool} {dd_TooMany : Option Addr} {m0_TooMany m1_TooMany m2_TooMany m3_TooMany m5_TooMany : Option Value}
    (aX_TooMany : PySem.W.nsIn K mainGlobals "TooMany" = some (some (.ref X_TooMany))) (iX_TooMany : PySem.W.isClsIn K X_TooMany = true) (tX_TooMany : PySem.W.typeIn K (.ref X_TooMany) = some (.type "type")) (bX_TooMany : PySem.W.subIn K (.ref X_TooMany) (.type "BaseException") = some true) (xL_TooMany : K.lookup X_TooMany = some (excClassObj nm_TooMany qn_TooMany X_TooMany N_TooMany bs_TooMany bm_TooMany true sn_TooMany sb_TooMany ab_TooMany co_TooMany dd_TooMany m0_TooMany m1_TooMany m2_TooMany m3_TooMany m5_TooMany "ValueError.__new__")) (rL_TooMany : PySem.HandSPX.refsVE bm_TooMany = true) (sX_TooMany : PySem.W.findIn K (.ref X_TooMany) "__setattr__" = some (some (.builtin "object.__setattr__"))) (kX_TooMany : PySem.W.keepIn K (.ref X_TooMany) = true) (nX_TooMany : PySem.W.findIn K (.ref X_TooMany) "bound" = some none) (fX_TooMany : PySem.W.typeIn K (.ref f22) = some (.type "function")) (gX_TooMany : PySem.W.findIn K (.ref X_TooMany) "__getattribute__" = some (some (.builtin "BaseException.__getattribute__"))) (hX_TooMany : PySem.W.findIn K (.ref X_TooMany) "__getattr__" = some none) (dX_TooMany : PySem.W.hasDictIn K X_TooMany = true) (cX_TooMany : PySem.W.findIn K (.ref X_TooMany) "__class__" = some (some (.builtin "object.__class__"))) (eX_TooMany : PySem.W.specialIn K (.builtin "object.__class__") "__get__" = some (some (.builtin "getset_descriptor.__get__"))) (uX_TooMany : PySem.W.takesIn K (.builtin "object.__class__") = some true) (mX_TooMany : PySem.W.mroIn K X_TooMany (.type "object") = some true) (vX_TooMany : PySem.W.subIn K (.ref X_TooMany) (.type "ValueError") = some true) (wX_TooMany : PySem.W.subIn K (.ref X_TooMany) (.type "LookupError") = some false)
    (aX_SpanError : PySem.W.nsIn K mainGlobals "SpanError" = some (some (.ref X_SpanError))) (iX_SpanError : PySem.W.isClsIn K X_SpanError = true) (tX_SpanError : PySem.W.typeIn K (.ref X_SpanError) = some (.type "type")) (bX_SpanError : PySem.W.subIn K (.ref X_SpanError) (.type "BaseException") = some true)
    (aX_OutOfRange : PySem.W.nsIn K mainGlobals "OutOfRange" = some (some (.ref X_OutOfRange))) (iX_OutOfRange : PySem.W.isClsIn K X_OutOfRange = true) (tX_OutOfRange : PySem.W.typeIn K (.ref X_OutOfRange) = some (.type "type")) (bX_OutOfRange : PySem.W.subIn K (.ref X_OutOfRange) (.type "BaseException") = some true) (xX_OutOfRange : PySem.W.excIn K X_OutOfRange bmVE "ValueError.__new__" = true) (kX_OutOfRange : PySem.W.keepIn K (.ref X_OutOfRange) = true) (gX_OutOfRange : PySem.W.findIn K (.ref X_OutOfRange) "__getattribute__" = some (some (.builtin "BaseException.__getattribute__"))) (hX_OutOfRange : PySem.W.findIn K (.ref X_OutOfRange) "__getattr__" = some none) (dX_OutOfRange : PySem.W.hasDictIn K X_OutOfRange = true) (cX_OutOfRange : PySem.W.findIn K (.ref X_OutOfRange) "__class__" = some (some (.builtin "object.__class__"))) (eX_OutOfRange : PySem.W.specialIn K (.builtin "object.__class__") "__get__" = some (some (.builtin "getset_descriptor.__get__"))) (uX_OutOfRange : PySem.W.takesIn K (.builtin "object.__class__") = some true) (mX_OutOfRange : PySem.W.mroIn K X_OutOfRange (.type "object") = some true) (vX_OutOfRange : PySem.W.subIn K (.ref X_OutOfRange) (.type "ValueError") = some true)
    (aX_BadText : PySem.W.nsIn K mainGlobals "BadText" = some (some (.ref X_BadText))) (iX_BadText : PySem.W.isClsIn K X_BadText = true) (tX_BadText : PySem.W.typeIn K (.ref X_BadText) = some (.type "type")) (bX_BadText : PySem.W.subIn K (.ref X_BadText) (.type "BaseException") = some true)
    (aX_TooWide : PySem.W.nsIn K mainGlobals "TooWide" = some (some (.ref X_TooWide))) (iX_TooWide : PySem.W.isClsIn K X_TooWide = true) (tX_TooWide : PySem.W.typeIn K (.ref X_TooWide) = some (.type "type")) (bX_TooWide : PySem.W.subIn K (.ref X_TooWide) (.type "BaseException") = some true)
    (sX_TooMany_SpanError : PySem.W.subIn K (.ref X_TooMany) (.ref X_SpanError) = some true)
    (sX_TooMany_OutOfRange : PySem.W.subIn K (.ref X_TooMany) (.ref X_OutOfRange) = some false)
    (sX_TooMany_BadText : PySem.W.subIn K (.ref X_TooMany) (.ref X_BadText) = some false)
    (sX_TooMany_TooWide : PySem.W.subIn K (.ref X_TooMany) (.ref X_TooWide) = some false)
    (sX_OutOfRange_SpanError : PySem.W.subIn K (.ref X_OutOfRange) (.ref X_SpanError) = some true)
    (sX_OutOfRange_TooMany : PySem.W.subIn K (.ref X_OutOfRange) (.ref X_TooMany) = some false)
    (sX_OutOfRange_BadText : PySem.W.subIn K (.ref X_OutOfRange) (.ref X_BadText) = some false)
    (sX_OutOfRange_TooWide : PySem.W.subIn K (.ref X_OutOfRange) (.ref X_TooWide) = some false)
    (y0 : PySem.W.nsIn K mainGlobals "LAST_POSITION" = some (some (.int 1000000000000 tk0))) (y1 : PySem.W.nsIn K mainGlobals "MAX_TARGETS" = some (some (.int 24 tk1))) (z0 : PySem.W.nsIn K mainGlobals "ValueError" = some none) (z1 : PySem.W.nsIn K mainGlobals "abs" = some none) (z2 : PySem.W.nsIn K mainGlobals "all" = some none) (z3 : PySem.W.nsIn K mainGlobals "bool" = some none) (z4 : PySem.W.nsIn K mainGlobals "int" = some none) (z5 : PySem.W.nsIn K mainGlobals "isinstance" = some none) (z6 : PySem.W.nsIn K mainGlobals "len" = some none) (z7 : PySem.W.nsIn K mainGlobals "max" = some none) (z8 : PySem.W.nsIn K mainGlobals "min" = some none) (z9 : PySem.W.nsIn K mainGlobals "range" = some none) (z10 : PySem.W.nsIn K mainGlobals "repr" = some none) (z11 : PySem.W.nsIn K mainGlobals "set" = some none) (z12 : PySem.W.nsIn K mainGlobals "sorted" = some none) (z13 : PySem.W.nsIn K mainGlobals "str" = some none) (z14 : PySem.W.nsIn K mainGlobals "tuple" = some none) (z15 : PySem.W.nsIn K mainGlobals "zip" = some none) :
    ∃ fd : FuncData, (∀ (s : Shared) (v : Value), BindsTo s fd ⟨[v], []⟩ [("_law_script", v)]) ∧ ∀ base : Heap, K.In base → base.Ns mainGlobals mg → (∃ mm, base.Ns sysModules mm) → FnG l.prog w K mg base 9 fa fd ["_law_script"] (sp_law K) := by
  have e := hfa.symm.trans (PySem.W.mg_of X G a21)
  cases e
  have F1 := fun_mk (st := s_is_number) l1 c1 k1
  have b1 := F1.binds (ps := ["value"]) fun _ _ _ _ _ _ us hl => match us, hl with | [_], _ => rfl
  have F2 := fun_mk (st := s_is_position) l2 c2 k2
  have b2 := F2.binds (ps := ["value"]) fun _ _ _ _ _ _ us hl => match us, hl with | [_], _ => rfl
  have F3 := fun_mk (st := s_is_tuple_of) l3 c3 k3
  have b3 := F3.binds (ps := ["value", "length"]) fun _ _ _ _ _ _ us hl => match us, hl with | [_, _], _ => rfl
  have F4 := fun_mk (st := s_is_interval) l4 c4 k4
  have b4 := F4.binds (ps := ["value"]) fun _ _ _ _ _ _ us hl => match us, hl with | [_], _ => rfl
  have F5 := fun_mk (st := s_require_positions) l5 c5 k5
  have b5 := F5.binds (ps := ["intervals"]) fun _ _ _ _ _ _ us hl => match us, hl with | [_], _ => rfl
  have F6 := fun_mk (st := s_shift_targets) l6 c6 k6
  have b6 := F6.binds (ps := ["targets", "by"]) fun _ _ _ _ _ _ us hl => match us, hl with | [_, _], _ => rfl
  have F7 := fun_mk (st := s_double_position) l7 c7 k7
  have b7 := F7.binds (ps := ["targets", "position"]) fun _ _ _ _ _ _ us hl => match us, hl with | [_, _], _ => rfl
  have F8 := fun_mk (st := s_join_targets) l8 c8 k8
  have b8 := F8.binds (ps := ["first", "second", "gap"]) fun _ _ _ _ _ _ us hl => match us, hl with | [_, _, _], _ => rfl
  have F9 := fun_mk (st := s_law_deck) l9 c9 k9
  have b9 := F9.binds (ps := ["_law_script"]) fun _ _ _ _ _ _ us hl => match us, hl with | [_], _ => rfl
  have F10 := fun_mk (st := s_law_draw) l10 c10 k10
  have b10 := F10.binds (ps := ["_law_deck_here", "_law_many"]) fun _ _ _ _ _ _ us hl => match us, hl with | [_, _], _ => rfl
  have F11 := fun_mk (st := s_law_same) l11 c11 k11
  have b11 := F11.binds (ps := ["_law_found", "_law_due"]) fun _ _ _ _ _ _ us hl => match us, hl with | [_, _], _ => rfl
  have F12 := fun_mk (st := s_law_small) l12 c12 k12
  have b12 := F12.binds (ps := ["_law_deck_here", "_law_most", "_law_span"]) fun _ _ _ _ _ _ us hl => match us, hl with | [_, _, _], _ => rfl
  have F13 := fun_mk (st := s_law_moved) l13 c13 k13
  have b13 := F13.binds (ps := ["_law_intervals", "_law_by"]) fun _ _ _ _ _ _ us hl => match us, hl with | [_, _], _ => rfl
  have F14 := fun_mk (st := s_law_error) l14 c14 k14
  have b14 := F14.binds (ps := ["_law_error_here"]) fun _ _ _ _ _ _ us hl => match us, hl with | [_], _ => rfl
  have F15 := fun_mk (st := s_law_shift) l15 c15 k15
  have b15 := F15.binds (ps := ["_law_targets", "_law_by"]) fun _ _ _ _ _ _ us hl => match us, hl with | [_, _], _ => rfl
  have F16 := fun_mk (st := s_law_double) l16 c16 k16
  have b16 := F16.binds (ps := ["_law_targets", "_law_position"]) fun _ _ _ _ _ _ us hl => match us, hl with | [_, _], _ => rfl
  have F17 := fun_mk (st := s_law_join) l17 c17 k17
  have b17 := F17.binds (ps := ["_law_first", "_law_second", "_law_gap"]) fun _ _ _ _ _ _ us hl => match us, hl with | [_, _, _], _ => rfl
  have F18 := fun_mk (st := s_law_in_range) l18 c18 k18
  have b18 := F18.binds (ps := ["_law_intervals"]) fun _ _ _ _ _ _ us hl => match us, hl with | [_], _ => rfl
  have F19 := fun_mk (st := s_law_ends_right) l19 c19 k19
  have b19 := F19.binds (ps := ["_law_deck_here", "_law_targets"]) fun _ _ _ _ _ _ us hl => match us, hl with | [_, _], _ => rfl
  have F20 := fun_mk (st := s_law_joins_right) l20 c20 k20
  have b20 := F20.binds (ps := ["_law_deck_here"]) fun _ _ _ _ _ _ us hl => match us, hl with | [_], _ => rfl
  have F21 := fun_mk (st := s_law) l21 c21 k21
  have b21 := F21.binds (ps := ["_law_script"]) fun _ _ _ _ _ _ us hl => match us, hl with | [_], _ => rfl
  have F22 := fun_mk (st := s_TooMany_init) l22 c22 k22
  have b22 := F22.binds (ps := ["self", "bound"]) fun _ _ _ _ _ _ us hl => match us, hl with | [_, _], _ => rfl
  have T : Tx K mg _ _ _ _ _ _ _ _ _ _ _ _ _ _ _ _ _ _ _ _ _ _ _ _ _ _ _ _ _ _ _ _ _ _ _ _ _ _ _ _ _ _ _ _ _ _ _ _ _ tk0 tk1 := ⟨F1, b1, PySem.W.mg_of X G a1, F2, b2, PySem.W.mg_of X G a2, F3, b3, PySem.W.mg_of X G a3, F4, b4, PySem.W.mg_of X G a4, F5, b5, PySem.W.mg_of X G a5, F6, b6, PySem.W.mg_of X G a6, F7, b7, PySem.W.mg_of X G a7, F8, b8, PySem.W.mg_of X G a8, F9, b9, PySem.W.mg_of X G a9, F10, b10, PySem.W.mg_of X G a10, F11, b11, PySem.W.mg_of X G a11, F12, b12, PySem.W.mg_of X G a12, F13, b13, PySem.W.mg_of X G a13, F14, b14, PySem.W.mg_of X G a14, F15, b15, PySem.W.mg_of X G a15, F16, b16, PySem.W.mg_of X G a16, F17, b17, PySem.W.mg_of X G a17, F18, b18, PySem.W.mg_of X G a18, F19, b19, PySem.W.mg_of X G a19, F20, b20, PySem.W.mg_of X G a20, F21, b21, PySem.W.mg_of X G a21, F22, b22, PySem.W.mg_of X G y0, PySem.W.mg_of X G y1, PySem.W.mg_none_of X G z0, PySem.W.mg_none_of X G z1, PySem.W.mg_none_of X G z2, PySem.W.mg_none_of X G z3, PySem.W.mg_none_of X G z4, PySem.W.mg_none_of X G z5, PySem.W.mg_none_of X G z6, PySem.W.mg_none_of X G z7, PySem.W.mg_none_of X G z8, PySem.W.mg_none_of X G z9, PySem.W.mg_none_of X G z10, PySem.W.mg_none_of X G z11, PySem.W.mg_none_of X G z12, PySem.W.mg_none_of X G z13, PySem.W.mg_none_of X G z14, PySem.W.mg_none_of X G z15, ⟨PySem.W.mg_of X G aX_TooMany, iX_TooMany, tX_TooMany, bX_TooMany⟩, ⟨PySem.W.mg_of X G aX_SpanError, iX_SpanError, tX_SpanError, bX_SpanError⟩, ⟨PySem.W.mg_of X G aX_OutOfRange, iX_OutOfRange, tX_OutOfRange, bX_OutOfRange⟩, ⟨PySem.W.mg_of X G aX_BadText, iX_BadText, tX_BadText, bX_BadText⟩, ⟨PySem.W.mg_of X G aX_TooWide, iX_TooWide, tX_TooWide, bX_TooWide⟩, ⟨⟨⟨nm_TooMany, qn_TooMany, N_TooMany, bs_TooMany, bm_TooMany, sn_TooMany, sb_TooMany, ab_TooMany, co_TooMany, dd_TooMany, m0_TooMany, m1_TooMany, m2_TooMany, m3_TooMany, m5_TooMany, xL_TooMany, rL_TooMany⟩, sX_TooMany, bX_TooMany, tX_TooMany, kX_TooMany⟩, a22, fX_TooMany, nX_TooMany, ⟨gX_TooMany, hX_TooMany, bX_TooMany, dX_TooMany, cX_TooMany, eX_TooMany, uX_TooMany, mX_TooMany⟩⟩, vX_TooMany, wX_TooMany, sX_TooMany_SpanError, sX_TooMany_OutOfRange, sX_TooMany_BadText, sX_TooMany_TooWide, ⟨xX_OutOfRange, kX_OutOfRange, ⟨gX_OutOfRange, hX_OutOfRange, bX_OutOfRange, dX_OutOfRange, cX_OutOfRange, eX_OutOfRange, uX_OutOfRange, mX_OutOfRange⟩⟩, vX_OutOfRange, sX_OutOfRange_SpanError, sX_OutOfRange_TooMany, sX_OutOfRange_BadText, sX_OutOfRange_TooWide⟩
  exact ⟨_, fun s v => .of_eq rfl, fun base _ _ hM => ok_law T⟩
end L9
open PySem PySem.W PyProof.Rows
set_option maxHeartbeats 0 in
theorem PySem.Challenge.cw_fewspans_k47_transform_errors_holds : PySem.Challenge.rw_fewspans_k47_transform_errors.Holds := by
  w_on; o_law; k_head; (case hw => w_witness2)
  k_fill
  refine L9.quiet_walk (l := PySem.Challenge.rw_fewspans_k47_transform_errors) (n := 63) (k := 9) (x := "_law_script") (sp := fun w => L9.sp_law _) (by decide +kernel) rfl (by decide) rfl ⟨rfl, by decide, by decide⟩ (fun w h Y => PySem.W.kIn_of Y) ?F (fun _ _ a ns hl _ hS => ⟨a, ns, rfl, hS, hl, fun _ => rfl⟩)
  case F =>
    intro w mg fa h KX G hmg
    refine' L9.all_mk KX G hmg ?a1 ?l1 ?c1 ?k1 ?a2 ?l2 ?c2 ?k2 ?a3 ?l3 ?c3 ?k3 ?a4 ?l4 ?c4 ?k4 ?a5 ?l5 ?c5 ?k5 ?a6 ?l6 ?c6 ?k6 ?a7 ?l7 ?c7 ?k7 ?a8 ?l8 ?c8 ?k8 ?a9 ?l9 ?c9 ?k9 ?a10 ?l10 ?c10 ?k10 ?a11 ?l11 ?c11 ?k11 ?a12 ?l12 ?c12 ?k12 ?a13 ?l13 ?c13 ?k13 ?a14 ?l14 ?c14 ?k14 ?a15 ?l15 ?c15 ?k15 ?a16 ?l16 ?c16 ?k16 ?a17 ?l17 ?c17 ?k17 ?a18 ?l18 ?c18 ?k18 ?a19 ?l19 ?c19 ?k19 ?a20 ?l20 ?c20 ?k20 ?a21 ?l21 ?c21 ?k21 ?a22 ?i22 ?l22 ?c22 ?k22 ?aX_TooMany ?iX_TooMany ?tX_TooMany ?bX_TooMany ?xL_TooMany ?rL_TooMany ?sX_TooMany ?kX_TooMany ?nX_TooMany ?fX_TooMany ?gX_TooMany ?hX_TooMany ?dX_TooMany ?cX_TooMany ?eX_TooMany ?uX_TooMany ?mX_TooMany ?vX_TooMany ?wX_TooMany ?aX_SpanError ?iX_SpanError ?tX_SpanError ?bX_SpanError ?aX_OutOfRange ?iX_OutOfRange ?tX_OutOfRange ?bX_OutOfRange ?xX_OutOfRange ?kX_OutOfRange ?gX_OutOfRange ?hX_OutOfRange ?dX_OutOfRange ?cX_OutOfRange ?eX_OutOfRange ?uX_OutOfRange ?mX_OutOfRange ?vX_OutOfRange ?aX_BadText ?iX_BadText ?tX_BadText ?bX_BadText ?aX_TooWide ?iX_TooWide ?tX_TooWide ?bX_TooWide ?sX_TooMany_SpanError ?sX_TooMany_OutOfRange ?sX_TooMany_BadText ?sX_TooMany_TooWide ?sX_OutOfRange_SpanError ?sX_OutOfRange_TooMany ?sX_OutOfRange_BadText ?sX_OutOfRange_TooWide ?y0 ?y1 ?z0 ?z1 ?z2 ?z3 ?z4 ?z5 ?z6 ?z7 ?z8 ?z9 ?z10 ?z11 ?z12 ?z13 ?z14 ?z15
    (case aX_TooMany => k_is)
    (case aX_SpanError => k_is)
    (case aX_OutOfRange => k_is)
    (case aX_BadText => k_is)
    (case aX_TooWide => k_is)
    (case a1 => k_is)
    (case l1 => k_is)
    (case c1 => k_is)
    (case k1 => k_is)
    (case a2 => k_is)
    (case l2 => k_is)
    (case c2 => k_is)
    (case k2 => k_is)
    (case a3 => k_is)
    (case l3 => k_is)
    (case c3 => k_is)
    (case k3 => k_is)
    (case a4 => k_is)
    (case l4 => k_is)
    (case c4 => k_is)
    (case k4 => k_is)
    (case a5 => k_is)
    (case l5 => k_is)
    (case c5 => k_is)
    (case k5 => k_is)
    (case a6 => k_is)
    (case l6 => k_is)
    (case c6 => k_is)
    (case k6 => k_is)
    (case a7 => k_is)
    (case l7 => k_is)
    (case c7 => k_is)
    (case k7 => k_is)
    (case a8 => k_is)
    (case l8 => k_is)
    (case c8 => k_is)
    (case k8 => k_is)
    (case a9 => k_is)
    (case l9 => k_is)
    (case c9 => k_is)
    (case k9 => k_is)
    (case a10 => k_is)
    (case l10 => k_is)
    (case c10 => k_is)
    (case k10 => k_is)
    (case a11 => k_is)
    (case l11 => k_is)
    (case c11 => k_is)
    (case k11 => k_is)
    (case a12 => k_is)
    (case l12 => k_is)
    (case c12 => k_is)
    (case k12 => k_is)
    (case a13 => k_is)
    (case l13 => k_is)
    (case c13 => k_is)
    (case k13 => k_is)
    (case a14 => k_is)
    (case l14 => k_is)
    (case c14 => k_is)
    (case k14 => k_is)
    (case a15 => k_is)
    (case l15 => k_is)
    (case c15 => k_is)
    (case k15 => k_is)
    (case a16 => k_is)
    (case l16 => k_is)
    (case c16 => k_is)
    (case k16 => k_is)
    (case a17 => k_is)
    (case l17 => k_is)
    (case c17 => k_is)
    (case k17 => k_is)
    (case a18 => k_is)
    (case l18 => k_is)
    (case c18 => k_is)
    (case k18 => k_is)
    (case a19 => k_is)
    (case l19 => k_is)
    (case c19 => k_is)
    (case k19 => k_is)
    (case a20 => k_is)
    (case l20 => k_is)
    (case c20 => k_is)
    (case k20 => k_is)
    (case a21 => k_is)
    (case l21 => k_is)
    (case c21 => k_is)
    (case k21 => k_is)
    (case a22 => k_is)
    (case i22 => k_is)
    (case l22 => k_is)
    (case c22 => k_is)
    (case k22 => k_is)
    (case iX_TooMany => k_is)
    (case tX_TooMany => k_is)
    (case bX_TooMany => k_is)
    (case xL_TooMany => k_is)
    (case rL_TooMany => rfl)
    (case sX_TooMany => k_is)
    (case kX_TooMany => k_is)
    (case nX_TooMany => k_is)
    (case fX_TooMany => k_is)
    (case gX_TooMany => k_is)
    (case hX_TooMany => k_is)
    (case dX_TooMany => k_is)
    (case cX_TooMany => k_is)
    (case eX_TooMany => k_is)
    (case uX_TooMany => k_is)
    (case mX_TooMany => k_is)
    (case vX_TooMany => k_is)
    (case wX_TooMany => k_is)
    (case iX_SpanError => k_is)
    (case tX_SpanError => k_is)
    (case bX_SpanError => k_is)
    (case iX_OutOfRange => k_is)
    (case tX_OutOfRange => k_is)
    (case bX_OutOfRange => k_is)
    (case xX_OutOfRange => k_exc)
    (case kX_OutOfRange => k_is)
    (case gX_OutOfRange => k_is)
    (case hX_OutOfRange => k_is)
    (case dX_OutOfRange => k_is)
    (case cX_OutOfRange => k_is)
    (case eX_OutOfRange => k_is)
    (case uX_OutOfRange => k_is)
    (case mX_OutOfRange => k_is)
    (case vX_OutOfRange => k_is)
    (case iX_BadText => k_is)
    (case tX_BadText => k_is)
    (case bX_BadText => k_is)
    (case iX_TooWide => k_is)
    (case tX_TooWide => k_is)
    (case bX_TooWide => k_is)
    (case sX_TooMany_SpanError => k_is)
    (case sX_TooMany_OutOfRange => k_is)
    (case sX_TooMany_BadText => k_is)
    (case sX_TooMany_TooWide => k_is)
    (case sX_OutOfRange_SpanError => k_is)
    (case sX_OutOfRange_TooMany => k_is)
    (case sX_OutOfRange_BadText => k_is)
    (case sX_OutOfRange_TooWide => k_is)
    (case y0 => k_is)
    (case y1 => k_is)
    (case z0 => k_is)
    (case z1 => k_is)
    (case z2 => k_is)
    (case z3 => k_is)
    (case z4 => k_is)
    (case z5 => k_is)
    (case z6 => k_is)
    (case z7 => k_is)
    (case z8 => k_is)
    (case z9 => k_is)
    (case z10 => k_is)
    (case z11 => k_is)
    (case z12 => k_is)
    (case z13 => k_is)
    (case z14 => k_is)
    (case z15 => k_is)
