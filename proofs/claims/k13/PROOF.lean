import PyProof.Rows.All
import Wide.All
import OpenK.AllK
import Wide.FinOn
import PySem.Challenge.RW_fewspans_k13_gaps_of_targets
import HandS.ForMost
import HandS.Wide
import HandS.IsInst
import HandS.Conv
import HandS.TupLe
import HandS.Strs
import HandS.SetFor
import HandS.Style
import HandS.TupSets
import HandS.Keys
import PyProof.NeKinds
import HandS.TupAny
import HandS.TupMul
set_option Elab.async false
set_option linter.all false
set_option maxRecDepth 100000
set_option maxHeartbeats 4000000
namespace L9
open PySem PySem.Spec PyProof.Rows L2
def rLenS (K : PySem.W.Frag) : List V → Hp → VK → Prop := fun xs H Q => ∃ p ys, xs = [.ref p] ∧ (SqL K H p ys ∨ SqT K H p ys) ∧ Q (.int (ys.length : Nat)) H
theorem call_lenS {X : Cx} : CallR X (.builtin "len") (rLenS X.K) := call_len_seq
theorem pe_bmK {X : Cx} {K : PySem.W.Frag} {e : Expr} {T : String} {r : V → List V → Hp → VK → Prop} {to : TE} {t : TA} (hK : X.K = K) (h : PE X e (tBM X.K T r to t)) : PE X e (tBM K T r to t) := hK ▸ h

/-! ### () * n : the library has tuples with items -/
theorem tuple_mul0 (l : Addr) (n : Nat) (dd : Option Addr) (sl : Array (Option Value)) (x : Int) (u : Tok) (c0 : (decide (x < -(2 ^ 63)) || decide (x ≥ 2 ^ 63)) = false) :
    Meets (Builtin.«tuple.__mul__» ⟨[.ref l, .int x u], []⟩) (fun _ R s => s.heap.get? l = some { cls := .type "tuple", dict := dd, data := .seq #[] n, slots := sl } ∧ R (.ok (.ret (Value.ref l))) s) :=
  .of_wp fun prog w A R s h => by
    obtain ⟨hp, g, d, tk, os⟩ := s
    obtain ⟨hl, h⟩ := h
    have f1 := AutoSeq1.idx_int
    wp_walk using wpAny_loadPart' hl
    refine wpAny_ite_false (decide_eq_false (by rw [c0]; exact Bool.false_ne_true)) ?_
    wp_walk using wpAny_loadPart' hl
    exact ⟨_, rfl, h⟩
section
variable {X : Cx}
def rRepN (K : PySem.W.Frag) : R2 := fun x y H Q => ∃ l k, x = .ref l ∧ y = .int k ∧ SqT K H l [] ∧ 0 ≤ k ∧ k ≤ 1000 ∧ Q (.ref l) H
theorem op_repN : OpR X (binaryOp .Mult) (rRepN X.K) := by
  intro pins s σ H x y v u Q I rx ry ⟨l, k, ex, ey, hT, k0, k1, q⟩
  subst ex ey
  cases rx
  obtain ⟨t, rfl⟩ := ry
  obtain ⟨its, r, ⟨⟨cl, dd, dt, sl⟩, ho, hc, n, hd⟩, _⟩ := I.tuple hT
  simp only at hc hd
  subst hc hd
  cases r
  have far : (decide (k < -(2 ^ 63)) || decide (k ≥ 2 ^ 63)) = false := by
    rw [decide_eq_false (show ¬ k < -(2 ^ 63) by omega), decide_eq_false (show ¬ k ≥ 2 ^ 63 by omega)]
    rfl
  have isT : Shared.TypeIs s (.ref l) "tuple" := Exists.intro _ (And.intro ho rfl)
  refine wpAny_binaryOp_repeat_ref (T := "tuple") (U := "int") (by decide) isT (fun s' => typeIs_int s' k t) noFill_tuple_mul F.fills_int_mul F.slot_int_rmul repeat_tuple F.slot_int_index.lookup ?_
  refine call_meets F.slot_int_rmul (typeIs_int s k t) F.entry_int_rmul (F.args_int_rmul_2 _ _) (int_rmul_tuple k t l _ n dd sl) (And.intro ho (And.intro rfl (And.intro isT ?_)))
  refine call_meets F.slot_tuple_mul isT F.entry_tuple_mul (F.args_tuple_mul_2 _ _) (tuple_mul0 l n dd sl k t far) (And.intro ho ?_)
  exact ⟨.ref l, H, I, rfl, q⟩
end

/-! ### defs that are run where no text-making of the machine is under way (repr, str of nested data ask for it) -/
abbrev Quiet (A : Around) : Prop := A.guards = some []
structure FnG (P : Program) (w : World) (K : PySem.W.Frag) (mg : Str → Option Value) (base : Heap) (k : Nat) (f : Addr) (fd : FuncData) (ps : List Str) (sp : Sp) : Prop where
  size : ∀ {vs H Q}, sp vs H Q E0 → vs.length = ps.length
  go : ∀ {A outer s H us vs Q}, Room k A → Quiet A → Env0 P w K mg base A outer s H → BindsTo s fd ⟨us, []⟩ (ps.zip us) → Vals vs us → sp vs H Q E0 →
    codeAny (model P w) A (.call (.ref f) ⟨us, []⟩) (CR CX0 outer P w H s Q E0) s
section
variable {P : Program} {w : World} {K : PySem.W.Frag} {mg : Str → Option Value} {base : Heap}
theorem FnG.of {x qual : Str} {st : Stmt} {f : Addr} {fd : FuncData} {N ps : List Str} {k : Nat} {sp : Sp} (F : Fun K x qual st f fd) (S : FnScope N ps (defScope st))
    (size : ∀ {vs H Q}, sp vs H Q E0 → vs.length = ps.length)
    (body : ∀ cdv A outer s H vs Q, Room k (A.deeper (envOfC qual (defScope st) s.heap.objs.size f cdv)) → Quiet (A.deeper (envOfC qual (defScope st) s.heap.objs.size f cdv)) → sp vs H Q E0 →
      ∃ t, PSs (cxOf CX0 P w K mg base N qual (defScope st) f cdv A outer s H E0).nox (defBody st) t ∧ t { nx := fun _ H' => Q .non H', rt := Q } (start N vs) H) :
    FnG P w K mg base (k + 1) f fd ps sp := by
  obtain ⟨oc, od, kV, doc, pm, an, cdv, ct, osl, rfl, look, code⟩ := F.ex
  constructor
  · exact size
  intro A outer s H us vs Q room quiet e0 bind rel want
  have inH : K.In s.heap := e0.mod.kin.keeps fun b o q => (e0.bs b o q).1
  have lim := e0.mod.nolimit.keeps (fun b o q => (e0.bs b o q).1)
  have kinds : ∀ y ∈ ps.zip us, (defScope st).names.lookup y.1 = some .local ∨ ((defScope st).names.lookup y.1 = some .cell ∧ ((cellsFrom (s.heap.objs.size + 1) (defScope st).names []).lookup y.1).isSome = true) := by
    rintro ⟨n, v⟩ hy
    have hn := (List.of_mem_zip hy).1
    cases S.par n hn with
    | inl q => exact Or.inl q
    | inr q => exact Or.inr ⟨q, PySem.W.cellsFrom_some _ _ _ (Or.inl q)⟩
  apply codeAny_call_function room.depth (inH _ _ look) rfl S.co S.gen rfl (PySem.W.codeRec_of inH code)
  apply bind
  apply wpAny_newFunctionEnv_cells S.kind kinds
  intro env he s1 x
  subst he
  refine And.intro (lim.keeps x.toInCall.keep) (codeAny_func ?_)
  obtain ⟨t, ht, hq⟩ := body cdv A outer s H vs Q (room.deeper _) quiet want
  have I := inv_start (CX := CX0) (E := E0) S room.hd e0 (size want) rel x
  apply wpAny_mono (ht.nox.run [] s1 (start N vs) H _ I hq)
  · intro fl s' hs
    cases fl with
    | ret u =>
      obtain ⟨v, σ', H', J, rv, q⟩ := hs
      exact Exists.intro v ⟨H', J.os, J.bare, J.base, J.hok, rv, q⟩
    | next =>
      obtain ⟨σ', H', J, q⟩ := hs
      exact Exists.intro V.non ⟨H', J.os, J.bare, J.base, J.hok, rfl, q⟩
    | brk => exact hs.elim fun _ h => h.elim fun _ h => h.2.elim
    | cont => exact hs.elim fun _ h => h.elim fun _ h => h.2.elim
  · intro e s' hs
    exact hs
end
section
variable {X : Cx} {k : Nat} {f : Addr} {fd : FuncData} {ps : List Str} {sp : Sp} {x : Str} {p pos : Pos} {e : Expr} {es : List Expr} {t : TA}
theorem pe_callG (F : FnG X.prog X.w X.K X.mg X.base k f fd ps sp) (room : Room k X.A) (quiet : Quiet X.A) (hg : Gl X x) (hm : X.mg x = some (.ref f)) (keep : PySem.W.keepIn X.K (.ref f) = true) (bind : Binds X.K fd ps [])
    (args : PA X (e :: es) t) (hdb : (x == ("__debug__" : Str)) = false := by decide) (star : starEach (e :: es) X.env = (false, eval e X.env) :: starEach es X.env := by rfl) (plain : (backTo pos (starEach es X.env)).any (·.1) = false := by rfl) :
    PE X (.Call (.Name x p) (e :: es) [] pos) (tCall sp [] E0 t) := by
  constructor
  intro pins s σ H Q I h
  apply wpAny_Call_Name_kw
  apply ld_glob I hg hm _ hdb
  apply PySem.W.callWith_K (h₀ := X.base) I.ok.mod.kin keep _ star plain
  apply thn (args.run pos pins s σ H _ I h)
  rintro us s1 ⟨vs, H1, I1, rel, q⟩
  refine And.intro I1.kIn ?_
  have q' : sp vs H1 Q E0 := by
    have z := q
    rw [List.append_nil] at z
    exact z
  have same : us.length = ps.length := rel.length.symm.trans (F.size q')
  have b := bind s1 us I1.kIn (by rw [List.append_nil]; exact same)
  rw [List.append_nil] at b
  apply wpAny_call
  apply codeAny_mono (F.go room quiet I1.env0 b rel q')
  intro r s' hr
  match r, hr with
  | .error _, hr => exact hr.elim
  | .ok (.ret u), hr => exact I1.after hr
  | .ok .next, hr => exact False.elim hr
  | .ok .brk, hr => exact False.elim hr
  | .ok .cont, hr => exact False.elim hr
end
/-! ### repr of data at any depth -/
structure Sm (n dp : Nat) (d : PyData) : Prop where
  shows : d.showable = true
  short : d.leavesShort 40 = true
  small : d.weight ≤ n
  flat : d.depth ≤ dp
theorem Sm.mono {n m dp dq : Nat} {d : PyData} (h : Sm n dp d) (h1 : n ≤ m) (h2 : dp ≤ dq) : Sm m dq d := ⟨h.shows, h.short, Nat.le_trans h.small h1, Nat.le_trans h.flat h2⟩
theorem Sm.none : Sm 0 0 .none := ⟨rfl, rfl, Nat.le_refl _, Nat.le_refl _⟩
theorem Sm.bool (b : Bool) : Sm 0 0 (.bool b) := ⟨rfl, rfl, Nat.le_refl _, Nat.le_refl _⟩
theorem log2_small {i : Int} (h : i.natAbs < 10 ^ 30) : i.natAbs.log2 < 100 := PySem.Flt.log2_lt_of (by decide) (Nat.lt_trans h (by decide))
theorem Sm.int {i : Int} (h : i.natAbs < 10 ^ 30) : Sm 100 0 (.int i) := by
  have l := log2_small h
  refine ⟨decide_eq_true (Nat.lt_trans l (by decide)), decide_eq_true ?_, ?_, Nat.le_refl _⟩
  · have q := int_text_length_le10 (a := i) (k := 30) (by decide) h
    show (Str.ofString (toString i)).length ≤ 40
    rw [PySem.ofString_length]
    exact Nat.le_trans q (by decide)
  · show (if i == 0 then 0 else i.natAbs.log2 + 1) ≤ 100
    split <;> omega
theorem smAll {n dp : Nat} : ∀ {ds : List PyData}, (∀ d ∈ ds, Sm n dp d) → PyData.showableAll ds = true ∧ PyData.leavesShortAll 40 ds = true ∧ PyData.weightAll ds ≤ ds.length * (n + 1) ∧ PyData.depthAll ds ≤ dp
  | [], _ => ⟨rfl, rfl, Nat.zero_le _, Nat.zero_le _⟩
  | d :: ds, h => by
    obtain ⟨a, b, c, e⟩ := smAll (ds := ds) fun x hx => h x (List.mem_cons_of_mem _ hx)
    have z := h d List.mem_cons_self
    refine ⟨?_, ?_, ?_, ?_⟩
    · show (d.showable && PyData.showableAll ds) = true
      rw [z.shows, a]
      rfl
    · show (d.leavesShort 40 && PyData.leavesShortAll 40 ds) = true
      rw [z.short, b]
      rfl
    · show d.weight + 1 + PyData.weightAll ds ≤ (ds.length + 1) * (n + 1)
      have := z.small
      rw [Nat.add_mul]
      omega
    · show max d.depth (PyData.depthAll ds) ≤ dp
      exact Nat.max_le.mpr ⟨z.flat, e⟩
theorem Sm.tup {n dp : Nat} {ds : List PyData} (h : ∀ d ∈ ds, Sm n dp d) : Sm (ds.length * (n + 1)) (dp + 1) (.tuple ds) :=
  let ⟨a, b, c, e⟩ := smAll h
  ⟨a, b, c, Nat.succ_le_succ e⟩
theorem Sm.lst {n dp : Nat} {ds : List PyData} (h : ∀ d ∈ ds, Sm n dp d) : Sm (ds.length * (n + 1)) (dp + 1) (.list ds) :=
  let ⟨a, b, c, e⟩ := smAll h
  ⟨a, b, c, Nat.succ_le_succ e⟩
theorem Sm.fits {n dp : Nat} {d : PyData} (h : Sm n dp d) (hn : n ≤ 300000) : d.shown.length ≤ sizeLine := by
  have q := PyData.shown_le 40 (by decide) d h.short
  have := h.small
  have e : sizeLine = 16777216 := by decide
  rw [e]
  omega
/-- data with dicts in it; its lists stand in the heap by themselves -/
def keyD : Key → PyData
  | .inl i => .int i
  | .inr x => .str x
mutual
inductive Dv (K : PySem.W.Frag) (H : Hp) : V → PyData → Prop
  | non : Dv K H .non .none
  | bl (b : Bool) : Dv K H (.bl b) (.bool b)
  | int (i : Int) : Dv K H (.int i) (.int i)
  | str (x : Str) : Dv K H (.str x) (.str x)
  | lst {a : Addr} {xs : List V} {ds : List PyData} : H a = some (.lst xs) → DvAll K H xs ds → Dv K H (.ref a) (.list ds)
  | tup {a : Addr} {xs : List V} {ds : List PyData} : H a = some (.tup xs) → DvAll K H xs ds → Dv K H (.ref a) (.tuple ds)
  | dic {a : Addr} {kvs : List (Key × V)} {ds : List PyData} : H a = some (.dK kvs) → DvAll K H (kvs.map (·.2)) ds → Dv K H (.ref a) (.dict ((kvs.map fun p => keyD p.1).zip ds))
inductive DvAll (K : PySem.W.Frag) (H : Hp) : List V → List PyData → Prop
  | nil : DvAll K H [] []
  | cons {v : V} {vs : List V} {d : PyData} {ds : List PyData} : Dv K H v d → DvAll K H vs ds → DvAll K H (v :: vs) (d :: ds)
end
theorem DvAll.length {K : PySem.W.Frag} {H : Hp} : ∀ {vs : List V} {ds : List PyData}, DvAll K H vs ds → vs.length = ds.length
  | _, _, .nil => rfl
  | _, _, .cons _ h => by rw [List.length_cons, List.length_cons, h.length]
theorem keys_read {P : Program} {w : World} {h : Heap} : ∀ {es : List DictEntry} {vs : List (Key × Value)}, Pairs (mixKind P w) es vs → ReadsAll h (es.map (·.key)) (vs.map fun p => keyD p.1) []
  | _, _, .nil => .nil
  | _, _, .cons (e := e) (kv := kv) hk _ r => by
    have one : Reads h e.key (keyD kv.1) [] := by
      rcases keyIs_shape hk with ⟨i, t, e1, e2⟩ | ⟨x, t, e1, e2⟩
      · rw [e1, e2]
        exact .int i t
      · rw [e1, e2]
        exact .str x t
    exact ReadsAll.cons one (keys_read r)
theorem vals_read {P : Program} {w : World} : ∀ {es : List DictEntry} {vs : List (Key × Value)}, Pairs (mixKind P w) es vs → es.map (·.val) = vs.map (·.2)
  | _, _, .nil => rfl
  | _, _, .cons _ hv r => by rw [List.map_cons, List.map_cons, hv, vals_read r]
theorem kv_vals : ∀ {kvs : List (Key × V)} {vs : List (Key × Value)}, KV kvs vs → Vals (kvs.map (·.2)) (vs.map (·.2)) ∧ (vs.map fun p => keyD p.1) = kvs.map fun p => keyD p.1
  | _, _, .nil => ⟨.nil, rfl⟩
  | _, _, .cons h r => by
    obtain ⟨a, b⟩ := kv_vals r
    refine ⟨.cons h.2 a, ?_⟩
    rw [List.map_cons, List.map_cons, b, h.1]
section
variable {X : Cx} {pins : List (Addr × Obj)} {σ : L2.St} {H : Hp} {s : Shared}
theorem Dv.reads (I : Inv X pins σ H s) (mods : ∃ mm, X.base.Ns sysModules mm) {v : V} {d : PyData} (h : Dv X.K H v d) : ∀ u : Value, RelV v u → ∃ as, Reads s.heap u d as ∧ sysModules ∉ as := by
  have free : H sysModules = none := by
    obtain ⟨mm, o, es, ep, e, _⟩ := mods
    exact (I.bs _ o e).2
  refine Dv.rec (K := X.K) (H := H) (motive_1 := fun v d _ => ∀ u : Value, RelV v u → ∃ as, Reads s.heap u d as ∧ sysModules ∉ as) (motive_2 := fun vs ds _ => ∀ us : List Value, Vals vs us → ∃ as, ReadsAll s.heap us ds as ∧ sysModules ∉ as) ?_ ?_ ?_ ?_ ?_ ?_ ?_ ?_ ?_ h
  · intro u r
    cases r
    exact ⟨_, .none, fun z => nomatch z⟩
  · intro b u r
    cases r
    exact ⟨_, .bool b, fun z => nomatch z⟩
  · intro i u r
    obtain ⟨t, rfl⟩ := r
    exact ⟨_, .int i t, fun z => nomatch z⟩
  · intro x u r
    obtain ⟨t, rfl⟩ := r
    exact ⟨_, .str x t, fun z => nomatch z⟩
  · intro a xs ds e _ ih u r
    cases r
    obtain ⟨_, its, n, rv, q⟩ := I.hok a _ e
    obtain ⟨as, ra, na⟩ := ih _ rv
    refine ⟨a :: as, .list q rfl rfl (by simpa using ra), fun z => ?_⟩
    rcases List.mem_cons.mp z with z | z
    · rw [← z, free] at e
      cases e
    · exact na z
  · intro a xs ds e _ ih u r
    cases r
    obtain ⟨_, its, rv, o, ho, hc, n, hd⟩ := I.hok a _ e
    obtain ⟨as, ra, na⟩ := ih _ rv
    exact ⟨as, .tuple ho hc hd (by simpa using ra), na⟩
  · intro a kvs ds e hall ih u r
    cases r
    obtain ⟨_, hne, vs, kv, o, es, ep, ho, ex, hd, _, prs, _⟩ := I.hok a _ e
    obtain ⟨rv, ek⟩ := kv_vals kv
    obtain ⟨as, ra, na⟩ := ih _ rv
    have len : (kvs.map fun p => keyD p.1).length = ds.length := by
      have z := hall.length
      rw [List.length_map] at z
      rw [List.length_map, z]
    refine ⟨_, .dict ho ex.1 hd (as := []) (bs := as) ?_ ?_, fun z => ?_⟩
    · rw [List.map_fst_zip (by omega), ← ek]
      exact keys_read prs
    · rw [List.map_snd_zip (by omega), vals_read prs]
      exact ra
    · rcases List.mem_cons.mp z with z | z
      · rw [← z] at hne
        exact absurd hne (by decide)
      · exact na z
  · intro us r
    cases r
    exact ⟨_, .nil, fun z => nomatch z⟩
  · intro v vs d ds _ _ ih1 ih2 us r
    cases r with
    | cons r1 r2 =>
      obtain ⟨as, ra, na⟩ := ih1 _ r1
      obtain ⟨bs, rb, nb⟩ := ih2 _ r2
      refine ⟨_, .cons ra rb, fun z => ?_⟩
      rcases List.mem_append.mp z with z | z
      · exact na z
      · exact nb z
theorem call_reprV (mods : ∃ mm, X.base.Ns sysModules mm) (quiet : Quiet X.A) (units : X.A.units + 64 < cLine) : CallR X (.builtin "repr")
    (fun xs H Q => ∃ v d n dp, xs = [v] ∧ Dv X.K H v d ∧ Sm n dp d ∧ n ≤ 300000 ∧ dp ≤ 60 ∧ Q (.str d.shown) H) := by
  intro pins s σ H xs us Q I r h
  obtain ⟨v, d, n, dp, rfl, hd, sm, hn, hdp, q⟩ := h
  obtain ⟨u, rfl, ru⟩ := vals1 r
  have fits := sm.fits hn
  have flat := sm.flat
  obtain ⟨as, rd, off⟩ := Dv.reads I mods hd _ ru
  cases hd with
  | non =>
    cases ru
    exact PySem.P.repr_of_none ⟨.str _, H, I.tok _, ⟨_, rfl⟩, q⟩
  | bl b =>
    cases ru
    exact PySem.P.repr_of_bool ⟨.str _, H, I.tok _, ⟨_, rfl⟩, q⟩
  | int i =>
    obtain ⟨t, rfl⟩ := ru
    exact PySem.P.repr_of_int (of_decide_eq_true sm.shows) ⟨.str _, H, I.tok _, ⟨_, rfl⟩, q⟩
  | str x =>
    obtain ⟨t, rfl⟩ := ru
    exact PySem.P.repr_of_str ⟨.str _, H, I.tok _, ⟨_, rfl⟩, q⟩ fits
  | _ =>
    cases ru
    exact repr_of_reads' rd sm.shows (fun _ => off) quiet (by omega) (fun _ _ e => e) (fun h' t tk more => ⟨.str _, H, I.kept more, ⟨_, rfl⟩, q⟩) fits
end
theorem Dp.noDict {K : PySem.W.Frag} {H : Hp} {v : V} {d : PyData} (h : Dp K H v d) : d.hasDict = false := by
  refine Dp.rec (K := K) (H := H) (motive_1 := fun v d _ => d.hasDict = false) (motive_2 := fun vs ds _ => PyData.hasDictAll ds = false) ?_ ?_ ?_ ?_ ?_ ?_ ?_ ?_ h
  all_goals intros
  all_goals simp_all [PyData.hasDict, PyData.hasDictAll]
section
variable {X : Cx}
theorem call_reprD (quiet : Quiet X.A) (units : X.A.units + 64 < cLine) : CallR X (.builtin "repr")
    (fun xs H Q => ∃ v d n dp, xs = [v] ∧ Dp X.K H v d ∧ Sm n dp d ∧ n ≤ 300000 ∧ dp ≤ 60 ∧ Q (.str d.shown) H) := by
  intro pins s σ H xs us Q I r h
  obtain ⟨v, d, n, dp, rfl, hd, sm, hn, hdp, q⟩ := h
  obtain ⟨u, rfl, ru⟩ := vals1 r
  have fits := sm.fits hn
  have flat := sm.flat
  obtain ⟨as, rd⟩ := Dp.reads I d v u hd ru
  cases hd with
  | non =>
    cases ru
    exact PySem.P.repr_of_none ⟨.str _, H, I.tok _, ⟨_, rfl⟩, q⟩
  | bl b =>
    cases ru
    exact PySem.P.repr_of_bool ⟨.str _, H, I.tok _, ⟨_, rfl⟩, q⟩
  | int i =>
    obtain ⟨t, rfl⟩ := ru
    exact PySem.P.repr_of_int (of_decide_eq_true sm.shows) ⟨.str _, H, I.tok _, ⟨_, rfl⟩, q⟩
  | str x =>
    obtain ⟨t, rfl⟩ := ru
    exact PySem.P.repr_of_str ⟨.str _, H, I.tok _, ⟨_, rfl⟩, q⟩ fits
  | lst h1 h2 =>
    cases ru
    exact repr_of_reads' rd sm.shows (PyData.noDict_hsm (Dp.noDict (Dp.lst h1 h2))) quiet (by omega) (fun _ _ e => e) (fun h' t tk more => ⟨.str _, H, I.kept more, ⟨_, rfl⟩, q⟩) fits
  | tup h1 h2 =>
    cases ru
    exact repr_of_reads' rd sm.shows (PyData.noDict_hsm (Dp.noDict (Dp.tup h1 h2))) quiet (by omega) (fun _ _ e => e) (fun h' t tk more => ⟨.str _, H, I.kept more, ⟨_, rfl⟩, q⟩) fits
end
/-! ### the end of a law row whose def is of the quiet kind -/
theorem quiet_law {P : Program} {w : World} {K : PySem.W.Frag} {mg mb : Str → Option Value} {k : Nat} {fa a : Addr} {fd : FuncData} {x : Str} {sp : Sp} {s₁ : Shared} {vs : List Value} {ns : List Int}
    (inK : K.In s₁.heap) (glob : s₁.heap.Ns mainGlobals mg) (blt : s₁.heap.Ns builtinsNs mb) (bltIs : ∀ y : Str, y ≠ "__name__" → mb y = bootBuiltins y) (lim : s₁.heap.NoLimit) (gens : s₁.gens = #[]) (mods : ∃ mm, s₁.heap.Ns sysModules mm)
    (here : s₁.heap.get? a = some { cls := .type "list", data := .seq vs.toArray }) (whole : IntsAre vs ns) (few : ns.length ≤ sizeLine) (room : Room k callerA)
    (F : ∀ base : Heap, K.In base → base.Ns mainGlobals mg → (∃ mm, base.Ns sysModules mm) → FnG P w K mg base k fa fd [x] sp) (bind : ∀ (s : Shared) (u : Value), BindsTo s fd ⟨[u], []⟩ [(x, u)])
    (want : ∀ H : Hp, Only H → SqL K H a (ns.map V.int) → sp [.ref a] H (fun v _ => v = .bl true) E0) :
    codeAny (model P w) callerA (.call (.ref fa) ⟨[.ref a], []⟩) (fun r s' => r = .ok (.ret (.bool true)) ∧ OldK s₁.heap s'.heap ∧ s'.os = s₁.os ∧ AllBare s'.gens) s₁ := by
  have rel := vals_ints whole
  -- H: the script alone, or nothing
  have main : ∀ H : Hp, Only H → SqL K H a (ns.map V.int) → HOk P w H s₁.heap → (∀ b u, H b = some u → b = a ∧ K.lookup b = none) →
      codeAny (model P w) callerA (.call (.ref fa) ⟨[.ref a], []⟩) (fun r s' => r = .ok (.ret (.bool true)) ∧ OldK s₁.heap s'.heap ∧ s'.os = s₁.os ∧ AllBare s'.gens) s₁ := by
    intro H only sq ok apart
    have untold : ∀ {b o}, s₁.heap.get? b = some o → (b = a → False) → H b = none := by
      intro b o e ne
      cases q : H b with
      | none => rfl
      | some u => exact (ne (apart b u q).1).elim
    have ns1 : ∀ {b m}, s₁.heap.Ns b m → (hidT s₁.heap H).Ns b m := by
      rintro b m ⟨o, es, ep, e, d, r⟩
      refine ⟨o, es, ep, hidT_get e (untold e fun z => ?_), d, r⟩
      subst z
      rw [here] at e
      cases e
      cases d
    have kIn : K.In (hidT s₁.heap H) := by
      intro b o e
      apply hidT_get (inK b o e)
      cases q : H b with
      | none => rfl
      | some u =>
        have z := (apart b u q).2
        rw [e] at z
        cases z
    have lim1 : (hidT s₁.heap H).NoLimit := by
      obtain ⟨mc, h1, h2⟩ := lim
      exact ⟨mc, ns1 h1, h2⟩
    have e0 : Env0 P w K mg (hidT s₁.heap H) callerA [] s₁ H := {
      frames := rfl, mod := ⟨kIn, ns1 glob, ⟨mb, ns1 blt, bltIs⟩, lim1⟩, bs := fun _ _ e => of_hidT e, bsz := Nat.le_of_eq (hidT_size _ _), funs := True.intro, frf := (fun _ hb => nomatch hb), hok := ok, bare := .of_eq gens }
    apply codeAny_mono ((F _ kIn (ns1 glob) (mods.elim fun mm h => ⟨mm, ns1 h⟩)).go (us := [.ref a]) (vs := [.ref a]) room rfl e0 (bind s₁ _) (.cons rfl .nil) (want H only sq))
    intro r s' hr
    match r, hr with
    | .error _, hr => exact hr.elim
    | .ok .next, hr => exact False.elim hr
    | .ok .brk, hr => exact False.elim hr
    | .ok .cont, hr => exact False.elim hr
    | .ok (.ret u), hr =>
      obtain ⟨v, H', os, bare, un, ok', rv, q⟩ := hr
      cases (show v = V.bl true from q)
      cases (show u = Value.bool true from rv)
      refine ⟨rfl, OldK.of_keep ?_, os, bare⟩
      intro b o e
      cases only b with
      | inl n => exact un.keep b o e n (fun z => nomatch z) (fun z => nomatch z)
      | inr n =>
        obtain ⟨ob, xs, z⟩ := n
        have e1 := (ok b _ z).1
        have e2 := (ok' b _ (un.frzs b ob _ z)).1
        rw [e] at e1
        cases e1
        exact e2
  have small : (ns.map V.int).length ≤ sizeLine := by rw [List.length_map]; exact few
  cases known : K.lookup a with
  | some o =>
    have e := inK a o known
    rw [here] at e
    cases e
    have sz : vs.length ≤ sizeLine := by rw [← rel.length]; exact small
    exact main (fun _ => none) (fun _ => .inl rfl) (.inr ⟨_, vs.toArray, _, known, rfl, rfl, rfl, by simpa using sz, by simpa using rel⟩) (fun _ _ z => nomatch z) (fun _ _ z => nomatch z)
  | none =>
    have at1 : ∀ {b u}, (if b = a then some (HO.frz { cls := .type "list", data := .seq vs.toArray } (.lst (ns.map V.int))) else none) = some u → b = a := by
      intro b u z
      by_cases hb : b = a
      · exact hb
      · rw [if_neg hb] at z
        cases z
    refine main (fun b => if b = a then some (.frz { cls := .type "list", data := .seq vs.toArray } (.lst (ns.map V.int))) else none) (fun b => ?_) (.inl (.inr ⟨{ cls := .type "list", data := .seq vs.toArray }, if_pos rfl⟩)) (fun b u z => ?_) (fun b u z => ?_)
    · by_cases hb : b = a
      · exact .inr ⟨_, _, if_pos hb⟩
      · exact .inl (if_neg hb)
    · have hb := at1 z
      subst hb
      have z2 := (if_pos rfl).symm.trans z
      cases z2
      exact ⟨here, small, vs, _, rel, here⟩
    · have hb := at1 z
      subst hb
      exact ⟨rfl, known⟩
theorem quiet_walk {l : PySem.W.OpenLaw} {n k : Nat} {q : Program} {loose : List Str} {XP : (Str → Option Value) → Heap → Prop} {YP : World → Heap → Prop} {d : DefRec} {K : Params → PySem.W.Frag} {sp : World → Sp} {x : Str}
    (noImport : importsNone q = true) (most : l.most = some n) (n2 : n ≤ sizeLine) (defaults : d.params.defaults = []) (room : Room k callerA) (hY : ∀ (w : World) (h : Heap), YP w h → (K w.params).In h)
    (F : ∀ (w : World) (mg : Str → Option Value) (fa : Addr) (h : Heap), (K w.params).In h → h.Ns mainGlobals mg → mg d.name = some (.ref fa) →
      ∃ fd : FuncData, (∀ (s : Shared) (u : Value), BindsTo s fd ⟨[u], []⟩ [(x, u)]) ∧ ∀ base : Heap, (K w.params).In base → base.Ns mainGlobals mg → (∃ mm, base.Ns sysModules mm) → FnG l.prog w (K w.params) mg base k fa fd [x] (sp w))
    (want : ∀ (w : World) (H : Hp) (a : Addr) (ns : List Int), ns.length ≤ n → Only H → SqL (K w.params) H a (ns.map V.int) → sp w [.ref a] H (fun v _ => v = .bl true) E0) :
    PySem.W.WalkO q loose XP YP l.row.toRowW d [] (fun f vs => PySem.call f vs) := by
  apply Att.attach_call most defaults
  intro w s₀ s₁ mg mb fa o pm cd doc a vs ns G Y ho hd hcd hmg hobj hints hlen hg
  obtain ⟨fd, hb, hF⟩ := F w mg fa _ (hY w _ Y) G.T.g hmg
  exact quiet_law (hY w _ Y) G.T.g G.T.b G.T.builtins G.T.nolimit hg ((G.T.seer noImport).mods.elim fun mm h => ⟨mm, h.1⟩) hobj hints (Nat.le_trans hlen n2) room hF hb fun H o1 s1 => want w H a ns hlen o1 s1

/-! ### a op1 b op2 c op3 .. : chains of any length -/
section
variable {X : Cx}
structure PCh (X : Cx) (ops : List CmpOp) (es : List Expr) (t : V → TE) : Prop where
  run : ∀ (pos : Pos) (pins : List (Addr × Obj)) (s : Shared) (σ : L2.St) (H : Hp) (Q : VK) (x : V) (v : Value), Inv X pins σ H s → RelV x v → t x σ H Q → wpAny (model X.prog X.w) X.A (compareChain pos v ops (evalEach es X.env)) (EP X pins σ Q) X.xe s
structure PChT (X : Cx) (ops : List CmpOp) (es : List Expr) (t : V → TE) : Prop where
  run : ∀ (pos : Pos) (pins : List (Addr × Obj)) (s : Shared) (σ : L2.St) (H : Hp) (Q : Bool → Hp → Prop) (x : V) (v : Value), Inv X pins σ H s → RelV x v → (t x σ H fun y H' => ∃ k, y = .bl k ∧ Q k H') → wpAny (model X.prog X.w) X.A (testChain pos v ops (evalEach es X.env)) (TP X pins σ Q) X.xe s
def tLast (r : R2) (tb : TE) : V → TE := fun x σ H Q => tb σ H fun y H2 => r x y H2 Q
def tLink (r : R2) (tb : TE) (rest : V → TE) : V → TE := fun x σ H Q => tb σ H fun y H2 => r x y H2 fun z H3 => ∃ k, z = .bl k ∧ (if k = true then rest y σ H3 Q else Q (.bl false) H3)
def tCh (ta : TE) (rest : V → TE) : TE := fun σ H Q => ta σ H fun x H1 => rest x σ H1 Q
theorem pch_last {op : CmpOp} {r : R2} {b : Expr} {tb : TE} (ho : OpR X (compareOp op) r) (hb : PE X b tb) : PCh X [op] [b] (tLast r tb) :=
  ⟨fun pos pins s σ H Q x v I rx h => chain_last (thn (hb.run pins s σ H _ I h) fun u s2 ⟨y, H2, I2, r2, q2⟩ => ho pins s2 σ H2 x y v u Q I2 rx r2 q2)⟩
theorem pch_link {op op' : CmpOp} {ops : List CmpOp} {r : R2} {b b' : Expr} {bs : List Expr} {tb : TE} {rest : V → TE} (ho : OpR X (compareOp op) r) (hb : PE X b tb) (hr : PCh X (op' :: ops) (b' :: bs) rest) : PCh X (op :: op' :: ops) (b :: b' :: bs) (tLink r tb rest) := by
  refine ⟨fun pos pins s σ H Q x v I rx h => ?_⟩
  refine chain_link (thn (hb.run pins s σ H _ I h) fun u s2 ⟨y, H2, I2, r2, q2⟩ => thn (ho pins s2 σ H2 x y v u _ I2 rx r2 q2) fun d s3 ⟨z, H3, I3, r3, k, e, q3⟩ => ?_)
  subst e
  cases r3
  refine wpAny_truthy_bool ?_
  cases k with
  | false => exact ite_ff ⟨.bl false, H3, I3, rfl, q3⟩
  | true => exact ite_tt (hr.run pos pins s3 σ H3 Q y u I3 r2 q3)
theorem pe_chN {op op' : CmpOp} {ops : List CmpOp} {a b b' : Expr} {bs : List Expr} {pos : Pos} {ta : TE} {rest : V → TE} (ha : PE X a ta) (hr : PCh X (op :: op' :: ops) (b :: b' :: bs) rest)
    (hm : lastMarks (op :: op' :: ops) (b :: b' :: bs) = false := by with_unfolding_all rfl) : PE X (.Compare a (op :: op' :: ops) (b :: b' :: bs) pos) (tCh ta rest) :=
  ⟨fun pins s σ H Q I h => Compare_chain (thn (ha.run pins s σ H _ I h) fun v s1 ⟨x, H1, I1, r1, q1⟩ => hr.run pos pins s1 σ H1 Q x v I1 r1 q1) hm⟩
theorem pchT_last {op : CmpOp} {r : R2} {b : Expr} {tb : TE} (ho : OpR X (compareOp op) r) (hb : PE X b tb) : PChT X [op] [b] (tLast r tb) := by
  refine ⟨fun pos pins s σ H Q x v I rx h => ?_⟩
  refine test_last (thn (hb.run pins s σ H _ I h) fun u s2 ⟨y, H2, I2, r2, q2⟩ => thn (ho pins s2 σ H2 x y v u _ I2 rx r2 q2) fun d s3 ⟨z, H3, I3, r3, k, e, q3⟩ => ?_)
  subst e
  cases r3
  exact wpAny_truthy_bool ⟨H3, I3, q3⟩
theorem pchT_link {op op' : CmpOp} {ops : List CmpOp} {r : R2} {b b' : Expr} {bs : List Expr} {tb : TE} {rest : V → TE} (ho : OpR X (compareOp op) r) (hb : PE X b tb) (hr : PChT X (op' :: ops) (b' :: bs) rest) : PChT X (op :: op' :: ops) (b :: b' :: bs) (tLink r tb rest) := by
  refine ⟨fun pos pins s σ H Q x v I rx h => ?_⟩
  refine test_link (thn (hb.run pins s σ H _ I h) fun u s2 ⟨y, H2, I2, r2, q2⟩ => thn (ho pins s2 σ H2 x y v u _ I2 rx r2 q2) fun d s3 ⟨z, H3, I3, r3, k, e, q3⟩ => ?_)
  subst e
  cases r3
  refine wpAny_truthy_bool ?_
  cases k with
  | false =>
    obtain ⟨k', e', q'⟩ := q3
    cases e'
    exact ite_ff ⟨H3, I3, q'⟩
  | true => exact ite_tt (hr.run pos pins s3 σ H3 Q y u I3 r2 q3)
theorem pt_chN {op op' : CmpOp} {ops : List CmpOp} {a b b' : Expr} {bs : List Expr} {pos : Pos} {ta : TE} {rest : V → TE} (ha : PE X a ta) (hr : PChT X (op :: op' :: ops) (b :: b' :: bs) rest)
    (hm : lastMarks (op :: op' :: ops) (b :: b' :: bs) = false := by with_unfolding_all rfl) : PT X (.Compare a (op :: op' :: ops) (b :: b' :: bs) pos) (tTest (tCh ta rest)) :=
  ⟨fun pins s σ H Q I h => isTrue_chain (thn (ha.run pins s σ H _ I h) fun v s1 ⟨x, H1, I1, r1, q1⟩ => hr.run pos pins s1 σ H1 Q x v I1 r1 q1) hm⟩
end

/-! ### t[::-1] of a tuple; xs == [], xs != [] of a list that may hold anything -/
section
open HT
variable {prog : Program} {w : World} {A : Around} {E : Value → Shared → Prop} {s : Shared}
theorem adjust_rev (n : Nat) : Builtin.Slice.sliceAdjust none none (-1) (n : Int) = ((n : Int) - 1, -1) := by
  unfold Builtin.Slice.sliceAdjust
  have h1 : (-1 : Int) < 0 := by decide
  simp only [h1, if_true]
theorem places_rev (n : Nat) : Builtin.Slice.slicePlaces ((n : Int) - 1) (-1) (-1) = n := by
  unfold Builtin.Slice.slicePlaces
  have h1 : ¬ ((-1 : Int) > 0) := by decide
  simp only [h1, if_false]
  have h2 : (-(-1) : Int) = 1 := by decide
  rw [h2, Int.ediv_one]
  split <;> omega
theorem sliceApplied_rev {sl : Addr} {vl vu vs : Value} {n : Nat} {Q : Int × Int × Nat → Shared → Prop} (hs : s.heap.IsSliceOf sl vl vu vs) (pl : IsPart vl none) (pu : IsPart vu none) (pt : IsPart vs (some (-1)))
    (h : Q ((n : Int) - 1, -1, n) s) : wpAny (model prog w) A (Builtin.Slice.sliceApplied (.ref sl) (pure (n : Int))) Q E s := by
  obtain ⟨os, hos, hcs, hds⟩ := id hs
  unfold Builtin.Slice.sliceApplied Builtin.Slice.sliceFields
  refine wpAny_bind (wpAny_bind (wpAny_field hos hds (x := vl) rfl (wpAny_bind (wpAny_field hos hds (x := vu) rfl (wpAny_bind (wpAny_field hos hds (x := vs) rfl (wpAny_pure ?_)))))))
  refine wpAny_bind (slicePart_ pt ?_)
  show wpAny _ _ (if ((-1 : Int) == 0) = true then _ else _) _ _ s
  rw [if_neg (by decide)]
  refine wpAny_bind (slicePart_ pl (wpAny_bind (slicePart_ pu (wpAny_bind (wpAny_pure ?_)))))
  show wpAny _ _ (match Builtin.Slice.sliceAdjust none none (-1) (n : Int) with | (lo, hi) => pure (lo, (-1 : Int), Builtin.Slice.slicePlaces lo hi (-1))) _ _ s
  rw [adjust_rev]
  show wpAny _ _ (pure ((n : Int) - 1, (-1 : Int), Builtin.Slice.slicePlaces ((n : Int) - 1) (-1) (-1))) _ _ s
  rw [places_rev]
  exact wpAny_pure h
theorem pick_rev (xs : Array Value) : ((List.range xs.size).filterMap fun (k : Nat) => xs[((xs.size : Int) - 1 + (k : Int) * (-1)).toNat]?) = xs.toList.reverse := by
  have e : ∀ m : Nat, m ≤ xs.size → ((List.range m).filterMap fun (k : Nat) => xs[((xs.size : Int) - 1 + (k : Int) * (-1)).toNat]?) = xs.toList.reverse.take m := by
    intro m
    induction m with
    | zero => intro _; rfl
    | succ m ih =>
      intro hm
      rw [List.range_succ, List.filterMap_append, ih (by omega), List.take_add_one]
      congr 1
      have e1 : ((xs.size : Int) - 1 + (m : Int) * (-1)).toNat = xs.size - 1 - m := by omega
      have e2 : xs.toList.reverse[m]? = xs[xs.size - 1 - m]? := by
        rw [List.getElem?_reverse (by rw [Array.length_toList]; omega), Array.length_toList, Array.getElem?_toList]
      rw [e2]
      have lt : xs.size - 1 - m < xs.size := by omega
      simp only [List.filterMap_cons, List.filterMap_nil, e1]
      rw [Array.getElem?_eq_getElem lt]
      rfl
  rw [e _ (Nat.le_refl _), List.take_of_length_le (by rw [List.length_reverse, Array.length_toList]; exact Nat.le_refl _)]
theorem getItem_tuple_rev {t sl : Addr} {items : Array Value} {vl vu vs : Value} {Q : Value → Shared → Prop} (ht : IsTup s.heap t items) (hs : s.heap.IsSliceOf sl vl vu vs) (pl : IsPart vl none) (pu : IsPart vu none) (pt : IsPart vs (some (-1)))
    (h : Q (.ref s.heap.objs.size) { s with heap := s.heap.push { cls := .type "tuple", data := .seq items.toList.reverse.toArray } })
    (hsz : items.size ≤ sizeLine) : wpAny (model prog w) A (getItem (.ref t) (.ref sl)) Q E s := by
  have htake : sizeOk (.seq items.toList.reverse.toArray) := by
    show items.toList.reverse.toArray.size ≤ sizeLine
    rw [List.size_toArray, List.length_reverse, Array.length_toList]
    omega
  obtain ⟨os, hos, hcs, hds⟩ := id hs
  have hTs : s.TypeIs (.ref sl) "slice" := ⟨os, hos, hcs⟩
  unfold getItem
  try with_reducible refine wpAny_holding ?_
  first | refine wpAny_bind (wpAny_pure ?_) | skip
  refine wpAny_bind (wpAny_sequenceKey ht.typeIs (by decide) ?_)
  refine wpAny_bind (wpAny_callSpecial?_slot (name := Str.ofString "__getitem__") ht.typeIs PyProof.Rows.slot_tuple_getitem
    (wpAny_call_entry PyProof.Rows.slot_tuple_getitem ht.typeIs entry_tuple_getitem ?_ (args_tuple_getitem _ _)))
  show wpAny _ _ (Builtin.Tuple.tupleItemsOf (.ref t) >>= _) _ _ s
  refine wpAny_bind (tupleItemsOf_ ht ?_)
  refine wpAny_bind (wpAny_typeOf hTs ?_)
  rw [if_pos (by decide)]
  refine wpAny_bind (sliceApplied_rev hs pl pu pt ?_)
  have hno : ¬ ((((items.size : Int) - 1) == 0 && (-1 : Int) == 1 && items.size == items.size) = true) := by
    intro q
    rw [Bool.and_eq_true, Bool.and_eq_true] at q
    exact absurd q.1.2 (by decide)
  show wpAny _ _ (if (((items.size : Int) - 1) == 0 && (-1 : Int) == 1 && items.size == items.size) = true then _ else _) _ _ s
  rw [if_neg hno, pick_rev]
  first
    | exact wpAny_bind (m := Builtin.Tuple.tupleExact _) (wpAny_newObj_type (wpAny_pure ⟨_, rfl, wpAny_pure h⟩) htake)
    | exact wpAny_bind (m := Builtin.Tuple.tupleExact _) (wpAny_newObj_type (wpAny_bind (wpAny_pure (wpAny_pure ⟨_, rfl, wpAny_pure h⟩))) htake)
    | exact wpAny_bind (wpAny_bind (m := Builtin.Tuple.tupleExact _) (wpAny_newObj_type (wpAny_pure (wpAny_pure ⟨_, rfl, wpAny_pure h⟩)) htake))
    | exact wpAny_bind (wpAny_bind (m := Builtin.Tuple.tupleExact _) (wpAny_newObj_type (wpAny_pure ⟨_, rfl, wpAny_pure h⟩) htake))
end
section
variable {X : Cx}
def tRevT (K : PySem.W.Frag) (te : TE) : TE := fun σ H Q => te σ H fun x H1 => ∃ a xs, x = .ref a ∧ SqT K H1 a xs ∧ ∀ p, H1 p = none → Q (.ref p) (upd H1 p (.tup xs.reverse))
theorem pe_revT {e : Expr} {te : TE} {k : Nat} {p1 p2 p3 pos : Pos} (he : PE X e te) : PE X (.Subscript e (.Slice none none (some (.UnaryOp .USub (.Constant (.int 1) k p1) p2)) p3) pos) (tRevT X.K te) := by
  refine ⟨fun pins s σ H Q I h => ?_⟩
  refine Subscript_ (thn (he.run pins s σ H _ I h) fun v s1 ⟨x, H1, I1, r1, q1⟩ => ?_)
  obtain ⟨a, xs, ex, hx, q⟩ := q1
  subst ex
  cases r1
  have hst : PO X (some (.UnaryOp .USub (.Constant (.int 1) k p1) p2)) (tPart (tUn (rU fun i => .int (-i)) (tC (.int 1)))) := po_some (pe_un un_neg pe_int)
  refine wpAny_Slice (thn (po_none.run pins s1 σ H1 (fun o H2 => o = none ∧ H2 = H1) I1 ⟨rfl, rfl⟩) fun vl s2 ⟨l, H2, I2, pl, el, e2⟩ => ?_)
  subst el e2
  refine thn (po_none.run pins s2 σ H2 (fun o H3 => o = none ∧ H3 = H2) I2 ⟨rfl, rfl⟩) fun vu s3 ⟨u, H3, I3, pu, eu, e3⟩ => ?_
  subst eu e3
  refine thn (hst.run pins s3 σ H3 (fun o H4 => o = some (-1) ∧ H4 = H3) I3 ⟨1, rfl, -1, rfl, rfl, rfl⟩) fun vs s4 ⟨o, H4, I4, ps, eo, e4⟩ => ?_
  subst eo e4
  have I5 : Inv X pins σ H4 { s4 with heap := s4.heap.push { cls := .type "slice", data := .fields #[vl, vu, vs] } } := I4.kept (t' := s4.toks) fun b ob q => Heap.get?_push_of_some _ q
  obtain ⟨its, r, ht, hz⟩ := I5.tuple hx
  have hlen := r.length
  show wpAny (model X.prog X.w) X.A (subscriptTail e (.Slice none none (some (.UnaryOp .USub (.Constant (.int 1) k p1) p2)) p3) (.ref a) (.ref s4.heap.objs.size)) (EP X pins σ Q) X.xe { s4 with heap := s4.heap.push { cls := .type "slice", data := .fields #[vl, vu, vs] } }
  refine tail_any (ops := [.ref a, .ref s4.heap.objs.size]) ht.typeIs (PyProof.Rows.slot_tuple_getitem.lookup) ?_ (by with_unfolding_all rfl)
  refine getItem_tuple_rev ht (Heap.IsSliceOf.new _ vl vu vs) pl pu ps ?_ (by rw [List.size_toArray]; omega)
  refine ⟨.ref _, _, I5.laid (t' := s4.toks) (o := .tup xs.reverse) (fun b ob q => Heap.get?_push_of_some _ q) (Nat.le_refl _) ?_, rfl, q _ (I5.hok.fresh (Nat.le_refl _))⟩
  exact ⟨by rw [List.length_reverse]; exact hz, _, r.reverse, IsTup.new _ _⟩
def rEqL (K : PySem.W.Frag) : R2 := fun x y H Q => ∃ (a b : Addr) (xs : List V), x = .ref a ∧ y = .ref b ∧ SqL K H a xs ∧ SqL K H b [] ∧ Q (.bl xs.isEmpty) H
def rNeL (K : PySem.W.Frag) : R2 := fun x y H Q => ∃ (a b : Addr) (xs : List V), x = .ref a ∧ y = .ref b ∧ SqL K H a xs ∧ SqL K H b [] ∧ Q (.bl (!xs.isEmpty)) H
theorem op_eqL (units : X.A.units < cLine) : OpR X (compareOp .Eq) (rEqL X.K) := by
  intro pins s σ H x y v u Q I rx ry h
  obtain ⟨a, b, xs, rfl, rfl, ha, hb, q⟩ := h
  cases rx
  cases ry
  obtain ⟨its, r1, p1, _⟩ := I.list ha
  obtain ⟨its2, r2, p2, _⟩ := I.list hb
  cases r2
  cases r1 with
  | nil =>
    exact SeqAt.eq_listAt (e := fun _ => true) p1.isList p2.isList rfl units (fun j h1 h2 => absurd h2 (Nat.not_lt_zero j)) ⟨.bl true, H, I, rfl, q⟩
  | cons r t =>
    exact SeqAt.eq_list_lengthsAt p1.isList p2.isList (by simp) units ⟨.bl false, H, I, rfl, q⟩
theorem op_neL (units : X.A.units < cLine) : OpR X (compareOp .NotEq) (rNeL X.K) := by
  intro pins s σ H x y v u Q I rx ry h
  obtain ⟨a, b, xs, rfl, rfl, ha, hb, q⟩ := h
  cases rx
  cases ry
  obtain ⟨its, r1, p1, _⟩ := I.list ha
  obtain ⟨its2, r2, p2, _⟩ := I.list hb
  cases r2
  cases r1 with
  | nil =>
    exact SeqAt.RcNeAt.lists (e := fun _ => true) p1.isList p2.isList rfl units (fun j h1 h2 => absurd h2 (Nat.not_lt_zero j)) X.prog X.w X.xe (EP X pins σ Q) ⟨.bl false, H, I, rfl, q⟩
  | cons r t =>
    exact SeqAt.RcNeAt.lists_lengths p1.isList p2.isList (by simp) units X.prog X.w X.xe (EP X pins σ Q) ⟨.bl true, H, I, rfl, q⟩
end

def topS (i : Nat) : Stmt := PySem.Challenge.pw_fewspans_k13_gaps_of_targets.main.body.getD i (.Pass ⟨0, 0, 0, 0⟩)
abbrev s_contains : Stmt := topS 1
abbrev N_contains : List Str := ["outer", "inner"]
theorem sc_contains : FnScope N_contains ["outer", "inner"] (defScope s_contains) := ⟨rfl, rfl, rfl, by decide +kernel, rfl, by decide +kernel, by decide +kernel⟩
abbrev s_pieces_inside : Stmt := topS 3
abbrev N_pieces_inside : List Str := ["pieces", "target", "piece"]
theorem sc_pieces_inside : FnScope N_pieces_inside ["pieces", "target"] (defScope s_pieces_inside) := ⟨rfl, rfl, rfl, by decide +kernel, rfl, by decide +kernel, by decide +kernel⟩
abbrev s_first_gap : Stmt := topS 4
abbrev N_first_gap : List Str := ["pieces", "target", "position", "last", "low", "high"]
theorem sc_first_gap : FnScope N_first_gap ["pieces", "target"] (defScope s_first_gap) := ⟨rfl, rfl, rfl, by decide +kernel, rfl, by decide +kernel, by decide +kernel⟩
abbrev s_generates : Stmt := topS 5
abbrev N_generates : List Str := ["pieces", "target"]
theorem sc_generates : FnScope N_generates ["pieces", "target"] (defScope s_generates) := ⟨rfl, rfl, rfl, by decide +kernel, rfl, by decide +kernel, by decide +kernel⟩
abbrev s_law_deck : Stmt := topS 7
abbrev N_law_deck : List Str := ["_law_script", "_law_cell"]
theorem sc_law_deck : FnScope N_law_deck ["_law_script"] (defScope s_law_deck) := ⟨rfl, rfl, rfl, by decide +kernel, rfl, by decide +kernel, by decide +kernel⟩
abbrev s_law_draw : Stmt := topS 8
abbrev N_law_draw : List Str := ["_law_deck_here", "_law_bound", "_law_place", "_law_cell", "_law_mixed"]
theorem sc_law_draw : FnScope N_law_draw ["_law_deck_here", "_law_bound"] (defScope s_law_draw) := ⟨rfl, rfl, rfl, by decide +kernel, rfl, by decide +kernel, by decide +kernel⟩
abbrev s_law_line : Stmt := topS 9
abbrev N_law_line : List Str := ["_law_deck_here", "_law_count", "_law_line_here", "_law_k"]
theorem sc_law_line : FnScope N_law_line ["_law_deck_here", "_law_count"] (defScope s_law_line) := ⟨rfl, rfl, rfl, by decide +kernel, rfl, by decide +kernel, by decide +kernel⟩
abbrev s_law_interval : Stmt := topS 10
abbrev N_law_interval : List Str := ["_law_deck_here", "_law_line_here", "_law_first", "_law_second"]
theorem sc_law_interval : FnScope N_law_interval ["_law_deck_here", "_law_line_here"] (defScope s_law_interval) := ⟨rfl, rfl, rfl, by decide +kernel, rfl, by decide +kernel, by decide +kernel⟩
abbrev s_law_intervals : Stmt := topS 11
abbrev N_law_intervals : List Str := ["_law_deck_here", "_law_line_here", "_law_most", "_law_items", "_law_k"]
theorem sc_law_intervals : FnScope N_law_intervals ["_law_deck_here", "_law_line_here", "_law_most"] (defScope s_law_intervals) := ⟨rfl, rfl, rfl, by decide +kernel, rfl, by decide +kernel, by decide +kernel⟩
abbrev s_law_gap : Stmt := topS 12
abbrev N_law_gap : List Str := ["_law_pieces", "_law_target", "_law_position", "_law_ends", "_law_start", "_law_end"]
theorem sc_law_gap : FnScope N_law_gap ["_law_pieces", "_law_target"] (defScope s_law_gap) := ⟨rfl, rfl, rfl, by decide +kernel, rfl, by decide +kernel, by decide +kernel⟩
abbrev s_law_shuffled : Stmt := topS 13
abbrev N_law_shuffled : List Str := ["_law_deck_here", "_law_pieces", "_law_left", "_law_k"]
theorem sc_law_shuffled : FnScope N_law_shuffled ["_law_deck_here", "_law_pieces"] (defScope s_law_shuffled) := ⟨rfl, rfl, rfl, by decide +kernel, rfl, by decide +kernel, by decide +kernel⟩
abbrev s_law_due : Stmt := topS 14
abbrev N_law_due : List Str := ["_law_pieces", "_law_target", "_law_inside", "_law_piece", "_law_position"]
theorem sc_law_due : FnScope N_law_due ["_law_pieces", "_law_target"] (defScope s_law_due) := ⟨rfl, rfl, rfl, by decide +kernel, rfl, by decide +kernel, by decide +kernel⟩
abbrev s_law : Stmt := topS 15
abbrev N_law : List Str := ["_law_script", "_law_deck_here", "_law_turn", "_law_line_here", "_law_pieces", "_law_k", "_law_target", "_law_mixed", "_law_some", "_law_shown", "_law_due_here"]
theorem sc_law : FnScope N_law ["_law_script"] (defScope s_law) := ⟨rfl, rfl, rfl, by decide +kernel, rfl, by decide +kernel, by decide +kernel⟩
/-! ### the deck and its draws -/
structure Dk (H : Hp) (d c : Addr) (n : Int) : Prop where
  top : H d = some (.lst [.ref c, .int n])
  cells : ∃ xs : List Int, H c = some (.lst (xs.map V.int)) ∧ xs.length ≤ 63 ∧ ∀ x ∈ xs, 0 ≤ x
theorem Dk.ne {H : Hp} {d c : Addr} {n : Int} (h : Dk H d c n) : c ≠ d := by
  obtain ⟨xs, e, _⟩ := h.cells
  intro z
  subst z
  have q := e.symm.trans h.top
  cases xs with
  | nil => cases q
  | cons x r => cases q
/-- nothing but the deck has changed -/
def Kp (d c : Addr) (H H' : Hp) : Prop := ∀ b o, b ≠ d → b ≠ c → H b = some o → H' b = some o
theorem Kp.trans {d c : Addr} {H H1 H2 : Hp} (h1 : Kp d c H H1) (h2 : Kp d c H1 H2) : Kp d c H H2 := fun b o n1 n2 e => h2 b o n1 n2 (h1 b o n1 n2 e)
theorem Kp.same {d c : Addr} {H H1 : Hp} (h : Same H H1) : Kp d c H H1 := fun b o _ _ e => h b o e
theorem Kp.none {d c : Addr} {H H' : Hp} (k : Kp d c H H') {n m : Int} (h : Dk H d c n) (h' : Dk H' d c m) {t : Addr} (e : H' t = none) : H t = none := by
  by_cases e1 : t = d
  · rw [e1, h'.top] at e
    cases e
  · by_cases e2 : t = c
    · obtain ⟨xs, z, _⟩ := h'.cells
      rw [e2, z] at e
      cases e
    · cases q : H t with
      | none => rfl
      | some o =>
        rw [k t o e1 e2 q] at e
        cases e
theorem Dk.kept {H H' : Hp} {d c : Addr} {n : Int} (h : Dk H d c n) (s : Same H H') : Dk H' d c n :=
  let ⟨xs, e, a⟩ := h.cells
  ⟨s _ _ h.top, xs, s _ _ e, a⟩
theorem Dk.eq {H : Hp} {d c : Addr} {n m : Int} (h : Dk H d c n) (e : n = m) : Dk H d c m := e ▸ h
def sp_law_deck (K : PySem.W.Frag) : Sp := fun vs H Q _ => ∃ (a : Addr) (ns : List Int), vs = [.ref a] ∧ SqL K H a (ns.map V.int) ∧ ns.length ≤ 63 ∧
  ∀ H' d c, Same H H' → H d = none → H c = none → Dk H' d c 0 → Q (.ref d) H'
def sp_law_draw : Sp := fun vs H Q _ => ∃ (d c : Addr) (n lim : Int), vs = [.ref d, .int lim] ∧ Dk H d c n ∧ 0 ≤ n ∧ n < 1000000 ∧ 0 < lim ∧ lim < 2 ^ 63 ∧
  ∀ H' r, Kp d c H H' → Dk H' d c (n + 1) → 0 ≤ r → r < lim → Q (.int r) H'
theorem same_new {H : Hp} {p : Addr} {o : HO} (h : H p = none) : Same H (upd H p o) := fun b x e => by
  rw [upd_ne (ne_of_none e h)]
  exact e
theorem cutTo (xs : List V) (j : Nat) : cutV xs none (some (j : Int)) = xs.take j := by
  unfold cutV
  rw [HT.sIx_none, show HT.sIx xs.length xs.length (some (j : Int)) = min j xs.length from HT.sIx_nat xs.length xs.length j]
  rw [Nat.sub_zero, List.drop_zero]
  rcases Nat.le_total j xs.length with h | h
  · rw [Nat.min_eq_left h]
  · rw [Nat.min_eq_right h, List.take_length, List.take_of_length_le h]
section
structure Tx (K : PySem.W.Frag) (mg : Str → Option Value) (f_contains f_pieces_inside f_first_gap f_generates f_law_deck f_law_draw f_law_line f_law_interval f_law_intervals f_law_gap f_law_shuffled f_law_due f_law : Addr) (d_contains d_pieces_inside d_first_gap d_generates d_law_deck d_law_draw d_law_line d_law_interval d_law_intervals d_law_gap d_law_shuffled d_law_due d_law : FuncData) : Prop where
  F_contains : Fun K "contains" "contains" s_contains f_contains d_contains
  b_contains : Binds K d_contains ["outer", "inner"] []
  g_contains : mg "contains" = some (.ref f_contains)
  F_pieces_inside : Fun K "pieces_inside" "pieces_inside" s_pieces_inside f_pieces_inside d_pieces_inside
  b_pieces_inside : Binds K d_pieces_inside ["pieces", "target"] []
  g_pieces_inside : mg "pieces_inside" = some (.ref f_pieces_inside)
  F_first_gap : Fun K "first_gap" "first_gap" s_first_gap f_first_gap d_first_gap
  b_first_gap : Binds K d_first_gap ["pieces", "target"] []
  g_first_gap : mg "first_gap" = some (.ref f_first_gap)
  F_generates : Fun K "generates" "generates" s_generates f_generates d_generates
  b_generates : Binds K d_generates ["pieces", "target"] []
  g_generates : mg "generates" = some (.ref f_generates)
  F_law_deck : Fun K "_law_deck" "_law_deck" s_law_deck f_law_deck d_law_deck
  b_law_deck : Binds K d_law_deck ["_law_script"] []
  g_law_deck : mg "_law_deck" = some (.ref f_law_deck)
  F_law_draw : Fun K "_law_draw" "_law_draw" s_law_draw f_law_draw d_law_draw
  b_law_draw : Binds K d_law_draw ["_law_deck_here", "_law_bound"] []
  g_law_draw : mg "_law_draw" = some (.ref f_law_draw)
  F_law_line : Fun K "_law_line" "_law_line" s_law_line f_law_line d_law_line
  b_law_line : Binds K d_law_line ["_law_deck_here", "_law_count"] []
  g_law_line : mg "_law_line" = some (.ref f_law_line)
  F_law_interval : Fun K "_law_interval" "_law_interval" s_law_interval f_law_interval d_law_interval
  b_law_interval : Binds K d_law_interval ["_law_deck_here", "_law_line_here"] []
  g_law_interval : mg "_law_interval" = some (.ref f_law_interval)
  F_law_intervals : Fun K "_law_intervals" "_law_intervals" s_law_intervals f_law_intervals d_law_intervals
  b_law_intervals : Binds K d_law_intervals ["_law_deck_here", "_law_line_here", "_law_most"] []
  g_law_intervals : mg "_law_intervals" = some (.ref f_law_intervals)
  F_law_gap : Fun K "_law_gap" "_law_gap" s_law_gap f_law_gap d_law_gap
  b_law_gap : Binds K d_law_gap ["_law_pieces", "_law_target"] []
  g_law_gap : mg "_law_gap" = some (.ref f_law_gap)
  F_law_shuffled : Fun K "_law_shuffled" "_law_shuffled" s_law_shuffled f_law_shuffled d_law_shuffled
  b_law_shuffled : Binds K d_law_shuffled ["_law_deck_here", "_law_pieces"] []
  g_law_shuffled : mg "_law_shuffled" = some (.ref f_law_shuffled)
  F_law_due : Fun K "_law_due" "_law_due" s_law_due f_law_due d_law_due
  b_law_due : Binds K d_law_due ["_law_pieces", "_law_target"] []
  g_law_due : mg "_law_due" = some (.ref f_law_due)
  F_law : Fun K "law" "law" s_law f_law d_law
  b_law : Binds K d_law ["_law_script"] []
  g_law : mg "law" = some (.ref f_law)
  z_abs : mg "abs" = none
  z_len : mg "len" = none
  z_list : mg "list" = none
  z_max : mg "max" = none
  z_min : mg "min" = none
  z_range : mg "range" = none
  z_repr : mg "repr" = none
  z_set : mg "set" = none
  z_sorted : mg "sorted" = none
  z_tuple : mg "tuple" = none
variable {P : Program} {w : World} {K : PySem.W.Frag} {mg : Str → Option Value} {base : Heap} {f_contains f_pieces_inside f_first_gap f_generates f_law_deck f_law_draw f_law_line f_law_interval f_law_intervals f_law_gap f_law_shuffled f_law_due f_law : Addr} {d_contains d_pieces_inside d_first_gap d_generates d_law_deck d_law_draw d_law_line d_law_interval d_law_intervals d_law_gap d_law_shuffled d_law_due d_law : FuncData}
abbrev TxA (K : PySem.W.Frag) (mg : Str → Option Value) (f_contains f_pieces_inside f_first_gap f_generates f_law_deck f_law_draw f_law_line f_law_interval f_law_intervals f_law_gap f_law_shuffled f_law_due f_law : Addr) (d_contains d_pieces_inside d_first_gap d_generates d_law_deck d_law_draw d_law_line d_law_interval d_law_intervals d_law_gap d_law_shuffled d_law_due d_law : FuncData) := Tx K mg f_contains f_pieces_inside f_first_gap f_generates f_law_deck f_law_draw f_law_line f_law_interval f_law_intervals f_law_gap f_law_shuffled f_law_due f_law d_contains d_pieces_inside d_first_gap d_generates d_law_deck d_law_draw d_law_line d_law_interval d_law_intervals d_law_gap d_law_shuffled d_law_due d_law 
theorem ok_law_deck (T : Tx K mg f_contains f_pieces_inside f_first_gap f_generates f_law_deck f_law_draw f_law_line f_law_interval f_law_intervals f_law_gap f_law_shuffled f_law_due f_law d_contains d_pieces_inside d_first_gap d_generates d_law_deck d_law_draw d_law_line d_law_interval d_law_intervals d_law_gap d_law_shuffled d_law_due d_law) : FnOk P w K mg base CX0 1 f_law_deck d_law_deck ["_law_script"] (sp_law_deck K) := by
  refine T.F_law_deck.ok sc_law_deck (fun vs H Q E h => ?_) (fun cdv A outer s H vs Q E hr h => ?_)
  · obtain ⟨a, ns, rfl, _⟩ := h
    rfl
  · obtain ⟨a, ns0, rfl, hS, hlen, q⟩ := h
    refine ⟨_, (pss_one (ps_ret (pe_lst (pa_cons (pe_lc (own := [("_law_cell", 1)]) (g := (gName 1)) (tt := tYes) (by rfl) sc_law_deck.nd (pi_list (pe_slice sl_list (pv 0) po_none (po_some pe_int))) (blkOk_by (own := [("_law_cell", 1)]) (N := N_law_deck) (sc := defScope s_law_deck) (by decide +kernel)) (fun _ _ _ _ _ => (pg_name (i := 1) sc_law_deck.nd rfl (Or.inl rfl))) (fun _ _ _ _ _ => pts_nil) (fun _ _ _ _ _ => (pe_callB call_abs (by rfl) T.z_abs (by decide +kernel) (pa_cons (pv 1) pa_nil)))) (pa_cons pe_int pa_nil))))), ?_⟩
    refine ⟨.ref a, rfl, 60, rfl, a, ns0.map V.int, rfl, hS, fun p np => ?_⟩
    rw [show cutV (ns0.map V.int) none (some 60) = (ns0.take 60).map V.int by rw [List.map_take]; exact cutTo _ 60]
    have hlen : (ns0.take 60).length ≤ 63 := Nat.le_trans (List.length_take_le' _ _) hlen
    generalize ns0.take 60 = ns at *
    have s1 : Same H (upd H p (.lst (ns.map V.int))) := same_new np
    refine ⟨p, rfl, ⟨_, SqL.of upd_same⟩, fun D nD => ?_⟩
    have nDp : D ≠ p := fun e => by
      rw [e, upd_same] at nD
      cases nD
    have nD0 : H D = none := by
      rw [upd_ne nDp] at nD
      exact nD
    refine lc_list (K := K) (a := p) (xs := ns.map V.int) (fun i H' => Same (upd H p (.lst (ns.map V.int))) H' ∧ H' D = some (.lst (((ns.take i).map fun (x : Int) => if x < 0 then -x else x).map V.int))) ⟨same_new nD, upd_same⟩ (fun i H' _ h => h.1.seq (SqL.of upd_same)) ?_ ?_
    · rintro i x H' hi ⟨sm, eD⟩
      rw [List.getElem?_map] at hi
      obtain ⟨n, en, rfl⟩ := Option.map_eq_some_iff.mp hi
      refine ⟨rfl, .int n, rfl, n, rfl, _, eD, ?_, ?_, ?_⟩
      · have : (List.take i ns).length ≤ ns.length := List.length_take_le' i ns
        simp only [List.length_map]
        exact small1000 (by omega)
      · intro b o e
        have nb : b ≠ D := ne_of_none e nD
        rw [upd_ne nb]
        exact sm b o e
      · rw [upd_same, List.take_add_one, en]
        simp
    · rintro H' ⟨sm, eD⟩
      rw [List.length_map, List.take_length] at eD
      refine ⟨by show 2 ≤ sizeLine; decide, fun d nd => ?_⟩
      have nDd : D ≠ d := ne_of_none eD nd
      have nd0 : H d = none := s1.free (sm.free nd)
      refine q _ d D (s1.trans (sm.trans (same_new nd))) nd0 nD0 ⟨upd_same, _, by rw [upd_ne nDd]; exact eD, by rw [List.length_map]; exact hlen, fun x hx => ?_⟩
      obtain ⟨y, _, rfl⟩ := List.mem_map.mp hx
      split <;> omega
def mxI (i j : Int) : Int := if j > i then j else i
def mnI (i j : Int) : Int := if j < i then j else i
theorem ok_law_draw (T : Tx K mg f_contains f_pieces_inside f_first_gap f_generates f_law_deck f_law_draw f_law_line f_law_interval f_law_intervals f_law_gap f_law_shuffled f_law_due f_law d_contains d_pieces_inside d_first_gap d_generates d_law_deck d_law_draw d_law_line d_law_interval d_law_intervals d_law_gap d_law_shuffled d_law_due d_law) : FnOk P w K mg base CX0 1 f_law_draw d_law_draw ["_law_deck_here", "_law_bound"] sp_law_draw := by
  refine T.F_law_draw.ok sc_law_draw (fun vs H Q E h => ?_) (fun cdv A outer s H vs Q E hr h => ?_)
  · obtain ⟨d, c, n, lim, rfl, _⟩ := h
    rfl
  · obtain ⟨d, c, n, lim, rfl, dk, n0, n1, l0, l1, q⟩ := h
    obtain ⟨xs, ec, xl, xp⟩ := dk.cells
    have ncd := dk.ne
    have ed := dk.top
    have l64 : lim.natAbs < 2 ^ 64 := by omega
    have n64 : (n + 1).natAbs < 2 ^ 64 := by omega
    refine ⟨_, (pss_cons (ps_asg (pe_op op_add (pe_ix ix_list (pv 0) pe_int (fun _ _ => rfl)) pe_int) (pg_sub (pv 0) pe_int set_list))
      (pss_cons (ps_set (i := 2) sc_law_draw.nd rfl (Or.inl rfl) (pe_op op_mod (pe_ix ix_list (pv 0) pe_int (fun _ _ => rfl)) (pe_callB (call_max2 rfl) (by rfl) T.z_max (by decide +kernel) (pa_cons pe_int (pa_cons (pe_callB call_len_seq (by rfl) T.z_len PySem.boot_len (pa_cons (pe_ix ix_list (pv 0) pe_int (fun _ _ => rfl)) pa_nil)) pa_nil)))))
      (pss_cons (ps_set (i := 3) sc_law_draw.nd rfl (Or.inl rfl) (pe_ix ix_list (pe_op op_cat (pe_ix ix_list (pv 0) pe_int (fun _ _ => rfl)) (pe_lst (pa_cons pe_int pa_nil))) (pv 2) (fun _ _ => rfl)))
      (pss_cons (ps_if (pt_cmpR op_ge (pv 3) (pe_op op_pow pe_int pe_int) (nomark _))
      (pss_cons (ps_asg (pe_op op_fdivW (pv 3) (pv 1)) (pg_sub (pe_ix ix_list (pv 0) pe_int (fun _ _ => rfl)) (pv 2) set_list))
      (pss_one (ps_ret (pe_op op_mod (pv 3) (pv 1)))))
      pss_nil)
      (pss_cons (ps_set (i := 4) sc_law_draw.nd rfl (Or.inl rfl) (pe_op op_mod (pe_op op_pow (pe_op op_add (pe_op op_add (pe_op op_mod (pv 3) pe_int) (pe_op op_mulW pe_int (pe_ix ix_list (pv 0) pe_int (fun _ _ => rfl)))) pe_int) pe_int) pe_int))
      (pss_one (ps_ret (pe_op op_mod (pe_op op_add (pe_op op_fdivW (pv 4) pe_int) (pe_op op_mulW pe_int (pe_ix ix_list (pv 0) pe_int (fun _ _ => rfl)))) (pv 1))))))))), ?_⟩
    -- deck[1] = deck[1] + 1
    refine ⟨.ref d, rfl, d, _, 1, .int n, rfl, rfl, SqL.of ed, rfl, n, 1, rfl, rfl, .ref d, rfl, d, _, 1, 1, rfl, rfl, ed, rfl, ?_⟩
    generalize eH : upd H d (.lst ([V.ref c, V.int n].set 1 (.int (n + 1)))) = H1
    have ed1 : H1 d = some (.lst [.ref c, .int (n + 1)]) := by
      rw [← eH, upd_same]
      rfl
    have ec1 : H1 c = some (.lst (xs.map V.int)) := by
      rw [← eH, upd_ne ncd]
      exact ec
    have kp1 : Kp d c H H1 := fun b o nb _ e => by
      rw [← eH, upd_ne nb]
      exact e
    -- place
    refine ⟨.ref d, rfl, d, _, 1, .int (n + 1), rfl, rfl, SqL.of ed1, rfl, .ref d, rfl, d, _, 0, .ref c, rfl, rfl, SqL.of ed1, rfl, c, _, rfl, .inl (SqL.of ec1), 1, _, rfl, ?_⟩
    obtain ⟨m, em⟩ : ∃ m : Int, (if ((xs.map V.int).length : Int) > 1 then ((xs.map V.int).length : Int) else 1) = m := ⟨_, rfl⟩
    have hm : (m = xs.length ∧ 0 < xs.length) ∨ (m = 1 ∧ xs.length = 0) := by
      rw [List.length_map] at em
      rw [← em]
      split <;> omega
    rw [em]
    have m0 : 0 < m := by omega
    refine ⟨_, _, rfl, rfl, m0, ?_⟩
    have rem0 : 0 ≤ (n + 1) % m := Int.emod_nonneg _ (by omega)
    have rem1 : (n + 1) % m < m := Int.emod_lt_of_pos _ m0
    obtain ⟨j, ej⟩ : ∃ j : Nat, (n + 1) % m = j := ⟨_, (Int.toNat_of_nonneg rem0).symm⟩
    rw [ej] at rem1
    -- cell
    obtain ⟨cell, gj, c0, cin⟩ : ∃ cell : Int, (xs.map V.int ++ [V.int 0])[j]? = some (.int cell) ∧ 0 ≤ cell ∧ (cell ≠ 0 → ∃ h : j < xs.length, xs[j] = cell) := by
      by_cases hj : j < xs.length
      · refine ⟨xs[j], ?_, xp _ (List.getElem_mem hj), fun _ => ⟨hj, rfl⟩⟩
        rw [List.getElem?_append_left (by rw [List.length_map]; exact hj), List.getElem?_map, List.getElem?_eq_getElem hj]
        rfl
      · refine ⟨0, ?_, by decide, fun h => absurd rfl h⟩
        have : j = xs.length := by omega
        subst this
        rw [List.getElem?_append_right (by rw [List.length_map]; exact Nat.le_refl _), List.length_map, Nat.sub_self]
        rfl
    refine ⟨.ref d, rfl, d, _, 0, .ref c, rfl, rfl, SqL.of ed1, rfl, by show 1 ≤ sizeLine; decide, fun z nz => ?_⟩
    have s2 := same_new (o := .lst [.int 0]) nz
    refine ⟨c, z, _, _, rfl, rfl, s2 _ _ ec1, upd_same, ?_, fun g ng => ?_⟩
    · rw [List.length_map, show sizeLine = 16777216 by decide]
      show xs.length + 1 ≤ _
      omega
    have s3 := same_new (o := .lst (xs.map V.int ++ [.int 0])) ng
    refine ⟨.int _, rfl, g, _, _, .int cell, rfl, rfl, SqL.of upd_same, (by rw [ej]; exact atI_nat gj), ?_⟩
    have s23 := s2.trans s3
    replace ed1 := s23 _ _ ed1
    replace ec1 := s23 _ _ ec1
    replace kp1 := kp1.trans (Kp.same s23)
    generalize upd (upd H1 z (.lst [.int 0])) g (.lst (xs.map V.int ++ [.int 0])) = H2 at *
    have dk1 : Dk H2 d c (n + 1) := ⟨ed1, xs, ec1, xl, xp⟩
    -- if cell >= 10 ** 18
    refine ⟨.int cell, rfl, 10, 18, rfl, rfl, ⟨by decide, by decide, by decide⟩, _, _, rfl, rfl, _, rfl, ite2 (fun e2 => ?_) (fun e2 => ?_)⟩
    · have e3 : (10 : Int) ^ (18 : Int).toNat ≤ cell := of_decide_eq_true e2
      rw [show (10 : Int) ^ (18 : Int).toNat = 1000000000000000000 by decide] at e3
      obtain ⟨hj, ex⟩ := cin (by omega)
      refine ⟨.int cell, rfl, .int lim, rfl, _, _, rfl, rfl, wide_div l0 l64 (by decide) (by decide), .ref d, rfl, d, _, 0, .ref c, rfl, rfl, SqL.of ed1, rfl, .int _, rfl, c, _, _, j, rfl, rfl, ec1, ?_, ?_⟩
      · rw [ej]
        unfold ixN
        rw [if_pos (by omega), if_pos (by rw [List.length_map]; omega)]
        rfl
      · refine ⟨.int cell, rfl, .int lim, rfl, _, _, rfl, rfl, l0, ?_⟩
        refine q _ _ ?_ ⟨?_, xs.set j (cell / lim), ?_, ?_, ?_⟩ (Int.emod_nonneg _ (by omega)) (Int.emod_lt_of_pos _ l0)
        · intro b o nb nc e
          rw [upd_ne nc]
          exact kp1 b o nb nc e
        · rw [upd_ne ncd.symm]
          exact ed1
        · rw [upd_same, List.map_set]
        · rw [List.length_set]
          exact xl
        · intro x hx
          rcases List.mem_or_eq_of_mem_set hx with hm | he
          · exact xp x hm
          · rw [he]
            exact Int.ediv_nonneg c0 (by omega)
    · refine ⟨.int cell, rfl, _, _, rfl, rfl, (by show (0 : Int) < 2147483563; decide), .ref d, rfl, d, _, 1, .int (n + 1), rfl, rfl, SqL.of ed1, rfl, _, _, rfl, rfl, wide_mul (a := 17) (b := 64) (by decide) n64 (by decide) (by decide) (by decide), _, _, rfl, rfl, _, _, rfl, rfl, _, _, rfl, rfl, ⟨by decide, by decide, ?_⟩, _, _, rfl, rfl, (by show (0 : Int) < 2147483629; decide), ?_⟩
      · have a0 := Int.emod_nonneg cell (show (2147483563 : Int) ≠ 0 by decide)
        have a1 := Int.emod_lt_of_pos cell (show (0 : Int) < 2147483563 by decide)
        omega
      · refine ⟨_, rfl, _, _, rfl, rfl, wide_div (b := 4) (by decide) (by decide) (by decide) (by decide), .ref d, rfl, d, _, 1, .int (n + 1), rfl, rfl, SqL.of ed1, rfl, _, _, rfl, rfl, wide_mul (a := 5) (b := 64) (by decide) n64 (by decide) (by decide) (by decide), _, _, rfl, rfl, .int lim, rfl, _, _, rfl, rfl, l0, ?_⟩
        exact q _ _ kp1 dk1 (Int.emod_nonneg _ (by omega)) (Int.emod_lt_of_pos _ l0)

/-! ### a line of positions, and intervals of it -/
theorem Kp.keep {d c : Addr} {H H' : Hp} (k : Kp d c H H') {a : Addr} {o : HO} (n1 : a ≠ d ∧ a ≠ c) (h : H a = some o) : H' a = some o := k a o n1.1 n1.2 h
theorem Kp.tup {d c : Addr} {n : Int} {H H' : Hp} (k : Kp d c H H') (dk : Dk H d c n) {a : Addr} {xs : List V} (h : H a = some (.tup xs)) : H' a = some (.tup xs) := by
  obtain ⟨ys, e, _⟩ := dk.cells
  exact k a _ (ne_of h dk.top (fun z => by cases z)) (ne_of h e (fun z => by cases z)) h
theorem Dk.off {H : Hp} {d c : Addr} {n : Int} (h : Dk H d c n) {p : Addr} (e : H p = none) : p ≠ d ∧ p ≠ c := by
  obtain ⟨ys, z, _⟩ := h.cells
  exact ⟨(ne_of_none h.top e).symm, (ne_of_none z e).symm⟩
theorem Dk.upd {H : Hp} {d c : Addr} {n : Int} (h : Dk H d c n) {p : Addr} {o : HO} (off : p ≠ d ∧ p ≠ c) : Dk (upd H p o) d c n := by
  obtain ⟨ys, z, w⟩ := h.cells
  exact ⟨by rw [upd_ne off.1.symm]; exact h.top, ys, by rw [upd_ne off.2.symm]; exact z, w⟩
/-- a line: strictly ascending positions -/
structure Ln (ns : List Int) : Prop where
  asc : ns.Pairwise (· < ·)
  ok : ∀ x ∈ ns, 0 ≤ x ∧ x ≤ 999999999990
def sp_law_line : Sp := fun vs H Q _ => ∃ (d c : Addr) (n cnt : Int), vs = [.ref d, .int cnt] ∧ Dk H d c n ∧ 0 ≤ n ∧ n < 999000 ∧ 1 ≤ cnt ∧ cnt ≤ 9 ∧
  ∀ H' p ns, Kp d c H H' → Dk H' d c (n + cnt) → H p = none → H' p = some (.lst (ns.map V.int)) → (ns.length : Int) = cnt → Ln ns → Q (.ref p) H'
theorem lim3 {r : Int} (h0 : 0 ≤ r) (h1 : r < 3) : ∃ L : Int, atI [V.int 0, .int 4, .int ((10 : Int) ^ (12 : Int).toNat - 90)] r = some (.int L) ∧ 0 ≤ L ∧ L ≤ 999999999910 := by
  have : r = 0 ∨ r = 1 ∨ r = 2 := by omega
  rcases this with rfl | rfl | rfl
  · exact ⟨0, rfl, by decide, by decide⟩
  · exact ⟨4, rfl, by decide, by decide⟩
  · exact ⟨_, rfl, by decide, by decide⟩
theorem step4 {r : Int} (h0 : 0 ≤ r) (h1 : r < 4) : ∃ L : Int, atI [V.int 1, .int 1, .int 2, .int 9] r = some (.int L) ∧ 1 ≤ L ∧ L ≤ 9 := by
  have : r = 0 ∨ r = 1 ∨ r = 2 ∨ r = 3 := by omega
  rcases this with rfl | rfl | rfl | rfl
  · exact ⟨1, rfl, by decide, by decide⟩
  · exact ⟨1, rfl, by decide, by decide⟩
  · exact ⟨2, rfl, by decide, by decide⟩
  · exact ⟨9, rfl, by decide, by decide⟩
theorem ok_law_line (T : Tx K mg f_contains f_pieces_inside f_first_gap f_generates f_law_deck f_law_draw f_law_line f_law_interval f_law_intervals f_law_gap f_law_shuffled f_law_due f_law d_contains d_pieces_inside d_first_gap d_generates d_law_deck d_law_draw d_law_line d_law_interval d_law_intervals d_law_gap d_law_shuffled d_law_due d_law) : FnOk P w K mg base CX0 2 f_law_line d_law_line ["_law_deck_here", "_law_count"] sp_law_line := by
  refine T.F_law_line.ok sc_law_line (fun vs H Q E h => ?_) (fun cdv A outer s H vs Q E hr h => ?_)
  · obtain ⟨d, c, n, cnt, rfl, _⟩ := h
    rfl
  · obtain ⟨d, c, n, cnt, rfl, dk, n0, n1, c0, c1, q⟩ := h
    refine ⟨_, (pss_cons (ps_set (i := 2) sc_law_line.nd rfl (Or.inl rfl) (pe_lst (pa_cons (pe_ix ix_list (pe_lst (pa_cons pe_int (pa_cons pe_int (pa_cons (pe_op op_sub (pe_op op_pow pe_int pe_int) pe_int) pa_nil)))) (pe_call (ok_law_draw T) (hr.mono (by decide)) (by rfl) T.g_law_draw T.F_law_draw.kp T.b_law_draw .nil pass0 (pa_cons (pv 0) (pa_cons pe_int pa_nil))) (fun _ _ => rfl)) pa_nil)))
      (pss_cons (ps_for PassesOwn.never rfl (pi_range1 (by rfl) T.z_range (pa_cons (pe_op op_sub (pv 1) pe_int) pa_nil)) (pg_name (i := 3) sc_law_line.nd rfl (Or.inl rfl))
      (pss_one (ps_expr (pe_bm PySem.F.plainAttrs_list PySem.F.slot_list_append PySem.F.type_list_append mt_append (pv 2) (pa_cons (pe_op op_add (pe_ix ix_list (pv 2) (pe_un un_neg pe_int) (fun _ _ => rfl)) (pe_ix ix_list (pe_lst (pa_cons pe_int (pa_cons pe_int (pa_cons pe_int (pa_cons pe_int pa_nil))))) (pe_call (ok_law_draw T) (hr.mono (by decide)) (by rfl) T.g_law_draw T.F_law_draw.kp T.b_law_draw .nil pass0 (pa_cons (pv 0) (pa_cons pe_int pa_nil))) (fun _ _ => rfl))) pa_nil)))))
      (pss_one (ps_ret (pv 2))))), ?_⟩
    refine ⟨10, 12, rfl, rfl, ⟨by decide, by decide, by decide⟩, _, _, rfl, rfl, by show 3 ≤ sizeLine; decide, fun p np => ?_⟩
    have off := dk.off np
    refine ⟨.ref d, rfl, d, c, n, 3, rfl, dk.kept (same_new np), n0, by omega, by decide, by decide, fun H1 r kp1 dk1 r0 r1 => ?_⟩
    obtain ⟨L, eL, L0, L1⟩ := lim3 r0 r1
    refine ⟨p, _, r, _, rfl, rfl, SqL.of (kp1.keep off upd_same), eL, by show 1 ≤ sizeLine; decide, fun l nl => ?_⟩
    have kpA : Kp d c H H1 := (Kp.same (same_new np)).trans kp1
    have offl := dk1.off nl
    have nl0 : H l = none := kpA.none dk dk1 nl
    obtain ⟨m, rfl⟩ : ∃ m : Nat, cnt = m + 1 := ⟨(cnt - 1).toNat, by omega⟩
    refine ⟨.int _, rfl, _, _, rfl, rfl, (m : Int) + 1 - 1, rfl, by omega, by omega, for_range (n := ((m : Int) + 1 - 1).toNat) (fun i σ H' => (Kp d c H H' ∧ Dk H' d c (n + 1 + i)) ∧ (∃ ns : List Int, H' l = some (.lst (ns.map V.int)) ∧ ns.length = i + 1 ∧ ns.Pairwise (· < ·) ∧ (∀ x ∈ ns, 0 ≤ x ∧ x ≤ 999999999910 + 9 * i) ∧ ∃ (ys : List Int) (z : Int), ns = ys ++ [z] ∧ (∀ y ∈ ys, y < z)) ∧ ∃ y3, σ = [some (.ref d), some (.int ((m : Int) + 1)), some (.ref l), y3])
      ⟨⟨kpA.trans (Kp.same (same_new nl)), (dk1.upd offl).eq (by simp)⟩, ⟨[L], upd_same, rfl, List.pairwise_singleton _ _, fun x hx => ?_, [], L, rfl, fun y hy => nomatch hy⟩, _, rfl⟩ ?_ ?_⟩
    · rw [List.mem_singleton.mp hx]
      omega
    · rintro i σ H2 hi ⟨⟨kp2, dk2⟩, ⟨ns, el, nl1, asc, bd, ys, z, rfl, hz⟩, y3, rfl⟩
      refine ⟨.ref l, rfl, .inl ⟨rfl, _, SqL.of el⟩, .ref l, rfl, 1, rfl, l, _, -1, .int z, rfl, rfl, SqL.of el, (by rw [List.map_append]; exact atI_last _ _), by show 4 ≤ sizeLine; decide, fun p2 np2 => ?_⟩
      have off2 := dk2.off np2
      refine ⟨.ref d, rfl, d, c, _, 4, rfl, dk2.kept (same_new np2), by omega, by omega, by decide, by decide, fun H3 r2 kp3 dk3 r20 r21 => ?_⟩
      obtain ⟨L2, eL2, L20, L21⟩ := step4 r20 r21
      have el3 : H3 l = some (.lst ((ys ++ [z]).map V.int)) := kp3.keep offl (same_new np2 _ _ el)
      refine ⟨p2, _, r2, _, rfl, rfl, SqL.of (kp3.keep off2 upd_same), eL2, _, _, rfl, rfl, l, _, _, rfl, rfl, el3, ?_, ?_⟩
      · rw [List.length_map]
        exact small1000 (by omega)
      refine ⟨⟨?_, ?_⟩, ⟨(ys ++ [z]) ++ [z + L2], ?_, ?_, ?_, ?_, ys ++ [z], z + L2, rfl, ?_⟩, _, rfl⟩
      · intro b o n1 n2 e
        rw [upd_ne (ne_of_none e nl0)]
        exact kp3 b o n1 n2 (same_new np2 _ _ (kp2 b o n1 n2 e))
      · exact (dk3.upd offl).eq (by omega)
      · rw [upd_same, List.map_append (l₁ := ys ++ [z])]
        rfl
      · rw [List.length_append, nl1]
        rfl
      · refine List.pairwise_append.mpr ⟨asc, List.pairwise_singleton _ _, fun a ha b hb => ?_⟩
        rw [List.mem_singleton.mp hb]
        rcases List.mem_append.mp ha with h | h
        · have := hz a h
          omega
        · rw [List.mem_singleton.mp h]
          omega
      · intro x hx
        have bz := bd z (List.mem_append_right _ (List.mem_singleton.mpr rfl))
        rcases List.mem_append.mp hx with h | h
        · have := bd x h
          omega
        · rw [List.mem_singleton.mp h]
          omega
      · intro y hy
        rcases List.mem_append.mp hy with h | h
        · have := hz y h
          omega
        · rw [List.mem_singleton.mp h]
          omega
    · rintro σ H2 ⟨⟨kp2, dk2⟩, ⟨ns, el, nl1, asc, bd, _⟩, y3, rfl⟩
      refine ⟨.ref l, rfl, q H2 l ns kp2 (dk2.eq (by omega)) nl0 el (by omega) ⟨asc, fun x hx => ?_⟩⟩
      have := bd x hx
      omega
def sp_law_interval : Sp := fun vs H Q _ => ∃ (d c l : Addr) (n : Int) (ns : List Int), vs = [.ref d, .ref l] ∧ Dk H d c n ∧ 0 ≤ n ∧ n < 999990 ∧ (l ≠ d ∧ l ≠ c) ∧ H l = some (.lst (ns.map V.int)) ∧ 0 < ns.length ∧ ns.length ≤ 100 ∧
  ∀ H' lo hi t, Kp d c H H' → Dk H' d c (n + 2) → lo ∈ ns → hi ∈ ns → lo ≤ hi → H t = none → H' t = some (.tup [.int lo, .int hi]) → Q (.ref t) H'
theorem nth_of {ns : List Int} {r : Int} (h0 : 0 ≤ r) (h1 : r < ((ns.map V.int).length : Nat)) : ∃ x, x ∈ ns ∧ atI (ns.map V.int) r = some (.int x) := by
  obtain ⟨j, rfl⟩ : ∃ j : Nat, r = j := ⟨r.toNat, by omega⟩
  have hj : j < ns.length := by
    rw [List.length_map] at h1
    omega
  refine ⟨ns[j], List.getElem_mem hj, atI_nat ?_⟩
  rw [List.getElem?_map, List.getElem?_eq_getElem hj]
  rfl
theorem ok_law_interval (T : Tx K mg f_contains f_pieces_inside f_first_gap f_generates f_law_deck f_law_draw f_law_line f_law_interval f_law_intervals f_law_gap f_law_shuffled f_law_due f_law d_contains d_pieces_inside d_first_gap d_generates d_law_deck d_law_draw d_law_line d_law_interval d_law_intervals d_law_gap d_law_shuffled d_law_due d_law) : FnOk P w K mg base CX0 2 f_law_interval d_law_interval ["_law_deck_here", "_law_line_here"] sp_law_interval := by
  refine T.F_law_interval.ok sc_law_interval (fun vs H Q E h => ?_) (fun cdv A outer s H vs Q E hr h => ?_)
  · obtain ⟨d, c, l, n, ns, rfl, _⟩ := h
    rfl
  · obtain ⟨d, c, l, n, ns, rfl, dk, n0, n1, off, el, ln0, ln1, q⟩ := h
    have lp : (0 : Int) < ((ns.map V.int).length : Nat) := by rw [List.length_map]; omega
    have lp2 : (((ns.map V.int).length : Nat) : Int) < 2 ^ 63 := by rw [List.length_map]; omega
    refine ⟨_, (pss_cons (ps_par (by rfl) sc_law_interval.nd (i := 2) (j := 3) rfl rfl (by decide) rfl rfl (pa_cons (pe_ix ix_list (pv 1) (pe_call (ok_law_draw T) (hr.mono (by decide)) (by rfl) T.g_law_draw T.F_law_draw.kp T.b_law_draw .nil pass0 (pa_cons (pv 0) (pa_cons (pe_callB call_len_seq (by rfl) T.z_len PySem.boot_len (pa_cons (pv 1) pa_nil)) pa_nil))) (fun _ _ => rfl)) (pa_cons (pe_ix ix_list (pv 1) (pe_call (ok_law_draw T) (hr.mono (by decide)) (by rfl) T.g_law_draw T.F_law_draw.kp T.b_law_draw .nil pass0 (pa_cons (pv 0) (pa_cons (pe_callB call_len_seq (by rfl) T.z_len PySem.boot_len (pa_cons (pv 1) pa_nil)) pa_nil))) (fun _ _ => rfl)) pa_nil)) (by rfl))
      (pss_one (ps_ret (pe_tup (pa_cons (pe_callB (call_min2 rfl) (by rfl) T.z_min (by decide +kernel) (pa_cons (pv 2) (pa_cons (pv 3) pa_nil))) (pa_cons (pe_callB (call_max2 rfl) (by rfl) T.z_max (by decide +kernel) (pa_cons (pv 2) (pa_cons (pv 3) pa_nil))) pa_nil)))))), ?_⟩
    refine ⟨.ref l, rfl, .ref d, rfl, .ref l, rfl, l, _, rfl, .inl (SqL.of el), d, c, n, _, rfl, dk, n0, by omega, lp, lp2, fun H1 r kp1 dk1 r0 r1 => ?_⟩
    have el1 := kp1.keep off el
    obtain ⟨x, mx, ex⟩ := nth_of r0 r1
    refine ⟨l, _, r, _, rfl, rfl, SqL.of el1, ex, .ref l, rfl, .ref d, rfl, .ref l, rfl, l, _, rfl, .inl (SqL.of el1), d, c, n + 1, _, rfl, dk1, by omega, by omega, lp, lp2, fun H2 r2 kp2 dk2 r20 r21 => ?_⟩
    have el2 := kp2.keep off el1
    obtain ⟨y, my, ey⟩ := nth_of r20 r21
    refine ⟨l, _, r2, _, rfl, rfl, SqL.of el2, ey, _, _, rfl, ?_⟩
    refine ⟨_, rfl, _, rfl, _, _, rfl, _, rfl, _, rfl, _, _, rfl, by show 2 ≤ sizeLine; decide, fun t nt => ?_⟩
    have s := same_new (o := .tup [.int (mnI x y), .int (mxI x y)]) nt
    have kp := kp1.trans kp2
    refine q _ (mnI x y) (mxI x y) t (kp.trans (Kp.same s)) ((dk2.kept s).eq (by omega)) ?_ ?_ ?_ (kp.none dk dk2 nt) upd_same
    · unfold mnI
      split <;> assumption
    · unfold mxI
      split <;> assumption
    · unfold mnI mxI
      split <;> split <;> omega

/-! ### what stays when the heap grows, or the deck is drawn from -/
theorem rd_same {H H' : Hp} (s : Same H H') {a : Addr} {u : HO} (h : Rd H a u) : Rd H' a u := by
  rcases h with h | ⟨o, h⟩
  · exact .inl (s _ _ h)
  · exact .inr ⟨o, s _ _ h⟩
theorem sqT_same {K : PySem.W.Frag} {H H' : Hp} (s : Same H H') {a : Addr} {xs : List V} (h : SqT K H a xs) : SqT K H' a xs := by
  rcases h with h | h
  · exact .inl (rd_same s h)
  · exact .inr h
theorem dp_same {K : PySem.W.Frag} {H H' : Hp} (s : Same H H') {v : V} {d : PyData} (h : Dp K H v d) : Dp K H' v d := by
  refine Dp.rec (K := K) (H := H) (motive_1 := fun v d _ => Dp K H' v d) (motive_2 := fun vs ds _ => DpAll K H' vs ds) .non (fun b => .bl b) (fun i => .int i) (fun x => .str x) (fun hs _ q => .lst (s.seq hs) q) (fun hs _ q => .tup (sqT_same s hs) q) .nil (fun _ _ a b => .cons a b) h
theorem dp2 {K : PySem.W.Frag} {H : Hp} {t : Addr} {x y : Int} (h : H t = some (.tup [.int x, .int y])) : Dp K H (.ref t) (.tuple [.int x, .int y]) := .tup (SqT.of h) (.cons (.int x) (.cons (.int y) .nil))
theorem sm2 {x y : Int} (h1 : x.natAbs < 10 ^ 30) (h2 : y.natAbs < 10 ^ 30) : Sm 202 1 (.tuple [.int x, .int y]) := by
  have h := Sm.tup (n := 100) (dp := 0) (ds := [.int x, .int y]) (fun d hd => by
    rcases List.mem_cons.mp hd with rfl | hd
    · exact Sm.int h1
    · rcases List.mem_cons.mp hd with rfl | hd
      · exact Sm.int h2
      · cases hd)
  exact h
/-- an interval, or None -/
def optD : Option (Int × Int) → PyData
  | none => .none
  | some (x, y) => .tuple [.int x, .int y]
def OV (H : Hp) (v : V) : Option (Int × Int) → Prop
  | none => v = .non
  | some (x, y) => ∃ t, v = .ref t ∧ H t = some (.tup [.int x, .int y])
theorem OV.same {H H' : Hp} (s : Same H H') {v : V} {o : Option (Int × Int)} (h : OV H v o) : OV H' v o := by
  match o, h with
  | none, h => exact h
  | some (x, y), h =>
    obtain ⟨t, e, z⟩ := h
    exact ⟨t, e, s _ _ z⟩
theorem OV.kp {d c : Addr} {n : Int} {H H' : Hp} (k : Kp d c H H') (dk : Dk H d c n) {v : V} {o : Option (Int × Int)} (h : OV H v o) : OV H' v o := by
  match o, h with
  | none, h => exact h
  | some (x, y), h =>
    obtain ⟨t, e, z⟩ := h
    exact ⟨t, e, k.tup dk z⟩
theorem OV.dp {K : PySem.W.Frag} {H : Hp} {v : V} {o : Option (Int × Int)} (h : OV H v o) : Dp K H v (optD o) := by
  match o, h with
  | none, h =>
    cases h
    exact .non
  | some (x, y), h =>
    obtain ⟨t, e, z⟩ := h
    subst e
    exact dp2 z

/-! ### rows of intervals -/
inductive Ivs (H : Hp) : List V → List (Int × Int) → Prop
  | nil : Ivs H [] []
  | cons {a : Addr} {x y : Int} {vs : List V} {ps : List (Int × Int)} : H a = some (.tup [.int x, .int y]) → Ivs H vs ps → Ivs H (.ref a :: vs) ((x, y) :: ps)
theorem Ivs.length {H : Hp} {vs : List V} {ps : List (Int × Int)} (h : Ivs H vs ps) : vs.length = ps.length := by
  induction h with
  | nil => rfl
  | cons _ _ ih => rw [List.length_cons, List.length_cons, ih]
theorem Ivs.same {H H' : Hp} (s : Same H H') {vs : List V} {ps : List (Int × Int)} (h : Ivs H vs ps) : Ivs H' vs ps := by
  induction h with
  | nil => exact .nil
  | cons e _ ih => exact .cons (s _ _ e) ih
theorem Ivs.kp {d c : Addr} {n : Int} {H H' : Hp} (k : Kp d c H H') (dk : Dk H d c n) {vs : List V} {ps : List (Int × Int)} (h : Ivs H vs ps) : Ivs H' vs ps := by
  induction h with
  | nil => exact .nil
  | cons e _ ih => exact .cons (k.tup dk e) ih
theorem Ivs.get {H : Hp} {vs : List V} {ps : List (Int × Int)} (h : Ivs H vs ps) : ∀ {i : Nat} {v : V}, vs[i]? = some v → ∃ a x y, v = .ref a ∧ ps[i]? = some (x, y) ∧ H a = some (.tup [.int x, .int y]) := by
  induction h with
  | nil =>
    intro i v e
    simp at e
  | cons e _ ih =>
    intro i v q
    cases i with
    | zero =>
      cases q
      exact ⟨_, _, _, rfl, rfl, e⟩
    | succ i => exact ih q
theorem Ivs.snoc {H : Hp} {vs : List V} {ps : List (Int × Int)} {a : Addr} {x y : Int} (h : Ivs H vs ps) (e : H a = some (.tup [.int x, .int y])) : Ivs H (vs ++ [.ref a]) (ps ++ [(x, y)]) := by
  induction h with
  | nil => exact .cons e .nil
  | cons z _ ih => exact .cons z ih
def pairD (p : Int × Int) : PyData := .tuple [.int p.1, .int p.2]
theorem Ivs.dp {K : PySem.W.Frag} {H : Hp} {vs : List V} {ps : List (Int × Int)} (h : Ivs H vs ps) : DpAll K H vs (ps.map pairD) := by
  induction h with
  | nil => exact .nil
  | cons e _ ih => exact .cons (dp2 e) ih

/-! ### comprehensions that change nothing but make new objects -/
/-- the tuples stay -/
def Tps (H H' : Hp) : Prop := ∀ b xs, H b = some (.tup xs) → H' b = some (.tup xs)
theorem Tps.refl (H : Hp) : Tps H H := fun _ _ e => e
theorem Tps.trans {H H1 H2 : Hp} (h : Tps H H1) (h2 : Tps H1 H2) : Tps H H2 := fun b xs e => h2 b xs (h b xs e)
theorem Tps.same {H H1 : Hp} (h : Same H H1) : Tps H H1 := fun b xs e => h b _ e
theorem Kp.tps {d c : Addr} {n : Int} {H H' : Hp} (k : Kp d c H H') (dk : Dk H d c n) : Tps H H' := fun _ _ e => k.tup dk e
theorem Tps.lst {H : Hp} {D : Addr} {ws vs : List V} (e : H D = some (.lst ws)) : Tps H (upd H D (.lst vs)) := fun b xs h => by
  rw [upd_ne (ne_of h e (fun z => by cases z))]
  exact h
theorem same_off {H0 H : Hp} {D : Addr} {o : HO} (n : H0 D = none) (s : Same H0 H) : Same H0 (upd H D o) := fun b u e => by
  rw [upd_ne (ne_of_none e n)]
  exact s b u e
theorem few_line {n : Nat} (h : n < 1000) : n < sizeLine := by
  rw [show sizeLine = 16777216 by decide]
  omega
theorem lcL {K : PySem.W.Frag} {a : Addr} {xs : List V} {g : TG} {tt : TT} {te : TE} {vs : List Nat} {σ : L2.St} {H1 : Hp} {D : Addr} {Qd : Hp → Prop} (R : Nat → Hp → List V → Prop) (nD : H1 D = none) (hl : ∀ H', Same H1 H' → SqL K H' a xs) (few : xs.length < 1000)
    (mono : ∀ i H' H'' ws, Tps H' H'' → R i H' ws → R i H'' ws) (len : ∀ i H' ws, R i H' ws → ws.length ≤ i) (r0 : ∀ H', R 0 H' [])
    (hs : ∀ i x H' (N : Hp → Prop) acc, xs[i]? = some x → Same H1 H' → H' D = some (.lst acc) → acc.length < sizeLine → R i H' acc → (∀ H'', Same H' H'' → R (i + 1) H'' acc → N H'') → (∀ H'' y, Same H' H'' → R (i + 1) H'' (acc ++ [y]) → ∃ acc', H'' D = some (.lst acc') ∧ acc'.length < sizeLine ∧ N (upd H'' D (.lst (acc' ++ [y])))) →
      g x (wipe σ vs) H' fun σ2 H2 => wipe σ2 vs = wipe σ vs ∧ tt σ2 H2 fun b H3 => if b = true then te σ2 H3 fun y H4 => ∃ acc, H4 D = some (.lst acc) ∧ acc.length < sizeLine ∧ N (upd H4 D (.lst (acc ++ [y]))) else N H3)
    (hd : ∀ H' ws, Same H1 H' → H' D = some (.lst ws) → R xs.length H' ws → Qd H') :
    ∃ W : Nat → Nat → Hp → Prop, (∃ m, W 0 m (upd H1 D (.lst []))) ∧ ∀ i m H, W i m H →
      ((Itl K a).stop i H ∧ Qd H) ∨ ((Itl K a).go i H ∧ ∃ Nx : Hp → Prop, (∀ H', Nx H' → ∃ m', m' < m ∧ W (i + 1) m' H') ∧ ∀ x H', (Itl K a).yld i H x H' → g x (wipe σ vs) H' fun σ2 H2 => wipe σ2 vs = wipe σ vs ∧ tt σ2 H2 fun b H3 =>
        if b = true then te σ2 H3 fun y H4 => ∃ acc, H4 D = some (.lst acc) ∧ acc.length < sizeLine ∧ Nx (upd H4 D (.lst (acc ++ [y]))) else Nx H3) := by
  refine lc_list (K := K) (a := a) (xs := xs) (fun i H' => Same H1 H' ∧ ∃ ws, H' D = some (.lst ws) ∧ R i H' ws) ⟨same_new nD, [], upd_same, r0 _⟩ (fun i H' _ h => hl H' h.1) ?_ ?_
  · rintro i x H' hi ⟨sm, ws, eD, r⟩
    have lt := (List.getElem?_eq_some_iff.mp hi).1
    have lw := len i H' ws r
    have sz : ws.length < sizeLine := few_line (by omega)
    refine hs i x H' _ ws hi sm eD sz r (fun H'' s r2 => ⟨sm.trans s, ws, s _ _ eD, r2⟩) (fun H'' y s r2 => ?_)
    exact ⟨ws, s _ _ eD, sz, same_off nD (sm.trans s), _, upd_same, mono _ _ _ _ (Tps.lst (s _ _ eD)) r2⟩
  · rintro H' ⟨sm, ws, eD, r⟩
    exact hd H' ws sm eD r
theorem lcT {K : PySem.W.Frag} {a : Addr} {xs : List V} {g : TG} {tt : TT} {te : TE} {vs : List Nat} {σ : L2.St} {H1 : Hp} {D : Addr} {Qd : Hp → Prop} (R : Nat → Hp → List V → Prop) (nD : H1 D = none) (hl : ∀ H', Same H1 H' → SqT K H' a xs) (few : xs.length < 1000)
    (mono : ∀ i H' H'' ws, Tps H' H'' → R i H' ws → R i H'' ws) (len : ∀ i H' ws, R i H' ws → ws.length ≤ i) (r0 : ∀ H', R 0 H' [])
    (hs : ∀ i x H' (N : Hp → Prop) acc, xs[i]? = some x → Same H1 H' → H' D = some (.lst acc) → acc.length < sizeLine → R i H' acc → (∀ H'', Same H' H'' → R (i + 1) H'' acc → N H'') → (∀ H'' y, Same H' H'' → R (i + 1) H'' (acc ++ [y]) → ∃ acc', H'' D = some (.lst acc') ∧ acc'.length < sizeLine ∧ N (upd H'' D (.lst (acc' ++ [y])))) →
      g x (wipe σ vs) H' fun σ2 H2 => wipe σ2 vs = wipe σ vs ∧ tt σ2 H2 fun b H3 => if b = true then te σ2 H3 fun y H4 => ∃ acc, H4 D = some (.lst acc) ∧ acc.length < sizeLine ∧ N (upd H4 D (.lst (acc ++ [y]))) else N H3)
    (hd : ∀ H' ws, Same H1 H' → H' D = some (.lst ws) → R xs.length H' ws → Qd H') :
    ∃ W : Nat → Nat → Hp → Prop, (∃ m, W 0 m (upd H1 D (.lst []))) ∧ ∀ i m H, W i m H →
      ((Itt K a).stop i H ∧ Qd H) ∨ ((Itt K a).go i H ∧ ∃ Nx : Hp → Prop, (∀ H', Nx H' → ∃ m', m' < m ∧ W (i + 1) m' H') ∧ ∀ x H', (Itt K a).yld i H x H' → g x (wipe σ vs) H' fun σ2 H2 => wipe σ2 vs = wipe σ vs ∧ tt σ2 H2 fun b H3 =>
        if b = true then te σ2 H3 fun y H4 => ∃ acc, H4 D = some (.lst acc) ∧ acc.length < sizeLine ∧ Nx (upd H4 D (.lst (acc ++ [y]))) else Nx H3) := by
  refine lc_tup (K := K) (a := a) (xs := xs) (fun i H' => Same H1 H' ∧ ∃ ws, H' D = some (.lst ws) ∧ R i H' ws) ⟨same_new nD, [], upd_same, r0 _⟩ (fun i H' _ h => hl H' h.1) ?_ ?_
  · rintro i x H' hi ⟨sm, ws, eD, r⟩
    have lt := (List.getElem?_eq_some_iff.mp hi).1
    have lw := len i H' ws r
    have sz : ws.length < sizeLine := few_line (by omega)
    refine hs i x H' _ ws hi sm eD sz r (fun H'' s r2 => ⟨sm.trans s, ws, s _ _ eD, r2⟩) (fun H'' y s r2 => ?_)
    exact ⟨ws, s _ _ eD, sz, same_off nD (sm.trans s), _, upd_same, mono _ _ _ _ (Tps.lst (s _ _ eD)) r2⟩
  · rintro H' ⟨sm, ws, eD, r⟩
    exact hd H' ws sm eD r
theorem map_filter_len {α : Type} {ns : List α} {p : α → Bool} {f : α → V} (i : Nat) : (((ns.take i).filter p).map f).length ≤ i := by
  rw [List.length_map]
  exact Nat.le_trans (List.length_filter_le _ _) (List.length_take_le _ _)
theorem take_filter {α : Type} {ns : List α} {i : Nat} {n : α} {p : α → Bool} (h : ns[i]? = some n) : (ns.take (i + 1)).filter p = (ns.take i).filter p ++ (if p n = true then [n] else []) := by
  rw [List.take_add_one, h, List.filter_append]
  congr 1
  show List.filter p [n] = _
  rw [List.filter_cons]
  split <;> rfl
theorem nodup_le {α : Type} [DecidableEq α] : ∀ {l m : List α}, l.Nodup → (∀ x ∈ l, x ∈ m) → l.length ≤ m.length
  | [], _, _, _ => Nat.zero_le _
  | a :: l, m, h, hs => by
    have hm := hs a List.mem_cons_self
    have h' := List.nodup_cons.mp h
    have ih := nodup_le (l := l) (m := m.erase a) h'.2 (fun x hx => (List.mem_erase_of_ne (fun e => h'.1 (by rw [← e]; exact hx))).mpr (hs x (List.mem_cons_of_mem _ hx)))
    rw [List.length_erase_of_mem hm] at ih
    have := List.length_pos_of_mem hm
    rw [List.length_cons]
    omega

/-! ### demands, and rows of them -/
structure Dm (H : Hp) (v : V) (p lo hi : Int) : Prop where
  ex : ∃ u t, v = .ref u ∧ H u = some (.tup [.int p, .ref t]) ∧ H t = some (.tup [.int lo, .int hi])
  low : lo ≤ p
  high : p ≤ hi
theorem Dm.tps {H H' : Hp} (s : Tps H H') {v : V} {p lo hi : Int} (h : Dm H v p lo hi) : Dm H' v p lo hi := by
  obtain ⟨u, t, rfl, e1, e2⟩ := h.ex
  exact ⟨⟨u, t, rfl, s _ _ e1, s _ _ e2⟩, h.low, h.high⟩
theorem Dm.same {H H' : Hp} (s : Same H H') {v : V} {p lo hi : Int} (h : Dm H v p lo hi) : Dm H' v p lo hi := h.tps (Tps.same s)
inductive Dms (H : Hp) : List V → List (Int × Int × Int) → Prop
  | nil : Dms H [] []
  | cons {v : V} {p lo hi : Int} {vs : List V} {ds : List (Int × Int × Int)} : Dm H v p lo hi → Dms H vs ds → Dms H (v :: vs) ((p, lo, hi) :: ds)
theorem Dms.length {H : Hp} {vs : List V} {ds : List (Int × Int × Int)} (h : Dms H vs ds) : vs.length = ds.length := by
  induction h with
  | nil => rfl
  | cons _ _ ih => rw [List.length_cons, List.length_cons, ih]
theorem Dms.tps {H H' : Hp} (s : Tps H H') {vs : List V} {ds : List (Int × Int × Int)} (h : Dms H vs ds) : Dms H' vs ds := by
  induction h with
  | nil => exact .nil
  | cons e _ ih => exact .cons (e.tps s) ih
theorem Dms.same {H H' : Hp} (s : Same H H') {vs : List V} {ds : List (Int × Int × Int)} (h : Dms H vs ds) : Dms H' vs ds := h.tps (Tps.same s)
theorem Dms.get {H : Hp} {vs : List V} {ds : List (Int × Int × Int)} (h : Dms H vs ds) : ∀ {i : Nat} {v : V}, vs[i]? = some v → ∃ p lo hi, ds[i]? = some (p, lo, hi) ∧ Dm H v p lo hi := by
  induction h with
  | nil =>
    intro i v e
    simp at e
  | cons e _ ih =>
    intro i v q
    cases i with
    | zero =>
      cases q
      exact ⟨_, _, _, rfl, e⟩
    | succ i => exact ih q
theorem Dms.append {H : Hp} {vs us : List V} {ds es : List (Int × Int × Int)} (h : Dms H vs ds) (h2 : Dms H us es) : Dms H (vs ++ us) (ds ++ es) := by
  induction h with
  | nil => exact h2
  | cons e _ ih => exact .cons e ih
theorem Dms.snoc {H : Hp} {vs : List V} {ds : List (Int × Int × Int)} {v : V} {p lo hi : Int} (h : Dms H vs ds) (e : Dm H v p lo hi) : Dms H (vs ++ [v]) (ds ++ [(p, lo, hi)]) := h.append (.cons e .nil)
theorem Dms.take {H : Hp} {vs : List V} {ds : List (Int × Int × Int)} (h : Dms H vs ds) : ∀ n : Nat, Dms H (vs.take n) (ds.take n) := by
  induction h with
  | nil =>
    intro n
    rw [List.take_nil, List.take_nil]
    exact .nil
  | cons e _ ih =>
    intro n
    cases n with
    | zero => exact .nil
    | succ n => exact .cons e (ih n)
theorem Dms.reverse {H : Hp} {vs : List V} {ds : List (Int × Int × Int)} (h : Dms H vs ds) : Dms H vs.reverse ds.reverse := by
  induction h with
  | nil => exact .nil
  | cons e _ ih =>
    rw [List.reverse_cons, List.reverse_cons]
    exact ih.snoc e
theorem Dms.isEmpty {H : Hp} {vs : List V} {ds : List (Int × Int × Int)} (h : Dms H vs ds) : vs.isEmpty = ds.isEmpty := by
  cases h <;> rfl
theorem Dms.ok {H : Hp} {vs : List V} {ds : List (Int × Int × Int)} (h : Dms H vs ds) : ∀ q ∈ ds, q.2.1 ≤ q.1 ∧ q.1 ≤ q.2.2 := by
  induction h with
  | nil =>
    intro q hq
    cases hq
  | cons e _ ih =>
    intro q hq
    rcases List.mem_cons.mp hq with rfl | hq
    · exact ⟨e.low, e.high⟩
    · exact ih q hq
/-! ### comprehensions over a range that draw -/
theorem lcK {d c : Addr} {n0 per : Int} {lo : Int} {n : Nat} {g : TG} {tt : TT} {te : TE} {vs : List Nat} {σ : L2.St} {H1 : Hp} {D : Addr} {Qd : Hp → Prop} (R : Nat → Hp → List V → Prop) (nD : H1 D = none) (dk : Dk H1 d c n0) (few : n < 1000)
    (mono : ∀ i H' H'' ws, Tps H' H'' → R i H' ws → R i H'' ws) (len : ∀ i H' ws, R i H' ws → ws.length ≤ i) (r0 : ∀ H', R 0 H' [])
    (hs : ∀ i H' (N : Hp → Prop) acc, i < n → Kp d c H1 H' → Dk H' d c (n0 + per * i) → H' D = some (.lst acc) → R i H' acc → (∀ H'' y, Kp d c H' H'' → Dk H'' d c (n0 + per * i + per) → R (i + 1) H'' (acc ++ [y]) → ∃ acc', H'' D = some (.lst acc') ∧ acc'.length < sizeLine ∧ N (upd H'' D (.lst (acc' ++ [y])))) →
      g (.int (lo + i)) (wipe σ vs) H' fun σ2 H2 => wipe σ2 vs = wipe σ vs ∧ tt σ2 H2 fun b H3 => if b = true then te σ2 H3 fun y H4 => ∃ acc, H4 D = some (.lst acc) ∧ acc.length < sizeLine ∧ N (upd H4 D (.lst (acc ++ [y]))) else N H3)
    (hd : ∀ H' ws, Kp d c H1 H' → Dk H' d c (n0 + per * n) → H' D = some (.lst ws) → R n H' ws → Qd H') :
    ∃ W : Nat → Nat → Hp → Prop, (∃ m, W 0 m (upd H1 D (.lst []))) ∧ ∀ i m H, W i m H →
      ((Itr lo n).stop i H ∧ Qd H) ∨ ((Itr lo n).go i H ∧ ∃ Nx : Hp → Prop, (∀ H', Nx H' → ∃ m', m' < m ∧ W (i + 1) m' H') ∧ ∀ x H', (Itr lo n).yld i H x H' → g x (wipe σ vs) H' fun σ2 H2 => wipe σ2 vs = wipe σ vs ∧ tt σ2 H2 fun b H3 =>
        if b = true then te σ2 H3 fun y H4 => ∃ acc, H4 D = some (.lst acc) ∧ acc.length < sizeLine ∧ Nx (upd H4 D (.lst (acc ++ [y]))) else Nx H3) := by
  have off := dk.off nD
  refine lc_range (lo := lo) (n := n) (fun i H' => Kp d c H1 H' ∧ Dk H' d c (n0 + per * i) ∧ ∃ ws, H' D = some (.lst ws) ∧ R i H' ws) ⟨Kp.same (same_new nD), (dk.upd off).eq (by simp), [], upd_same, r0 _⟩ ?_ ?_
  · rintro i H' hi ⟨kp, dk', ws, eD, r⟩
    have lw := len i H' ws r
    have sz : ws.length < sizeLine := few_line (by omega)
    refine hs i H' _ ws hi kp dk' eD r (fun H'' y kp2 dk2 r2 => ?_)
    have eD2 := kp2.keep off eD
    refine ⟨ws, eD2, sz, fun b o n1 n2 e => ?_, (dk2.upd off).eq ?_, _, upd_same, mono _ _ _ _ (Tps.lst eD2) r2⟩
    · rw [upd_ne (ne_of_none e nD)]
      exact kp2 b o n1 n2 (kp b o n1 n2 e)
    · rw [Int.natCast_succ, Int.mul_add, Int.mul_one]
      omega
  · rintro H' ⟨kp, dk', ws, eD, r⟩
    exact hd H' ws kp dk' eD r

theorem Ivs.tps {H H' : Hp} (s : Tps H H') {vs : List V} {ps : List (Int × Int)} (h : Ivs H vs ps) : Ivs H' vs ps := by
  induction h with
  | nil => exact .nil
  | cons e _ ih => exact .cons (s _ _ e) ih
theorem Ivs.append {H : Hp} {vs us : List V} {ps qs : List (Int × Int)} (h : Ivs H vs ps) (h2 : Ivs H us qs) : Ivs H (vs ++ us) (ps ++ qs) := by
  induction h with
  | nil => exact h2
  | cons e _ ih => exact .cons e ih
theorem Ivs.isEmpty {H : Hp} {vs : List V} {ps : List (Int × Int)} (h : Ivs H vs ps) : vs.isEmpty = ps.isEmpty := by
  cases h <;> rfl

/-! ### sorted(set(pairs)) -/
def ltP (a b : Int × Int) : Prop := a.1 < b.1 ∨ (a.1 = b.1 ∧ a.2 < b.2)
def prL (q : Int × Int) : List Int := [q.1, q.2]
theorem prL_inj {a b : Int × Int} (h : prL a = prL b) : a = b := by
  unfold prL at h
  cases a
  cases b
  simp at h
  rw [h.1, h.2]
theorem mem_prL {q : Int × Int} {ps : List (Int × Int)} : prL q ∈ ps.map prL ↔ q ∈ ps := by
  rw [List.mem_map]
  exact ⟨fun ⟨a, ha, e⟩ => prL_inj e ▸ ha, fun h => ⟨q, h, rfl⟩⟩
theorem Ivs.keys {H : Hp} {us : List V} {ps : List (Int × Int)} (h : Ivs H us ps) : ∃ ks : List (Addr × List Int), us = ks.map (fun p => V.ref p.1) ∧ ks.map (·.2) = ps.map prL ∧ ∀ p ∈ ks, ∃ x y : Int, p.2 = [x, y] ∧ H p.1 = some (.tup [.int x, .int y]) := by
  induction h with
  | nil => exact ⟨[], rfl, rfl, fun p hp => nomatch hp⟩
  | cons e _ ih =>
    obtain ⟨ks, e1, e2, e3⟩ := ih
    refine ⟨(_, [_, _]) :: ks, by rw [List.map_cons, e1], by rw [List.map_cons, List.map_cons, e2]; rfl, fun p hp => ?_⟩
    rcases List.mem_cons.mp hp with rfl | hp
    · exact ⟨_, _, rfl, e⟩
    · exact e3 p hp
theorem Ivs.ofKeys {H : Hp} : ∀ {L : List (Addr × List Int)}, (∀ p ∈ L, ∃ x y : Int, p.2 = [x, y] ∧ H p.1 = some (.tup [.int x, .int y])) → ∃ ps, Ivs H (L.map fun p => V.ref p.1) ps ∧ L.map (·.2) = ps.map prL
  | [], _ => ⟨[], .nil, rfl⟩
  | p :: L, h => by
    obtain ⟨x, y, e, e1⟩ := h p List.mem_cons_self
    obtain ⟨ps, i, e2⟩ := Ivs.ofKeys (L := L) fun q hq => h q (List.mem_cons_of_mem _ hq)
    exact ⟨(x, y) :: ps, .cons e1 i, by rw [List.map_cons, List.map_cons, e2, e]; rfl⟩
theorem Ivs.tpsMem {H : Hp} {us : List V} {ps : List (Int × Int)} (h : Ivs H us ps) {q : Int × Int} (hq : q ∈ ps) : ∃ a, V.ref a ∈ us ∧ H a = some (.tup [.int q.1, .int q.2]) := by
  induction h with
  | nil => cases hq
  | cons e _ ih =>
    rcases List.mem_cons.mp hq with rfl | hq
    · exact ⟨_, List.mem_cons_self, e⟩
    · obtain ⟨a, h1, h2⟩ := ih hq
      exact ⟨a, List.mem_cons_of_mem _ h1, h2⟩
theorem sorted_keys {K : PySem.W.Frag} {P : Program} {w : World} {H : Hp} {ps : List (Int × Int)} {Q : VK} {ks L : List (Addr × List Int)} {a : Addr} (e2 : ks.map (·.2) = ps.map prL) (e3 : ∀ p ∈ ks, ∃ x y : Int, p.2 = [x, y] ∧ H p.1 = some (.tup [.int x, .int y])) (na : H a = none) (h1 : ∀ p ∈ L, p ∈ ks) (h2 : ∀ p ∈ ks, p.2 ∈ L.map (·.2)) (bd : ∀ q ∈ ps, (0 ≤ q.1 ∧ q.1 < 10 ^ 13) ∧ 0 ≤ q.2 ∧ q.2 < 10 ^ 13)
    (fin : ∀ H' p us' ps', Same H H' → H p = none → H' p = some (.lst us') → Ivs H' us' ps' → ps'.Pairwise ltP → (∀ q, q ∈ ps' ↔ q ∈ ps) → Q (.ref p) H') :
    rSortedT K P w [.ref a] (upd H a (SetTO P w a L)) Q := by
  have s1 : Same H (upd H a (SetTO P w a L)) := same_new na
  refine ⟨a, L, 2, 10 ^ 13, rfl, upd_same, fun p hp => ?_, by decide, fun p hp => ?_, fun L' p pm nd fw pw np => ?_⟩
  · obtain ⟨x, y, e, e1⟩ := e3 p (h1 p hp)
    rw [e]
    exact SqT.of (s1 _ _ e1)
  · have m : p.2 ∈ ks.map (·.2) := List.mem_map.mpr ⟨p, h1 p hp, rfl⟩
    rw [e2] at m
    obtain ⟨q, hq, e⟩ := List.mem_map.mp m
    have b := bd q hq
    rw [← e]
    refine ⟨rfl, fun m hm => ?_⟩
    unfold prL at hm
    rcases List.mem_cons.mp hm with rfl | hm
    · exact b.1
    · rw [List.mem_singleton.mp hm]
      exact b.2
  · have s2 : Same (upd H a (SetTO P w a L)) (upd (upd H a (SetTO P w a L)) p (.lst (L'.map fun q => V.ref q.1))) := same_new np
    obtain ⟨ps', i, e4⟩ := Ivs.ofKeys (H := H) (L := L') fun q hq => e3 q (h1 q (pm.mem_iff.mp hq))
    have mem : ∀ q, q ∈ ps' ↔ q ∈ ps := fun q => by
      rw [← mem_prL, ← e4, ← mem_prL (ps := ps), ← e2, (pm.map (·.2)).mem_iff]
      constructor
      · intro h
        obtain ⟨p, hp, e⟩ := List.mem_map.mp h
        exact List.mem_map.mpr ⟨p, h1 p hp, e⟩
      · intro h
        obtain ⟨p, hp, e⟩ := List.mem_map.mp h
        rw [← e]
        exact h2 p hp
    refine fin _ p _ ps' (s1.trans s2) (s1.free np) upd_same (i.same (s1.trans s2)) ?_ mem
    have pw2 : (L'.map (·.2)).Pairwise (fun q r => TS.code (10 ^ 13) q ≤ TS.code (10 ^ 13) r) := List.pairwise_map.mpr pw
    have both := pw2.and nd
    rw [e4] at both
    refine (List.pairwise_map.mp both).imp_of_mem fun {x y} hx hy h => ?_
    have bx := bd x ((mem x).mp hx)
    have bY := bd y ((mem y).mp hy)
    have tb : ∀ {z : Int × Int}, ((0 ≤ z.1 ∧ z.1 < 10 ^ 13) ∧ 0 ≤ z.2 ∧ z.2 < 10 ^ 13) → TS.Bd (10 ^ 13) [z.1, z.2] := fun b m hm => by
      rcases List.mem_cons.mp hm with rfl | hm
      · exact b.1
      · rw [List.mem_singleton.mp hm]
        exact b.2
    rcases code_lex (tb bx) (tb bY) h.1 with c | ⟨c1, c2⟩
    · exact .inl c
    · refine .inr ⟨c1, ?_⟩
      rcases Int.lt_or_eq_of_le c2 with z | z
      · exact z
      · exact absurd (show prL x = prL y by unfold prL; rw [c1, z]) h.2
theorem sorted_set_pairs {K : PySem.W.Frag} {P : Program} {w : World} {H : Hp} {l : Addr} {us : List V} {ps : List (Int × Int)} {Q : VK} (hl : SqL K H l us) (iv : Ivs H us ps) (few : ps.length < 64) (bd : ∀ q ∈ ps, (0 ≤ q.1 ∧ q.1 < 10 ^ 13) ∧ 0 ≤ q.2 ∧ q.2 < 10 ^ 13)
    (fin : ∀ H' p us' ps', Same H H' → H p = none → H' p = some (.lst us') → Ivs H' us' ps' → ps'.Pairwise ltP → (∀ q, q ∈ ps' ↔ q ∈ ps) → Q (.ref p) H') :
    rSetOfT K P w [.ref l] H (fun x H1 => rSortedT K P w [x] H1 Q) := by
  obtain ⟨ks, rfl, e2, e3⟩ := iv.keys
  have lk : ks.length = ps.length := by
    have z := congrArg List.length e2
    rw [List.length_map, List.length_map] at z
    exact z
  refine ⟨l, ks, rfl, hl, fun p hp => ?_, by omega, fun a L na h1 h2 => ?_⟩
  · obtain ⟨x, y, e, e1⟩ := e3 p hp
    rw [e]
    exact SqT.of e1
  exact sorted_keys e2 e3 na h1 h2 bd fin
/-- drawn intervals: ascending, of the line -/
structure Row (ls : List Int) (ps : List (Int × Int)) : Prop where
  asc : ps.Pairwise ltP
  ok : ∀ q ∈ ps, (q.1 ∈ ls ∧ q.2 ∈ ls) ∧ q.1 ≤ q.2
def sp_law_intervals : Sp := fun vs H Q _ => ∃ (d c l : Addr) (n most : Int) (ls : List Int), vs = [.ref d, .ref l, .int most] ∧ Dk H d c n ∧ 0 ≤ n ∧ n < 999000 ∧ (l ≠ d ∧ l ≠ c) ∧ H l = some (.lst (ls.map V.int)) ∧ 0 < ls.length ∧ ls.length ≤ 100 ∧ Ln ls ∧ 0 ≤ most ∧ most ≤ 30 ∧
  ∀ H' t us ps m, Kp d c H H' → Dk H' d c m → n ≤ m → m ≤ n + 1 + 2 * most → H' t = some (.tup us) → Ivs H' us ps → Row ls ps → (ps.length : Int) ≤ most → Q (.ref t) H'
theorem ok_law_intervals (T : Tx K mg f_contains f_pieces_inside f_first_gap f_generates f_law_deck f_law_draw f_law_line f_law_interval f_law_intervals f_law_gap f_law_shuffled f_law_due f_law d_contains d_pieces_inside d_first_gap d_generates d_law_deck d_law_draw d_law_line d_law_interval d_law_intervals d_law_gap d_law_shuffled d_law_due d_law) : FnOk P w K mg base CX0 3 f_law_intervals d_law_intervals ["_law_deck_here", "_law_line_here", "_law_most"] sp_law_intervals := by
  refine T.F_law_intervals.ok sc_law_intervals (fun vs H Q E h => ?_) (fun cdv A outer s H vs Q E hr h => ?_)
  · obtain ⟨d, c, l, n, most, ls, rfl, _⟩ := h
    rfl
  · obtain ⟨d, c, l, n, most, ls, rfl, dk, n0, n1, off, el, ln0, ln1, ln, m0, m1, q⟩ := h
    refine ⟨_, (pss_cons (ps_setLc (i := 3) (own := [("_law_k", 4)]) (g := (gName 4)) (tt := tYes) (by rfl) sc_law_intervals.nd rfl rfl (sw_true rfl rfl rfl (by decide +kernel)) (pi_range1 (by rfl) T.z_range (pa_cons (pe_call (ok_law_draw T) (hr.mono (by decide)) (by rfl) T.g_law_draw T.F_law_draw.kp T.b_law_draw .nil pass0 (pa_cons (pv 0) (pa_cons (pe_op op_add (pv 2) pe_int) pa_nil))) pa_nil)) (blkOk_by (own := [("_law_k", 4)]) (N := N_law_intervals) (sc := defScope s_law_intervals) (by decide +kernel)) (fun _ _ _ _ _ => (pg_name (i := 4) sc_law_intervals.nd rfl (Or.inl rfl))) (fun _ _ _ _ _ => pts_nil) (fun _ _ _ _ _ => (pe_call (ok_law_interval T) (hr.mono (by decide)) (by rfl) T.g_law_interval T.F_law_interval.kp T.b_law_interval .nil pass0 (pa_cons (pv 0) (pa_cons (pv 1) pa_nil)))))
      (pss_one (ps_ret (pe_callTy call_tuple_of (by rfl) T.z_tuple (by decide +kernel) (pa_cons (pe_callB (cr_sortedT rfl) (by rfl) T.z_sorted (by decide +kernel) (pa_cons (pe_callTy (cr_setOfT rfl hr.units) (by rfl) T.z_set (by decide +kernel) (pa_cons (pv 3) pa_nil)) pa_nil)) pa_nil))))), ?_⟩
    refine ⟨.ref d, rfl, .int most, rfl, _, _, rfl, rfl, d, c, n, most + 1, rfl, dk, n0, by omega, by omega, by omega, fun H1 r kp1 dk1 r0 r1 => ?_⟩
    have el1 := kp1.keep off el
    refine ⟨r, rfl, by omega, by omega, fun D nD => ?_⟩
    refine lcK (d := d) (c := c) (per := 2) (n0 := n + 1) (lo := 0) (n := r.toNat) (fun j H' ws => ∃ ps, Ivs H' ws ps ∧ ps.length = j ∧ ∀ q ∈ ps, (q.1 ∈ ls ∧ q.2 ∈ ls) ∧ q.1 ≤ q.2) nD dk1 (by omega) (fun _ _ _ _ t ⟨ps, h1, h2⟩ => ⟨ps, h1.tps t, h2⟩) (fun j H' ws ⟨ps, h1, h2, _⟩ => by rw [h1.length, h2]; exact Nat.le_refl _) (fun _ => ⟨[], .nil, rfl, fun q hq => nomatch hq⟩) ?_ ?_
    · rintro j H' N acc hj kp' dk' eD ⟨ps, iv, pl, pin⟩ yes
      refine ⟨rfl, .ref d, rfl, .ref l, rfl, d, c, l, _, ls, rfl, dk', by omega, by omega, off, kp'.keep off el1, by omega, by omega, fun H6 lo hi t kp6 dk6 mlo mhi lh nt et => ?_⟩
      refine yes H6 _ kp6 dk6 ⟨ps ++ [(lo, hi)], (iv.tps (kp6.tps dk')).snoc et, by rw [List.length_append, pl]; rfl, fun q hq => ?_⟩
      rcases List.mem_append.mp hq with hq | hq
      · exact pin q hq
      · rw [List.mem_singleton.mp hq]
        exact ⟨⟨mlo, mhi⟩, lh⟩
    · rintro H6 ws kp6 dk6 eD ⟨ps, iv, pl, pin⟩
      refine ⟨.ref D, rfl, ?_⟩
      dsimp only [tNil]
      refine sorted_set_pairs (SqL.of eD) iv (by omega) (fun q hq => ?_) (fun H7 p us' ps' s7 np ep iv' asc mem => ?_)
      · have h := pin q hq
        have h1 := ln.ok _ h.1.1
        have h2 := ln.ok _ h.1.2
        omega
      · refine ⟨p, us', rfl, .inl ⟨SqL.of ep, fun t nt => ?_⟩⟩
        have s8 := same_new (o := .tup us') nt
        have nd : ps'.length ≤ ps.length := by
          have ndp : ps'.Nodup := asc.imp fun {a b} h e => by
            subst e
            rcases h with h | h <;> omega
          exact nodup_le ndp fun x hx => (mem x).mp hx
        refine q _ t us' ps' _ (kp1.trans (kp6.trans (Kp.same (s7.trans s8)))) (dk6.kept (s7.trans s8)) (by omega) (by omega) upd_same (iv'.same s8) ⟨asc, fun q hq => pin q ((mem q).mp hq)⟩ (by omega)

/-! ### contains -/
def inI (x y u v : Int) : Bool := decide (x ≤ u) && decide (v ≤ y)
def sp_contains : Sp := fun vs H Q _ => ∃ (a b : Addr) (x y u v : Int), vs = [.ref a, .ref b] ∧ H a = some (.tup [.int x, .int y]) ∧ H b = some (.tup [.int u, .int v]) ∧ Q (.bl (inI x y u v)) H
theorem ok_contains (T : Tx K mg f_contains f_pieces_inside f_first_gap f_generates f_law_deck f_law_draw f_law_line f_law_interval f_law_intervals f_law_gap f_law_shuffled f_law_due f_law d_contains d_pieces_inside d_first_gap d_generates d_law_deck d_law_draw d_law_line d_law_interval d_law_intervals d_law_gap d_law_shuffled d_law_due d_law) : FnOk P w K mg base CX0 1 f_contains d_contains ["outer", "inner"] sp_contains := by
  refine T.F_contains.ok sc_contains (fun vs H Q E h => ?_) (fun cdv A outer s H vs Q E hr h => ?_)
  · obtain ⟨a, b, x, y, u, v, rfl, _⟩ := h
    rfl
  · obtain ⟨a, b, x, y, u, v, rfl, ha, hb, q⟩ := h
    refine ⟨_, (pss_one (ps_ret (pe_and (pe_cmpR op_le (pe_ix ix_tup (pv 0) pe_int (fun _ _ => rfl)) (pe_ix ix_tup (pv 1) pe_int (fun _ _ => rfl)) (nomark _)) (pe_one (pe_cmpR op_le (pe_ix ix_tup (pv 1) pe_int (fun _ _ => rfl)) (pe_ix ix_tup (pv 0) pe_int (fun _ _ => rfl)) (nomark _)))))), ?_⟩
    unfold inI at q
    refine ⟨.ref a, rfl, a, _, 0, .int x, rfl, rfl, SqT.of ha, rfl, .ref b, rfl, b, _, 0, .int u, rfl, rfl, SqT.of hb, rfl, _, _, rfl, rfl, _, rfl, ite2 (fun e => ?_) (fun e => ?_)⟩
    · refine ⟨.ref b, rfl, b, _, 1, .int v, rfl, rfl, SqT.of hb, rfl, .ref a, rfl, a, _, 1, .int y, rfl, rfl, SqT.of ha, rfl, _, _, rfl, rfl, ?_⟩
      rw [e] at q
      exact q
    · rw [Bool.not_eq_true] at e
      rw [e] at q
      exact q

/-! ### the first gap of a target -/
def covI (ps : List (Int × Int)) (lo hi p : Int) : Prop := ∃ q ∈ ps, (lo ≤ q.1 ∧ q.2 ≤ hi) ∧ q.1 ≤ p ∧ p ≤ q.2
def IsGap (ps : List (Int × Int)) (lo hi : Int) : Option Int → Prop
  | none => ∀ p, lo ≤ p → p ≤ hi → covI ps lo hi p
  | some g => (lo ≤ g ∧ g ≤ hi) ∧ ¬ covI ps lo hi g ∧ ∀ p, lo ≤ p → p < g → covI ps lo hi p
theorem IsGap.uniq {ps : List (Int × Int)} {lo hi : Int} : ∀ {o o' : Option Int}, IsGap ps lo hi o → IsGap ps lo hi o' → o = o'
  | none, none, _, _ => rfl
  | none, some g, h, h' => absurd (h g h'.1.1 h'.1.2) h'.2.1
  | some g, none, h, h' => absurd (h' g h.1.1 h.1.2) h.2.1
  | some g, some g', h, h' => by
    rcases Int.lt_trichotomy g g' with z | z | z
    · exact absurd (h'.2.2 g h.1.1 z) h.2.1
    · rw [z]
    · exact absurd (h.2.2 g' h'.1.1 z) h'.2.1
noncomputable def gapO (ps : List (Int × Int)) (q : Int × Int) : Option Int := by
  classical
  exact if h : ∃ o, IsGap ps q.1 q.2 o then Classical.choose h else none
theorem gapO_eq {ps : List (Int × Int)} {q : Int × Int} {o : Option Int} (h : IsGap ps q.1 q.2 o) : gapO ps q = o := by
  unfold gapO
  rw [dif_pos ⟨o, h⟩]
  exact IsGap.uniq (Classical.choose_spec ⟨o, h⟩) h
def gv : Option Int → V
  | none => .non
  | some g => .int g
theorem Ivs.perm {H : Hp} {xs ys : List V} (pm : ys.Perm xs) : ∀ {ps : List (Int × Int)}, Ivs H xs ps → ∃ ps', Ivs H ys ps' ∧ ps'.Perm ps := by
  induction pm with
  | nil =>
    intro ps h
    exact ⟨ps, h, .refl _⟩
  | cons x _ ih =>
    intro ps h
    cases h with
    | cons e h =>
      obtain ⟨ps', h', p'⟩ := ih h
      exact ⟨_ :: ps', .cons e h', p'.cons _⟩
  | swap x y l =>
    intro ps h
    cases h with
    | cons e h =>
      cases h with
      | cons e2 h => exact ⟨_, .cons e2 (.cons e h), .swap _ _ _⟩
  | trans _ _ ih1 ih2 =>
    intro ps h
    obtain ⟨p2, h2, q2⟩ := ih2 h
    obtain ⟨p1, h1, q1⟩ := ih1 h2
    exact ⟨p1, h1, q1.trans q2⟩
theorem Ivs.pair {H : Hp} {R : V → V → Prop} {S : Int × Int → Int × Int → Prop} (rs : ∀ a b x y u v, H a = some (.tup [.int x, .int y]) → H b = some (.tup [.int u, .int v]) → R (.ref a) (.ref b) → S (x, y) (u, v)) {vs : List V} {ps : List (Int × Int)} (h : Ivs H vs ps) (pw : vs.Pairwise R) : ps.Pairwise S := by
  induction h with
  | nil => exact .nil
  | cons e h ih =>
    have p := List.pairwise_cons.mp pw
    refine List.pairwise_cons.mpr ⟨fun q hq => ?_, ih p.2⟩
    obtain ⟨b, hb, eb⟩ := h.tpsMem hq
    exact rs _ b _ _ q.1 q.2 e eb (p.1 _ hb)
theorem Ivs.mem {H : Hp} {vs : List V} {ps : List (Int × Int)} (h : Ivs H vs ps) {v : V} (hv : v ∈ vs) : ∃ a q, q ∈ ps ∧ v = .ref a ∧ H a = some (.tup [.int q.1, .int q.2]) := by
  obtain ⟨i, ei⟩ := List.getElem?_of_mem hv
  obtain ⟨a, x, y, e, ep, ea⟩ := h.get ei
  exact ⟨a, (x, y), List.mem_of_getElem? ep, e, ea⟩
/-- pieces: pairs of positions in order -/
def Pc (ps : List (Int × Int)) : Prop := ∀ q ∈ ps, (0 ≤ q.1 ∧ q.1 ≤ q.2) ∧ q.2 < 10 ^ 13
def sp_pieces_inside : Sp := fun vs H Q _ => ∃ (a t : Addr) (us : List V) (ps : List (Int × Int)) (lo hi : Int), vs = [.ref a, .ref t] ∧ H a = some (.tup us) ∧ Ivs H us ps ∧ ps.length < 1000 ∧ H t = some (.tup [.int lo, .int hi]) ∧
  ∀ H' p ws, Same H H' → H' p = some (.lst ws) → Ivs H' ws (ps.filter fun q => inI lo hi q.1 q.2) → Q (.ref p) H'
theorem ok_pieces_inside (T : Tx K mg f_contains f_pieces_inside f_first_gap f_generates f_law_deck f_law_draw f_law_line f_law_interval f_law_intervals f_law_gap f_law_shuffled f_law_due f_law d_contains d_pieces_inside d_first_gap d_generates d_law_deck d_law_draw d_law_line d_law_interval d_law_intervals d_law_gap d_law_shuffled d_law_due d_law) : FnOk P w K mg base CX0 2 f_pieces_inside d_pieces_inside ["pieces", "target"] sp_pieces_inside := by
  refine T.F_pieces_inside.ok sc_pieces_inside (fun vs H Q E h => ?_) (fun cdv A outer s H vs Q E hr h => ?_)
  · obtain ⟨a, t, us, ps, lo, hi, rfl, _⟩ := h
    rfl
  · obtain ⟨a, t, us, ps, lo, hi, rfl, ha, iv, few, ht, q⟩ := h
    have lu := iv.length
    refine ⟨_, (pss_one (ps_ret (pe_lc (own := [("piece", 2)]) (g := (gName 2)) (by rfl) sc_pieces_inside.nd (pi_tup (pv 0)) (blkOk_by (own := [("piece", 2)]) (N := N_pieces_inside) (sc := defScope s_pieces_inside) (by decide +kernel)) (fun _ _ _ _ _ => (pg_name (i := 2) sc_pieces_inside.nd rfl (Or.inl rfl))) (fun _ _ _ _ _ => pts_one (pt_val (pe_call (ok_contains T) (hr.mono (by decide)) (by rfl) T.g_contains T.F_contains.kp T.b_contains .nil pass0 (pa_cons (pv 1) (pa_cons (pv 2) pa_nil))))) (fun _ _ _ _ _ => (pv 2))))), ?_⟩
    refine ⟨.ref a, rfl, a, rfl, ⟨_, SqT.of ha⟩, fun D nD => ?_⟩
    refine lcT (K := K) (a := a) (xs := us) (fun j H' ws => Ivs H' ws ((ps.take j).filter fun q => inI lo hi q.1 q.2)) nD (fun H' s => SqT.of (s _ _ ha)) (by omega) (fun _ _ _ _ t r => r.tps t) (fun j H' ws r => ?_) (fun _ => .nil) ?_ ?_
    · rw [r.length]
      exact Nat.le_trans (List.length_filter_le _ _) (List.length_take_le _ _)
    · rintro j z H' N acc hj sj eA sz r no yes
      obtain ⟨b, x, y, rfl, exy, hb⟩ := iv.get hj
      refine ⟨rfl, .ref t, rfl, .ref b, rfl, t, b, lo, hi, x, y, rfl, sj _ _ ht, sj _ _ hb, _, rfl, ite2 (fun c => ?_) (fun c => ?_)⟩
      · refine ⟨.ref b, rfl, yes H' _ (Same.refl _) ?_⟩
        rw [take_filter exy, if_pos c]
        exact r.snoc (sj _ _ hb)
      · refine no H' (Same.refl _) ?_
        rw [take_filter exy, if_neg c, List.append_nil]
        exact r
    · intro H' ws s' eD r
      rw [lu, List.take_length] at r
      exact q H' D ws s' eD r
theorem mem_inI {ps : List (Int × Int)} {lo hi : Int} {q : Int × Int} : q ∈ (ps.filter fun q => inI lo hi q.1 q.2) ↔ q ∈ ps ∧ lo ≤ q.1 ∧ q.2 ≤ hi := by
  rw [List.mem_filter]
  unfold inI
  simp only [Bool.and_eq_true, decide_eq_true_eq]
def sp_first_gap : Sp := fun vs H Q _ => ∃ (a t : Addr) (us : List V) (ps : List (Int × Int)) (lo hi : Int), vs = [.ref a, .ref t] ∧ H a = some (.tup us) ∧ Ivs H us ps ∧ Pc ps ∧ ps.length ≤ 63 ∧ H t = some (.tup [.int lo, .int hi]) ∧ lo ≤ hi ∧
  ∀ H', Same H H' → Q (gv (gapO ps (lo, hi))) H'
theorem ok_first_gap (T : Tx K mg f_contains f_pieces_inside f_first_gap f_generates f_law_deck f_law_draw f_law_line f_law_interval f_law_intervals f_law_gap f_law_shuffled f_law_due f_law d_contains d_pieces_inside d_first_gap d_generates d_law_deck d_law_draw d_law_line d_law_interval d_law_intervals d_law_gap d_law_shuffled d_law_due d_law) : FnOk P w K mg base CX0 3 f_first_gap d_first_gap ["pieces", "target"] sp_first_gap := by
  refine T.F_first_gap.ok sc_first_gap (fun vs H Q E h => ?_) (fun cdv A outer s H vs Q E hr h => ?_)
  · obtain ⟨a, t, us, ps, lo, hi, rfl, _⟩ := h
    rfl
  · obtain ⟨a, t, us, ps, lo, hi, rfl, ha, iv, pc, few, ht, lh, q⟩ := h
    refine ⟨_, (pss_cons (ps_asg (pv 1) (pg_tup rfl (pgs_cons (pg_name (i := 2) sc_first_gap.nd rfl (Or.inl rfl)) (pgs_cons (pg_name (i := 3) sc_first_gap.nd rfl (Or.inl rfl)) pgs_nil))))
      (pss_cons (ps_for PassesOwn.never rfl (pi_list (pe_callB (cr_sortT (d := 2) (B := 10 ^ 13) (by decide)) (by rfl) T.z_sorted (by decide +kernel) (pa_cons (pe_call (ok_pieces_inside T) (hr.mono (by decide)) (by rfl) T.g_pieces_inside T.F_pieces_inside.kp T.b_pieces_inside .nil pass0 (pa_cons (pv 0) (pa_cons (pv 1) pa_nil))) pa_nil))) (pg_tup rfl (pgs_cons (pg_name (i := 4) sc_first_gap.nd rfl (Or.inl rfl)) (pgs_cons (pg_name (i := 5) sc_first_gap.nd rfl (Or.inl rfl)) pgs_nil)))
      (pss_cons (ps_if (pt_cmpR op_gt (pv 4) (pv 2) (nomark _))
      (pss_one (ps_ret (pv 2)))
      pss_nil)
      (pss_one (ps_set (i := 2) sc_first_gap.nd rfl (Or.inl rfl) (pe_callB (call_max2 rfl) (by rfl) T.z_max (by decide +kernel) (pa_cons (pv 2) (pa_cons (pe_op op_add (pv 5) pe_int) pa_nil)))))))
      (pss_one (ps_ret (pe_ifExp (pt_cmpR op_le (pv 2) (pv 3) (nomark _)) (pv 2) pe_non))))), ?_⟩
    refine ⟨.ref t, rfl, t, _, rfl, SqT.of ht, rfl, .int lo, [.int hi], rfl, .int hi, [], rfl, rfl, ?_⟩
    refine ⟨.ref a, rfl, .ref t, rfl, a, t, us, ps, lo, hi, rfl, ha, iv, by omega, ht, fun H1 p ws s1 ep iv1 => ?_⟩
    obtain ⟨fs, efs⟩ : ∃ fs, fs = ps.filter fun q => inI lo hi q.1 q.2 := ⟨_, rfl⟩
    have mf : ∀ q, q ∈ fs ↔ q ∈ ps ∧ lo ≤ q.1 ∧ q.2 ≤ hi := fun q => by
      rw [efs]
      exact mem_inI
    have lf : fs.length ≤ ps.length := by
      rw [efs]
      exact List.length_filter_le _ _
    rw [← efs] at iv1
    have lw := iv1.length
    have bdp : ∀ q ∈ fs, TS.Bd (10 ^ 13) [q.1, q.2] := fun q hq m hm => by
      have z := pc q ((mf q).mp hq).1
      rcases List.mem_cons.mp hm with rfl | hm
      · exact ⟨z.1.1, Int.lt_of_le_of_lt z.1.2 z.2⟩
      · rw [List.mem_singleton.mp hm]
        exact ⟨Int.le_trans z.1.1 z.1.2, z.2⟩
    refine ⟨p, ws, rfl, SqL.of ep, by omega, fun x hx => ?_, fun ys p2 pm pw np2 => ?_⟩
    · obtain ⟨b, qq, hqq, e, eb⟩ := iv1.mem hx
      exact ⟨[qq.1, qq.2], ⟨b, e, SqT.of eb⟩, rfl, bdp qq hqq⟩
    obtain ⟨gs, ivg, pmg⟩ := Ivs.perm pm iv1
    have mg : ∀ q, q ∈ gs ↔ q ∈ ps ∧ lo ≤ q.1 ∧ q.2 ≤ hi := fun q => by rw [pmg.mem_iff, mf]
    have asc : gs.Pairwise (fun a b => a.1 ≤ b.1) := by
      have z : gs.Pairwise (fun a b => TS.code (10 ^ 13) [a.1, a.2] ≤ TS.code (10 ^ 13) [b.1, b.2]) := Ivs.pair (S := fun a b => TS.code (10 ^ 13) [a.1, a.2] ≤ TS.code (10 ^ 13) [b.1, b.2]) (fun a b x y u v ea eb h => h [x, y] [u, v] ⟨a, rfl, SqT.of ea⟩ ⟨b, rfl, SqT.of eb⟩) ivg pw
      refine z.imp_of_mem fun {x y} hx hy h => ?_
      exact code_first (bdp x (pmg.mem_iff.mp hx)) (bdp y (pmg.mem_iff.mp hy)) h
    have s2 := same_new (o := .lst ys) np2
    have ep2 := upd_same (H := H1) (a := p2) (o := .lst ys)
    replace ivg := ivg.same s2
    generalize upd H1 p2 (.lst ys) = H2 at *
    have lg := ivg.length
    refine ⟨p2, rfl, ⟨_, SqL.of ep2⟩, for_list (K := K) (a := p2) (xs := ys) (fun i σ H' => H' = H2 ∧ ∃ (pos : Int) (y4 y5 : Option V), (lo ≤ pos ∧ pos ≤ hi + 1) ∧ (∀ z, lo ≤ z → z < pos → covI ps lo hi z) ∧ (∀ q ∈ gs.take i, q.2 < pos) ∧ σ = [some (.ref a), some (.ref t), some (.int pos), some (.int hi), y4, y5])
      ⟨rfl, lo, _, _, by omega, (fun z h1 h2 => absurd h1 (by omega)), (fun q hq => nomatch hq), rfl⟩ (fun i σ H' _ h => by rw [h.1]; exact SqL.of ep2) ?_ ?_⟩
    · rintro i v σ H' hi2 ⟨rfl, pos, y4, y5, b1, cv, dn, rfl⟩
      obtain ⟨b, x, y, rfl, exy, hb⟩ := ivg.get hi2
      have inq := (mg (x, y)).mp (List.mem_of_getElem? exy)
      have pq := pc _ inq.1
      simp only at inq pq
      refine ⟨b, _, rfl, SqT.of hb, rfl, .int x, [.int y], rfl, .int y, [], rfl, rfl, ?_⟩
      refine ⟨.int x, rfl, .int pos, rfl, _, _, rfl, rfl, _, rfl, ite2 (fun c => ?_) (fun c => ?_)⟩
      · have c := of_decide_eq_true c
        refine ⟨.int pos, rfl, ?_⟩
        have g : IsGap ps lo hi (some pos) := by
          refine ⟨by omega, fun ⟨q, hq, hin, h1, h2⟩ => ?_, cv⟩
          obtain ⟨j, ej⟩ := List.getElem?_of_mem ((mg q).mpr ⟨hq, hin⟩)
          rcases Nat.lt_or_ge j i with z | z
          · have := dn q (List.mem_of_getElem? (show (gs.take i)[j]? = some q by rw [List.getElem?_take_of_lt z]; exact ej))
            omega
          · have : x ≤ q.1 := by
              obtain ⟨hj', rfl⟩ := List.getElem?_eq_some_iff.mp ej
              obtain ⟨hi', e'⟩ := List.getElem?_eq_some_iff.mp exy
              rcases Nat.eq_or_lt_of_le z with z | z
              · subst z
                rw [e']
                exact Int.le_refl _
              · have := List.pairwise_iff_getElem.mp asc i j hi' hj' z
                rw [e'] at this
                exact this
            omega
        have z := q _ (s1.trans s2)
        rw [gapO_eq (q := (lo, hi)) g] at z
        exact z
      · have c : ¬ (pos < x) := fun z => c (decide_eq_true z)
        refine ⟨.int pos, rfl, .int y, rfl, _, _, rfl, rfl, _, _, rfl, rfl, mxI pos (y + 1), _, _, ?_, fun z h1 h2 => ?_, fun q hq => ?_, rfl⟩
        · unfold mxI
          split <;> omega
        · rcases Int.lt_or_le z pos with h | h
          · exact cv z h1 h
          · refine ⟨(x, y), inq.1, inq.2, ?_, ?_⟩
            · show x ≤ z
              omega
            · show z ≤ y
              unfold mxI at h2
              split at h2 <;> omega
        · rw [List.take_add_one, exy] at hq
          have m1 : pos ≤ mxI pos (y + 1) ∧ y + 1 ≤ mxI pos (y + 1) := by
            unfold mxI
            split <;> omega
          rcases List.mem_append.mp hq with hq | hq
          · have := dn q hq
            omega
          · rw [List.mem_singleton.mp hq]
            show y < _
            omega
    · rintro σ H' ⟨rfl, pos, y4, y5, b1, cv, dn, rfl⟩
      rw [lg, List.take_length] at dn
      have z := q _ (s1.trans s2)
      refine ⟨.int pos, rfl, .int hi, rfl, _, _, rfl, rfl, _, rfl, ite2 (fun c => ?_) (fun c => ?_)⟩
      · have c := of_decide_eq_true c
        have g : IsGap ps lo hi (some pos) := by
          refine ⟨by omega, fun ⟨q, hq, hin, h1, h2⟩ => ?_, cv⟩
          have := dn q ((mg q).mpr ⟨hq, hin⟩)
          omega
        rw [gapO_eq (q := (lo, hi)) g] at z
        exact ⟨.int pos, rfl, z⟩
      · have c : ¬ (pos ≤ hi) := fun z => c (decide_eq_true z)
        have g : IsGap ps lo hi none := fun p h1 h2 => cv p h1 (by omega)
        rw [gapO_eq (q := (lo, hi)) g] at z
        exact z
/-! ### the law's own search for the gap -/
def sp_law_gap (K : PySem.W.Frag) : Sp := fun vs H Q _ => ∃ (a t : Addr) (us : List V) (ps : List (Int × Int)) (lo hi : Int), vs = [.ref a, .ref t] ∧ (H a = some (.lst us) ∨ H a = some (.tup us)) ∧ Ivs H us ps ∧ ps.length < 1000 ∧ H t = some (.tup [.int lo, .int hi]) ∧ lo ≤ hi ∧
  ∀ H', Same H H' → Q (gv (gapO ps (lo, hi))) H'
theorem map2_filter_len {α : Type} {ns : List α} {p : α → Bool} {f : α → Int} (i : Nat) : ((((ns.take i).filter p).map f).map V.int).length ≤ i := by
  rw [List.length_map, List.length_map]
  exact Nat.le_trans (List.length_filter_le _ _) (List.length_take_le _ _)
def msG (hi : Int) (σ : L2.St) : Nat := match σ[2]? with
  | some (some (V.int p)) => (hi + 1 - p).toNat
  | _ => 0
theorem ok_law_gap (T : Tx K mg f_contains f_pieces_inside f_first_gap f_generates f_law_deck f_law_draw f_law_line f_law_interval f_law_intervals f_law_gap f_law_shuffled f_law_due f_law d_contains d_pieces_inside d_first_gap d_generates d_law_deck d_law_draw d_law_line d_law_interval d_law_intervals d_law_gap d_law_shuffled d_law_due d_law) : FnOk P w K mg base CX0 1 f_law_gap d_law_gap ["_law_pieces", "_law_target"] (sp_law_gap K) := by
  refine T.F_law_gap.ok sc_law_gap (fun vs H Q E h => ?_) (fun cdv A outer s H vs Q E hr h => ?_)
  · obtain ⟨a, t, us, ps, lo, hi, rfl, _⟩ := h
    rfl
  · obtain ⟨a, t, us, ps, lo, hi, rfl, hau, iv, few, ht, lh, q⟩ := h
    have lu := iv.length
    -- what a turn needs, whatever the pieces stand in
    have turn : ∀ (pos : Int) (H1 : Hp) (N : Prop), Same H H1 → (lo ≤ pos ∧ pos ≤ hi) → (∀ z, lo ≤ z → z < pos → covI ps lo hi z) → ∀ es, es = (((ps.filter fun q => decide ((lo ≤ q.1 ∧ q.1 ≤ pos) ∧ pos ≤ q.2)).map (·.2)).filter fun e => decide (e ≤ hi)) →
        (es = [] → IsGap ps lo hi (some pos)) ∧ (∀ m, m ∈ es → (∀ y ∈ es, y ≤ m) → (lo ≤ m + 1 ∧ m + 1 ≤ hi + 1) ∧ pos < m + 1 ∧ ∀ z, lo ≤ z → z < m + 1 → covI ps lo hi z) := by
      intro pos H1 N _ b1 cv es ees
      have mes : ∀ e, e ∈ es ↔ ∃ q ∈ ps, ((lo ≤ q.1 ∧ q.1 ≤ pos) ∧ pos ≤ q.2) ∧ q.2 = e ∧ e ≤ hi := fun e => by
        rw [ees, List.mem_filter]
        constructor
        · rintro ⟨h1, h2⟩
          obtain ⟨q, hq, rfl⟩ := List.mem_map.mp h1
          have z := List.mem_filter.mp hq
          exact ⟨q, z.1, of_decide_eq_true z.2, rfl, of_decide_eq_true h2⟩
        · rintro ⟨q, hq, h1, h2, h3⟩
          exact ⟨List.mem_map.mpr ⟨q, List.mem_filter.mpr ⟨hq, decide_eq_true h1⟩, h2⟩, decide_eq_true h3⟩
      refine ⟨fun e => ⟨b1, fun ⟨q, hq, hin, h1, h2⟩ => ?_, cv⟩, fun m hm top => ?_⟩
      · have z : q.2 ∈ es := (mes q.2).mpr ⟨q, hq, ⟨⟨hin.1, h1⟩, h2⟩, rfl, hin.2⟩
        rw [e] at z
        cases z
      · obtain ⟨q, hq, h1, h2, h3⟩ := (mes m).mp hm
        refine ⟨by omega, by omega, fun z z1 z2 => ?_⟩
        rcases Int.lt_or_le z pos with h | h
        · exact cv z z1 h
        · exact ⟨q, hq, ⟨h1.1.1, by omega⟩, by omega, by omega⟩
    have done : ∀ (pos : Int) (H1 : Hp), Same H H1 → hi < pos → (∀ z, lo ≤ z → z < pos → covI ps lo hi z) → Q .non H1 := fun pos H1 s1 h cv => by
      have g : IsGap ps lo hi none := fun p h1 h2 => cv p h1 (by omega)
      have z := q _ s1
      rw [gapO_eq (q := (lo, hi)) g] at z
      exact z
    rcases hau with ha | ha
    · refine ⟨_, (pss_cons (ps_set (i := 2) sc_law_gap.nd rfl (Or.inr rfl) (pe_ix ix_tup (pv 1) pe_int (fun _ _ => rfl)))
      (pss_cons (ps_while PassesOwn.never (pt_cmpR op_le (pv 2) (pe_ix ix_tup (pv 1) pe_int (fun _ _ => rfl)) (nomark _))
      (pss_cons (ps_setLc (i := 3) (own := [("_law_start", 4), ("_law_end", 5)]) (g := (gTup K 2 (gCons (gName 4) (gCons (gName 5) gNil)))) (by rfl) sc_law_gap.nd rfl rfl (sw_true rfl rfl rfl (by decide +kernel)) (pi_list (pv 0)) (blkOk_by (own := [("_law_start", 4), ("_law_end", 5)]) (N := N_law_gap) (sc := defScope s_law_gap) (by decide +kernel)) (fun _ _ _ _ _ => (pg_tup rfl (pgs_cons (pg_name (i := 4) sc_law_gap.nd rfl (Or.inl rfl)) (pgs_cons (pg_name (i := 5) sc_law_gap.nd rfl (Or.inl rfl)) pgs_nil)))) (fun _ _ _ _ _ => pts_one (pt_chN (pe_ix (show IxR _ (rIxT K) from ix_tup) (pv 1) pe_int (fun _ _ => rfl)) (pchT_link op_le (pv 4) (pchT_link op_le (pv 2) (pchT_last op_le (pv 5)))))) (fun _ _ _ _ _ => (pv 5)))
      (pss_cons (ps_setLc (i := 3) (own := [("_law_end", 5)]) (g := (gName 5)) (by rfl) sc_law_gap.nd rfl rfl (sw_true rfl rfl rfl (by decide +kernel)) (pi_list (pv 3)) (blkOk_by (own := [("_law_end", 5)]) (N := N_law_gap) (sc := defScope s_law_gap) (by decide +kernel)) (fun _ _ _ _ _ => (pg_name (i := 5) sc_law_gap.nd rfl (Or.inl rfl))) (fun _ _ _ _ _ => pts_one (pt_cmpR op_le (pv 5) (pe_ix (show IxR _ (rIxT K) from ix_tup) (pv 1) pe_int (fun _ _ => rfl)) (nomark _))) (fun _ _ _ _ _ => (pv 5)))
      (pss_cons (ps_if (pt_cmpR (op_eqL hr.units0) (pv 3) (pe_lst pa_nil) (nomark _))
      (pss_one (ps_ret (pv 2)))
      pss_nil)
      (pss_one (ps_set (i := 2) sc_law_gap.nd rfl (Or.inr rfl) (pe_op op_add (pe_callB (cr_max rfl) (by rfl) T.z_max (by decide +kernel) (pa_cons (pv 3) pa_nil)) pe_int)))))))
      (pss_one (ps_ret pe_non)))), ?_⟩
      refine ⟨.ref t, rfl, t, _, 0, .int lo, rfl, rfl, SqT.of ht, rfl, ?_⟩
      refine while_by (fun σ H' => Same H H' ∧ ∃ (pos : Int) (y3 y4 y5 : Option V), (lo ≤ pos ∧ pos ≤ hi + 1) ∧ (∀ z, lo ≤ z → z < pos → covI ps lo hi z) ∧ σ = [some (.ref a), some (.ref t), some (.int pos), y3, y4, y5]) (fun σ _ => msG hi σ) ⟨Same.refl _, lo, _, _, _, by omega, (fun z h1 h2 => absurd h1 (by omega)), rfl⟩ ?_ ?_
      · rintro σ H1 ⟨s1, pos, y3, y4, y5, b1, cv, rfl⟩
        refine ⟨.int pos, rfl, .ref t, rfl, t, _, 1, .int hi, rfl, rfl, SqT.of (s1 _ _ ht), rfl, _, _, rfl, rfl, _, rfl, ite2 (fun c => ?_) (fun c => ?_)⟩
        · have c := of_decide_eq_true c
          refine ⟨.ref a, rfl, a, rfl, ⟨_, SqL.of (s1 _ _ ha)⟩, fun D nD => ?_⟩
          refine lcL (K := K) (a := a) (xs := us) (fun j H' ws => ws = (((ps.take j).filter fun q => decide ((lo ≤ q.1 ∧ q.1 ≤ pos) ∧ pos ≤ q.2)).map (·.2)).map V.int) nD (fun H' s => SqL.of (s _ _ (s1 _ _ ha))) (by omega) (fun _ _ _ _ _ r => r) (fun j H' ws r => by rw [r]; exact map2_filter_len j) (fun _ => rfl) ?_ ?_
          · rintro j v H' N acc hj sj eA sz r no yes
            obtain ⟨b, x, y, rfl, exy, hb⟩ := iv.get hj
            have sA := s1.trans sj
            have hb' := sA _ _ hb
            have out : ¬ ((lo ≤ x ∧ x ≤ pos) ∧ pos ≤ y) → N H' := fun e => by
              refine no H' (Same.refl _) ?_
              rw [r, take_filter exy, if_neg (fun z => e (of_decide_eq_true z)), List.append_nil]
            refine ⟨b, _, rfl, SqT.of hb', rfl, .int x, [.int y], rfl, .int y, [], rfl, rfl, rfl, .ref t, rfl, t, _, 0, .int lo, rfl, rfl, SqT.of (sA _ _ ht), rfl, .int x, rfl, _, _, rfl, rfl, _, rfl, ite2 (fun c1 => ?_) (fun c1 => ?_)⟩
            · refine ⟨.int pos, rfl, _, _, rfl, rfl, _, rfl, ite2 (fun c2 => ?_) (fun c2 => ?_)⟩
              · refine ⟨.int y, rfl, _, _, rfl, rfl, _, rfl, ite2 (fun c3 => ?_) (fun c3 => ?_)⟩
                · refine ⟨.int y, rfl, yes H' _ (Same.refl _) ?_⟩
                  rw [r, take_filter exy, if_pos (decide_eq_true ⟨⟨of_decide_eq_true c1, of_decide_eq_true c2⟩, of_decide_eq_true c3⟩), List.map_append, List.map_append]
                  rfl
                · exact out fun e => c3 (decide_eq_true e.2)
              · exact ⟨_, rfl, iteF (out fun e => c2 (decide_eq_true e.1.2))⟩
            · exact ⟨_, rfl, iteF (out fun e => c1 (decide_eq_true e.1.1))⟩
          · intro H2 ws s2 eD r
            rw [lu, List.take_length] at r
            subst r
            have s12 := s1.trans s2
            have ll := List.length_filter_le (fun q : Int × Int => decide ((lo ≤ q.1 ∧ q.1 ≤ pos) ∧ pos ≤ q.2)) ps
            obtain ⟨fs, efs⟩ : ∃ fs, fs = ((ps.filter fun q => decide ((lo ≤ q.1 ∧ q.1 ≤ pos) ∧ pos ≤ q.2)).map (·.2)) := ⟨_, rfl⟩
            have lfs : fs.length < 1000 := by rw [efs, List.length_map]; omega
            have tn := turn pos H2 True s12 ⟨b1.1, c⟩ cv
            rw [← efs] at eD tn
            refine ⟨.ref D, rfl, D, rfl, ⟨_, SqL.of eD⟩, fun D2 nD2 => ?_⟩
            refine lcL (K := K) (a := D) (xs := fs.map V.int) (fun j H' ws => ws = ((fs.take j).filter fun e => decide (e ≤ hi)).map V.int) nD2 (fun H' s => SqL.of (s _ _ eD)) (by rw [List.length_map]; exact lfs) (fun _ _ _ _ _ r => r) (fun j H' ws r => by rw [r]; exact map_filter_len j) (fun _ => rfl) ?_ ?_
            · rintro j v H' N acc hj sj eA sz r no yes
              rw [List.getElem?_map] at hj
              obtain ⟨e, ee, rfl⟩ := Option.map_eq_some_iff.mp hj
              refine ⟨rfl, .int e, rfl, .ref t, rfl, t, _, 1, .int hi, rfl, rfl, SqT.of (sj _ _ (s12 _ _ ht)), rfl, _, _, rfl, rfl, _, rfl, ite2 (fun c1 => ?_) (fun c1 => ?_)⟩
              · refine ⟨.int e, rfl, yes H' _ (Same.refl _) ?_⟩
                rw [r, take_filter ee, if_pos c1, List.map_append]
                rfl
              · refine no H' (Same.refl _) ?_
                rw [r, take_filter ee, if_neg c1, List.append_nil]
            · intro H3 ws s3 eD2 r
              rw [List.length_map, List.take_length] at r
              subst r
              obtain ⟨es, ees⟩ : ∃ es, es = fs.filter fun e => decide (e ≤ hi) := ⟨_, rfl⟩
              have tn2 := tn es ees
              rw [← ees] at eD2
              have s13 := s12.trans s3
              refine ⟨.ref D2, rfl, by show 0 ≤ sizeLine; decide, fun z nz => ?_⟩
              have s4 := same_new (o := .lst []) nz
              refine ⟨D2, z, _, rfl, rfl, SqL.of (s4 _ _ eD2), SqL.of upd_same, _, rfl, ite2 (fun c1 => ?_) (fun c1 => ?_)⟩
              · have e0 : es = [] := by
                  rw [List.isEmpty_iff, List.map_eq_nil_iff] at c1
                  exact c1
                have zz := q _ (s13.trans s4)
                rw [gapO_eq (q := (lo, hi)) (tn2.1 e0)] at zz
                exact ⟨.int pos, rfl, zz⟩
              · have ne : 0 < es.length := by
                  cases es with
                  | nil => exact absurd rfl c1
                  | cons x r => exact Nat.succ_pos _
                refine ⟨.ref D2, rfl, D2, es, rfl, SqL.of (s4 _ _ eD2), ne, fun m hm top => ?_⟩
                obtain ⟨w1, w2, w3⟩ := tn2.2 m hm top
                refine ⟨_, _, rfl, rfl, ⟨s13.trans s4, m + 1, _, _, _, w1, w3, rfl⟩, ?_⟩
                show (hi + 1 - (m + 1)).toNat < (hi + 1 - pos).toNat
                omega
        · exact done pos H1 s1 (by have h : ¬ pos ≤ hi := fun z => c (decide_eq_true z); omega) cv
      · rintro σ H1 Q1 Q2 hm ⟨v1, e1, v2, e2, p, xs, ix, v3, e3, e4, e5, e6, i, j, e7, e8, k, e9, z⟩
        exact ⟨v1, e1, v2, e2, p, xs, ix, v3, e3, e4, e5, e6, i, j, e7, e8, k, e9, hm _ _ z⟩
    · refine ⟨_, (pss_cons (ps_set (i := 2) sc_law_gap.nd rfl (Or.inr rfl) (pe_ix ix_tup (pv 1) pe_int (fun _ _ => rfl)))
      (pss_cons (ps_while PassesOwn.never (pt_cmpR op_le (pv 2) (pe_ix ix_tup (pv 1) pe_int (fun _ _ => rfl)) (nomark _))
      (pss_cons (ps_setLc (i := 3) (own := [("_law_start", 4), ("_law_end", 5)]) (g := (gTup K 2 (gCons (gName 4) (gCons (gName 5) gNil)))) (by rfl) sc_law_gap.nd rfl rfl (sw_true rfl rfl rfl (by decide +kernel)) (pi_tup (pv 0)) (blkOk_by (own := [("_law_start", 4), ("_law_end", 5)]) (N := N_law_gap) (sc := defScope s_law_gap) (by decide +kernel)) (fun _ _ _ _ _ => (pg_tup rfl (pgs_cons (pg_name (i := 4) sc_law_gap.nd rfl (Or.inl rfl)) (pgs_cons (pg_name (i := 5) sc_law_gap.nd rfl (Or.inl rfl)) pgs_nil)))) (fun _ _ _ _ _ => pts_one (pt_chN (pe_ix (show IxR _ (rIxT K) from ix_tup) (pv 1) pe_int (fun _ _ => rfl)) (pchT_link op_le (pv 4) (pchT_link op_le (pv 2) (pchT_last op_le (pv 5)))))) (fun _ _ _ _ _ => (pv 5)))
      (pss_cons (ps_setLc (i := 3) (own := [("_law_end", 5)]) (g := (gName 5)) (by rfl) sc_law_gap.nd rfl rfl (sw_true rfl rfl rfl (by decide +kernel)) (pi_list (pv 3)) (blkOk_by (own := [("_law_end", 5)]) (N := N_law_gap) (sc := defScope s_law_gap) (by decide +kernel)) (fun _ _ _ _ _ => (pg_name (i := 5) sc_law_gap.nd rfl (Or.inl rfl))) (fun _ _ _ _ _ => pts_one (pt_cmpR op_le (pv 5) (pe_ix (show IxR _ (rIxT K) from ix_tup) (pv 1) pe_int (fun _ _ => rfl)) (nomark _))) (fun _ _ _ _ _ => (pv 5)))
      (pss_cons (ps_if (pt_cmpR (op_eqL hr.units0) (pv 3) (pe_lst pa_nil) (nomark _))
      (pss_one (ps_ret (pv 2)))
      pss_nil)
      (pss_one (ps_set (i := 2) sc_law_gap.nd rfl (Or.inr rfl) (pe_op op_add (pe_callB (cr_max rfl) (by rfl) T.z_max (by decide +kernel) (pa_cons (pv 3) pa_nil)) pe_int)))))))
      (pss_one (ps_ret pe_non)))), ?_⟩
      refine ⟨.ref t, rfl, t, _, 0, .int lo, rfl, rfl, SqT.of ht, rfl, ?_⟩
      refine while_by (fun σ H' => Same H H' ∧ ∃ (pos : Int) (y3 y4 y5 : Option V), (lo ≤ pos ∧ pos ≤ hi + 1) ∧ (∀ z, lo ≤ z → z < pos → covI ps lo hi z) ∧ σ = [some (.ref a), some (.ref t), some (.int pos), y3, y4, y5]) (fun σ _ => msG hi σ) ⟨Same.refl _, lo, _, _, _, by omega, (fun z h1 h2 => absurd h1 (by omega)), rfl⟩ ?_ ?_
      · rintro σ H1 ⟨s1, pos, y3, y4, y5, b1, cv, rfl⟩
        refine ⟨.int pos, rfl, .ref t, rfl, t, _, 1, .int hi, rfl, rfl, SqT.of (s1 _ _ ht), rfl, _, _, rfl, rfl, _, rfl, ite2 (fun c => ?_) (fun c => ?_)⟩
        · have c := of_decide_eq_true c
          refine ⟨.ref a, rfl, a, rfl, ⟨_, SqT.of (s1 _ _ ha)⟩, fun D nD => ?_⟩
          refine lcT (K := K) (a := a) (xs := us) (fun j H' ws => ws = (((ps.take j).filter fun q => decide ((lo ≤ q.1 ∧ q.1 ≤ pos) ∧ pos ≤ q.2)).map (·.2)).map V.int) nD (fun H' s => SqT.of (s _ _ (s1 _ _ ha))) (by omega) (fun _ _ _ _ _ r => r) (fun j H' ws r => by rw [r]; exact map2_filter_len j) (fun _ => rfl) ?_ ?_
          · rintro j v H' N acc hj sj eA sz r no yes
            obtain ⟨b, x, y, rfl, exy, hb⟩ := iv.get hj
            have sA := s1.trans sj
            have hb' := sA _ _ hb
            have out : ¬ ((lo ≤ x ∧ x ≤ pos) ∧ pos ≤ y) → N H' := fun e => by
              refine no H' (Same.refl _) ?_
              rw [r, take_filter exy, if_neg (fun z => e (of_decide_eq_true z)), List.append_nil]
            refine ⟨b, _, rfl, SqT.of hb', rfl, .int x, [.int y], rfl, .int y, [], rfl, rfl, rfl, .ref t, rfl, t, _, 0, .int lo, rfl, rfl, SqT.of (sA _ _ ht), rfl, .int x, rfl, _, _, rfl, rfl, _, rfl, ite2 (fun c1 => ?_) (fun c1 => ?_)⟩
            · refine ⟨.int pos, rfl, _, _, rfl, rfl, _, rfl, ite2 (fun c2 => ?_) (fun c2 => ?_)⟩
              · refine ⟨.int y, rfl, _, _, rfl, rfl, _, rfl, ite2 (fun c3 => ?_) (fun c3 => ?_)⟩
                · refine ⟨.int y, rfl, yes H' _ (Same.refl _) ?_⟩
                  rw [r, take_filter exy, if_pos (decide_eq_true ⟨⟨of_decide_eq_true c1, of_decide_eq_true c2⟩, of_decide_eq_true c3⟩), List.map_append, List.map_append]
                  rfl
                · exact out fun e => c3 (decide_eq_true e.2)
              · exact ⟨_, rfl, iteF (out fun e => c2 (decide_eq_true e.1.2))⟩
            · exact ⟨_, rfl, iteF (out fun e => c1 (decide_eq_true e.1.1))⟩
          · intro H2 ws s2 eD r
            rw [lu, List.take_length] at r
            subst r
            have s12 := s1.trans s2
            have ll := List.length_filter_le (fun q : Int × Int => decide ((lo ≤ q.1 ∧ q.1 ≤ pos) ∧ pos ≤ q.2)) ps
            obtain ⟨fs, efs⟩ : ∃ fs, fs = ((ps.filter fun q => decide ((lo ≤ q.1 ∧ q.1 ≤ pos) ∧ pos ≤ q.2)).map (·.2)) := ⟨_, rfl⟩
            have lfs : fs.length < 1000 := by rw [efs, List.length_map]; omega
            have tn := turn pos H2 True s12 ⟨b1.1, c⟩ cv
            rw [← efs] at eD tn
            refine ⟨.ref D, rfl, D, rfl, ⟨_, SqL.of eD⟩, fun D2 nD2 => ?_⟩
            refine lcL (K := K) (a := D) (xs := fs.map V.int) (fun j H' ws => ws = ((fs.take j).filter fun e => decide (e ≤ hi)).map V.int) nD2 (fun H' s => SqL.of (s _ _ eD)) (by rw [List.length_map]; exact lfs) (fun _ _ _ _ _ r => r) (fun j H' ws r => by rw [r]; exact map_filter_len j) (fun _ => rfl) ?_ ?_
            · rintro j v H' N acc hj sj eA sz r no yes
              rw [List.getElem?_map] at hj
              obtain ⟨e, ee, rfl⟩ := Option.map_eq_some_iff.mp hj
              refine ⟨rfl, .int e, rfl, .ref t, rfl, t, _, 1, .int hi, rfl, rfl, SqT.of (sj _ _ (s12 _ _ ht)), rfl, _, _, rfl, rfl, _, rfl, ite2 (fun c1 => ?_) (fun c1 => ?_)⟩
              · refine ⟨.int e, rfl, yes H' _ (Same.refl _) ?_⟩
                rw [r, take_filter ee, if_pos c1, List.map_append]
                rfl
              · refine no H' (Same.refl _) ?_
                rw [r, take_filter ee, if_neg c1, List.append_nil]
            · intro H3 ws s3 eD2 r
              rw [List.length_map, List.take_length] at r
              subst r
              obtain ⟨es, ees⟩ : ∃ es, es = fs.filter fun e => decide (e ≤ hi) := ⟨_, rfl⟩
              have tn2 := tn es ees
              rw [← ees] at eD2
              have s13 := s12.trans s3
              refine ⟨.ref D2, rfl, by show 0 ≤ sizeLine; decide, fun z nz => ?_⟩
              have s4 := same_new (o := .lst []) nz
              refine ⟨D2, z, _, rfl, rfl, SqL.of (s4 _ _ eD2), SqL.of upd_same, _, rfl, ite2 (fun c1 => ?_) (fun c1 => ?_)⟩
              · have e0 : es = [] := by
                  rw [List.isEmpty_iff, List.map_eq_nil_iff] at c1
                  exact c1
                have zz := q _ (s13.trans s4)
                rw [gapO_eq (q := (lo, hi)) (tn2.1 e0)] at zz
                exact ⟨.int pos, rfl, zz⟩
              · have ne : 0 < es.length := by
                  cases es with
                  | nil => exact absurd rfl c1
                  | cons x r => exact Nat.succ_pos _
                refine ⟨.ref D2, rfl, D2, es, rfl, SqL.of (s4 _ _ eD2), ne, fun m hm top => ?_⟩
                obtain ⟨w1, w2, w3⟩ := tn2.2 m hm top
                refine ⟨_, _, rfl, rfl, ⟨s13.trans s4, m + 1, _, _, _, w1, w3, rfl⟩, ?_⟩
                show (hi + 1 - (m + 1)).toNat < (hi + 1 - pos).toNat
                omega
        · exact done pos H1 s1 (by have h : ¬ pos ≤ hi := fun z => c (decide_eq_true z); omega) cv
      · rintro σ H1 Q1 Q2 hm ⟨v1, e1, v2, e2, p, xs, ix, v3, e3, e4, e5, e6, i, j, e7, e8, k, e9, z⟩
        exact ⟨v1, e1, v2, e2, p, xs, ix, v3, e3, e4, e5, e6, i, j, e7, e8, k, e9, hm _ _ z⟩

/-! ### ranges of ints, lists of ints as data -/
def rgN (a : Int) : Nat → List Int
  | 0 => []
  | n + 1 => a :: rgN (a + 1) n
theorem rgN_range (a : Int) : ∀ n : Nat, (List.range n).map (fun i : Nat => V.int (a + (i : Nat))) = (rgN a n).map V.int := by
  intro n
  induction n generalizing a with
  | zero => rfl
  | succ n ih =>
    rw [List.range_succ_eq_map, List.map_cons, List.map_map]
    show V.int (a + ((0 : Nat) : Int)) :: _ = V.int a :: (rgN (a + 1) n).map V.int
    rw [← ih (a + 1)]
    have e0 : a + ((0 : Nat) : Int) = a := by omega
    rw [e0]
    congr 1
    apply List.map_congr_left
    intro i _
    show V.int (a + ((i + 1 : Nat) : Int)) = V.int (a + 1 + (i : Int))
    congr 1
    omega
theorem mem_rgN {a x : Int} {n : Nat} : x ∈ rgN a n ↔ a ≤ x ∧ x < a + n := by
  induction n generalizing a with
  | zero =>
    constructor
    · intro h
      cases h
    · intro h
      omega
  | succ n ih =>
    show x ∈ a :: rgN (a + 1) n ↔ _
    rw [List.mem_cons, ih]
    omega
theorem rgN_length (a : Int) (n : Nat) : (rgN a n).length = n := by
  induction n generalizing a with
  | zero => rfl
  | succ n ih =>
    show (rgN (a + 1) n).length + 1 = n + 1
    rw [ih]
theorem rgV_eq (a b : Int) : rgV a b = (rgN a (b - a).toNat).map V.int := rgN_range a _
theorem inV_ints (x : Int) (ns : List Int) : inV (.int x) (ns.map V.int) = decide (x ∈ ns) := by
  unfold inV
  induction ns with
  | nil => rfl
  | cons n r ih =>
    rw [List.map_cons, List.any_cons, ih]
    show ((n == x) || decide (x ∈ r)) = decide (x ∈ n :: r)
    by_cases e : n = x
    · subst e
      simp
    · have e2 : (n == x) = false := beq_eq_false_iff_ne.mpr e
      rw [e2, Bool.false_or]
      apply decide_eq_decide.mpr
      rw [List.mem_cons]
      constructor
      · exact .inr
      · rintro (z | z)
        · exact absurd z.symm e
        · exact z
theorem flat_ints (ns : List Int) : (ns.map V.int).all flatV = true := by
  rw [List.all_map]
  apply List.all_eq_true.mpr
  intro x _
  rfl
theorem dp_ints {K : PySem.W.Frag} {H : Hp} : ∀ ns : List Int, DpAll K H (ns.map V.int) (ns.map PyData.int)
  | [] => .nil
  | n :: r => .cons (.int n) (dp_ints r)
theorem shaped_ints (ns : List Int) : SeqAt.shaped (.list (ns.map PyData.int)) = true := by
  have h1 : ∀ ns : List Int, PyData.canLayAll0 (ns.map PyData.int) = true := by
    intro ns
    induction ns with
    | nil => rfl
    | cons n r ih => exact ih
  have h2 : ∀ ns : List Int, PyData.depthAll (ns.map PyData.int) = 0 := by
    intro ns
    induction ns with
    | nil => rfl
    | cons n r ih =>
      show max 0 (PyData.depthAll (r.map PyData.int)) = 0
      rw [ih]
      rfl
  unfold SeqAt.shaped
  rw [show PyData.canLay0 (.list (ns.map PyData.int)) = PyData.canLayAll0 (ns.map PyData.int) from rfl, h1 ns]
  show decide (PyData.depthAll (ns.map PyData.int) + 1 ≤ 64) = true
  rw [h2 ns]
  rfl
theorem eqv_nil (ns : List Int) : PyData.eqv (.list (ns.map PyData.int)) (.list []) = ns.isEmpty := by
  cases ns <;> rfl

theorem rgN_at {a x : Int} : ∀ {n i : Nat}, (rgN a n)[i]? = some x → x = a + i := by
  intro n
  induction n generalizing a with
  | zero =>
    intro i h
    cases h
  | succ n ih =>
    intro i h
    cases i with
    | zero =>
      cases h
      simp
    | succ i =>
      have z := ih (a := a + 1) (show (rgN (a + 1) n)[i]? = some x from h)
      omega

/-! ### tuples joined and cut, whichever object comes out -/
theorem catA_any {K : PySem.W.Frag} {H : Hp} {a b : Addr} {xs ys : List V} {Q : VK} (h1 : H a = some (.tup xs)) (h2 : H b = some (.tup ys)) (sz : xs.length + ys.length ≤ sizeLine) (k : ∀ H' p, Same H H' → H' p = some (.tup (xs ++ ys)) → Q (.ref p) H') : rCatA K (.ref a) (.ref b) H Q := by
  refine ⟨a, b, xs, ys, rfl, rfl, SqT.of h1, SqT.of h2, sz, fun e => k H b (Same.refl _) ?_, fun _ e => k H a (Same.refl _) ?_, fun _ _ p np => k _ p (same_new np) upd_same⟩
  · rw [e]
    exact h2
  · rw [e, List.append_nil]
    exact h1
theorem slA_any {K : PySem.W.Frag} {H : Hp} {a : Addr} {xs : List V} {lo hi : Option Int} {Q : VK} (h1 : H a = some (.tup xs)) (k : ∀ H' p, Same H H' → H' p = some (.tup (cutV xs lo hi)) → Q (.ref p) H') : rSlA K (.ref a) lo hi H Q := by
  refine ⟨a, xs, rfl, SqT.of h1, fun e => k H a (Same.refl _) ?_, fun _ p np => k _ p (same_new np) upd_same⟩
  have e2 : cutV xs lo hi = xs := by
    unfold cutV
    rw [e.1, e.2]
    simp
  rw [e2]
  exact h1
theorem cutFrom (xs : List V) (j : Nat) : cutV xs (some (j : Int)) none = xs.drop j := by
  unfold cutV
  rw [show HT.sIx xs.length 0 (some (j : Int)) = min j xs.length from HT.sIx_nat xs.length 0 j, HT.sIx_none]
  rcases Nat.le_total j xs.length with h | h
  · rw [Nat.min_eq_left h]
    exact List.take_of_length_le (by rw [List.length_drop]; exact Nat.le_refl _)
  · rw [Nat.min_eq_right h, List.drop_of_length_le (Nat.le_refl _), List.drop_of_length_le h]
    exact List.take_nil
theorem Ivs.take {H : Hp} {vs : List V} {ps : List (Int × Int)} (h : Ivs H vs ps) : ∀ n : Nat, Ivs H (vs.take n) (ps.take n) := by
  induction h with
  | nil =>
    intro n
    rw [List.take_nil, List.take_nil]
    exact .nil
  | cons e _ ih =>
    intro n
    cases n with
    | zero => exact .nil
    | succ n => exact .cons e (ih n)
theorem Ivs.drop {H : Hp} {vs : List V} {ps : List (Int × Int)} (h : Ivs H vs ps) : ∀ n : Nat, Ivs H (vs.drop n) (ps.drop n) := by
  induction h with
  | nil =>
    intro n
    rw [List.drop_nil, List.drop_nil]
    exact .nil
  | cons e h ih =>
    intro n
    cases n with
    | zero => exact .cons e h
    | succ n => exact ih n
theorem Pc.take {ps : List (Int × Int)} (h : Pc ps) (n : Nat) : Pc (ps.take n) := fun q hq => h q (List.mem_of_mem_take hq)
theorem Pc.drop {ps : List (Int × Int)} (h : Pc ps) (n : Nat) : Pc (ps.drop n) := fun q hq => h q (List.mem_of_mem_drop hq)
theorem Row.pc {ls : List Int} (ln : Ln ls) {ps : List (Int × Int)} (h : Row ls ps) : Pc ps := fun q hq => by
  have z := h.ok q hq
  have z1 := ln.ok _ z.1.1
  have z2 := ln.ok _ z.1.2
  omega
/-- a row in a tuple -/
def Tp (m : Nat) (H : Hp) (v : V) : Prop := ∃ (a : Addr) (us : List V) (ps : List (Int × Int)), v = .ref a ∧ H a = some (.tup us) ∧ Ivs H us ps ∧ Pc ps ∧ ps.length ≤ m
theorem Tp.tps {m : Nat} {H H' : Hp} (s : Tps H H') {v : V} (h : Tp m H v) : Tp m H' v := by
  obtain ⟨a, us, ps, e, e1, i, r⟩ := h
  exact ⟨a, us, ps, e, s _ _ e1, i.tps s, r⟩
theorem sm_tps {ps : List (Int × Int)} (pc : Pc ps) {n : Nat} (hn : ps.length ≤ n) : Sm (n * 203) 2 (.tuple (ps.map pairD)) := by
  refine (Sm.tup (n := 202) (dp := 1) (fun d hd => ?_)).mono ?_ (Nat.le_refl _)
  · obtain ⟨q, hq, rfl⟩ := List.mem_map.mp hd
    have z := pc q hq
    exact sm2 (by omega) (by omega)
  · rw [List.length_map]
    exact Nat.mul_le_mul_right _ hn

theorem gv_non {o : Option Int} : decide (gv o = .non) = o.isNone := by
  cases o with
  | none => rfl
  | some g => exact decide_eq_false (fun z : V.int g = V.non => by cases z)
def sp_generates : Sp := fun vs H Q _ => ∃ (a t : Addr) (us : List V) (ps : List (Int × Int)) (lo hi : Int), vs = [.ref a, .ref t] ∧ H a = some (.tup us) ∧ Ivs H us ps ∧ Pc ps ∧ ps.length ≤ 63 ∧ H t = some (.tup [.int lo, .int hi]) ∧ lo ≤ hi ∧
  ∀ H', Same H H' → Q (.bl (gapO ps (lo, hi)).isNone) H'
theorem ok_generates (T : Tx K mg f_contains f_pieces_inside f_first_gap f_generates f_law_deck f_law_draw f_law_line f_law_interval f_law_intervals f_law_gap f_law_shuffled f_law_due f_law d_contains d_pieces_inside d_first_gap d_generates d_law_deck d_law_draw d_law_line d_law_interval d_law_intervals d_law_gap d_law_shuffled d_law_due d_law) : FnOk P w K mg base CX0 4 f_generates d_generates ["pieces", "target"] sp_generates := by
  refine T.F_generates.ok sc_generates (fun vs H Q E h => ?_) (fun cdv A outer s H vs Q E hr h => ?_)
  · obtain ⟨a, t, us, ps, lo, hi, rfl, _⟩ := h
    rfl
  · obtain ⟨a, t, us, ps, lo, hi, rfl, ha, iv, pc, few, ht, lh, q⟩ := h
    refine ⟨_, (pss_one (ps_ret (pe_cmpR op_isN (pe_call (ok_first_gap T) (hr.mono (by decide)) (by rfl) T.g_first_gap T.F_first_gap.kp T.b_first_gap .nil pass0 (pa_cons (pv 0) (pa_cons (pv 1) pa_nil))) pe_non (nomark _)))), ?_⟩
    refine ⟨.ref a, rfl, .ref t, rfl, a, t, us, ps, lo, hi, rfl, ha, iv, pc, few, ht, lh, fun H1 s1 => ⟨rfl, ?_⟩⟩
    rw [gv_non]
    exact q _ s1
theorem Ivs.erase {H : Hp} {vs : List V} {ps : List (Int × Int)} (h : Ivs H vs ps) : ∀ k : Nat, Ivs H (vs.eraseIdx k) (ps.eraseIdx k) := by
  induction h with
  | nil =>
    intro k
    exact .nil
  | cons e h ih =>
    intro k
    cases k with
    | zero => exact h
    | succ k => exact .cons e (ih k)
theorem mem_erase {α : Type} {x : α} : ∀ {l : List α} {k : Nat}, x ∈ l.eraseIdx k → x ∈ l
  | [], _, h => h
  | _ :: _, 0, h => List.mem_cons_of_mem _ h
  | y :: l, k + 1, h => by
    rcases List.mem_cons.mp (show x ∈ y :: l.eraseIdx k from h) with e | e
    · rw [e]
      exact List.mem_cons_self
    · exact List.mem_cons_of_mem _ (mem_erase e)
def sp_law_shuffled : Sp := fun vs H Q _ => ∃ (d c a : Addr) (n : Int) (us : List V) (ps : List (Int × Int)), vs = [.ref d, .ref a] ∧ Dk H d c n ∧ 0 ≤ n ∧ n < 900000 ∧ H a = some (.tup us) ∧ Ivs H us ps ∧ Pc ps ∧ ps.length ≤ 20 ∧
  ∀ H' p ws qs m, Kp d c H H' → Dk H' d c m → n ≤ m → m ≤ n + 50 → H' p = some (.tup ws) → Ivs H' ws qs → Pc qs → qs.length ≤ 2 * ps.length → Q (.ref p) H'
theorem ok_law_shuffled (T : Tx K mg f_contains f_pieces_inside f_first_gap f_generates f_law_deck f_law_draw f_law_line f_law_interval f_law_intervals f_law_gap f_law_shuffled f_law_due f_law d_contains d_pieces_inside d_first_gap d_generates d_law_deck d_law_draw d_law_line d_law_interval d_law_intervals d_law_gap d_law_shuffled d_law_due d_law) : FnOk P w K mg base CX0 2 f_law_shuffled d_law_shuffled ["_law_deck_here", "_law_pieces"] sp_law_shuffled := by
  refine T.F_law_shuffled.ok sc_law_shuffled (fun vs H Q E h => ?_) (fun cdv A outer s H vs Q E hr h => ?_)
  · obtain ⟨d, c, a, n, us, ps, rfl, _⟩ := h
    rfl
  · obtain ⟨d, c, a, n, us, ps, rfl, dk, n0, n1, ha, iv, pc, pl, q⟩ := h
    have lu := iv.length
    refine ⟨_, (pss_cons (ps_set (i := 2) sc_law_shuffled.nd rfl (Or.inr rfl) (pe_callTy call_list_of (by rfl) T.z_list (by decide +kernel) (pa_cons (pe_op op_catA (pv 1) (pe_slice sl_tupA (pv 1) po_none (po_some (pe_call (ok_law_draw T) (hr.mono (by decide)) (by rfl) T.g_law_draw T.F_law_draw.kp T.b_law_draw .nil pass0 (pa_cons (pv 0) (pa_cons (pe_op op_add (pe_callB call_len_seq (by rfl) T.z_len PySem.boot_len (pa_cons (pv 1) pa_nil)) pe_int) pa_nil)))))) pa_nil)))
      (pss_one (ps_ret (pe_callTy call_tuple_of (by rfl) T.z_tuple (by decide +kernel) (pa_cons (pe_lc (own := [("_law_k", 3)]) (g := (gName 3)) (tt := tYes) (by rfl) sc_law_shuffled.nd (pi_range1 (by rfl) T.z_range (pa_cons (pe_callB call_len_seq (by rfl) T.z_len PySem.boot_len (pa_cons (pv 2) pa_nil)) pa_nil)) (blkOk_by (own := [("_law_k", 3)]) (N := N_law_shuffled) (sc := defScope s_law_shuffled) (by decide +kernel)) (fun _ _ _ _ _ => (pg_name (i := 3) sc_law_shuffled.nd rfl (Or.inl rfl))) (fun _ _ _ _ _ => pts_nil) (fun _ _ _ _ _ => (pe_bmK (K := K) rfl (pe_bm PySem.F.plainAttrs_list PySem.F.slot_list_pop PySem.F.type_list_pop mt_popAt (pv 2) (pa_cons (pe_call (ok_law_draw T) (hr.mono (by decide)) (by rfl) T.g_law_draw T.F_law_draw.kp T.b_law_draw .nil pass0 (pa_cons (pv 0) (pa_cons (pe_callB (show CallR _ (.builtin "len") (rLenS K) from call_lenS) (by rfl) T.z_len PySem.boot_len (pa_cons (pv 2) pa_nil)) pa_nil))) pa_nil))))) pa_nil))))), ?_⟩
    refine ⟨.ref a, rfl, .ref a, rfl, .ref d, rfl, .ref a, rfl, a, us, rfl, .inr (SqT.of ha), _, _, rfl, rfl, d, c, n, _, rfl, dk, n0, by omega, by omega, by omega, fun H1 r kp1 dk1 r0 r1 => ?_⟩
    obtain ⟨k, rfl⟩ : ∃ k : Nat, r = k := ⟨r.toNat, by omega⟩
    have ha1 := kp1.tup dk ha
    have iv1 := iv.tps (kp1.tps dk)
    refine ⟨(k : Int), rfl, slA_any ha1 (fun H2 p2 s2 e2 => ?_)⟩
    rw [cutTo] at e2
    have tk := List.length_take_le' k us
    refine catA_any (s2 _ _ ha1) e2 (by rw [show sizeLine = 16777216 by decide]; omega) (fun H3 p3 s3 e3 => ?_)
    refine ⟨p3, _, rfl, .inr (SqT.of e3), fun lf nlf => ?_⟩
    have s13 := s2.trans s3
    have iv3 : Ivs H3 (us ++ us.take k) (ps ++ ps.take k) := ((iv1.same s13)).append ((iv1.same s13).take k)
    have pc3 : Pc (ps ++ ps.take k) := fun q hq => by
      rcases List.mem_append.mp hq with h | h
      · exact pc q h
      · exact pc q (List.mem_of_mem_take h)
    have l3 : (ps ++ ps.take k).length ≤ 2 * ps.length := by
      have := List.length_take_le' k ps
      rw [List.length_append]
      omega
    have s4 := same_new (o := .lst (us ++ us.take k)) nlf
    have e4 := upd_same (H := H3) (a := lf) (o := .lst (us ++ us.take k))
    have dk3 := dk1.kept s13
    have offf := dk3.off nlf
    have nlf0 : H lf = none := (kp1.trans (Kp.same s13)).none dk dk3 nlf
    replace iv3 := iv3.same s4
    generalize upd H3 lf (.lst (us ++ us.take k)) = H4 at *
    generalize us ++ us.take k = vs at *
    obtain ⟨qs, eqs⟩ : ∃ qs, qs = ps ++ ps.take k := ⟨_, rfl⟩
    rw [← eqs] at iv3 pc3 l3
    have lv := iv3.length
    have dk4 := dk3.kept s4
    have kp4 : Kp d c H H4 := kp1.trans (Kp.same (s13.trans s4))
    refine ⟨.ref lf, rfl, lf, vs, rfl, .inl (SqL.of e4), (vs.length : Int), rfl, by omega, by omega, fun D nD => ?_⟩
    have offD := dk4.off nD
    have nD0 : H D = none := kp4.none dk dk4 nD
    have neD : lf ≠ D := ne_of_none e4 nD
    refine lc_range (lo := 0) (n := (vs.length : Int).toNat) (fun i H' => (Kp d c H H' ∧ Dk H' d c (n + 1 + i)) ∧ (∃ ws rs, H' lf = some (.lst ws) ∧ Ivs H' ws rs ∧ Pc rs ∧ rs.length + i = vs.length) ∧ ∃ acc as, H' D = some (.lst acc) ∧ Ivs H' acc as ∧ Pc as ∧ as.length = i) ⟨⟨kp4.trans (Kp.same (same_new nD)), (dk4.upd offD).eq (by simp)⟩, ⟨vs, qs, (same_new nD _ _ e4), iv3.same (same_new nD), pc3, by omega⟩, [], [], upd_same, .nil, (fun q hq => nomatch hq), rfl⟩ ?_ ?_
    · rintro i H5 hi ⟨⟨kp5, dk5⟩, ⟨ws, rs, elf, ivw, pcr, rl⟩, acc, as, eD, iva, pca, al⟩
      have lw := ivw.length
      refine ⟨rfl, .ref lf, rfl, .inl ⟨rfl, _, SqL.of elf⟩, .ref d, rfl, .ref lf, rfl, lf, _, rfl, .inl (SqL.of elf), d, c, _, _, rfl, dk5, by omega, by omega, by omega, by omega, fun H6 r6 kp6 dk6 r60 r61 => ?_⟩
      obtain ⟨j, rfl⟩ : ∃ j : Nat, r6 = j := ⟨r6.toNat, by omega⟩
      have hj : j < ws.length := by omega
      have elf6 := kp6.keep offf elf
      have eD6 := kp6.keep offD eD
      have t6 := kp6.tps dk5
      have ivw6 := ivw.tps t6
      obtain ⟨b, x, y, eb, exy, hb⟩ := ivw6.get (List.getElem?_eq_getElem hj)
      refine ⟨lf, ws, (j : Int), j, ws[j], rfl, rfl, elf6, by omega, by omega, ?_, List.getElem?_eq_getElem hj, ?_⟩
      · rw [seqIndex_of (by omega) (by omega)]
        rfl
      have t7 : Tps H6 (upd H6 lf (.lst (ws.eraseIdx j))) := Tps.lst elf6
      have eD7 : upd H6 lf (.lst (ws.eraseIdx j)) D = some (.lst acc) := by
        rw [upd_ne neD.symm]
        exact eD6
      have lf7 := upd_same (H := H6) (a := lf) (o := .lst (ws.eraseIdx j))
      have kp7 : Kp d c H (upd H6 lf (.lst (ws.eraseIdx j))) := fun b' o n1 n2 e => by
        rw [upd_ne (ne_of_none e nlf0)]
        exact kp6 b' o n1 n2 (kp5 b' o n1 n2 e)
      have dk7 := dk6.upd (o := .lst (ws.eraseIdx j)) offf
      have ivw7 := (ivw6.erase j).tps t7
      have iva7 := (iva.tps t6).tps t7
      have hb7 := t7 _ _ hb
      generalize upd H6 lf (.lst (ws.eraseIdx j)) = H7 at *
      have t8 : Tps H7 (upd H7 D (.lst (acc ++ [ws[j]]))) := Tps.lst eD7
      have el : (rs.eraseIdx j).length = rs.length - 1 := List.length_eraseIdx_of_lt (by omega)
      refine ⟨acc, eD7, few_line (by rw [iva.length]; omega), ⟨fun b' o n1 n2 e => ?_, (dk7.upd offD).eq (by omega)⟩, ⟨_, rs.eraseIdx j, by rw [upd_ne neD]; exact lf7, ivw7.tps t8, fun q hq => pcr q (mem_erase hq), by omega⟩, _, as ++ [(x, y)], upd_same, ?_, fun q hq => ?_, by rw [List.length_append, al]; rfl⟩
      · rw [upd_ne (ne_of_none e nD0)]
        exact kp7 b' o n1 n2 e
      · rw [eb]
        rw [eb] at t8
        exact (iva7.snoc hb7).tps t8
      · rcases List.mem_append.mp hq with hq | hq
        · exact pca q hq
        · rw [List.mem_singleton.mp hq]
          exact pcr _ (List.mem_of_getElem? exy)
    · rintro H5 ⟨⟨kp5, dk5⟩, _, acc, as, eD, iva, pca, al⟩
      refine ⟨D, acc, rfl, .inl ⟨SqL.of eD, fun t nt => ?_⟩⟩
      refine q _ t acc as _ (kp5.trans (Kp.same (same_new nt))) (dk5.kept (same_new nt)) (by omega) (by omega) upd_same (iva.same (same_new nt)) pca (by omega)
def sp_law_due : Sp := fun vs H Q _ => ∃ (a t : Addr) (us : List V) (ps : List (Int × Int)) (lo hi : Int), vs = [.ref a, .ref t] ∧ H a = some (.tup us) ∧ Ivs H us ps ∧ ps.length < 1000 ∧ H t = some (.tup [.int lo, .int hi]) ∧ (0 ≤ lo ∧ lo ≤ hi) ∧ hi < 10 ^ 13 ∧
  ∀ H', Same H H' → Q (gv (gapO ps (lo, hi))) H'
theorem ok_law_due (T : Tx K mg f_contains f_pieces_inside f_first_gap f_generates f_law_deck f_law_draw f_law_line f_law_interval f_law_intervals f_law_gap f_law_shuffled f_law_due f_law d_contains d_pieces_inside d_first_gap d_generates d_law_deck d_law_draw d_law_line d_law_interval d_law_intervals d_law_gap d_law_shuffled d_law_due d_law) : FnOk P w K mg base CX0 2 f_law_due d_law_due ["_law_pieces", "_law_target"] sp_law_due := by
  refine T.F_law_due.ok sc_law_due (fun vs H Q E h => ?_) (fun cdv A outer s H vs Q E hr h => ?_)
  · obtain ⟨a, t, us, ps, lo, hi, rfl, _⟩ := h
    rfl
  · obtain ⟨a, t, us, ps, lo, hi, rfl, ha, iv, few, ht, lh, h1, q⟩ := h
    have lu := iv.length
    refine ⟨_, (pss_cons (ps_if (pt_cmpR op_gt (pe_op op_sub (pe_ix ix_tup (pv 1) pe_int (fun _ _ => rfl)) (pe_ix ix_tup (pv 1) pe_int (fun _ _ => rfl))) pe_int (nomark _))
      (pss_one (ps_ret (pe_call (ok_law_gap T) (hr.mono (by decide)) (by rfl) T.g_law_gap T.F_law_gap.kp T.b_law_gap .nil pass0 (pa_cons (pv 0) (pa_cons (pv 1) pa_nil)))))
      pss_nil)
      (pss_cons (ps_setLc (i := 2) (own := [("_law_piece", 3)]) (g := (gName 3)) (by rfl) sc_law_due.nd rfl rfl (sw_true rfl rfl rfl (by decide +kernel)) (pi_tup (pv 0)) (blkOk_by (own := [("_law_piece", 3)]) (N := N_law_due) (sc := defScope s_law_due) (by decide +kernel)) (fun _ _ _ _ _ => (pg_name (i := 3) sc_law_due.nd rfl (Or.inl rfl))) (fun _ _ _ _ _ => pts_one (PW.pt (pw_and (pt_cmpR op_le (pe_ix (show IxR _ (rIxT K) from ix_tup) (pv 1) pe_int (fun _ _ => rfl)) (pe_ix (show IxR _ (rIxT K) from ix_tup) (pv 3) pe_int (fun _ _ => rfl)) (nomark _)) (pw_and1 (pt_cmpR op_le (pe_ix (show IxR _ (rIxT K) from ix_tup) (pv 3) pe_int (fun _ _ => rfl)) (pe_ix (show IxR _ (rIxT K) from ix_tup) (pv 1) pe_int (fun _ _ => rfl)) (nomark _)))))) (fun _ _ _ _ _ => (pv 3)))
      (pss_cons (ps_for PassesOwn.never rfl (pi_list (pe_listRg rfl (by rfl) T.z_list (prg_2 (by rfl) T.z_range (pe_ix ix_tup (pv 1) pe_int (fun _ _ => rfl)) (pe_op op_add (pe_ix ix_tup (pv 1) pe_int (fun _ _ => rfl)) pe_int)))) (pg_name (i := 4) sc_law_due.nd rfl (Or.inr rfl))
      (pss_one (ps_if (pt_cmpR (op_eqL hr.units0) (pe_lc (own := [("_law_piece", 3)]) (g := (gName 3)) (by rfl) sc_law_due.nd (pi_list (pv 2)) (blkOk_by (own := [("_law_piece", 3)]) (N := N_law_due) (sc := defScope s_law_due) (by decide +kernel)) (fun _ _ _ _ _ => (pg_name (i := 3) sc_law_due.nd rfl (Or.inl rfl))) (fun _ _ _ _ _ => pts_one (pt_chain op_le op_le (pe_ix (show IxR _ (rIxT K) from ix_tup) (pv 3) pe_int (fun _ _ => rfl)) (pv 4) (pe_ix (show IxR _ (rIxT K) from ix_tup) (pv 3) pe_int (fun _ _ => rfl)))) (fun _ _ _ _ _ => (pv 3))) (pe_lst pa_nil) (nomark _))
      (pss_one (ps_ret (pv 4)))
      pss_nil)))
      (pss_one (ps_ret pe_non))))), ?_⟩
    refine ⟨.ref t, rfl, t, _, 1, .int hi, rfl, rfl, SqT.of ht, rfl, .ref t, rfl, t, _, 0, .int lo, rfl, rfl, SqT.of ht, rfl, _, _, rfl, rfl, _, _, rfl, rfl, _, rfl, ite2 (fun e => ?_) (fun e => ?_)⟩
    · exact ⟨.ref a, rfl, .ref t, rfl, a, t, us, ps, lo, hi, rfl, .inr ha, iv, few, ht, lh.2, q⟩
    · have sh : ¬ hi - lo > 20 := fun z => e (decide_eq_true z)
      -- inside
      refine ⟨.ref a, rfl, a, rfl, ⟨_, SqT.of ha⟩, fun D nD => ?_⟩
      refine lcT (K := K) (a := a) (xs := us) (fun j H' ws => Ivs H' ws ((ps.take j).filter fun q => inI lo hi q.1 q.2)) nD (fun H' s => SqT.of (s _ _ ha)) (by omega) (fun _ _ _ _ t r => r.tps t) (fun j H' ws r => ?_) (fun _ => .nil) ?_ ?_
      · rw [r.length]
        exact Nat.le_trans (List.length_filter_le _ _) (List.length_take_le _ _)
      · rintro j z H' N acc hj sj eA sz r no yes
        obtain ⟨b, x, y, rfl, exy, hb⟩ := iv.get hj
        have hb' := sj _ _ hb
        have ht' := sj _ _ ht
        have out : ¬ inI lo hi x y = true → N H' := fun e => by
          refine no H' (Same.refl _) ?_
          rw [take_filter exy, if_neg e, List.append_nil]
          exact r
        refine ⟨rfl, .ref t, rfl, t, _, 0, .int lo, rfl, rfl, SqT.of ht', rfl, .ref b, rfl, b, _, 0, .int x, rfl, rfl, SqT.of hb', rfl, _, _, rfl, rfl, _, rfl, ite2 (fun c1 => ?_) (fun c1 => ?_)⟩
        · refine ⟨.ref b, rfl, b, _, 1, .int y, rfl, rfl, SqT.of hb', rfl, .ref t, rfl, t, _, 1, .int hi, rfl, rfl, SqT.of ht', rfl, _, _, rfl, rfl, _, rfl, ite2 (fun c2 => ?_) (fun c2 => ?_)⟩
          · refine ⟨.ref b, rfl, yes H' _ (Same.refl _) ?_⟩
            rw [take_filter exy, if_pos (show inI lo hi x y = true by unfold inI; rw [c1, c2]; rfl)]
            exact r.snoc hb'
          · exact out fun e => c2 (Bool.and_eq_true_iff.mp e).2
        · exact iteF (out fun e => c1 (Bool.and_eq_true_iff.mp e).1)
      · intro H1 ws s1 eD r
        rw [lu, List.take_length] at r
        obtain ⟨fs, efs⟩ : ∃ fs, fs = ps.filter fun q => inI lo hi q.1 q.2 := ⟨_, rfl⟩
        have mf : ∀ q, q ∈ fs ↔ q ∈ ps ∧ lo ≤ q.1 ∧ q.2 ≤ hi := fun q => by
          rw [efs]
          exact mem_inI
        have lf : fs.length ≤ ps.length := by
          rw [efs]
          exact List.length_filter_le _ _
        rw [← efs] at r
        have lw := r.length
        refine ⟨.ref t, rfl, t, _, 0, .int lo, rfl, rfl, SqT.of (s1 _ _ ht), rfl, .ref t, rfl, t, _, 1, .int hi, rfl, rfl, SqT.of (s1 _ _ ht), rfl, _, _, rfl, rfl, _, _, rfl, rfl, ⟨by omega, by omega, by omega, by omega, by omega⟩, fun p1 np1 => ?_⟩
        rw [rgV_eq]
        obtain ⟨N, eN⟩ : ∃ N : Nat, (hi + 1 - lo).toNat = N := ⟨_, rfl⟩
        rw [eN]
        have s2 := same_new (o := .lst ((rgN lo N).map V.int)) np1
        have e2 := upd_same (H := H1) (a := p1) (o := .lst ((rgN lo N).map V.int))
        generalize upd H1 p1 (.lst ((rgN lo N).map V.int)) = H2 at *
        have s12 := s1.trans s2
        refine ⟨p1, rfl, ⟨_, SqL.of e2⟩, ?_⟩
        refine for_list (K := K) (a := p1) (xs := (rgN lo N).map V.int) (D := ⟨_, _, fun _ _ => True, fun _ _ => True⟩) (fun i σ H' => Same H2 H' ∧ (∀ z, lo ≤ z → z < lo + i → covI ps lo hi z) ∧ ∃ y2 y3, σ = [some (.ref a), some (.ref t), some (.ref D), y2, y3]) ⟨Same.refl _, (fun z h1 h2 => absurd h1 (by omega)), _, _, rfl⟩ (fun i σ H' _ h => SqL.of (h.1 _ _ e2)) ?_ ?_
        · rintro i v σ H3 hi2 ⟨s3, cv, y2, y3, rfl⟩
          rw [List.getElem?_map] at hi2
          obtain ⟨pos, ep, rfl⟩ := Option.map_eq_some_iff.mp hi2
          have il := (List.getElem?_eq_some_iff.mp ep).1
          rw [rgN_length] at il
          have epos : pos = lo + i := rgN_at ep
          subst epos
          have s23 := s2.trans s3
          have eD3 := s23 _ _ eD
          have r3 := r.same s23
          refine ⟨.ref D, rfl, D, rfl, ⟨_, SqL.of eD3⟩, fun D2 nD2 => ?_⟩
          refine lcL (K := K) (a := D) (xs := ws) (fun j H' us => Ivs H' us ((fs.take j).filter fun q => decide (q.1 ≤ lo + (i : Nat)) && decide (lo + (i : Nat) ≤ q.2))) nD2 (fun H' s => SqL.of (s _ _ eD3)) (by omega) (fun _ _ _ _ t r => r.tps t) (fun j H' us r => ?_) (fun _ => .nil) ?_ ?_
          · rw [r.length]
            exact Nat.le_trans (List.length_filter_le _ _) (List.length_take_le _ _)
          · rintro j z H' N' acc hj sj eA sz rr no yes
            obtain ⟨b, x, y, rfl, exy, hb⟩ := r3.get hj
            have hb' := sj _ _ hb
            have out : ¬ (decide (x ≤ lo + (i : Nat)) && decide (lo + (i : Nat) ≤ y)) = true → N' H' := fun e => by
              refine no H' (Same.refl _) ?_
              rw [take_filter exy, if_neg e, List.append_nil]
              exact rr
            refine ⟨rfl, .ref b, rfl, b, _, 0, .int x, rfl, rfl, SqT.of hb', rfl, .int (lo + (i : Nat)), rfl, _, _, rfl, rfl, _, rfl, ite2 (fun c1 => ?_) (fun c1 => ?_)⟩
            · refine ⟨.ref b, rfl, b, _, 1, .int y, rfl, rfl, SqT.of hb', rfl, _, _, rfl, rfl, _, rfl, ite2 (fun c2 => ?_) (fun c2 => ?_)⟩
              · refine ⟨.ref b, rfl, yes H' _ (Same.refl _) ?_⟩
                rw [take_filter exy, if_pos (Bool.and_eq_true_iff.mpr ⟨c1, c2⟩)]
                exact rr.snoc hb'
              · exact out fun e => c2 (Bool.and_eq_true_iff.mp e).2
            · exact ⟨_, rfl, iteF (out fun e => c1 (Bool.and_eq_true_iff.mp e).1)⟩
          · intro H4 us4 s4 eD2 r4
            rw [lw, List.take_length] at r4
            refine ⟨by show 0 ≤ sizeLine; decide, fun z nz => ?_⟩
            have s5 := same_new (o := .lst []) nz
            have s05 := s12.trans (s3.trans (s4.trans s5))
            refine ⟨D2, z, us4, rfl, rfl, SqL.of (s5 _ _ eD2), SqL.of upd_same, _, rfl, ?_⟩
            rw [r4.isEmpty]
            refine ite2 (fun c => ?_) (fun c => ?_)
            · rw [List.isEmpty_iff, List.filter_eq_nil_iff] at c
              have g : IsGap ps lo hi (some (lo + (i : Nat))) := by
                refine ⟨by omega, fun ⟨q, hq, hin, h1, h2⟩ => ?_, fun z z1 z2 => cv z z1 z2⟩
                exact c q ((mf q).mpr ⟨hq, hin⟩) (Bool.and_eq_true_iff.mpr ⟨decide_eq_true h1, decide_eq_true h2⟩)
              have zz := q _ s05
              rw [gapO_eq (q := (lo, hi)) g] at zz
              exact ⟨_, rfl, zz⟩
            · refine ⟨s3.trans (s4.trans s5), fun w w1 w2 => ?_, _, _, rfl⟩
              rcases Int.lt_or_le w (lo + (i : Nat)) with z | z
              · exact cv w w1 z
              · have ew : w = lo + (i : Nat) := by omega
                subst ew
                apply Classical.byContradiction
                intro nc
                apply c
                rw [List.isEmpty_iff, List.filter_eq_nil_iff]
                intro q hq z
                have z := Bool.and_eq_true_iff.mp z
                have m := (mf q).mp hq
                exact nc ⟨q, m.1, m.2, of_decide_eq_true z.1, of_decide_eq_true z.2⟩
        · rintro σ H3 ⟨s3, cv, y2, y3, rfl⟩
          rw [List.length_map, rgN_length] at cv
          have g : IsGap ps lo hi none := fun p z1 z2 => cv p z1 (by omega)
          have zz := q _ (s12.trans s3)
          rw [gapO_eq (q := (lo, hi)) g] at zz
          exact zz

theorem rep_any {K : PySem.W.Frag} {H : Hp} {a : Addr} {xs : List V} {Q : VK} (h : H a = some (.tup xs)) (l : xs.length ≤ 1000) (k : ∀ H' p, Same H H' → H' p = some (.tup (List.replicate 12 xs).flatten) → Q (.ref p) H') : rRepT K (.ref a) (.int 12) H Q ∨ rRepN K (.ref a) (.int 12) H Q := by
  cases xs with
  | nil => exact .inr ⟨a, 12, rfl, rfl, SqT.of h, by decide, by decide, k H a (Same.refl _) h⟩
  | cons x r => exact .inl ⟨a, 12, x :: r, rfl, rfl, SqT.of h, (fun z => by cases z), by decide, by decide, l, fun p np => k _ p (same_new np) upd_same⟩
theorem Ivs.rep {H : Hp} {vs : List V} {ps : List (Int × Int)} (h : Ivs H vs ps) : ∀ n : Nat, Ivs H (List.replicate n vs).flatten (List.replicate n ps).flatten
  | 0 => .nil
  | n + 1 => by
    rw [List.replicate_succ, List.replicate_succ, List.flatten_cons, List.flatten_cons]
    exact h.append (Ivs.rep h n)
theorem Pc.rep {ps : List (Int × Int)} (h : Pc ps) (n : Nat) : Pc (List.replicate n ps).flatten := fun q hq => by
  obtain ⟨l, hl, hq⟩ := List.mem_flatten.mp hq
  rw [List.eq_of_mem_replicate hl] at hq
  exact h q hq
theorem Ivs.reverse {H : Hp} {vs : List V} {ps : List (Int × Int)} (h : Ivs H vs ps) : Ivs H vs.reverse ps.reverse := by
  induction h with
  | nil => exact .nil
  | cons e _ ih =>
    rw [List.reverse_cons, List.reverse_cons]
    exact ih.snoc e
def gd : Option Int → PyData
  | none => .none
  | some g => .int g
theorem gv_dp {K : PySem.W.Frag} {H : Hp} (o : Option Int) : Dp K H (gv o) (gd o) := by
  cases o with
  | none => exact .non
  | some g => exact .int g
theorem sm_gd {o : Option Int} (h : ∀ g, o = some g → g.natAbs < 10 ^ 30) (b : Bool) : Sm 202 1 (.list [gd o, .bool b]) := by
  have one : Sm 100 0 (gd o) := by
    match o, h with
    | none, _ => exact Sm.none.mono (by decide) (by decide)
    | some g, h => exact Sm.int (h g rfl)
  have h := Sm.lst (n := 100) (dp := 0) (ds := [gd o, .bool b]) (fun d hd => by
    rcases List.mem_cons.mp hd with rfl | hd
    · exact one
    · rcases List.mem_cons.mp hd with rfl | hd
      · exact (Sm.bool b).mono (by decide) (by decide)
      · cases hd)
  exact h
theorem sm_pair2 {A B : PyData} {n : Nat} (h1 : Sm n 2 A) (h2 : Sm n 2 B) : Sm (2 * (n + 1)) 3 (.list [A, B]) := Sm.lst (n := n) (dp := 2) (ds := [A, B]) (fun d hd => by
  rcases List.mem_cons.mp hd with rfl | hd
  · exact h1
  · rcases List.mem_cons.mp hd with rfl | hd
    · exact h2
    · cases hd)
theorem gap_bd {ps : List (Int × Int)} {lo hi g : Int} (h : IsGap ps lo hi (gapO ps (lo, hi))) (e : gapO ps (lo, hi) = some g) : lo ≤ g ∧ g ≤ hi := by
  rw [e] at h
  exact h.1
theorem gapO_is (ps : List (Int × Int)) (lo hi : Int) : IsGap ps lo hi (gapO ps (lo, hi)) := by
  have upto : ∀ k : Nat, (∀ p, lo ≤ p → p < lo + k → covI ps lo hi p) ∨ ∃ g, (lo ≤ g ∧ g < lo + k) ∧ ¬ covI ps lo hi g ∧ ∀ p, lo ≤ p → p < g → covI ps lo hi p := by
    intro k
    induction k with
    | zero => exact .inl fun p h1 h2 => absurd h1 (by omega)
    | succ k ih =>
      rcases ih with h | ⟨g, h1, h2⟩
      · by_cases c : covI ps lo hi (lo + k)
        · refine .inl fun p h1 h2 => ?_
          rcases Int.lt_or_le p (lo + k) with z | z
          · exact h p h1 z
          · have : p = lo + k := by omega
            rw [this]
            exact c
        · exact .inr ⟨lo + k, by omega, c, fun p h1 h2 => h p h1 h2⟩
      · exact .inr ⟨g, by omega, h2⟩
  rcases upto (hi + 1 - lo).toNat with h | ⟨g, h1, h2, h3⟩
  · have z : IsGap ps lo hi none := fun p z1 z2 => h p z1 (by omega)
    rw [gapO_eq (q := (lo, hi)) z]
    exact z
  · have z : IsGap ps lo hi (some g) := ⟨⟨h1.1, by omega⟩, h2, h3⟩
    rw [gapO_eq (q := (lo, hi)) z]
    exact z
def sp_law (K : PySem.W.Frag) : Sp := fun vs H Q _ => ∃ (a : Addr) (ns : List Int), vs = [.ref a] ∧ SqL K H a (ns.map V.int) ∧ ns.length ≤ 63 ∧ ∀ H', Q (.bl true) H'
theorem ok_law (T : Tx K mg f_contains f_pieces_inside f_first_gap f_generates f_law_deck f_law_draw f_law_line f_law_interval f_law_intervals f_law_gap f_law_shuffled f_law_due f_law d_contains d_pieces_inside d_first_gap d_generates d_law_deck d_law_draw d_law_line d_law_interval d_law_intervals d_law_gap d_law_shuffled d_law_due d_law) : FnG P w K mg base 5 f_law d_law ["_law_script"] (sp_law K) := by
  refine FnG.of T.F_law sc_law (fun {vs H Q} h => ?_) (fun cdv A outer s H vs Q hr hq h => ?_)
  · obtain ⟨a, ns, rfl, _⟩ := h
    rfl
  · obtain ⟨a, ns, rfl, hS, hlen, q⟩ := h
    refine ⟨_, (pss_cons (ps_set (i := 1) sc_law.nd rfl (Or.inl rfl) (pe_call (ok_law_deck T) (hr.mono (by decide)) (by rfl) T.g_law_deck T.F_law_deck.kp T.b_law_deck .nil pass0 (pa_cons (pv 0) pa_nil)))
      (pss_cons (ps_for PassesOwn.never rfl (pi_range1 (by rfl) T.z_range (pa_cons pe_int pa_nil)) (pg_name (i := 2) sc_law.nd rfl (Or.inl rfl))
      (pss_cons (ps_set (i := 3) sc_law.nd rfl (Or.inl rfl) (pe_call (ok_law_line T) (hr.mono (by decide)) (by rfl) T.g_law_line T.F_law_line.kp T.b_law_line .nil pass0 (pa_cons (pv 1) (pa_cons (pe_op op_add pe_int (pe_call (ok_law_draw T) (hr.mono (by decide)) (by rfl) T.g_law_draw T.F_law_draw.kp T.b_law_draw .nil pass0 (pa_cons (pv 1) (pa_cons pe_int pa_nil)))) pa_nil))))
      (pss_cons (ps_set (i := 4) sc_law.nd rfl (Or.inl rfl) (pe_call (ok_law_intervals T) (hr.mono (by decide)) (by rfl) T.g_law_intervals T.F_law_intervals.kp T.b_law_intervals .nil pass0 (pa_cons (pv 1) (pa_cons (pv 3) (pa_cons pe_int pa_nil)))))
      (pss_one (ps_for PassesOwn.never rfl (pi_range1 (by rfl) T.z_range (pa_cons pe_int pa_nil)) (pg_name (i := 5) sc_law.nd rfl (Or.inl rfl))
      (pss_cons (ps_set (i := 6) sc_law.nd rfl (Or.inl rfl) (pe_call (ok_law_interval T) (hr.mono (by decide)) (by rfl) T.g_law_interval T.F_law_interval.kp T.b_law_interval .nil pass0 (pa_cons (pv 1) (pa_cons (pv 3) pa_nil))))
      (pss_cons (ps_set (i := 7) sc_law.nd rfl (Or.inl rfl) (pe_call (ok_law_shuffled T) (hr.mono (by decide)) (by rfl) T.g_law_shuffled T.F_law_shuffled.kp T.b_law_shuffled .nil pass0 (pa_cons (pv 1) (pa_cons (pv 4) pa_nil))))
      (pss_one (ps_for PassesOwn.never rfl (pi_list (pe_lst (pa_cons (pv 4) (pa_cons (pe_slice sl_tupA (pv 4) po_none (po_some pe_int)) (pa_cons (pe_op op_catA (pv 4) (pe_tup (pa_cons (pv 6) pa_nil))) (pa_cons (pe_tup pa_nil) (pa_cons (pe_revT (pv 4)) (pa_cons (pv 7) (pa_cons (pe_slice sl_tupA (pe_op (OpR.or op_repT op_repN) (pv 7) pe_int) po_none (po_some pe_int)) pa_nil))))))))) (pg_name (i := 8) sc_law.nd rfl (Or.inl rfl))
      (pss_cons (ps_set (i := 9) sc_law.nd rfl (Or.inl rfl) (pe_callB (call_reprD hq hr.units) (by rfl) T.z_repr (by decide +kernel) (pa_cons (pe_lst (pa_cons (pv 8) (pa_cons (pv 6) pa_nil))) pa_nil)))
      (pss_cons (ps_set (i := 10) sc_law.nd rfl (Or.inl rfl) (pe_call (ok_law_due T) (hr.mono (by decide)) (by rfl) T.g_law_due T.F_law_due.kp T.b_law_due .nil pass0 (pa_cons (pv 8) (pa_cons (pv 6) pa_nil))))
      (pss_cons (ps_if (pt_cmpR op_ne (pe_callB (call_reprD hq hr.units) (by rfl) T.z_repr (by decide +kernel) (pa_cons (pe_lst (pa_cons (pe_call (ok_first_gap T) (hr.mono (by decide)) (by rfl) T.g_first_gap T.F_first_gap.kp T.b_first_gap .nil pass0 (pa_cons (pv 8) (pa_cons (pv 6) pa_nil))) (pa_cons (pe_call (ok_generates T) (hr.mono (by decide)) (by rfl) T.g_generates T.F_generates.kp T.b_generates .nil pass0 (pa_cons (pv 8) (pa_cons (pv 6) pa_nil))) pa_nil))) pa_nil)) (pe_callB (call_reprD hq hr.units) (by rfl) T.z_repr (by decide +kernel) (pa_cons (pe_lst (pa_cons (pv 10) (pa_cons (pe_cmpR op_isN (pv 10) pe_non (nomark _)) pa_nil))) pa_nil)) (nomark _))
      (pss_one (ps_ret pe_bl))
      pss_nil)
      (pss_one (ps_if (pt_cmpR op_ne (pe_callB (call_reprD hq hr.units) (by rfl) T.z_repr (by decide +kernel) (pa_cons (pe_lst (pa_cons (pv 8) (pa_cons (pv 6) pa_nil))) pa_nil)) (pv 9) (nomark _))
      (pss_one (ps_ret pe_bl))
      pss_nil))))))))))))))
      (pss_one (ps_ret pe_bl)))), ?_⟩
    refine ⟨.ref a, rfl, a, ns, rfl, hS, hlen, fun H1 d c s1 nd nc dk0 => ?_⟩
    refine ⟨14, rfl, by decide, by decide, for_range (n := 14) (fun i σ H' => (∃ n : Int, Dk H' d c n ∧ 0 ≤ n ∧ n ≤ 400 * i) ∧ ∃ y2 y3 y4 y5 y6 y7 y8 y9 y10, σ = [some (.ref a), some (.ref d), y2, y3, y4, y5, y6, y7, y8, y9, y10])
      ⟨⟨0, dk0, by decide, by decide⟩, _, _, _, _, _, _, _, _, _, rfl⟩ ?_ (fun σ H' _ => q H')⟩
    rintro i σ H2 hi ⟨⟨n, dk2, n0, n1⟩, y2, y3, y4, y5, y6, y7, y8, y9, y10, rfl⟩
    refine ⟨.ref d, rfl, .ref d, rfl, d, c, n, 9, rfl, dk2, n0, by omega, by decide, by decide, fun H3 r kp3 dk3 r0 r1 => ?_⟩
    refine ⟨_, _, rfl, rfl, d, c, n + 1, 1 + r, rfl, dk3, by omega, by omega, by omega, by omega, fun H4 l ls kp4 dk4 nl el ll ln => ?_⟩
    have offl := dk3.off nl
    refine ⟨.ref d, rfl, .ref l, rfl, d, c, l, _, 12, ls, rfl, dk4, by omega, by omega, offl, el, by omega, by omega, ln, by decide, by decide, fun H5 pp us ps m5 kp5 dk5 m50 m51 epp iv prow pl => ?_⟩
    have el5 := kp5.keep offl el
    have pc := prow.pc ln
    have lus := iv.length
    refine ⟨4, rfl, by decide, by decide, ?_⟩
    refine for_range (lo := 0) (n := 4) (D := ⟨_, _, fun _ _ => True, fun _ _ => True⟩) (fun k σ H' => Kp d c H5 H' ∧ (∃ m, Dk H' d c m ∧ m5 ≤ m ∧ m ≤ m5 + 60 * k) ∧ ∃ z5 z6 z7 z8 z9 z10, σ = [some (.ref a), some (.ref d), some (.int (0 + (i : Nat))), some (.ref l), some (.ref pp), z5, z6, z7, z8, z9, z10])
      ⟨fun _ _ _ _ e => e, ⟨m5, dk5, by omega, by simp⟩, _, _, _, _, _, _, rfl⟩ ?_ ?_
    · rintro k σ H6 hk ⟨kp6, ⟨m6, dk6, m60, m61⟩, z5, z6, z7, z8, z9, z10, rfl⟩
      have el6 := kp6.keep offl el5
      have t6 := kp6.tps dk5
      have epp6 := t6 _ _ epp
      have iv6 := iv.tps t6
      -- target, mixed
      refine ⟨.ref d, rfl, .ref l, rfl, d, c, l, _, ls, rfl, dk6, by omega, by omega, offl, el6, by omega, by omega, fun H7 lo hi2 t kp7 dk7 mlo mhi lh nt et => ?_⟩
      have blo := ln.ok lo mlo
      have bhi := ln.ok hi2 mhi
      have t7 := kp7.tps dk6
      refine ⟨.ref d, rfl, .ref pp, rfl, d, c, pp, _, us, ps, rfl, dk7, by omega, by omega, t7 _ _ epp6, iv6.tps t7, pc, by omega, fun H8 pm wm qm m8 kp8 dk8 m80 m81 em ivm pcm lm => ?_⟩
      have t8 := kp8.tps dk7
      have et8 := t8 _ _ et
      have epp8 := t8 _ _ (t7 _ _ epp6)
      have iv8 := (iv6.tps t7).tps t8
      have lwm := ivm.length
      -- the seven
      refine ⟨.ref pp, rfl, .ref pp, rfl, 2, rfl, slA_any epp8 (fun G1 p1 a1 b1 => ?_)⟩
      rw [show cutV us none (some 2) = us.take 2 from cutTo us 2] at b1
      refine ⟨.ref pp, rfl, .ref t, rfl, by show 1 ≤ sizeLine; decide, fun t2 nt2 => ?_⟩
      have a2 := same_new (o := .tup [.ref t]) nt2
      have b2 := upd_same (H := G1) (a := t2) (o := .tup [.ref t])
      generalize upd G1 t2 (.tup [.ref t]) = G2 at *
      have a12 := a1.trans a2
      refine catA_any (a12 _ _ epp8) b2 (by rw [show sizeLine = 16777216 by decide, lus]; show ps.length + 1 ≤ _; omega) (fun G3 p3 a3 b3 => ?_)
      have a13 := a12.trans a3
      refine ⟨by show 0 ≤ sizeLine; decide, fun t4 nt4 => ?_⟩
      have a4 := same_new (o := .tup []) nt4
      have b4 := upd_same (H := G3) (a := t4) (o := .tup [])
      generalize upd G3 t4 (.tup []) = G4 at *
      have a14 := a13.trans a4
      refine ⟨.ref pp, rfl, pp, us, rfl, SqT.of (a14 _ _ epp8), fun p5 np5 => ?_⟩
      have a5 := same_new (o := .tup us.reverse) np5
      have b5 := upd_same (H := G4) (a := p5) (o := .tup us.reverse)
      generalize upd G4 p5 (.tup us.reverse) = G5 at *
      have a15 := a14.trans a5
      refine ⟨.ref pm, rfl, .ref pm, rfl, rep_any (a15 _ _ em) (by omega) (fun G6 p6 a6 b6 => ⟨60, rfl, slA_any b6 (fun G7 p7 a7 b7 => ?_)⟩)⟩
      rw [show cutV (List.replicate 12 wm).flatten none (some 60) = (List.replicate 12 wm).flatten.take 60 from cutTo _ 60] at b7
      have a17 := a15.trans (a6.trans a7)
      refine ⟨by show 7 ≤ sizeLine; decide, fun lg nlg => ?_⟩
      have a8 := same_new (o := .lst [.ref pp, .ref p1, .ref p3, .ref t4, .ref p5, .ref pm, .ref p7]) nlg
      have b8 := upd_same (H := G7) (a := lg) (o := .lst [.ref pp, .ref p1, .ref p3, .ref t4, .ref p5, .ref pm, .ref p7])
      generalize upd G7 lg (.lst [.ref pp, .ref p1, .ref p3, .ref t4, .ref p5, .ref pm, .ref p7]) = G8 at *
      have a18 := a17.trans a8
      have iv18 := iv8.same a18
      have et18 := a18 _ _ et8
      have ivm18 := ivm.same a18
      have a58 := a6.trans (a7.trans a8)
      have a48 := a5.trans a58
      have a38 := a4.trans a48
      have all : ∀ v ∈ [V.ref pp, .ref p1, .ref p3, .ref t4, .ref p5, .ref pm, .ref p7], Tp 60 G8 v := fun v hv => by
        rcases List.mem_cons.mp hv with rfl | hv
        · exact ⟨pp, us, ps, rfl, a18 _ _ epp8, iv18, pc, by omega⟩
        rcases List.mem_cons.mp hv with rfl | hv
        · exact ⟨p1, _, ps.take 2, rfl, (a2.trans (a3.trans a38)) _ _ b1, iv18.take 2, pc.take 2, by have := List.length_take_le 2 ps; omega⟩
        rcases List.mem_cons.mp hv with rfl | hv
        · refine ⟨p3, _, ps ++ [(lo, hi2)], rfl, a38 _ _ b3, iv18.snoc et18, fun q hq => ?_, by rw [List.length_append]; show ps.length + 1 ≤ 60; omega⟩
          rcases List.mem_append.mp hq with hq | hq
          · exact pc q hq
          · rw [List.mem_singleton.mp hq]
            show (0 ≤ lo ∧ lo ≤ hi2) ∧ hi2 < _
            omega
        rcases List.mem_cons.mp hv with rfl | hv
        · exact ⟨t4, [], [], rfl, a48 _ _ b4, .nil, (fun q hq => nomatch hq), Nat.zero_le _⟩
        rcases List.mem_cons.mp hv with rfl | hv
        · exact ⟨p5, _, ps.reverse, rfl, a58 _ _ b5, iv18.reverse, (fun q hq => pc q (List.mem_reverse.mp hq)), by rw [List.length_reverse]; omega⟩
        rcases List.mem_cons.mp hv with rfl | hv
        · exact ⟨pm, wm, qm, rfl, a18 _ _ em, ivm18, pcm, by omega⟩
        rw [List.mem_singleton.mp hv]
        exact ⟨p7, _, (List.replicate 12 qm).flatten.take 60, rfl, a8 _ _ b7, (ivm18.rep 12).take 60, (pcm.rep 12).take 60, List.length_take_le _ _⟩
      have kp18 : Kp d c H5 G8 := kp6.trans (kp7.trans (kp8.trans (Kp.same a18)))
      have dk18 := dk8.kept a18
      generalize [V.ref pp, .ref p1, .ref p3, .ref t4, .ref p5, .ref pm, .ref p7] = gs at *
      refine ⟨lg, rfl, ⟨_, SqL.of b8⟩, ?_⟩
      refine for_list (K := K) (a := lg) (xs := gs) (D := ⟨_, _, fun _ _ => True, fun _ _ => True⟩) (fun j σ H' => Same G8 H' ∧ ∃ z5 z7 z8 z9 z10, σ = [some (.ref a), some (.ref d), some (.int (0 + (i : Nat))), some (.ref l), some (.ref pp), z5, some (.ref t), z7, z8, z9, z10])
        ⟨Same.refl _, _, _, _, _, _, rfl⟩ (fun j σ H' _ h => SqL.of (h.1 _ _ b8)) ?_ ?_
      · rintro j v σ Ha hj ⟨sa, z5, z7, z8, z9, z10, rfl⟩
        obtain ⟨va, vus, vps, rfl, eva, viv, vpc, vl⟩ := (all v (List.mem_of_getElem? hj)).tps (Tps.same sa)
        have eta := sa _ _ et18
        obtain ⟨dd, dpl, smd⟩ : ∃ dd : PyData, (∀ (H' : Hp) (l : Addr), Same Ha H' → H' l = some (.lst [.ref va, .ref t]) → Dp K H' (.ref l) dd) ∧ Sm (2 * (60 * 203 + 1)) 3 dd :=
          ⟨.list [.tuple (vps.map pairD), .tuple [.int lo, .int hi2]], fun H' l s e => .lst (SqL.of e) (.cons (.tup (SqT.of (s _ _ eva)) (viv.same s).dp) (.cons (dp2 (s _ _ eta)) .nil)), sm_pair2 (sm_tps vpc vl) ((sm2 (by omega) (by omega)).mono (by decide) (by decide))⟩
        refine ⟨.ref va, rfl, .ref t, rfl, by show 2 ≤ sizeLine; decide, fun l1 nl1 => ?_⟩
        have sb := same_new (o := .lst [.ref va, .ref t]) nl1
        refine ⟨.ref l1, dd, _, _, rfl, dpl _ _ sb upd_same, smd, by decide, by decide, ?_⟩
        generalize upd Ha l1 (.lst [.ref va, .ref t]) = Hb at *
        refine ⟨.ref va, rfl, .ref t, rfl, va, t, vus, vps, lo, hi2, rfl, sb _ _ eva, viv.same sb, by omega, sb _ _ eta, by omega, by omega, fun Hc sc => ?_⟩
        have sbc := sb.trans sc
        obtain ⟨o, eo⟩ : ∃ o, o = gapO vps (lo, hi2) := ⟨_, rfl⟩
        have so := gapO_is vps lo hi2
        have smo : ∀ b, Sm 202 1 (.list [gd o, .bool b]) := sm_gd fun g e => by
          have z := gap_bd so (eo.symm.trans e)
          omega
        rw [← eo]
        -- repr([first_gap, generates])
        refine ⟨.ref va, rfl, .ref t, rfl, va, t, vus, vps, lo, hi2, rfl, sbc _ _ eva, viv.same sbc, vpc, by omega, sbc _ _ eta, lh, fun Hd sd => ?_⟩
        rw [← eo]
        have sbd := sbc.trans sd
        refine ⟨.ref va, rfl, .ref t, rfl, va, t, vus, vps, lo, hi2, rfl, sbd _ _ eva, viv.same sbd, vpc, by omega, sbd _ _ eta, lh, fun He se => ?_⟩
        rw [← eo]
        refine ⟨by show 2 ≤ sizeLine; decide, fun l2 nl2 => ?_⟩
        have sf := same_new (o := .lst [gv o, .bl o.isNone]) nl2
        have ef := upd_same (H := He) (a := l2) (o := .lst [gv o, .bl o.isNone])
        generalize upd He l2 (.lst [gv o, .bl o.isNone]) = Hf at *
        obtain ⟨dg, edg⟩ : ∃ dg, dg = PyData.list [gd o, .bool o.isNone] := ⟨_, rfl⟩
        have smg : Sm 202 1 dg := by
          rw [edg]
          exact smo _
        have dpg : ∀ (H' : Hp) (l : Addr), H' l = some (.lst [gv o, .bl o.isNone]) → Dp K H' (.ref l) dg := fun H' l e => by
          rw [edg]
          exact .lst (SqL.of e) (.cons (gv_dp o) (.cons (.bl _) .nil))
        refine ⟨.ref l2, dg, _, _, rfl, dpg _ _ ef, smg, by decide, by decide, ?_⟩
        refine ⟨_, rfl, _, rfl, rfl, ?_⟩
        rw [gv_non]
        refine ⟨by show 2 ≤ sizeLine; decide, fun l3 nl3 => ?_⟩
        have sg := same_new (o := .lst [gv o, .bl o.isNone]) nl3
        have eg := upd_same (H := Hf) (a := l3) (o := .lst [gv o, .bl o.isNone])
        generalize upd Hf l3 (.lst [gv o, .bl o.isNone]) = Hg at *
        refine ⟨.ref l3, dg, _, _, rfl, dpg _ _ eg, smg, by decide, by decide, rfl, _, rfl, ?_⟩
        refine iteNS rfl ?_
        have sbg := sbd.trans (se.trans (sf.trans sg))
        refine ⟨.ref va, rfl, .ref t, rfl, by show 2 ≤ sizeLine; decide, fun l4 nl4 => ?_⟩
        have sh := same_new (o := .lst [.ref va, .ref t]) nl4
        refine ⟨.ref l4, dd, _, _, rfl, dpl _ _ (sbg.trans sh) upd_same, smd, by decide, by decide, _, rfl, rfl, _, rfl, ?_⟩
        refine iteNS rfl ?_
        exact ⟨sa.trans (sbg.trans sh), _, _, _, _, _, rfl⟩
      · rintro σ Ha ⟨sa, z5, z7, z8, z9, z10, rfl⟩
        exact ⟨kp18.trans (Kp.same sa), ⟨_, dk18.kept sa, by omega, by omega⟩, _, _, _, _, _, _, rfl⟩
    · rintro σ H6 ⟨kp6, ⟨m6, dk6, m60, m61⟩, z5, z6, z7, z8, z9, z10, rfl⟩
      exact ⟨⟨m6, dk6, by omega, by omega⟩, _, _, _, _, _, _, _, _, _, rfl⟩

end
theorem all_mk {l : PySem.W.OpenLaw} {w : World} {K : PySem.W.Frag} {h : Heap} {mg : Str → Option Value} {fa f1 f2 f3 f4 f5 f6 f7 f8 f9 f10 f11 f12 f13 : Addr} (X : K.In h) (G : h.Ns mainGlobals mg) (hfa : mg "law" = some (.ref fa))
    {od1 an1 od2 an2 od3 an3 od4 an4 od5 an5 od6 an6 od7 an7 od8 an8 od9 an9 od10 an10 od11 an11 od12 an12 od13 an13 : Option Addr} {sl1 sl2 sl3 sl4 sl5 sl6 sl7 sl8 sl9 sl10 sl11 sl12 sl13 : Array (Option Value)} {oc1 kV1 dc1 pm1 cd1 ct1 oc2 kV2 dc2 pm2 cd2 ct2 oc3 kV3 dc3 pm3 cd3 ct3 oc4 kV4 dc4 pm4 cd4 ct4 oc5 kV5 dc5 pm5 cd5 ct5 oc6 kV6 dc6 pm6 cd6 ct6 oc7 kV7 dc7 pm7 cd7 ct7 oc8 kV8 dc8 pm8 cd8 ct8 oc9 kV9 dc9 pm9 cd9 ct9 oc10 kV10 dc10 pm10 cd10 ct10 oc11 kV11 dc11 pm11 cd11 ct11 oc12 kV12 dc12 pm12 cd12 ct12 oc13 kV13 dc13 pm13 cd13 ct13 : Value}
    (a1 : PySem.W.nsIn K mainGlobals "contains" = some (some (.ref f1))) (l1 : K.lookup f1 = some ⟨oc1, od1, .func (PySem.W.fnOf "contains" "contains" (defArgs s_contains) (defBody s_contains) (defScope s_contains) .none kV1 dc1 pm1 an1 cd1 ct1), sl1⟩) (c1 : PySem.W.codeIn K cd1 "contains" = true) (k1 : PySem.W.keepIn K (.ref f1) = true)
    (a2 : PySem.W.nsIn K mainGlobals "pieces_inside" = some (some (.ref f2))) (l2 : K.lookup f2 = some ⟨oc2, od2, .func (PySem.W.fnOf "pieces_inside" "pieces_inside" (defArgs s_pieces_inside) (defBody s_pieces_inside) (defScope s_pieces_inside) .none kV2 dc2 pm2 an2 cd2 ct2), sl2⟩) (c2 : PySem.W.codeIn K cd2 "pieces_inside" = true) (k2 : PySem.W.keepIn K (.ref f2) = true)
    (a3 : PySem.W.nsIn K mainGlobals "first_gap" = some (some (.ref f3))) (l3 : K.lookup f3 = some ⟨oc3, od3, .func (PySem.W.fnOf "first_gap" "first_gap" (defArgs s_first_gap) (defBody s_first_gap) (defScope s_first_gap) .none kV3 dc3 pm3 an3 cd3 ct3), sl3⟩) (c3 : PySem.W.codeIn K cd3 "first_gap" = true) (k3 : PySem.W.keepIn K (.ref f3) = true)
    (a4 : PySem.W.nsIn K mainGlobals "generates" = some (some (.ref f4))) (l4 : K.lookup f4 = some ⟨oc4, od4, .func (PySem.W.fnOf "generates" "generates" (defArgs s_generates) (defBody s_generates) (defScope s_generates) .none kV4 dc4 pm4 an4 cd4 ct4), sl4⟩) (c4 : PySem.W.codeIn K cd4 "generates" = true) (k4 : PySem.W.keepIn K (.ref f4) = true)
    (a5 : PySem.W.nsIn K mainGlobals "_law_deck" = some (some (.ref f5))) (l5 : K.lookup f5 = some ⟨oc5, od5, .func (PySem.W.fnOf "_law_deck" "_law_deck" (defArgs s_law_deck) (defBody s_law_deck) (defScope s_law_deck) .none kV5 dc5 pm5 an5 cd5 ct5), sl5⟩) (c5 : PySem.W.codeIn K cd5 "_law_deck" = true) (k5 : PySem.W.keepIn K (.ref f5) = true)
    (a6 : PySem.W.nsIn K mainGlobals "_law_draw" = some (some (.ref f6))) (l6 : K.lookup f6 = some ⟨oc6, od6, .func (PySem.W.fnOf "_law_draw" "_law_draw" (defArgs s_law_draw) (defBody s_law_draw) (defScope s_law_draw) .none kV6 dc6 pm6 an6 cd6 ct6), sl6⟩) (c6 : PySem.W.codeIn K cd6 "_law_draw" = true) (k6 : PySem.W.keepIn K (.ref f6) = true)
    (a7 : PySem.W.nsIn K mainGlobals "_law_line" = some (some (.ref f7))) (l7 : K.lookup f7 = some ⟨oc7, od7, .func (PySem.W.fnOf "_law_line" "_law_line" (defArgs s_law_line) (defBody s_law_line) (defScope s_law_line) .none kV7 dc7 pm7 an7 cd7 ct7), sl7⟩) (c7 : PySem.W.codeIn K cd7 "_law_line" = true) (k7 : PySem.W.keepIn K (.ref f7) = true)
    (a8 : PySem.W.nsIn K mainGlobals "_law_interval" = some (some (.ref f8))) (l8 : K.lookup f8 = some ⟨oc8, od8, .func (PySem.W.fnOf "_law_interval" "_law_interval" (defArgs s_law_interval) (defBody s_law_interval) (defScope s_law_interval) .none kV8 dc8 pm8 an8 cd8 ct8), sl8⟩) (c8 : PySem.W.codeIn K cd8 "_law_interval" = true) (k8 : PySem.W.keepIn K (.ref f8) = true)
    (a9 : PySem.W.nsIn K mainGlobals "_law_intervals" = some (some (.ref f9))) (l9 : K.lookup f9 = some ⟨oc9, od9, .func (PySem.W.fnOf "_law_intervals" "_law_intervals" (defArgs s_law_intervals) (defBody s_law_intervals) (defScope s_law_intervals) .none kV9 dc9 pm9 an9 cd9 ct9), sl9⟩) (c9 : PySem.W.codeIn K cd9 "_law_intervals" = true) (k9 : PySem.W.keepIn K (.ref f9) = true)
    (a10 : PySem.W.nsIn K mainGlobals "_law_gap" = some (some (.ref f10))) (l10 : K.lookup f10 = some ⟨oc10, od10, .func (PySem.W.fnOf "_law_gap" "_law_gap" (defArgs s_law_gap) (defBody s_law_gap) (defScope s_law_gap) .none kV10 dc10 pm10 an10 cd10 ct10), sl10⟩) (c10 : PySem.W.codeIn K cd10 "_law_gap" = true) (k10 : PySem.W.keepIn K (.ref f10) = true)
    (a11 : PySem.W.nsIn K mainGlobals "_law_shuffled" = some (some (.ref f11))) (l11 : K.lookup f11 = some ⟨oc11, od11, .func (PySem.W.fnOf "_law_shuffled" "_law_shuffled" (defArgs s_law_shuffled) (defBody s_law_shuffled) (defScope s_law_shuffled) .none kV11 dc11 pm11 an11 cd11 ct11), sl11⟩) (c11 : PySem.W.codeIn K cd11 "_law_shuffled" = true) (k11 : PySem.W.keepIn K (.ref f11) = true)
    (a12 : PySem.W.nsIn K mainGlobals "_law_due" = some (some (.ref f12))) (l12 : K.lookup f12 = some ⟨oc12, od12, .func (PySem.W.fnOf "_law_due" "_law_due" (defArgs s_law_due) (defBody s_law_due) (defScope s_law_due) .none kV12 dc12 pm12 an12 cd12 ct12), sl12⟩) (c12 : PySem.W.codeIn K cd12 "_law_due" = true) (k12 : PySem.W.keepIn K (.ref f12) = true)
    (a13 : PySem.W.nsIn K mainGlobals "law" = some (some (.ref f13))) (l13 : K.lookup f13 = some ⟨oc13, od13, .func (PySem.W.fnOf "law" "law" (defArgs s_law) (defBody s_law) (defScope s_law) .none kV13 dc13 pm13 an13 cd13 ct13), sl13⟩) (c13 : PySem.W.codeIn K cd13 "law" = true) (k13 : PySem.W.keepIn K (.ref f13) = true)
    (z0 : PySem.W.nsIn K mainGlobals "abs" = some none) (z1 : PySem.W.nsIn K mainGlobals "len" = some none) (z2 : PySem.W.nsIn K mainGlobals "list" = some none) (z3 : PySem.W.nsIn K mainGlobals "max" = some none) (z4 : PySem.W.nsIn K mainGlobals "min" = some none) (z5 : PySem.W.nsIn K mainGlobals "range" = some none) (z6 : PySem.W.nsIn K mainGlobals "repr" = some none) (z7 : PySem.W.nsIn K mainGlobals "set" = some none) (z8 : PySem.W.nsIn K mainGlobals "sorted" = some none) (z9 : PySem.W.nsIn K mainGlobals "tuple" = some none) :
    ∃ fd : FuncData, (∀ (s : Shared) (v : Value), BindsTo s fd ⟨[v], []⟩ [("_law_script", v)]) ∧ ∀ base : Heap, K.In base → base.Ns mainGlobals mg → (∃ mm, base.Ns sysModules mm) → FnG l.prog w K mg base 5 fa fd ["_law_script"] (sp_law K) := by
  have e := hfa.symm.trans (PySem.W.mg_of X G a13)
  cases e
  have F1 := fun_mk (st := s_contains) l1 c1 k1
  have b1 := F1.binds (ps := ["outer", "inner"]) fun _ _ _ _ _ _ us hl => match us, hl with | [_, _], _ => rfl
  have F2 := fun_mk (st := s_pieces_inside) l2 c2 k2
  have b2 := F2.binds (ps := ["pieces", "target"]) fun _ _ _ _ _ _ us hl => match us, hl with | [_, _], _ => rfl
  have F3 := fun_mk (st := s_first_gap) l3 c3 k3
  have b3 := F3.binds (ps := ["pieces", "target"]) fun _ _ _ _ _ _ us hl => match us, hl with | [_, _], _ => rfl
  have F4 := fun_mk (st := s_generates) l4 c4 k4
  have b4 := F4.binds (ps := ["pieces", "target"]) fun _ _ _ _ _ _ us hl => match us, hl with | [_, _], _ => rfl
  have F5 := fun_mk (st := s_law_deck) l5 c5 k5
  have b5 := F5.binds (ps := ["_law_script"]) fun _ _ _ _ _ _ us hl => match us, hl with | [_], _ => rfl
  have F6 := fun_mk (st := s_law_draw) l6 c6 k6
  have b6 := F6.binds (ps := ["_law_deck_here", "_law_bound"]) fun _ _ _ _ _ _ us hl => match us, hl with | [_, _], _ => rfl
  have F7 := fun_mk (st := s_law_line) l7 c7 k7
  have b7 := F7.binds (ps := ["_law_deck_here", "_law_count"]) fun _ _ _ _ _ _ us hl => match us, hl with | [_, _], _ => rfl
  have F8 := fun_mk (st := s_law_interval) l8 c8 k8
  have b8 := F8.binds (ps := ["_law_deck_here", "_law_line_here"]) fun _ _ _ _ _ _ us hl => match us, hl with | [_, _], _ => rfl
  have F9 := fun_mk (st := s_law_intervals) l9 c9 k9
  have b9 := F9.binds (ps := ["_law_deck_here", "_law_line_here", "_law_most"]) fun _ _ _ _ _ _ us hl => match us, hl with | [_, _, _], _ => rfl
  have F10 := fun_mk (st := s_law_gap) l10 c10 k10
  have b10 := F10.binds (ps := ["_law_pieces", "_law_target"]) fun _ _ _ _ _ _ us hl => match us, hl with | [_, _], _ => rfl
  have F11 := fun_mk (st := s_law_shuffled) l11 c11 k11
  have b11 := F11.binds (ps := ["_law_deck_here", "_law_pieces"]) fun _ _ _ _ _ _ us hl => match us, hl with | [_, _], _ => rfl
  have F12 := fun_mk (st := s_law_due) l12 c12 k12
  have b12 := F12.binds (ps := ["_law_pieces", "_law_target"]) fun _ _ _ _ _ _ us hl => match us, hl with | [_, _], _ => rfl
  have F13 := fun_mk (st := s_law) l13 c13 k13
  have b13 := F13.binds (ps := ["_law_script"]) fun _ _ _ _ _ _ us hl => match us, hl with | [_], _ => rfl
  have T : Tx K mg _ _ _ _ _ _ _ _ _ _ _ _ _ _ _ _ _ _ _ _ _ _ _ _ _ _ := ⟨F1, b1, PySem.W.mg_of X G a1, F2, b2, PySem.W.mg_of X G a2, F3, b3, PySem.W.mg_of X G a3, F4, b4, PySem.W.mg_of X G a4, F5, b5, PySem.W.mg_of X G a5, F6, b6, PySem.W.mg_of X G a6, F7, b7, PySem.W.mg_of X G a7, F8, b8, PySem.W.mg_of X G a8, F9, b9, PySem.W.mg_of X G a9, F10, b10, PySem.W.mg_of X G a10, F11, b11, PySem.W.mg_of X G a11, F12, b12, PySem.W.mg_of X G a12, F13, b13, PySem.W.mg_of X G a13, PySem.W.mg_none_of X G z0, PySem.W.mg_none_of X G z1, PySem.W.mg_none_of X G z2, PySem.W.mg_none_of X G z3, PySem.W.mg_none_of X G z4, PySem.W.mg_none_of X G z5, PySem.W.mg_none_of X G z6, PySem.W.mg_none_of X G z7, PySem.W.mg_none_of X G z8, PySem.W.mg_none_of X G z9⟩
  exact ⟨_, fun s v => .of_eq rfl, fun base _ _ hM => ok_law T⟩
end L9
open PySem PySem.W PyProof.Rows
set_option maxHeartbeats 0 in
theorem PySem.Challenge.cw_fewspans_k13_gaps_of_targets_holds : PySem.Challenge.rw_fewspans_k13_gaps_of_targets.Holds := by
  w_on; o_law; k_head; (case hw => w_witness2)
  k_fill
  refine L9.quiet_walk (l := PySem.Challenge.rw_fewspans_k13_gaps_of_targets) (n := 63) (k := 5) (x := "_law_script") (sp := fun w => L9.sp_law _) (by decide +kernel) rfl (by decide) rfl ⟨rfl, by decide, by decide⟩ (fun w h Y => PySem.W.kIn_of Y) ?F (fun _ _ a ns hl _ hS => ⟨a, ns, rfl, hS, hl, fun _ => rfl⟩)
  case F =>
    intro w mg fa h KX G hmg
    refine' L9.all_mk KX G hmg ?a1 ?l1 ?c1 ?k1 ?a2 ?l2 ?c2 ?k2 ?a3 ?l3 ?c3 ?k3 ?a4 ?l4 ?c4 ?k4 ?a5 ?l5 ?c5 ?k5 ?a6 ?l6 ?c6 ?k6 ?a7 ?l7 ?c7 ?k7 ?a8 ?l8 ?c8 ?k8 ?a9 ?l9 ?c9 ?k9 ?a10 ?l10 ?c10 ?k10 ?a11 ?l11 ?c11 ?k11 ?a12 ?l12 ?c12 ?k12 ?a13 ?l13 ?c13 ?k13 ?z0 ?z1 ?z2 ?z3 ?z4 ?z5 ?z6 ?z7 ?z8 ?z9
    (case a1 => k_is)
    (case l1 => k_is)
    (case c1 => k_is)
    (case k1 => k_is)
    (case a2 => k_is)
    (case l2 => k_is)
    (case c2 => k_is)
    (case k2 => k_is)
    (case a3 => k_is)
    (case l3 => k_is)
    (case c3 => k_is)
    (case k3 => k_is)
    (case a4 => k_is)
    (case l4 => k_is)
    (case c4 => k_is)
    (case k4 => k_is)
    (case a5 => k_is)
    (case l5 => k_is)
    (case c5 => k_is)
    (case k5 => k_is)
    (case a6 => k_is)
    (case l6 => k_is)
    (case c6 => k_is)
    (case k6 => k_is)
    (case a7 => k_is)
    (case l7 => k_is)
    (case c7 => k_is)
    (case k7 => k_is)
    (case a8 => k_is)
    (case l8 => k_is)
    (case c8 => k_is)
    (case k8 => k_is)
    (case a9 => k_is)
    (case l9 => k_is)
    (case c9 => k_is)
    (case k9 => k_is)
    (case a10 => k_is)
    (case l10 => k_is)
    (case c10 => k_is)
    (case k10 => k_is)
    (case a11 => k_is)
    (case l11 => k_is)
    (case c11 => k_is)
    (case k11 => k_is)
    (case a12 => k_is)
    (case l12 => k_is)
    (case c12 => k_is)
    (case k12 => k_is)
    (case a13 => k_is)
    (case l13 => k_is)
    (case c13 => k_is)
    (case k13 => k_is)
    (case z0 => k_is)
    (case z1 => k_is)
    (case z2 => k_is)
    (case z3 => k_is)
    (case z4 => k_is)
    (case z5 => k_is)
    (case z6 => k_is)
    (case z7 => k_is)
    (case z8 => k_is)
    (case z9 => k_is)
